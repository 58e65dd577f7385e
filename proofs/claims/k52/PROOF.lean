import PyProof.Rows.All
import Wide.All
import OpenK.AllK
import Wide.FinOn
import Lean
import PyProof.EqAt
import PyProof.EqKinds
import PyProof.TupleCall
import PyProof.NeKinds
import PyProof.Draws
import PyProof.ZipIter
import PyProof.DictUpdate
import PyProof.AutoSeq1
import PyProof.ListRange
import PyProof.ListMulRoad
import PyProof.FactsAll.tuple_2
import PyProof.Rows.SortShell
import PyProof.EnumFor
import PyProof.EnumMake
import PyProof.EnumStmt
import PyProof.Rows.SortWalk
import KE.KDictList
import PyProof.SumAny
import PyProof.ConsumeWalk
import PyProof.WalksMore
import PyProof.Rows.TupAssign
import PyProof.ExcArgsOwn
import PySem.Challenge.RW_kindleweb_k52_whole_woods_and_small_webs
set_option Elab.async false
set_option linter.all false
set_option maxRecDepth 100000
set_option maxHeartbeats 4000000
section
open PySem PySem.Spec PyProof.Rows
def dh:=@List.mem_cons_self
def bq:=@wpAny_bind
def cz:=@List.mem_filter
def dt:=@List.mem_singleton
def df:=@List.length_map
def gs:=@List.getElem?_eq_getElem
def gv:=@List.getElem?_eq_some_iff
def fm:=@List.mem_of_getElem?
def fu:=@List.mem_cons_of_mem
def di:=@decide_eq_true
def ic:=@Heap.get?_push_of_some
def fi:=@List.mem_append
def gg:=@List.size_toArray
def gf:=@List.getElem?_map
def de:=@Nat.le_refl
def ju:=@List.getD_eq_getElem?_getD
def dr:=@List.mem_map
def fk:=@decide_eq_false
def ff:=@List.mem_cons
def jg:=@List.length_append
def ie:=@List.length_cons
def gu:=@List.map_append
def ei:=@wpAny_pure
def ib:=@List.map_cons
def jr:=@Option.some.inj
def ot:=@List.pairwise_singleton
def jb:=@Heap.lt_size
def ly:=@Nat.lt_of_lt_of_le
def my:=@Heap.get?_push_size
def tf:=@List.getElem?_append_left
def lx:=@decide_eq_true_eq
def ud:=@Classical.byContradiction
def qu:=@List.take_of_length_le
def mw:=@of_decide_eq_true
def pb:=@List.mem_append_left
def nq:=@List.take_add_one
def qt:=@List.mem_append_right
def om:=@Bool.false_ne_true
def ka:=@List.sum_cons
def mv:=@Bool.and_eq_true
def nh:=@List.not_mem_nil
def oz:=@Bool.false_eq_true
def uy:=@List.length_singleton
def qh:=@Int.toNat_natCast
def kq:=@List.map_map
def qg:=@List.filter_cons
def oy:=@List.nodup_cons
def qr:=@List.take_length
def zg:=@decide_eq_false_iff_not
def mr:=@Nat.ne_of_lt
def xo:=@List.getElem?_set_ne
def uw:=@List.pairwise_map
def yg:=@List.length_filter_le
def wt:=@List.pairwise_cons
def xk:=@List.filter_eq_self
def og:=@Nat.le_trans
def AS:=@List.getElem?_append_right
def wq:=@List.Pairwise.nil
def ng:=@Nat.zero_le
def xj:=@List.nodup_append
def zf:=@List.map_congr_left
def vb:=@List.append_nil
def va:=@List.length_set
def xi:=@List.length_take
def Ag:=@List.replicate_succ
def uc:=@Nat.lt_irrefl
def yz:=@Bool.not_eq_true'
def AR:=@List.mem_iff_getElem?
def xf:=@Bool.eq_iff_iff
def Am:=@PySem.mem_of_lookup
def Cm:=@PyProof.Rows.callWith_type1
def Af:=@wpAny_newObj_type
def uv:=@Nat.le_of_lt
def BI:=@List.getElem?_cons_succ
def Ae:=@List.lookup_cons
def Ad:=@Nat.le_add_right
def BH:=@List.getElem?_set_self
def me:=@if_false
def qp:=@wpAny_mono
def Ck:=@List.length_erase_of_mem
def Bf:=@List.filter_sublist
def mz:=@or_false
def Cj:=@PySem.F.plainAttrs_list
def Dv:=@List.perm_ext_iff_of_nodup
def Ci:=@List.filter_cons_of_neg
def AQ:=@List.filter_congr
def AO:=@List.all_eq_true
def wo:=@Int.le_refl
def Cg:=@List.length_replicate
def yf:=@Int.ne_of_lt
def Du:=@wpAny_callSpecial?_slot
def Dt:=@List.filter_cons_of_pos
def BG:=@of_decide_eq_false
def AN:=@List.find?_cons
def yy:=@Nat.ne_of_gt
def Be:=@wpAny_call_entry
def Bd:=@beq_self_eq_true
def ye:=@wpAny_field
def BF:=@List.flatten_cons
def Fg:=@List.eq_nil_of_length_eq_zero
def Al:=@wpAny_holding
def Ak:=@Bool.and_true
def BE:=@List.length_drop
def BD:=@List.getElem_mem
def Cf:=@wpAny_truthy_bool
def Ce:=@Bool.eq_false_iff
def Bc:=@List.Perm.refl
def DZ:=@List.filter_eq_nil_iff
def DY:=@List.length_pos_of_mem
def Dr:=@Array.length_toList
def Dq:=@List.length_reverse
def FO:=@PyProof.Rows.slot_tuple_getitem
def Dp:=@Nat.lt_of_le_of_lt
def Dn:=@List.filter_append
def Ff:=@PySem.F.slot_list_append
def Fe:=@PySem.F.type_list_append
def Fd:=@PyProof.Rows.boot_sorted
def BC:=@List.mem_range
def DX:=@Nat.pow_le_pow_right
def DW:=@List.getElem?_of_mem
def DV:=@List.mem_erase_of_ne
def Fc:=@List.getElem?_replicate
def Dm:=@List.length_range
def Fb:=@List.mem_singleton_self
def FN:=@List.countP_eq_length_filter
def Cd:=@Int.emod_nonneg
def DU:=@List.map_eq_nil_iff
def FL:=@Array.getD_eq_getD_getElem?
def BB:=@List.all_cons
def BA:=@List.any_cons
def Dl:=@Nat.le_of_not_lt
def Dk:=@List.any_eq_true
def DT:=@List.mem_filterMap
def Cc:=@Bool.and_false
def Cb:=@wpAny_seqItems
def DR:=@wpAny_setField_rec
def FJ:=@PySem.F.excBase_ValueError
def EZ:=@List.getElem?_eq_none
def Dj:=@wpAny_passesOwn
def Di:=@PassesOwn.never
def Bz:=@Int.zero_add
def Dh:=@Heap.size_push
end
abbrev av:=PySem.Value
abbrev aw:=PySem.Shared
abbrev ax:=PySem.Addr
abbrev ay:=PySem.Program
abbrev az:=PySem.Around
abbrev ba:=PySem.World
abbrev aa:=List (Int×Int)
abbrev ad:=PySem.W.Frag
abbrev ae:=List (List Int)
abbrev af:=List Int
namespace L2
open PySem PySem.Spec PyProof.Rows
abbrev aC:=Sum Int Str
def oY:aC->av->Bool
 |.inl k,v=>Value.isInt k v
 |.inr x,v=>Value.isStrOf x v
def aB0 (w:ba):aC->Int
 |.inl k=>hashInt k
 |.inr x=>hashStr w x
def kM:∀{k:aC}{v:av},oY k v=true->(∃i t,k=Sum.inl i/\v=Value.int i t)∨(∃x t,k=Sum.inr x/\v=Value.str x t)
 |.inl i,v,h=>by
  obtain⟨t,e⟩:=Value.isInt_shape (k:=i) (v:=v) h
  exact .inl ⟨i,t,rfl,e⟩
 |.inr x,v,h=>by
  obtain⟨t,e⟩:=Value.isStrOf_shape (x:=x) (v:=v) h
  exact .inr ⟨x,t,rfl,e⟩
def aB1 (i:Int)(t:Tok):oY (.inl i) (.int i t)=true:=by simp[oY,Value.isInt]
def aB2 (x:Str)(t:Tok):oY (.inr x) (.str x t)=true:=by simp[oY,Value.isStrOf]
def aB3 (a b:Int):decide ((Sum.inl a:aC)=Sum.inl b)=(a==b):=by
 by_cases e:a=b
 ·subst e;simp
 ·have h:¬(Sum.inl a:aC)=Sum.inl b:=λq=>e (Sum.inl.inj q)
  rw[fk h];exact (beq_eq_false_iff_ne.mpr e).symm
def aB4 (a b:Str):decide ((Sum.inr a:aC)=Sum.inr b)=decide (a=b):=by
 by_cases e:a=b
 ·subst e;simp
 ·have h:¬(Sum.inr a:aC)=Sum.inr b:=λq=>e (Sum.inr.inj q)
  rw[fk h,fk e]
def aB5 (a:Int)(b:Str):decide ((Sum.inl a:aC)=Sum.inr b)=false:=fk (λq=>nomatch q)
def aB6 (a:Str)(b:Int):decide ((Sum.inr a:aC)=Sum.inl b)=false:=fk (λq=>nomatch q)
def g9 (prog:ay)(w:ba):PySem.KeyKind prog w aC where
 is:=oY
 hash:=aB0 w
 inj:=λv a b ha hb=>by
  rcases kM ha with⟨i,t,rfl,rfl⟩|⟨x,t,rfl,rfl⟩
  ·rcases kM hb with⟨j,u,rfl,e⟩|⟨y,u,rfl,e⟩
   ·injection e with e1 _;rw[e1]
   ·exact nomatch e
  ·rcases kM hb with⟨j,u,rfl,e⟩|⟨y,u,rfl,e⟩
   ·exact nomatch e
   ·injection e with e1 _;rw[e1]
 byValue:=λk v h=>by
  rcases kM h with⟨i,t,rfl,rfl⟩|⟨x,t,rfl,rfl⟩<;>rfl
 pyHash:=λhv h=>by
  rcases kM hv with⟨i,t,rfl,rfl⟩|⟨x,t,rfl,rfl⟩
  ·exact wpAny_pyHash_int h
  ·exact wpAny_pyHash_str h
 eqBool:=λhu hv h=>by
  rcases kM hu with⟨i,t,rfl,rfl⟩|⟨x,t,rfl,rfl⟩
  ·rcases kM hv with⟨j,u,rfl,rfl⟩|⟨y,u,rfl,rfl⟩
   ·rw[aB3]at h;exact wpAny_eqBool_int h
   ·rw[aB5]at h;exact SeqAt.EqAt.int_str i t y u _ _ _ _ h
  ·rcases kM hv with⟨j,u,rfl,rfl⟩|⟨y,u,rfl,rfl⟩
   ·rw[aB6]at h;exact SeqAt.EqAt.str_int x t j u _ _ _ _ h
   ·rw[aB4]at h;exact wpAny_eqBool_str h
 «strs»:=λk x t v h=>by
  rcases kM h with⟨i,u,rfl,e⟩|⟨y,u,rfl,e⟩
  ·exact nomatch e
  ·injection e with e1 _
   subst e1;cases v<;>rfl
def aB7 (prog:ay)(w:ba)(i:Int)(t:Tok):(g9 prog w).is (.inl i) (.int i t)=true:=aB1 i t
def aB8 (prog:ay)(w:ba)(x:Str)(t:Tok):(g9 prog w).is (.inr x) (.str x t)=true:=aB2 x t
inductive V where
 |bw|bl (b:Bool)|int (i:Int)|str (x:Str)|Ac (b:Array UInt8)|HJ (b:UInt64)|ref (a:ax)|ty (n:String)
 deriving DecidableEq
def b5:V->av->Prop
 |.bw,u=>u=Value.none
 |.bl b,u=>u=Value.bool b
 |.int i,u=>∃t,u=Value.int i t
 |.str x,u=>∃t,u=Value.str x t
 |.Ac b,u=>∃t,u=Value.bytes b t
 |.HJ b,u=>∃t,u=Value.float b t
 |.ref a,u=>u=Value.ref a
 |.ty n,u=>u=Value.type n
abbrev aQ:List V->List av->Prop:=Paired b5
def aQ.length {xs:List V}{us:List av}(r:aQ xs us):xs.length=us.length:=Paired.length r
def aQ.get:∀{xs:List V}{us:List av}{i:Nat}{x:V},aQ xs us->xs[i]? = some x->∃u,us[i]? = some u/\b5 x u
 |_,_,_,_,.nil,e=>by simp at e
 |_,_,0,_,.cons r _,e=>by simp at e;subst e;exact⟨_,rfl,r⟩
 |_,_,i+1,x,.cons _ t,e=>by
  obtain⟨u,h1,h2⟩:=aQ.get (i:=i) (x:=x) t (by simpa using e)
  exact⟨u,by simpa using h1,h2⟩
def aQ.set {x:V}{u:av}(r:b5 x u):∀{xs:List V}{us:List av} (i:Nat),aQ xs us->aQ (xs.set i x) (us.set i u)
 |_,_,_,.nil=>.nil
 |_,_,0,.cons _ t=>.cons r t
 |_,_,i+1,.cons q t=>.cons q (aQ.set r i t)
def aQ.append:∀{xs ys:List V}{us ws:List av},aQ xs us->aQ ys ws->aQ (xs++ys) (us++ws)
 |_,_,_,_,.nil,s=>s
 |_,_,_,_,.cons r t,s=>.cons r (aQ.append t s)
def aQ.take:∀{xs:List V}{us:List av} (n:Nat),aQ xs us->aQ (xs.take n) (us.take n)
 |_,_,0,_=>.nil
 |_,_,_+1,.nil=>.nil
 |_,_,n+1,.cons r t=>.cons r (aQ.take n t)
def aQ.drop:∀{xs:List V}{us:List av} (n:Nat),aQ xs us->aQ (xs.drop n) (us.drop n)
 |_,_,0,r=>r
 |_,_,_+1,.nil=>.nil
 |_,_,n+1,.cons _ t=>aQ.drop n t
def jF:Option V->Option av->Prop
 |some v,some u=>b5 v u
 |none,none=>True
 |_,_=>False
def KV {κ:Type}:List (κ×V)->List (κ×av)->Prop:=Paired λ(p:κ×V) (q:κ×av)=>p.1=q.1/\b5 p.2 q.2
def kV:aC->V
 |.inl i=>.int i
 |.inr x=>.str x
inductive HO where
 |lst (xs:List V)
 |tup (xs:List V)
 |dK (bf:List (aC×V))|dT (bf:List (List aC×V))
 |set (S:Int->Bool) (n:Nat)
 |ins (C dx:ax) (fs:List (Str×V))
 |own (x:ax)
 |xd (fs:List (Str×V))
 |met (f x:ax)
 |bj (lo hi:Int)
 |et (o:Obj) (u:HO)
 |yk (ps:Array av)
 |ext (φ:Heap->Prop)
abbrev Hp:=ax->Option HO
def upd (H:Hp)(a:ax)(o:HO):Hp:=λb=>if b=a then some o else H b
def bA {H:Hp}{a:ax}{o:HO}:upd H a o a=some o:=by unfold upd;rw[if_pos rfl]
def aK {H:Hp}{a b:ax}{o:HO}(h:b≠a):upd H a o b=H b:=by unfold upd;rw[if_neg h]
def N7 {H:Hp}{a b:ax}{o u:HO}(h:H a=some o)(h':H b=some u)(d:o≠u):a≠b:=by
 intro e;subst e;rw[h]at h';exact d (jr h')
def dR {H:Hp}{a b:ax}{o:HO}(h:H a=some o)(h':H b=none):a≠b:=by
 intro e;subst e;rw[h]at h';cases h'
def jW (h:Heap)(a:ax):Prop:=∀o,h.get? a=some o->o.dict=none
def jW.new (h:Heap)(o:Obj)(d:o.dict=none)(s:o.isFreed=false:=by rfl):jW (h.push o) h.objs.size:=λu e=>by
 rw[my h (o:=o) s]at e;cases e;exact d
def jW.cq {h h':Heap}{a:ax}{o:Obj}(n:jW h a)(e:h.get? a=some o)(e':h'.get? a=some o):jW h' a:=λu hu=>by
 rw[e']at hu;cases hu;exact n _ e
section
variable (P:ay)(w:ba)
def cB (H:Hp)(h:Heap)(a:ax):HO->Prop
 |.lst xs=>xs.length<=sizeLine/\∃(bh:List av) (n:Nat),aQ xs bh/\h.get? a=some { cls:=.type "list",data:=.seq bh.toArray n }
 |.tup xs=>xs.length<=sizeLine/\∃bh:List av,aQ xs bh/\IsTup h a bh.toArray/\jW h a
 |.dK bf=>bf.length<=sizeLine/\(a==sysModules)=false/\∃vs,KV bf vs/\h.DictOf (g9 P w) a vs
 |.dT bf=>bf.length<=sizeLine/\(a==sysModules)=false/\∃xs:List (List aC×ax×av),
   Paired (λ(p:List aC×V) (q:List aC×ax×av)=>p.1=q.1/\H q.2.1=some (.tup (p.1.map kV))/\b5 p.2 q.2.2) bf xs/\
   ∃o es ep,h.get? a=some o/\o.ExactDict/\o.data = .dict es ep/\es.toList=xs.map (entryOfKey (tupleKind (g9 P w)))/\(xs.map (·.1)).Nodup
 |.set S n=>h.SetOf (intKind P w) a S n
 |.ins C dx fs=>H dx=some (.own a)/\fs.length<=1000/\dx≠a/\h.get? a=some (PySem.W.instObj C dx)/\
   ∃mA,h.Ns1 dx mA/\(∀f,jF (fs.lookup f) (mA f))/\PySem.Within mA (fs.map (·.1))
 |.own _=>∃o,h.get? a=some o
 |.xd fs=>∃mA,h.Ns1 a mA/\∀f,jF (fs.lookup f) (mA f)
 |.bj lo hi=>∃t u v,h.get? a=some { cls:=.type "range",data:=.fields #[.int lo t,.int hi u,.int 1 v] }
 |.et o u=>h.get? a=some o/\cB H h a u
 |.yk ps=>h.get? a=some { cls:=.none,data:=.fields ps }
 |.met f x=>h.get? a=some (PySem.W.methodObj (.ref f) (.ref x))
 |.ext φ=>φ h/\(∃o,h.get? a=some o)/\∀h1 h2:Heap,φ h1->(∀o,h1.get? a=some o->h2.get? a=some o)->φ h2
def cJ (H:Hp)(h:Heap):Prop:=∀a o,H a=some o->cB P w H h a o
end
section
variable {P:ay}{w:ba}{H H':Hp}{h h':Heap}{a:ax}{o:HO}
def cB.lt (x:cB P w H h a o):a<h.objs.size:=by
 cases o with
 |lst xs=>obtain⟨_,_,_,_,e⟩:=x;exact jb e
 |tup xs=>obtain⟨_,_,_,p,_⟩:=x;exact p.lt
 |dK bf=>obtain⟨_,_,_,_,o,_,_,e,_⟩:=x;exact jb e
 |dT bf=>obtain⟨_,_,_,_,o,_,_,e,_⟩:=x;exact jb e
 |set S n=>obtain⟨o,_,_,_,e,_⟩:=x;exact jb e
 |ins C dx fs=>obtain⟨_,_,_,e,_⟩:=x;exact jb e
 |own y=>obtain⟨_,e⟩:=x;exact jb e
 |xd fs=>obtain⟨_,⟨_,_,_,e,_⟩,_⟩:=x;exact jb e
 |bj lo hi=>obtain⟨_,_,_,e⟩:=x;exact jb e
 |et ob u=>obtain⟨e,_⟩:=x;exact jb e
 |yk ps=>exact jb (show h.get? a=some _ from x)
 |met f y=>exact jb (show h.get? a=some _ from x)
 |ext φ=>obtain⟨_,⟨_,e⟩,_⟩:=x;exact jb e
def Paired.CA {α β:Type}{F G:α->β->Prop}:∀{l₁:List α}{l₂:List β},Paired F l₁ l₂->(∀a b,F a b->G a b)->Paired G l₁ l₂
 |_,_,.nil,_=>.nil
 |_,_,.cons r t,f=>.cons (f _ _ r) (Paired.CA t f)
def cB.cq (x:cB P w H h a o)(k:∀b u,(b=a∨H b=some (.own a))->h.get? b=some u->h'.get? b=some u)(ho:∀b,H b=some (.own a)->H' b=some (.own a))(ht:∀b xs,H b=some (.tup xs)->H' b=some (.tup xs)):cB P w H' h' a o:=by
 induction o with
 |lst xs=>obtain⟨z,bh,n,r,e⟩:=x;exact⟨z,bh,n,r,k _ _ (.inl rfl) e⟩
 |tup xs=>obtain⟨z,bh,r,⟨ob,e,c⟩,nd⟩:=x;exact⟨z,bh,r,⟨ob,k _ _ (.inl rfl) e,c⟩,nd.cq e (k _ _ (.inl rfl) e)⟩
 |dK bf=>obtain⟨z,y,vs,r,ob,es,ep,e,c⟩:=x;exact⟨z,y,vs,r,ob,es,ep,k _ _ (.inl rfl) e,c⟩
 |dT bf=>
  obtain⟨z,y,xs,r,ob,es,ep,e,c⟩:=x
  exact⟨z,y,xs,Paired.CA r λp q z=>⟨z.1,ht _ _ z.2.1,z.2.2⟩,ob,es,ep,k _ _ (.inl rfl) e,c⟩
 |set S n=>obtain⟨ob,es,ep,t,e,c⟩:=x;exact⟨ob,es,ep,t,k _ _ (.inl rfl) e,c⟩
 |ins C dx fs=>
  obtain⟨d,z,ne,e,mA,⟨od,es,ep,e2,c⟩,r⟩:=x
  exact⟨ho _ d,z,ne,k _ _ (.inl rfl) e,mA,⟨od,es,ep,k _ _ (.inr d) e2,c⟩,r⟩
 |own y=>obtain⟨ob,e⟩:=x;exact⟨ob,k _ _ (.inl rfl) e⟩
 |xd fs=>obtain⟨mA,⟨od,es,ep,e,c⟩,r⟩:=x;exact⟨mA,⟨od,es,ep,k _ _ (.inl rfl) e,c⟩,r⟩
 |bj lo hi=>obtain⟨t,u,v,e⟩:=x;exact⟨t,u,v,k _ _ (.inl rfl) e⟩
 |et ob u ih=>obtain⟨e,q⟩:=x;exact⟨k _ _ (.inl rfl) e,ih q⟩
 |yk ps=>
  have e:h.get? a=some { cls:=.none,data:=.fields ps }:=x;show h'.get? a=some { cls:=.none,data:=.fields ps };exact k a _ (.inl rfl) e
 |met f y=>
  have e:h.get? a=some (PySem.W.methodObj (.ref f) (.ref y)):=x;show h'.get? a=some (PySem.W.methodObj (.ref f) (.ref y));exact k a _ (.inl rfl) e
 |ext φ=>obtain⟨p,⟨o,e⟩,st⟩:=x;exact⟨st _ _ p λo q=>k _ _ (.inl rfl) q,⟨o,k _ _ (.inl rfl) e⟩,st⟩
def cJ.lt (x:cJ P w H h)(e:H a=some o):a<h.objs.size:=(x a o e).lt
def cJ.fresh (x:cJ P w H h)(e:h.objs.size<=a):H a=none:=by
 cases q:H a with
 |none=>rfl
 |some u=>exact absurd (ly (x.lt q) e) (uc _)
def cJ.kept (x:cJ P w H h)(k:∀b u,h.get? b=some u->h'.get? b=some u):cJ P w H h':=λa o e=>
 (x a o e).cq (λb u _ q=>k b u q) (λ_ q=>q) λ_ _ q=>q
def cJ.laid (x:cJ P w H h)(k:∀b u,h.get? b=some u->h'.get? b=some u)(hp:h.objs.size<=a)(new:cB P w (upd H a o) h' a o):cJ P w (upd H a o) h':=λb u e=>by
 have hn:=x.fresh hp;by_cases hb:b=a
 ·subst hb;rw[bA]at e;cases e;exact new
 ·rw[aK hb]at e
  exact (x b u e).cq (λc v _ q=>k c v q) (λc q=>by rw[aK (dR q hn)];exact q) λc xs q=>by rw[aK (dR q hn)];exact q
end
def Rd (H:Hp)(a:ax)(u:HO):Prop:=H a=some u∨∃o,H a=some (.et o u)
def Rd.ok {P:ay}{w:ba}{H:Hp}{h:Heap}{a:ax}{u:HO}(r:Rd H a u)(x:cJ P w H h):cB P w H h a u:=by
 rcases r with r|⟨o,r⟩
 ·exact x a u r
 ·obtain⟨_,q⟩:=x a _ r
  exact q
def r9:Option HO->Prop
 |some (.lst _)=>True
 |some (.dK _)=>True
 |some (.dT _)=>True
 |some (.set _ _)=>True
 |some (.ins _ _ _)=>True
 |some (.ext _)=>True
 |_=>False
section
variable {P:ay}{w:ba}{H:Hp}{h h':Heap}{x e:ax}{o':HO}
def cJ.write (ok:cJ P w H h)(mu:r9 (H x))(he:e=x∨H e=some (.own x))(k:∀b u,b≠e->h.get? b=some u->h'.get? b=some u)(DK:∃u,h'.get? e=some u)(new:cB P w (upd H x o') h' x o'):cJ P w (upd H x o') h':=λb u q=>by
 have Eo:∀c y,H c=some (.own y)->c≠x:=λc y r z=>by subst z;rw[r]at mu;exact mu
 have Gm:∀c xs,H c=some (.tup xs)->c≠x:=λc xs r z=>by subst z;rw[r]at mu;exact mu
 by_cases hb:b=x
 ·subst hb;rw[bA]at q;cases q;exact new
 ·rw[aK hb]at q
  by_cases CQ:b=e
  ·have q':H b=some (.own x):=by
    rcases he with z|z
    ·exact absurd (CQ.trans z) hb
    ·rw[CQ];exact z
   rw[q]at q';cases q'
   obtain⟨v,hv⟩:=DK
   exact⟨v,by rw[CQ];exact hv⟩
  ·refine (ok b u q).cq (λc v hc r=>k c v ?_ r) (λc r=>by rw[aK (Eo c b r)];exact r) λc xs r=>by rw[aK (Gm c xs r)];exact r
   rcases hc with rfl|hc
   ·exact CQ
   ·rintro rfl
    rcases he with z|z
    ·exact Eo c b hc z
    ·rw[hc]at z;cases z;exact hb rfl
end
structure Un (fs ex:List ax)(H H':Hp)(h h':Heap):Prop where
 keep:∀b o,h.get? b=some o->H b=none->b∉fs->b∉ex->h'.get? b=some o
 slot:∀b o,h.get? b=some o->H b=none->b∈fs->b∉ex->∃sl,h'.get? b=some { o with slots:=sl }
 free:∀b o,h.get? b=some o->H b=none->b∉ex->H' b=none
 there:∀b o,h.get? b=some o->b∉ex->∃o',h'.get? b=some o'
 bp:∀b xs,H b=some (.tup xs)->H' b=some (.tup xs)
 kr:∀b o u,H b=some (.et o u)->H' b=some (.et o u)
 ny:∀b ps,H b=some (.yk ps)->∃more,H' b=some (.yk (ps++more))
section
variable {fs fs' ex ex':List ax}{H H1 H2:Hp}{h h1 h2 h':Heap}{a x e:ax}{o:HO}
def Un.any (u:Un fs ex H H1 h h1){b:ax}{ob:Obj}(q:h.get? b=some ob)(n:H b=none)(hx:b∉ex):∃sl,h1.get? b=some { ob with slots:=sl }:=by
 by_cases hb:b∈fs
 ·exact u.slot b ob q n hb hx
 ·exact⟨ob.slots,u.keep b ob q n hb hx⟩
def Un.kept (k:∀b u,h.get? b=some u->h'.get? b=some u):Un fs ex H H h h':=
 ⟨λb ob q _ _ _=>k b ob q,λb ob q _ _ _=>⟨ob.slots,k b ob q⟩,λ_ _ _ n _=>n,λb ob q _=>⟨ob,k b ob q⟩,λ_ _ q=>q,λ_ _ _ q=>q,λ_ ps q=>⟨#[],by rw[q];simp⟩⟩
def Un.refl:Un fs ex H H h h:=Un.kept λ_ _ q=>q
def Un.laid (k:∀b u,h.get? b=some u->h'.get? b=some u)(hp:h.objs.size<=a)(hn:H a=none):Un fs ex H (upd H a o) h h' where
 keep:=λb u q _ _ _=>k b u q
 slot:=λb u q _ _ _=>⟨u.slots,k b u q⟩
 free:=λb u q n _=>by rw[aK (mr (ly (jb q) hp))];exact n
 there:=λb u q _=>⟨u,k b u q⟩
 bp:=λb xs q=>by rw[aK (dR q hn)];exact q
 kr:=λb u xs q=>by rw[aK (dR q hn)];exact q
 ny:=λb ps q=>⟨#[],by rw[aK (dR q hn),q];simp⟩
def Un.write (mu:r9 (H x))(he:e=x∨H e=some (.own x))(k:∀b u,b≠e->h.get? b=some u->h'.get? b=some u)(DK:∃u,h'.get? e=some u):Un fs ex H (upd H x o) h h':=by
 have hx:∀b,H b=none->b≠x:=λb n z=>by subst z;rw[n]at mu;exact mu
 have hb:∀b,H b=none->b≠e:=λb n z=>by
  subst z;rcases he with r|r
  ·exact hx b n r
  ·rw[n]at r;cases r
 have hm:∀b u,H b=some u->¬r9 (some u)->b≠x:=λb u q nm z=>by subst z;rw[q]at mu;exact nm mu
 refine⟨λb u q n _ _=>k b u (hb b n) q,λb u q n _ _=>⟨u.slots,k b u (hb b n) q⟩,λb u q n _=>by rw[aK (hx b n)];exact n,λb u q _=>?_,
  λb xs q=>by rw[aK (hm b _ q λz=>z)];exact q,λb u xs q=>by rw[aK (hm b _ q λz=>z)];exact q,λb ps q=>⟨#[],by rw[aK (hm b _ q λz=>z),q];simp⟩⟩
 by_cases CQ:b=e
 ·subst CQ;exact DK
 ·exact⟨u,k b u CQ q⟩
end
def tO (h:Heap)(H:Hp):List ax:=(List.range h.objs.size).filter λa=>(H a).isSome
def lG (h:Heap)(H:Hp):Heap:=PySem.W.hideAll h (tO h H)
def aB9 (h:Heap)(H:Hp):(lG h H).objs.size=h.objs.size:=PySem.W.hideAll_size _ _
def aC0 {h:Heap}{H:Hp}{b:ax}{o:Obj}(e:h.get? b=some o)(n:H b=none):(lG h H).get? b=some o:=
 PySem.W.hideAll_get _ e λhm=>by
  have q:(H b).isSome=true:=(cz.mp hm).2;rw[n]at q;simp at q
def aC1 {h:Heap}{H:Hp}{b:ax}{o:Obj}(e:(lG h H).get? b=some o):h.get? b=some o/\H b=none:=by
 have e':h.get? b=some o:=PySem.W.of_hideAll (tO h H) e;refine⟨e',?_⟩;cases q:H b with
 |none=>rfl
 |some x=>
  have hm:b∈tO h H:=cz.mpr ⟨BC.mpr (jb e'),by simp[q]⟩;have z:(lG h H).get? b=none:=PySem.W.hideAll_none (tO h H) hm;rw[z]at e;cases e
def rA (g h:Heap)(L:ax):List (ax×Obj):=(List.range h.objs.size).filterMap λa=>if a=L∨(g.get? a).isSome=true then none else (h.get? a).map λo=>(a,o)
def xX {g h:Heap}{L a:ax}{o:Obj}(h1:a≠L)(h2:g.get? a=none)(h3:h.get? a=some o):(a,o)∈rA g h L:=
 DT.mpr ⟨a,BC.mpr (jb h3),by simp[h1,h2,h3]⟩
def aC2 {g h:Heap}{L:ax}{p:ax×Obj}(hp:p∈rA g h L):p.1≠L/\g.get? p.1=none/\h.get? p.1=some p.2:=by
 obtain⟨b,_,e⟩:=DT.mp hp
 split at e
 ·cases e
 ·rename_i hn
  cases q:h.get? b with
  |none=>rw[q]at e;simp at e
  |some u=>
   rw[q]at e;simp only[Option.map_some,Option.some.injEq]at e;subst e;refine⟨λz=>hn (.inl z),?_,q⟩;show g.get? b=none;cases r:g.get? b with
   |none=>rfl
   |some v=>exact (hn (.inr (by simp[r]))).elim
def dN (g h:Heap)(L d:ax):List (ax×Obj):=(rA g h L).filter λp=>decide (p.1≠d)
def N8 {g h:Heap}{L:ax}:News g L h (rA g h L):=λp hp=>let ⟨a,b,c⟩:=aC2 hp;⟨c,a,b⟩
structure Mod (K:ad)(mg:Str->Option av)(base:Heap):Prop where
 kz:K.In base
 glob:base.Ns mainGlobals mg
 blt:∃mb,base.Ns builtinsNs mb/\∀x:Str,x≠"__name__"->mb x=bootBuiltins x
 nolimit:base.NoLimit
structure Cx where
 prog:ay
 w:ba
 K:ad
 mg:Str->Option av
 base:Heap
 A:az
 N:List Str
 cx:aw
 bu:Hp
 env:Env
 outer:List Env
 stack:List Env
 ex:List ax
 fn:Str->Bool
 calm:Bool
 pn:List (ax×Obj)
 xe:av->aw->Prop
def cV (l:List Env):List ax:=l.filterMap (·.frame)
abbrev Cx.fs (X:Cx):List ax:=cV X.outer
def iR (sc:Scope)(x:Str):Prop:=sc.names.lookup x=some .local∨sc.names.lookup x=some .cell∨sc.names.lookup x=some .free
def jX (sc:Scope)(x:Str):Prop:=sc.names.lookup x=some .local∨sc.names.lookup x=some .cell
def aC3 (env:Env)(h:Heap)(m:Str->Option av)(x:Str)(u:av):Prop:=
 (env.kindOf x=some .local/\m x=some u)∨((env.kindOf x=some .cell∨env.kindOf x=some .free)/\∃c,env.cells.lookup x=some c/\h.IsCell c (some u))
structure Cx.Ok (X:Cx):Prop where
 mod:Mod X.K X.mg X.base
 kind:X.env.scope.kind = .function
 glob:X.env.globals=mainGlobals
 blt:X.env.builtins=builtinsNs
 above:X.cx.heap.objs.size<=X.env.locals
 inj:∀x y c,X.env.cells.lookup x=some c->X.env.cells.lookup y=some c->x=y
 has:∀x,(X.env.kindOf x=some .cell∨X.env.kindOf x=some .free)->∃c,X.env.cells.lookup x=some c
 Dg:∀x c,X.fn x=true->X.env.cells.lookup x=some c->X.cx.heap.objs.size<=c
 hd:X.calm=true->X.A.handled=none
 frames:X.A.frames=some X.stack
 DB:X.stack=X.outer∨(X.stack=X.env::X.outer/\X.env.frame=some X.env.locals)
 FH:∀b∈X.ex,b≠X.env.locals/\∀x c,X.env.cells.lookup x=some c->c≠b
 bs:∀b o,X.base.get? b=some o->X.cx.heap.get? b=some o/\X.bu b=none
 Aj:X.base.objs.size<=X.cx.heap.objs.size
 vi:∀b o,X.base.get? b=some o->b∉X.ex
 zw:∀b∈X.ex,b∉X.fs
 lg:X.cx.heap.FunFrames X.base X.outer
 AJ:∀b∈X.fs,X.bu b=none
structure a8 (X:Cx)(ag:List (ax×Obj))(σ:List (Option V))(H:Hp)(s:aw):Prop where
 ok:X.Ok
 os:s.os=X.cx.os
 bare:AllBare s.gens
 base:Un X.fs X.ex X.bu H X.cx.heap s.heap
 loc:∃m,s.heap.Ns X.env.locals m/\∀(i:Nat) (x:Str) (v:V),X.N[i]? = some x->σ[i]? = some (some v)->iR X.env.scope x->∃u,b5 v u/\aC3 X.env s.heap m x u
 cell:∀x c,X.env.cells.lookup x=some c->∃v,s.heap.IsCell c v
 free:H X.env.locals=none
 jm:∀x c,X.env.cells.lookup x=some c->H c=none
 pin:∀p∈X.pn++ag,s.heap.get? p.1=some p.2/\H p.1=none/\p.1≠X.env.locals/\p.1∉X.fs/\∀v,p.2.data≠.cell v
 cf:cJ X.prog X.w H s.heap
 len:σ.length=X.N.length
section
variable {X:Cx}{ag:List (ax×Obj)}{σ:List (Option V)}{H H':Hp}{s:aw}{h':Heap}
def Cx.Ok.Cz (ok:X.Ok){b:ax}{o:Obj}(e:X.base.get? b=some o):b∉X.fs:=λhb=>by
 have:=(ok.lg.mem hb).1
 rw[e]at this;cases this
def a8.bs (I:a8 X ag σ H s):∀b o,X.base.get? b=some o->s.heap.get? b=some o/\H b=none:=λb o e=>
 ⟨I.base.keep b o (I.ok.bs b o e).1 (I.ok.bs b o e).2 (I.ok.Cz e) (I.ok.vi b o e),I.base.free b o (I.ok.bs b o e).1 (I.ok.bs b o e).2 (I.ok.vi b o e)⟩
def a8.bk (I:a8 X ag σ H s):∀b o,X.base.get? b=some o->s.heap.get? b=some o:=λb o e=>(I.bs b o e).1
def a8.mod (I:a8 X ag σ H s):Mod X.K X.mg X.base:=I.ok.mod
def a8.BU (I:a8 X ag σ H s):X.K.In s.heap:=I.ok.mod.kz.keeps I.bk
def a8.fr (I:a8 X ag σ H s):∃m,Fr X.base X.env.locals s.heap m:=
 let ⟨m,hn,_⟩:=I.loc
 ⟨m,hn,I.bk,og I.ok.Aj I.ok.above⟩
def a8.lt (I:a8 X ag σ H s):X.env.locals<s.heap.objs.size:=let ⟨_,hn,_⟩:=I.loc;hn.lt
def a8.sz (I:a8 X ag σ H s):X.cx.heap.objs.size<=s.heap.objs.size:=og I.ok.above (uv I.lt)
def a8.Gn (I:a8 X ag σ H s){a:ax}(h:s.heap.objs.size<=a):a∉X.fs:=λhb=>by
 obtain⟨_,o,ho,_⟩:=I.ok.lg.mem hb
 exact absurd (ly (jb ho) (og I.sz h)) (uc _)
def a8.BZ (I:a8 X ag σ H s):∀x c,X.env.cells.lookup x=some c->c≠X.env.locals:=λx c e z=>by
 obtain⟨v,o,ho,hd⟩:=I.cell x c e
 obtain⟨m,⟨o',es,ep,CL,CP,_⟩,_⟩:=I.loc
 rw[z,CL]at ho;cases ho;rw[CP]at hd;cases hd
def a8.lg (I:a8 X ag σ H s):s.heap.FunFrames X.base X.outer:=by
 have all:∀(l:List Env),(∀b∈cV l,b∈X.fs)->X.cx.heap.FunFrames X.base l->s.heap.FunFrames X.base l:=by
  intro l
  induction l with
  |nil=>intro _ _;trivial
  |cons env r ih=>
   intro hs hl
   obtain⟨hk,⟨L,o,hf,hn,ho,hd⟩,hr⟩:=hl
   have hL:L∈X.fs:=hs L (by unfold cV;rw[List.filterMap_cons,hf];exact dh)
   obtain⟨sl,e⟩:=I.base.slot L o ho (I.ok.AJ L hL) hL λz=>I.ok.zw L z hL
   exact⟨hk,⟨L,_,hf,hn,e,hd⟩,ih (λb hb=>hs b (by unfold cV;rw[List.filterMap_cons,hf];exact fu _ hb)) hr⟩
 exact all X.outer (λ_ hb=>hb) I.ok.lg
def a8.stack (I:a8 X ag σ H s):s.heap.FunFrames X.base X.stack:=by
 rcases I.ok.DB with e|⟨e,hf⟩
 ·rw[e];exact I.lg
 ·rw[e]
  obtain⟨m,hn,_⟩:=I.loc
  refine .cons (by rw[I.ok.kind];decide) hf hn ?_ I.lg;exact Heap.get?_none_of_le (og I.ok.Aj I.ok.above)
def a8.pf (I:a8 X ag σ H s):∀b∈cV X.stack,b∈X.env.locals::X.fs:=λb hb=>by
 rcases I.ok.DB with e|⟨e,hf⟩
 ·rw[e]at hb;exact fu _ hb
 ·rw[e]at hb
  unfold cV at hb;rw[List.filterMap_cons,hf]at hb;exact hb
def a8.ug (I:a8 X ag σ H s):∀b∈cV X.stack,H b=none:=λb hb=>by
 rcases ff.mp (I.pf b hb) with e|hb
 ·rw[e];exact I.free
 ·obtain⟨_,o,ho,_⟩:=I.ok.lg.mem hb
  exact I.base.free b o ho (I.ok.AJ b hb) λz=>I.ok.zw b z hb
def a8.step {g':Array GenState}{t':Nat}{d':Drawn}{ch:List ax}(I:a8 X ag σ H s)(Ba:∀b∈ch,(b∈X.ex∨X.cx.heap.objs.size<=b)/\b≠X.env.locals/\(∀x c,X.env.cells.lookup x=some c->c≠b)/\∀p∈X.pn++ag,p.1≠b)(keep:∀b o,b≠X.env.locals->b∉X.fs->b∉ch->s.heap.get? b=some o->H b=none->h'.get? b=some o)(slot:∀b o,b≠X.env.locals->b∈X.fs->b∉ch->s.heap.get? b=some o->H b=none->∃sl,h'.get? b=some { o with slots:=sl })(free:∀b o,b∉ch->s.heap.get? b=some o->H b=none->H' b=none)(there:∀b o,b∉ch->s.heap.get? b=some o->∃o',h'.get? b=some o')(bp:∀b xs,H b=some (.tup xs)->H' b=some (.tup xs))(kr:∀b o u,H b=some (.et o u)->H' b=some (.et o u))(ny:∀b ps,H b=some (.yk ps)->∃more,H' b=some (.yk (ps++more)))(ns:∀m,s.heap.Ns X.env.locals m->h'.Ns X.env.locals m)(cf:cJ X.prog X.w H' h')(hg:AllBare g') :
  a8 X ag σ H' { s with heap:=h',gens:=g',drawn:=d',toks:=t' }:=by
 have DF:∀b o,X.cx.heap.get? b=some o->b≠X.env.locals:=λb o e=>mr (ly (jb e) I.ok.above)
 have Ft:∀b o,X.cx.heap.get? b=some o->b∉X.ex->b∉ch:=λb o e hx hb=>by
  rcases (Ba b hb).1 with z|z
  ·exact hx z
  ·exact absurd (ly (jb e) z) (uc _)
 have cellK:∀x c,X.env.cells.lookup x=some c->∀v,s.heap.IsCell c v->h'.IsCell c v:=λx c e v ⟨o,ho,hd⟩=>by
  have Eu:c∉ch:=λz=>(Ba c z).2.2.1 x c e rfl
  by_cases hc:c∈X.fs
  ·obtain⟨sl,q⟩:=slot c o (I.BZ x c e) hc Eu ho (I.jm x c e)
   exact⟨_,q,hd⟩
  ·exact⟨o,keep c o (I.BZ x c e) hc Eu ho (I.jm x c e),hd⟩
 refine⟨I.ok,I.os,hg,⟨λb o e n hb hx=>?_,λb o e n hb hx=>?_,λb o e n hx=>?_,λb o e hx=>?_,λb xs e=>bp b xs (I.base.bp b xs e),λb o xs e=>kr b o xs (I.base.kr b o xs e),λb ps e=>?_⟩,?_,λx c e=>?_,?_,λx c e=>?_,λp hp=>?_,cf,I.len⟩
 ·exact keep b o (DF b o e) hb (Ft b o e hx) (I.base.keep b o e n hb hx) (I.base.free b o e n hx)
 ·obtain⟨sl,e1⟩:=I.base.slot b o e n hb hx
  obtain⟨Ef,e2⟩:=slot b _ (DF b o e) hb (Ft b o e hx) e1 (I.base.free b o e n hx)
  exact⟨Ef,e2⟩
 ·obtain⟨o',e1⟩:=I.base.there b o e hx
  exact free b o' (Ft b o e hx) e1 (I.base.free b o e n hx)
 ·obtain⟨o',e1⟩:=I.base.there b o e hx
  exact there b o' (Ft b o e hx) e1
 ·obtain⟨m1,e1⟩:=I.base.ny b ps e
  obtain⟨m2,e2⟩:=ny b _ e1
  exact⟨m1++m2,by rw[e2,Array.append_assoc]⟩
 ·obtain⟨m,hn,hl⟩:=I.loc
  refine⟨m,ns m hn,λi x v e1 e2 e3=>?_⟩
  obtain⟨u,r,l⟩:=hl i x v e1 e2 e3
  refine⟨u,r,?_⟩;rcases l with l|⟨k,c,e,z⟩
  ·exact .inl l
  ·exact .inr ⟨k,c,e,cellK x c e _ z⟩
 ·obtain⟨v,z⟩:=I.cell x c e
  exact⟨v,cellK x c e v z⟩
 ·obtain⟨m,⟨o,_,_,ho,_⟩,_⟩:=I.loc
  exact free _ o (λz=>(Ba _ z).2.1 rfl) ho I.free
 ·obtain⟨v,o,ho,hd⟩:=I.cell x c e
  exact free c o (λz=>(Ba c z).2.2.1 x c e rfl) ho (I.jm x c e)
 ·obtain⟨e,n,ne,nf,d⟩:=I.pin p hp
  have Eu:p.1∉ch:=λz=>(Ba p.1 z).2.2.2 p hp rfl
  exact⟨keep p.1 p.2 ne nf Eu e n,free p.1 p.2 Eu e n,ne,nf,d⟩
def a8.un {t':Nat}(I:a8 X ag σ H s)(u:Un X.fs [] H H' s.heap h')(cf:cJ X.prog X.w H' h'):a8 X ag σ H' { s with heap:=h',toks:=t' }:=by
 obtain⟨m,⟨o,es,ep,ho,r⟩,_⟩:=id I.loc
 obtain⟨sl,hL⟩:=u.any ho I.free (by simp)
 exact I.step (g':=s.gens) (d':=s.drawn) (ch:=[]) (λ_ z=>nomatch z) (λb o _ hb _ e n=>u.keep b o e n hb (by simp)) (λb o _ hb _ e n=>u.slot b o e n hb (by simp)) (λb o _ e n=>u.free b o e n (by simp)) (λb o _ e=>u.there b o e (by simp)) u.bp u.kr u.ny (λm' hm=>by
  obtain⟨o',DO,ET,CL,r'⟩:=hm
  rw[ho]at CL;cases CL
  exact⟨_,DO,ET,hL,r'⟩) cf I.bare
def a8.call {g':Array GenState}{t':Nat}{d':Drawn}{ch:List ax}(I:a8 X ag σ H s)(u:Un (cV X.stack) ch H H' s.heap h')(cf:cJ X.prog X.w H' h')(hg:AllBare g')(Ba:∀b∈ch,(b∈X.ex∨X.cx.heap.objs.size<=b)/\b≠X.env.locals/\(∀x c,X.env.cells.lookup x=some c->c≠b)/\∀p∈X.pn++ag,p.1≠b) :
  a8 X ag σ H' { s with heap:=h',gens:=g',drawn:=d',toks:=t' }:=by
 obtain⟨m,⟨o,es,ep,ho,r⟩,_⟩:=id I.loc
 obtain⟨sl,hL⟩:=u.any ho I.free λz=>(Ba _ z).2.1 rfl
 exact I.step (ch:=ch) Ba (λb o hL hb hc e n=>u.keep b o e n (λz=>(ff.mp (I.pf b z)).elim hL hb) hc) (λb o _ _ hc e n=>u.any e n hc) (λb o hc e n=>u.free b o e n hc) (λb o hc e=>u.there b o e hc) u.bp u.kr u.ny (λm' hm=>by
  obtain⟨o',DO,ET,CL,r'⟩:=hm
  rw[ho]at CL;cases CL
  exact⟨_,DO,ET,hL,r'⟩) cf hg
def a8.turned {t':Nat}{it:ax}(I:a8 X ag σ H s)(k:∀b o,b≠it->s.heap.get? b=some o->h'.get? b=some o)(hn:H it=none)(hL:it≠X.env.locals)(h1:it∈X.ex∨X.cx.heap.objs.size<=it)(h2:∀x c,X.env.cells.lookup x=some c->c≠it)(h3:∀p∈X.pn++ag,p.1≠it):a8 X ag σ H { s with heap:=h',toks:=t' }:=by
 have IC:∀b u,H b=some u->b≠it:=λb u e z=>by rw[z,hn]at e;cases e
 refine I.step (g':=s.gens) (d':=s.drawn) (ch:=[it]) (λb hb=>?_) (λb o _ _ hc e _=>k b o (λz=>hc (by simp[z])) e) (λb o _ _ hc e _=>⟨o.slots,k b o (λz=>hc (by simp[z])) e⟩) (λ_ _ _ _ n=>n)
  (λb o hc e=>⟨o,k b o (λz=>hc (by simp[z])) e⟩) (λ_ _ e=>e) (λ_ _ _ e=>e) (λb ps e=>⟨#[],by rw[e];simp⟩) (λm hm=>?_) (λb u e=>?_) I.bare
 ·have e:b=it:=by simpa using hb
  subst e
  exact⟨h1,hL,h2,h3⟩
 ·obtain⟨o,es,ep,ho,r⟩:=hm
  exact⟨o,es,ep,k _ o (Ne.symm hL) ho,r⟩
 ·refine (I.cf b u e).cq (λc v hc q=>k c v ?_ q) (λ_ q=>q) λ_ _ q=>q
  rcases hc with z|z
  ·rw[z];exact IC b u e
  ·exact IC c _ z
def a8.tok (I:a8 X ag σ H s)(t:Nat):a8 X ag σ H { s with toks:=t }:=I.un (h':=s.heap) (t':=t) Un.refl I.cf
def a8.kept {t':Nat}(I:a8 X ag σ H s)(k:∀b u,s.heap.get? b=some u->h'.get? b=some u):a8 X ag σ H { s with heap:=h',toks:=t' }:=I.un (Un.kept k) (I.cf.kept k)
def a8.laid {a:ax}{o:HO}{t':Nat}(I:a8 X ag σ H s)(k:∀b u,s.heap.get? b=some u->h'.get? b=some u)(hp:s.heap.objs.size<=a)(new:cB X.prog X.w (upd H a o) h' a o) :
  a8 X ag σ (upd H a o) { s with heap:=h',toks:=t' }:=I.un (Un.laid k hp (I.cf.fresh hp)) (I.cf.laid k hp new)
def a8.write {x e:ax}{o:HO}{t':Nat}(I:a8 X ag σ H s)(mu:r9 (H x))(he:e=x∨H e=some (.own x))(k:∀b u,b≠e->s.heap.get? b=some u->h'.get? b=some u)(DK:∃u,h'.get? e=some u)(new:cB X.prog X.w (upd H x o) h' x o):a8 X ag σ (upd H x o) { s with heap:=h',toks:=t' }:=I.un (Un.write mu he k DK) (I.cf.write mu he k DK new)
def a8.weak {cj:List (Option V)}(I:a8 X ag σ H s)(hl:cj.length=σ.length)(w:∀(i:Nat) v,cj[i]? = some (some v)->σ[i]? = some (some v)):a8 X ag cj H s:=
 ⟨I.ok,I.os,I.bare,I.base,let ⟨m,hn,mq⟩:=I.loc;⟨m,hn,λi x v e1 e2 e3=>mq i x v e1 (w i v e2) e3⟩,I.cell,I.free,I.jm,I.pin,I.cf,hl.trans I.len⟩
def a8.yq {tq:List (ax×Obj)}(I:a8 X ag σ H s)(h:∀p∈tq,s.heap.get? p.1=some p.2/\H p.1=none/\p.1≠X.env.locals/\p.1∉X.fs/\∀v,p.2.data≠.cell v):a8 X tq σ H s:=
 ⟨I.ok,I.os,I.bare,I.base,I.loc,I.cell,I.free,I.jm,λp hp=>(fi.mp hp).elim (λz=>I.pin p (pb _ z)) (h p),I.cf,I.len⟩
def N9 {N:List Str}(hN:N.Nodup){i j:Nat}{x:Str}(a:N[i]? = some x)(b:N[j]? = some x):i=j:=by
 obtain⟨h1,e1⟩:=gv.mp a
 obtain⟨h2,e2⟩:=gv.mp b
 exact (List.getElem_inj hN).mp (e1.trans e2.symm)
def xY {M:Model}{A:az}{E:av->aw->Prop}{i:Nat}{x:Str}{v:V}{u:av}{Q:Unit->aw->Prop}(I:a8 X ag σ H s)(hN:X.N.Nodup)(hi:X.N[i]? = some x)(hx:jX X.env.scope x)(r:b5 v u)(h:∀s',a8 X ag (σ.set i (some v)) H s'->(∃a,Heap.SameBut a s.heap s'.heap/\(a=X.env.locals∨X.env.cells.lookup x=some a))->Q () s')(hf:X.fn x=true∨X.env.scope.names.lookup x=some .local:=by first|exact .inl rfl|exact .inr rfl|assumption):wpAny M A (storeName X.env x u) Q E s:=by
 obtain⟨m,hn,hl⟩:=id I.loc
 have Ho:(X.env.scope.kind==.class||(X.env.scope.kind==.module&&X.env.locals != X.env.globals))=false:=by rw[I.ok.kind];rfl
 have EC:i<σ.length:=by rw[I.len];exact (gv.mp hi).1
 have BZ:=I.BZ;have tracked:∀{a:ax}{h':Heap},(∃o,s.heap.get? a=some o/\H a=none)->Heap.SameBut a s.heap h'->cJ X.prog X.w H h':=λ{a h'} ha hs b ob e=>by
  obtain⟨_,_,BW⟩:=ha
  refine (I.cf b ob e).cq (λc w' hc q=>(hs.2 c ?_).trans q) (λ_ q=>q) λ_ _ q=>q
  rintro rfl;rcases hc with rfl|hc
  ·rw[BW]at e;cases e
  ·rw[BW]at hc;cases hc
 rcases hx with hk|hk
 ·refine wpAny_storeName_local hk hn (λh' Rg hs=>?_) Ho
  obtain⟨oL,_,_,EA,_⟩:=id hn
  refine h _ ⟨I.ok,I.os,I.bare,⟨λb o e n hb hx=>?_,λb o e n hb hx=>?_,I.base.free,λb o e hx=>?_,I.base.bp,I.base.kr,I.base.ny⟩,⟨_,Rg,λj y v' e1 e2 e3=>?_⟩,λy c e=>?_,I.free,I.jm,λp hp=>?_,tracked ⟨oL,EA,I.free⟩ hs,by simpa using I.len⟩ ⟨_,hs,.inl rfl⟩
  ·exact (hs.2 b (mr (ly (jb e) I.ok.above))).trans (I.base.keep b o e n hb hx)
  ·obtain⟨sl,e1⟩:=I.base.slot b o e n hb hx
   exact⟨sl,(hs.2 b (mr (ly (jb e) I.ok.above))).trans e1⟩
  ·obtain⟨o',e1⟩:=I.base.there b o e hx
   exact⟨o',(hs.2 b (mr (ly (jb e) I.ok.above))).trans e1⟩
  ·by_cases hj:j=i
   ·subst hj
    rw[hi]at e1;cases e1;rw[BH EC]at e2;cases e2
    exact⟨u,r,.inl ⟨hk,by simp⟩⟩
   ·rw[xo (Ne.symm hj)]at e2
    obtain⟨u',r',q⟩:=hl j y v' e1 e2 e3
    refine⟨u',r',?_⟩;rcases q with⟨k,e⟩|⟨k,c,e,z⟩
    ·refine .inl ⟨k,?_⟩
     have:y≠x:=λe=>hj (N9 hN e1 (e▸hi))
     simp[this,e]
    ·exact .inr ⟨k,c,e,z.sameBut hs (BZ y c e)⟩
  ·obtain⟨w',z⟩:=I.cell y c e
   exact⟨w',z.sameBut hs (BZ y c e)⟩
  ·obtain⟨e,n,ne,nf,d⟩:=I.pin p hp
   exact⟨(hs.2 p.1 ne).trans e,n,ne,nf,d⟩
 ·have Hj:X.fn x=true:=by
   rcases hf with z|z
   ·exact z
   ·rw[z]at hk;cases hk
  obtain⟨c,hc⟩:=I.ok.has x (.inl hk)
  obtain⟨w',z⟩:=I.cell x c hc
  refine wpAny_storeName_cell I.ok.kind hk hc z (λh' dq hs=>?_)
  obtain⟨oc,IU,GY⟩:=id z
  refine h { s with heap:=h' } ⟨I.ok,I.os,I.bare,⟨λb o e n hb hx=>?_,λb o e n hb hx=>?_,I.base.free,λb o e hx=>?_,I.base.bp,I.base.kr,I.base.ny⟩,⟨m,hn.sameBut hs (Ne.symm (BZ x c hc)),λj y v' e1 e2 e3=>?_⟩,λy c' e=>?_,I.free,I.jm,λp hp=>?_,tracked ⟨oc,IU,I.jm x c hc⟩ hs,by simpa using I.len⟩ ⟨c,hs,.inr hc⟩
  ·exact (hs.2 b (mr (ly (jb e) (I.ok.Dg x c Hj hc)))).trans (I.base.keep b o e n hb hx)
  ·obtain⟨sl,e1⟩:=I.base.slot b o e n hb hx
   exact⟨sl,(hs.2 b (mr (ly (jb e) (I.ok.Dg x c Hj hc)))).trans e1⟩
  ·obtain⟨o',e1⟩:=I.base.there b o e hx
   exact⟨o',(hs.2 b (mr (ly (jb e) (I.ok.Dg x c Hj hc)))).trans e1⟩
  ·by_cases hj:j=i
   ·subst hj
    rw[hi]at e1;cases e1;rw[BH EC]at e2;cases e2
    exact⟨u,r,.inr ⟨.inl hk,c,hc,dq⟩⟩
   ·rw[xo (Ne.symm hj)]at e2
    obtain⟨u',r',q⟩:=hl j y v' e1 e2 e3
    refine⟨u',r',?_⟩;rcases q with q|⟨k,c',e,z'⟩
    ·exact .inl q
    ·refine .inr ⟨k,c',e,z'.sameBut hs ?_⟩
     rintro rfl;exact hj (N9 hN e1 (I.ok.inj _ _ _ e hc▸hi))
  ·by_cases Jb:c'=c
   ·subst Jb;exact⟨_,dq⟩
   ·obtain⟨w2,z2⟩:=I.cell y c' e
    exact⟨w2,z2.sameBut hs Jb⟩
  ·obtain⟨e,n,ne,nf,d⟩:=I.pin p hp
   refine⟨(hs.2 p.1 ?_).trans e,n,ne,nf,d⟩;intro q;rw[q,IU]at e;have q':oc=p.2:=jr e;exact d w' (by rw[<- q'];exact GY)
def O0 {M:Model}{A:az}{E:av->aw->Prop}{i:Nat}{x:Str}{v:V}{u:av}{Q:Unit->aw->Prop}(I:a8 X ag σ H s)(hN:X.N.Nodup)(hi:X.N[i]? = some x)(hx:jX X.env.scope x)(r:b5 v u)(h:∀s',a8 X ag (σ.set i (some v)) H s'->Q () s')(hf:X.fn x=true∨X.env.scope.names.lookup x=some .local:=by first|exact .inl rfl|exact .inr rfl|assumption):wpAny M A (storeName X.env x u) Q E s:=
 xY I hN hi hx r (λs' I' _=>h s' I') hf
def a8.Ca {s':aw}{ch:List ax}(I:a8 X ag σ H s)(ho:s'.os=s.os)(u:Un (cV X.stack) ch H H' s.heap s'.heap)(cf:cJ X.prog X.w H' s'.heap)(hg:AllBare s'.gens)(Ba:∀b∈ch,(b∈X.ex∨X.cx.heap.objs.size<=b)/\b≠X.env.locals/\(∀x c,X.env.cells.lookup x=some c->c≠b)/\∀p∈X.pn++ag,p.1≠b):a8 X ag σ H' s':=by
 obtain⟨h',g',d',t',o'⟩:=s'
 have e:o'=s.os:=ho;subst e;exact I.call (g':=g') (t':=t') (d':=d') u cf hg Ba
end
abbrev XK:=av->Option ax->Hp->Prop
abbrev St:=List (Option V)
abbrev VK:=V->Hp->Prop
abbrev TE:=St->Hp->VK->Prop
abbrev TT:=St->Hp->(Bool->Hp->Prop)->Prop
abbrev TA:=St->Hp->(List V->Hp->Prop)->Prop
structure dS where
 nx:St->Hp->Prop
 rt:VK
 bk:St->Hp->Prop:=λ_ _=>False
 ct:St->Hp->Prop:=λ_ _=>False
abbrev TS:=dS->St->Hp->Prop
def EP (X:Cx)(ag:List (ax×Obj))(σ:St)(Q:VK)(u:av)(s':aw):Prop:=∃v H',a8 X ag σ H' s'/\b5 v u/\Q v H'
def TP (X:Cx)(ag:List (ax×Obj))(σ:St)(Q:Bool->Hp->Prop)(b:Bool)(s':aw):Prop:=∃H',a8 X ag σ H' s'/\Q b H'
def AP (X:Cx)(ag:List (ax×Obj))(σ:St)(Q:List V->Hp->Prop)(us:List av)(s':aw):Prop:=∃vs H',a8 X ag σ H' s'/\aQ vs us/\Q vs H'
def SP (X:Cx)(ag:List (ax×Obj))(D:dS)(f:Flow)(s':aw):Prop:=
 match f with
 |.next=>∃cj H',a8 X ag cj H' s'/\D.nx cj H'
 |.brk=>∃cj H',a8 X ag cj H' s'/\D.bk cj H'
 |.cont=>∃cj H',a8 X ag cj H' s'/\D.ct cj H'
 |.ret u=>∃v cj H',a8 X ag cj H' s'/\b5 v u/\D.rt v H'
def PE (X:Cx)(e:Expr)(t:TE):Prop:=
 ∀(ag:List (ax×Obj)) (s:aw) (σ:St) (H:Hp) (Q:VK),a8 X ag σ H s->t σ H Q->wpAny (model X.prog X.w) X.A (eval e X.env) (EP X ag σ Q) X.xe s
def PT (X:Cx)(e:Expr)(t:TT):Prop:=
 ∀(ag:List (ax×Obj)) (s:aw) (σ:St) (H:Hp) (Q:Bool->Hp->Prop),a8 X ag σ H s->t σ H Q->wpAny (model X.prog X.w) X.A (isTrue e X.env (eval e X.env)) (TP X ag σ Q) X.xe s
def PW (X:Cx)(e:Expr)(t:TT):Prop:=
 ∀(whole:Sem av) (ag:List (ax×Obj)) (s:aw) (σ:St) (H:Hp) (Q:Bool->Hp->Prop),a8 X ag σ H s->t σ H Q->wpAny (model X.prog X.w) X.A (isTrue e X.env whole) (TP X ag σ Q) X.xe s
def PW.pt {X:Cx}{e:Expr}{t:TT}(h:PW X e t):PT X e t:=h _
def PA (X:Cx)(es:List Expr)(t:TA):Prop:=
 ∀(pos:Pos) (ag:List (ax×Obj)) (s:aw) (σ:St) (H:Hp) (Q:List V->Hp->Prop),a8 X ag σ H s->t σ H Q->wpAny (model X.prog X.w) X.A (spliced (backTo pos (starEach es X.env))) (AP X ag σ Q) X.xe s
def PS (X:Cx)(st:Stmt)(t:TS):Prop:=
 ∀(ag:List (ax×Obj)) (s:aw) (σ:St) (H:Hp) (D:dS),a8 X ag σ H s->t D σ H->wpAny (model X.prog X.w) X.A (exec st X.env) (SP X ag D) X.xe s
def fI (X:Cx)(st:List Stmt)(t:TS):Prop:=
 ∀(ag:List (ax×Obj)) (s:aw) (σ:St) (H:Hp) (D:dS),a8 X ag σ H s->t D σ H->wpAny (model X.prog X.w) X.A (execs st X.env) (SP X ag D) X.xe s
def aR {α:Type}{t:Sem α}{Q Q':α->aw->Prop}{M:Model}{A:az}{E:av->aw->Prop}{s:aw}(h:wpAny M A t Q E s)(hQ:∀a s,Q a s->Q' a s):wpAny M A t Q' E s:=qp h hQ λ_ _ x=>x
section
variable {X:Cx}
def bin {a b:Expr}{ta tb:TE}(ha:PE X a ta)(hb:PE X b tb){ag:List (ax×Obj)}{s:aw}{σ:St}{H:Hp}{R:V->V->Hp->Prop}(I:a8 X ag σ H s)(h:ta σ H λx H1=>tb σ H1 λy H2=>R x y H2){α:Type}{Q:α->aw->Prop}{f:av->av->Sem α}(hf:∀v u s2 x y H2,a8 X ag σ H2 s2->b5 x v->b5 y u->R x y H2->wpAny (model X.prog X.w) X.A (f v u) Q X.xe s2) :
  wpAny (model X.prog X.w) X.A (eval a X.env) (λv bz=>wpAny (model X.prog X.w) X.A (eval b X.env) (λu qx=>wpAny (model X.prog X.w) X.A (f v u) Q X.xe qx) X.xe bz) X.xe s:=by
 refine aR (ha ag s σ H _ I h) λv s1 ⟨x,H1,I1,r1,q1⟩=>?_
 refine aR (hb ag s1 σ H1 _ I1 q1) λu s2 ⟨y,H2,I2,r2,q2⟩=>?_
 exact hf v u s2 x y H2 I2 r1 r2 q2
def gA (i:Nat):TE:=λσ H Q=>∃v,σ[i]? = some (some v)/\Q v H
def tC (v:V):TE:=λ_ H Q=>Q v H
def kN {i:Nat}{x:Str}{pos:Pos}(hN:X.N[i]? = some x)(hv:iR X.env.scope x)(hd:(x==("__debug__":Str))=false:=by decide)(ko:(x==("__classdict__":Str))=false:=by decide):PE X (.Name x pos) (gA i):=by
 intro ag s σ H Q I h
 obtain⟨v,e,h⟩:=h
 obtain⟨m,hn,hl⟩:=I.loc
 obtain⟨u,r,l⟩:=hl i x v hN e hv
 have fin:EP X ag σ Q u s:=⟨v,H,I,r,h⟩;rcases l with⟨hk,hm⟩|⟨hk,c,hc,BX⟩
 ·exact wpAny_Name (wpAny_loadName_local I.ok.kind hk hn hm fin) hd
 ·rcases hk with hk|hk
  ·exact wpAny_Name (wpAny_loadName_cell I.ok.kind hk hc BX fin) hd
  ·exact wpAny_Name (wpAny_loadName_free I.ok.kind hk hc BX fin ko) hd
def nN {i j pos}:PE X (.Constant (.int i) j pos) (tC (.int i)):=λ_ _ _ H _ I h=>wpAny_Constant_int ⟨.int i,H,I.tok _,⟨_,rfl⟩,h⟩
def O1 {b j pos}:PE X (.Constant (.bool b) j pos) (tC (.bl b)):=λ_ _ _ H _ I h=>Constant_bool ⟨.bl b,H,I,rfl,h⟩
def aC4 {j pos}:PE X (.Constant .none j pos) (tC .bw):=λ_ _ _ H _ I h=>Constant_none ⟨.bw,H,I,rfl,h⟩
def aC5 {x j pos}:PE X (.Constant (.str x) j pos) (tC (.str x)):=λ_ _ _ H _ I h=>Calls.Constant_str ⟨.str x,H,I.tok _,⟨_,rfl⟩,h⟩
def Gl (X:Cx)(x:Str):Prop:=X.env.kindOf x=some .globalImplicit
def xZ {E:av->aw->Prop}{ag:List (ax×Obj)}{s:aw}{σ:St}{H:Hp}{x:Str}{u:av}{pos:Pos}{Q:av->aw->Prop}(I:a8 X ag σ H s)(hg:Gl X x)(hm:X.mg x=some u)(h:Q u s)(hd:(x==("__debug__":Str))=false:=by decide):wpAny (model X.prog X.w) X.A (eval (.Name x pos) X.env) Q E s:=
 Calls.Name_function_global I.ok.kind hg (Calls.loadGlobal_global (by rw[I.ok.glob];exact I.mod.glob.keeps I.bk) hm h) hd
def lH {E:av->aw->Prop}{ag:List (ax×Obj)}{s:aw}{σ:St}{H:Hp}{x:Str}{u:av}{pos:Pos}{Q:av->aw->Prop}(I:a8 X ag σ H s)(hg:Gl X x)(hm:X.mg x=none)(hv:bootBuiltins x=some u)(h:Q u s)(hn:x≠"__name__":=by decide)(hd:(x==("__debug__":Str))=false:=by decide):wpAny (model X.prog X.w) X.A (eval (.Name x pos) X.env) Q E s:=by
 obtain⟨mb,h1,h2⟩:=I.mod.blt
 exact Calls.Name_function_global I.ok.kind hg (Calls.loadGlobal_builtin (by rw[I.ok.glob];exact I.mod.glob.keeps I.bk) hm (by rw[I.ok.blt];exact h1.keeps I.bk) ((h2 x hn).trans hv) h) hd
def aC6 {x:Str}{v:V}{u:av}{pos:Pos}(hg:Gl X x)(hm:X.mg x=some u)(r:b5 v u)(hd:(x==("__debug__":Str))=false:=by decide):PE X (.Name x pos) (tC v):=
 λ_ _ _ H _ I h=>xZ I hg hm ⟨v,H,I,r,h⟩ hd
variable {a b:Expr}{ta tb:TE}{pos:Pos}
def PC (X:Cx)(op:CmpOp)(a b:Expr)(t:TE):Prop:=
 ∀(ag:List (ax×Obj)) (s:aw) (σ:St) (H:Hp) (Q:VK),a8 X ag σ H s->t σ H Q->
  wpAny (model X.prog X.w) X.A (eval a X.env) (λv bz=>wpAny (model X.prog X.w) X.A (eval b X.env) (λu qx=>wpAny (model X.prog X.w) X.A (compareOp op v u) (EP X ag σ Q) X.xe qx) X.xe bz) X.xe s
def tB (t:TE):TT:=λσ H Q=>t σ H λx H1=>∃c,x = .bl c/\Q c H1
def O3 {op:CmpOp}{t:TE}(h:PC X op a b t)(h1:behindInMarks op b=false:=by first|exact Es _ (by decide) (by decide)|rfl):PT X (.Compare a [op] [b] pos) (tB t):=by
 intro ag s σ H Q I hw;refine wpAny_isTrue_Compare1 (aR (h ag s σ H _ I hw) λv s1 h1=>aR h1 λu s2 h2=>aR h2 λc s3 ⟨x,H1,I1,r1,q1⟩=>?_) h1
 obtain⟨d,rfl,q⟩:=q1
 cases r1;exact Cf ⟨H1,I1,q⟩
def aC7 {e:Expr}{t:TE}(h:PE X e t)(he:∀whole,isTrue e X.env whole=(do let v <- whole;standAt e.pos;holding [v] (truthy v)):=by intro _;rfl):PT X e (tB t):=by
 intro ag s σ H Q I hw;refine isTrue_plain (aR (h ag s σ H _ I hw) λv s1 ⟨x,H1,I1,r1,q1⟩=>?_) (he _)
 obtain⟨d,rfl,q⟩:=q1
 cases r1;exact Cf ⟨H1,I1,q⟩
variable {tA Av:TT}{dN:List Expr}
def O4 (t u:TT):TT:=λσ H Q=>t σ H λc H1=>if c=true then u σ H1 Q else Q false H1
def O5 (t u:TT):TT:=λσ H Q=>t σ H λc H1=>if c=true then Q true H1 else u σ H1 Q
def O6 (t:TT):TT:=λσ H Q=>t σ H λc H1=>Q (!c) H1
def aC8 (ha:PT X a tA):PW X (.BoolOp .And [a] pos) tA:=by
 intro wh ag s σ H Q I h;refine isTrue_and (aR (ha ag s σ H Q I h) λc s1 e=>?_);cases c with
 |true=>exact isTrue_and_nil e
 |false=>exact e
def aC9 (ha:PT X a tA):PW X (.BoolOp .Or [a] pos) tA:=by
 intro wh ag s σ H Q I h;refine isTrue_or (aR (ha ag s σ H Q I h) λc s1 e=>?_);cases c with
 |false=>exact isTrue_or_nil e
 |true=>exact e
def aD0 (ha:PT X a tA)(hb:PW X (.BoolOp .And (b::dN) pos) Av):PW X (.BoolOp .And (a::b::dN) pos) (O4 tA Av):=by
 intro wh ag s σ H Q I h;refine isTrue_and (aR (ha ag s σ H _ I h) λc s1 ⟨H1,I1,q1⟩=>?_);cases c with
 |true=>exact hb wh ag s1 σ H1 Q I1 q1
 |false=>exact⟨H1,I1,q1⟩
def aD1 (ha:PT X a tA)(hb:PW X (.BoolOp .Or (b::dN) pos) Av):PW X (.BoolOp .Or (a::b::dN) pos) (O5 tA Av):=by
 intro wh ag s σ H Q I h;refine isTrue_or (aR (ha ag s σ H _ I h) λc s1 ⟨H1,I1,q1⟩=>?_);cases c with
 |true=>exact⟨H1,I1,q1⟩
 |false=>exact hb wh ag s1 σ H1 Q I1 q1
def aD2 (ha:PT X a tA):PT X (.UnaryOp .Not a pos) (O6 tA):=by
 intro ag s σ H Q I h;exact isTrue_not (ha ag s σ H (λc H1=>Q (!c) H1) I h)
def O7 (ta tb:TE):TE:=λσ H Q=>ta σ H λx H1=>∃c,x = .bl c/\if c=true then tb σ H1 Q else Q (.bl false) H1
def O8 (ta tb:TE):TE:=λσ H Q=>ta σ H λx H1=>∃c,x = .bl c/\if c=true then Q (.bl true) H1 else tb σ H1 Q
def aD3 {op}{t:TE}(h:PE X a t):PE X (.BoolOp op [a] pos) t:=λag s σ H Q I hw=>BoolOp_one (h ag s σ H Q I hw)
def aD4 (ha:PE X a ta)(hb:PE X (.BoolOp .And (b::dN) pos) tb):PE X (.BoolOp .And (a::b::dN) pos) (O7 ta tb):=by
 intro ag s σ H Q I h;refine BoolOp_and (aR (ha ag s σ H _ I h) λv s1 ⟨x,H1,I1,r1,q1⟩=>?_)
 obtain⟨c,rfl,q1⟩:=q1
 cases r1;refine Cf ?_;cases c with
 |true=>exact hb ag s1 σ H1 Q I1 q1
 |false=>exact⟨.bl false,H1,I1,rfl,q1⟩
def aD5 (ha:PE X a ta)(hb:PE X (.BoolOp .Or (b::dN) pos) tb):PE X (.BoolOp .Or (a::b::dN) pos) (O8 ta tb):=by
 intro ag s σ H Q I h;refine BoolOp_or (aR (ha ag s σ H _ I h) λv s1 ⟨x,H1,I1,r1,q1⟩=>?_)
 obtain⟨c,rfl,q1⟩:=q1
 cases r1;refine Cf ?_;cases c with
 |false=>exact hb ag s1 σ H1 Q I1 q1
 |true=>exact⟨.bl true,H1,I1,rfl,q1⟩
end
def aM (K:ad)(H:Hp)(a:ax)(xs:List V):Prop:=
 Rd H a (.lst xs) ∨
  ∃(o:Obj) (bh:Array av) (n:Nat),K.lookup a=some o/\o.cls = .type "list"/\o.dict=none/\o.data = .seq bh n/\bh.size<=sizeLine/\aQ xs bh.toList
def aW (K:ad)(H:Hp)(a:ax)(xs:List V):Prop:=
 Rd H a (.tup xs) ∨
  ∃(o:Obj) (bh:Array av) (n:Nat),K.lookup a=some o/\o.cls = .type "tuple"/\o.data = .seq bh n/\bh.size<=sizeLine/\aQ xs bh.toList
def aD6:av->Option V
 |.none=>some .bw
 |.bool b=>some (.bl b)
 |.int i _=>some (.int i)
 |.str x _=>some (.str x)
 |.bytes b _=>some (.Ac b)
 |.float b _=>some (.HJ b)
 |.ref a=>some (.ref a)
 |.type n=>some (.ty n)
 |_=>none
def b5.abs {x:V}{u:av}(r:b5 x u):aD6 u=some x:=by
 cases x with
 |bw=>cases r;rfl
 |bl _=>cases r;rfl
 |int _=>obtain⟨t,rfl⟩:=r;rfl
 |str _=>obtain⟨t,rfl⟩:=r;rfl
 |Ac _=>obtain⟨t,rfl⟩:=r;rfl
 |HJ _=>obtain⟨t,rfl⟩:=r;rfl
 |ref _=>cases r;rfl
 |ty _=>cases r;rfl
def b5.inj {x y:V}{u:av}(r:b5 x u)(q:b5 y u):x=y:=jr (r.abs.symm.trans q.abs)
def aQ.inj:∀{xs ys:List V}{us:List av},aQ xs us->aQ ys us->xs=ys
 |_,_,_,.nil,.nil=>rfl
 |_,_,_,.cons r t,.cons r' t'=>by rw[r.inj r',aQ.inj t t']
section
variable {X:Cx}{ag:List (ax×Obj)}{σ:St}{H:Hp}{s:aw}{a:ax}{xs ys:List V}
def aM.of {K:ad}(h:H a=some (.lst xs)):aM K H a xs:=.inl (.inl h)
def aW.of {K:ad}(h:H a=some (.tup xs)):aW K H a xs:=.inl (.inl h)
def a8.list (I:a8 X ag σ H s)(h:aM X.K H a xs):∃bh:List av,aQ xs bh/\PlainL s.heap a bh.toArray/\xs.length<=sizeLine:=by
 rcases h with h|⟨o,bh,n,hk,hc,hd,hs,hz,r⟩
 ·obtain⟨z,bh,n,r,e⟩:=h.ok I.cf
  exact⟨bh,r,⟨_,n,e,rfl,rfl,rfl⟩,z⟩
 ·refine⟨bh.toList,r,⟨o,n,I.BU a o hk,hc,hd,by simpa using hs⟩,?_⟩
  have e:=r.length;simp only[Dr]at e;omega
def a8.tuple (I:a8 X ag σ H s)(h:aW X.K H a xs):∃bh:List av,aQ xs bh/\IsTup s.heap a bh.toArray/\xs.length<=sizeLine:=by
 rcases h with h|⟨o,bh,n,hk,hc,hs,hz,r⟩
 ·obtain⟨z,bh,r,p,_⟩:=h.ok I.cf
  exact⟨bh,r,p,z⟩
 ·refine⟨bh.toList,r,⟨o,I.BU a o hk,hc,n,by simpa using hs⟩,?_⟩
  have e:=r.length;simp only[Dr]at e;omega
def a8.mj (I:a8 X ag σ H s)(h:aM X.K H a xs)(h':aM X.K H a ys):xs=ys:=by
 obtain⟨bh,r,⟨o,n,e,_,_,d⟩,_⟩:=I.list h
 obtain⟨its',r',⟨o',n',e',_,_,d'⟩,_⟩:=I.list h'
 rw[e]at e';cases e';rw[d]at d';injection d' with d1 _
 have:bh=its':=by simpa using congrArg Array.toList d1
 subst this;exact r.inj r'
def a8.tm (I:a8 X ag σ H s)(h:aW X.K H a xs)(h':aW X.K H a ys):xs=ys:=by
 obtain⟨bh,r,⟨o,e,_,n,d⟩,_⟩:=I.tuple h
 obtain⟨its',r',⟨o',e',_,n',d'⟩,_⟩:=I.tuple h'
 rw[e]at e';cases e';rw[d]at d';injection d' with d1 _
 have:bh=its':=by simpa using congrArg Array.toList d1
 subst this;exact r.inj r'
end
abbrev Cx.qw (X:Cx)(E:av->aw->Prop):Cx:={ X with xe:=E }
abbrev Cx.Bo (X:Cx):Cx:=X.qw λ_ _=>False
def Cx.Ok.qw {X:Cx}(ok:X.Ok)(E:av->aw->Prop):(X.qw E).Ok:=
 ⟨ok.mod,ok.kind,ok.glob,ok.blt,ok.above,ok.inj,ok.has,ok.Dg,ok.hd,ok.frames,ok.DB,ok.FH,ok.bs,ok.Aj,ok.vi,ok.zw,ok.lg,ok.AJ⟩
def Cx.Ok.kg {X:Cx}{E:av->aw->Prop}(ok:(X.qw E).Ok):X.Ok:=
 ⟨ok.mod,ok.kind,ok.glob,ok.blt,ok.above,ok.inj,ok.has,ok.Dg,ok.hd,ok.frames,ok.DB,ok.FH,ok.bs,ok.Aj,ok.vi,ok.zw,ok.lg,ok.AJ⟩
section
variable {X:Cx}{ag:List (ax×Obj)}{σ:St}{H:Hp}{s:aw}{E:av→aw→Prop}
def a8.qw (I:a8 X ag σ H s)(E:av->aw->Prop):a8 (X.qw E) ag σ H s:=⟨I.ok.qw E,I.os,I.bare,I.base,I.loc,I.cell,I.free,I.jm,I.pin,I.cf,I.len⟩
def a8.kg (I:a8 (X.qw E) ag σ H s):a8 X ag σ H s:=⟨I.ok.kg,I.os,I.bare,I.base,I.loc,I.cell,I.free,I.jm,I.pin,I.cf,I.len⟩
def SP.kg {D:dS}{f:Flow}{s':aw}(h:SP (X.qw E) ag D f s'):SP X ag D f s':=by
 cases f with
 |next=>obtain⟨cj,H',I,q⟩:=h;exact⟨cj,H',I.kg,q⟩
 |brk=>obtain⟨cj,H',I,q⟩:=h;exact⟨cj,H',I.kg,q⟩
 |cont=>obtain⟨cj,H',I,q⟩:=h;exact⟨cj,H',I.kg,q⟩
 |ret u=>obtain⟨v,cj,H',I,r,q⟩:=h;exact⟨v,cj,H',I.kg,r,q⟩
def fI.Bo {st:List Stmt}{t:TS}(h:fI X.Bo st t):fI X st t:=λag s σ H D I hw=>
 qp (h ag s σ H D (I.qw _) hw) (λ_ _ q=>q.kg) λ_ _ z=>False.elim z
end
section
variable {X:Cx}{st:Stmt}{dN:List Stmt}{t u:TS}{e:Expr}{te:TE}{pos:Pos}
def yA:TS:=λD σ H=>D.nx σ H
def O9 (t u:TS):TS:=λD σ H=>t { D with nx:=u D } σ H
def P3:fI X [] yA:=λ_ _ σ H _ I h=>wpAny_execs_nil ⟨σ,H,I,h⟩
def nO (h1:PS X st t)(h2:fI X dN u):fI X (st::dN) (O9 t u):=by
 intro ag s σ H D I h;refine wpAny_execs_cons (aR (h1 ag s σ H { D with nx:=u D } I h) λf s1 q=>?_);cases f with
 |next=>
  obtain⟨cj,H',I',q⟩:=q
  exact h2 ag s1 cj H' D I' q
 |ret v=>exact q
 |brk=>exact q
 |cont=>exact q
def lI (h1:PS X st t):fI X [st] t:=by
 intro ag s σ H D I h;refine wpAny_execs_cons (aR (h1 ag s σ H D I h) λf s1 q=>?_);cases f with
 |next=>exact wpAny_execs_nil q
 |ret v=>exact q
 |brk=>exact q
 |cont=>exact q
def a8.quiet {ag:List (ax×Obj)}{σ:St}{H:Hp}{s:aw}(I:a8 X ag σ H s):interactive X.env=false:=by simp[interactive,I.ok.kind]
def rB (te:TE):TS:=λD σ H=>te σ H λ_ H1=>D.nx σ H1
def mF (he:PE X e te)(hs:swapsWith e none pos.line X.env=pure false:=by rfl):PS X (.Expr e pos) (rB te):=by
 intro ag s σ H D I h;exact wpAny_Expr_any (aR (he ag s σ H _ I h) λv s1 ⟨x,H1,I1,r1,q1⟩=>⟨σ,H1,I1,q1⟩) I.quiet hs
def yC (te:TE):TS:=λD σ H=>te σ H D.rt
def oZ (he:PE X e te):PS X (.Return (some e) pos) (yC te):=by
 intro ag s σ H D I h;exact wpAny_Return_some (aR (he ag s σ H _ I h) λv s1 ⟨x,H1,I1,r1,q1⟩=>⟨x,σ,H1,I1,r1,q1⟩)
def yD (c:TT)(t u:TS):TS:=λD σ H=>c σ H λb H1=>if b=true then t D σ H1 else u D σ H1
def P4 {c:Expr}{a b:List Stmt}{tc:TT}(hc:PT X c tc)(ha:fI X a t)(hb:fI X b u):PS X (.If c a b pos) (yD tc t u):=by
 intro ag s σ H D I h;refine wpAny_If (aR (hc ag s σ H _ I h) λd s1 ⟨H1,I1,q1⟩=>?_);cases d with
 |true=>exact ha ag s1 σ H1 D I1 q1
 |false=>exact hb ag s1 σ H1 D I1 q1
end
abbrev TG:=V->St->Hp->(St->Hp->Prop)->Prop
abbrev nP:=List V->St->Hp->(St->Hp->Prop)->Prop
def PG (X:Cx)(target:Expr)(t:TG):Prop:=
 ∀(ag:List (ax×Obj)) (s:aw) (σ:St) (H:Hp) (v:V) (u:av) (Q:St->Hp->Prop),a8 X ag σ H s->b5 v u->t v σ H Q->
  wpAny (model X.prog X.w) X.A (assign target X.env u) (λ_ s'=>∃cj H',a8 X ag cj H' s'/\Q cj H') X.xe s
def tP (X:Cx)(ts:List Expr)(t:nP):Prop:=
 ∀(ag:List (ax×Obj)) (s:aw) (σ:St) (H:Hp) (vs:List V) (us:List av) (Q:St->Hp->Prop),a8 X ag σ H s->aQ vs us->t vs σ H Q->
  wpAny (model X.prog X.w) X.A (assignInOrder ((assignEach ts X.env).map (·.2)) us) (λ_ s'=>∃cj H',a8 X ag cj H' s'/\Q cj H') X.xe s
abbrev yE:=V->V->V->Hp->(Hp->Prop)->Prop
def P5 (X:Cx)(t:yE):Prop:=
 ∀(ag:List (ax×Obj)) (s:aw) (σ:St) (H:Hp) (o i v:V) (ov iv u:av) (Q:Hp->Prop),a8 X ag σ H s->b5 o ov->b5 i iv->b5 v u->t o i v H Q->
  wpAny (model X.prog X.w) X.A (setItem ov iv u) (λ_ s'=>∃H',a8 X ag σ H' s'/\Q H') X.xe s
section
variable {X:Cx}{pos:Pos}
def cZ (i:Nat):TG:=λv σ H Q=>Q (σ.set i (some v)) H
def gF {i:Nat}{x:Str}(hN:X.N.Nodup)(hi:X.N[i]? = some x)(hx:jX X.env.scope x)(hf:X.fn x=true∨X.env.scope.names.lookup x=some .local:=by first|exact .inl rfl|exact .inr rfl|assumption):PG X (.Name x pos) (cZ i):=by
 intro ag s σ H v u Q I r h;exact wpAny_assign_Name (O0 I hN hi hx r (λs' I'=>⟨_,H,I',h⟩) hf)
def lJ:nP:=λvs σ H Q=>vs = []/\Q σ H
def gG (t:TG)(u:nP):nP:=λvs σ H Q=>∃v r,vs=v::r/\t v σ H λcj H'=>u r cj H' Q
def p5:tP X [] lJ:=by
 intro ag s σ H vs us Q I r h
 obtain⟨e,h⟩:=h
 subst e;cases r;exact assignInOrder_nil ⟨σ,H,I,h⟩
def jG {e:Expr}{es:List Expr}{t:TG}{u:nP}(h1:PG X e t)(h2:tP X es u)(hs:(assignEach (e::es) X.env).map (·.2)=assign e X.env::(assignEach es X.env).map (·.2):=by rfl):tP X (e::es) (gG t u):=by
 intro ag s σ H vs us Q I r h
 obtain⟨v,vr,e1,h⟩:=h
 subst e1;cases r with
 |cons r rr=>
  rw[hs];refine assignInOrder_cons (aR (h1 ag s σ H _ _ _ I r h) λ_ s1 ⟨DA,H1,I1,q1⟩=>?_);exact h2 ag s1 DA H1 _ _ Q I1 rr q1
def lK (K:ad)(n:Nat)(t:nP):TG:=λv σ H Q=>∃a xs,v = .ref a/\aW K H a xs/\xs.length=n/\t xs σ H Q
def p6 {es:List Expr}{k:Nat}{t:nP}{n:Nat}(hc:X.calm=true)(h:tP X es t)(hn:(assignEach es X.env).length=n:=by rfl)(FA:(assignEach es X.env).findIdx? (·.1)=none:=by rfl):PG X (.Tuple es k pos) (lK X.K n t):=by
 intro ag s σ H v u Q I r hw
 obtain⟨a,xs,e1,hq,hl,hw⟩:=hw
 subst e1;cases r
 obtain⟨bh,rv,ht,hz⟩:=I.tuple hq
 refine assign_Tuple_tuple (I.ok.hd hc) ht (by simp[hn,<- hl,rv.length]) FA λh' hx=>?_
 have I1:a8 X ag σ H { s with heap:=h' }:=I.kept (t':=s.toks) λb o e=>hx b o (mr (jb e)) e
 exact h ag _ σ H xs _ Q I1 (by simpa using rv) hw
def yF (to ti:TE)(t:yE):TG:=λv σ H Q=>to σ H λo H1=>ti σ H1 λi H2=>t o i v H2 λH3=>Q σ H3
def aD7 {o i:Expr}{to ti:TE}{t:yE}(ho:PE X o to)(hi:PE X i ti)(hs:P5 X t)(ha:∀v,assign (.Subscript o i pos) X.env v=(do
   let ov <- holding [v] (eval o X.env)
   let iv <- holding [v,ov] (eval i X.env)
   standAt pos
   holding [v,ov,iv] (setItem ov iv v)
   release [v,ov,iv] []):=by intro _;rfl):PG X (.Subscript o i pos) (yF to ti t):=by
 intro ag s σ H v u Q I r h;rw[ha];refine bq (Al (aR (ho ag s σ H _ I h) λov s1 ⟨x,H1,I1,r1,q1⟩=>?_));refine bq (Al (aR (hi ag s1 σ H1 _ I1 q1) λiv s2 ⟨y,H2,I2,r2,q2⟩=>?_));refine bq (wpAny_standAt (bq (Al (aR (hs ag s2 σ H2 x y v ov iv u _ I2 r1 r2 r q2) λ_ s3 ⟨H3,I3,q3⟩=>?_))));exact wpAny_release ⟨σ,H3,I3,q3⟩
def mG (te:TE)(g:TG):TS:=λD σ H=>te σ H λx H1=>g x σ H1 D.nx
def aD8 {tg e:Expr}{te:TE}{g:TG}(he:PE X e te)(hg:PG X tg g)(hs:swapsWithSole [tg] e pos.line X.env=pure false:=by rfl)(hw:swappedStores [tg] e X.env=pure none:=by rfl)(h1:(assignEach [tg] X.env).map (·.2) = [assign tg X.env]:=by rfl):PS X (.Assign [tg] e pos) (mG te g):=by
 intro ag s σ H D I h;refine wpAny_Assign_stores (aR (he ag s σ H _ I h) λv s1 ⟨x,H1,I1,r1,q1⟩=>?_) hs hw;rw[h1];exact aR (hg ag s1 σ H1 x v _ I1 r1 q1) λ_ s2 q=>q
def yG {i:Nat}{x:Str}{e:Expr}{te:TE}{pos':Pos}(hN:X.N.Nodup)(hi:X.N[i]? = some x)(hx:jX X.env.scope x)(he:PE X e te)(hs:swapsWith e (some (.Name x pos')) pos.line X.env=pure false:=by rfl)(hf:X.fn x=true∨X.env.scope.names.lookup x=some .local:=by first|exact .inl rfl|exact .inr rfl|assumption) :
  PS X (.Assign [.Name x pos'] e pos) (mG te (cZ i)):=by
 intro ag s σ H D I h;refine wpAny_Assign_Name (aR (he ag s σ H _ I h) λv s1 ⟨y,H1,I1,r1,q1⟩=>?_) hs;exact O0 I1 hN hi hx r1 (λs2 I2=>⟨_,H1,I2,q1⟩) hf
end
section
variable {X:Cx}{pos:Pos}
def P6 (c:TT)(tb:TS):TS:=λD σ H=>∃W:Nat->St->Hp->Prop,(∃m,W m σ H)/\∀m σ H,W m σ H->
 c σ H λb H1=>if b=true then ∃N:St->Hp->Prop,(∀cj H',N cj H'->∃m',m'<m/\W m' cj H')/\tb { D with nx:=N,ct:=N,bk:=D.nx } σ H1 else D.nx σ H1
def aD9 {c:Expr}{body:List Stmt}{tc:TT}{tb:TS}(hp:PassesOwn (model X.prog X.w) X.A X.env X.xe)(hc:PT X c tc)(hb:fI X body tb):PS X (.While c body [] pos) (P6 tc tb):=by
 intro ag s σ H D I h
 obtain⟨W,⟨m0,w0⟩,turn⟩:=h
 refine wpAny_While (codeAny_whileLoop (λn s'=>∃cj H',a8 X ag cj H' s'/\W n cj H') ?_ m0 ⟨σ,H,I,w0⟩);rintro n s1 ⟨DA,H1,I1,w1⟩;refine Dj hp (aR (hc ag s1 DA H1 _ I1 (turn n DA H1 w1)) λb s2 ⟨H2,I2,q2⟩=>?_);cases b with
 |true=>
  obtain⟨N,hN,q2⟩:=q2
  rw[if_pos rfl];refine Dj hp (aR (hb ag s2 DA H2 _ I2 q2) λf s3 q3=>?_);cases f with
  |next=>
   obtain⟨vc,H3,I3,n3⟩:=q3
   obtain⟨m',hm,w3⟩:=hN vc H3 n3
   exact⟨m',hm,vc,H3,I3,w3⟩
  |cont=>
   obtain⟨vc,H3,I3,n3⟩:=q3
   obtain⟨m',hm,w3⟩:=hN vc H3 n3
   exact⟨m',hm,vc,H3,I3,w3⟩
  |brk=>exact q3
  |ret v=>exact q3
 |false=>
  rw[if_neg om];exact wpAny_execs_nil ⟨DA,H2,I2,q2⟩
end
structure It where
 go:Nat->Hp->Prop
 xq:Nat->Hp->V->Hp->Prop
 stop:Nat->Hp->Prop
def jH (X:Cx)(ag:List (ax×Obj))(H:Hp)(b:ax):Prop:=
 H b=none/\b≠X.env.locals/\b∉X.fs/\(b∈X.ex∨X.cx.heap.objs.size<=b)/\(∀x c,X.env.cells.lookup x=some c->c≠b)/\∀p∈X.pn++ag,p.1≠b
def a8.jx {X:Cx}{ag:List (ax×Obj)}{σ:St}{H H':Hp}{s:aw}{b:ax}(I:a8 X ag σ H s)(hb:s.heap.objs.size<=b)(hn:H' b=none):jH X ag H' b:=by
 refine⟨hn,yy (ly I.lt hb),I.Gn hb,.inr (og I.sz hb),λx c e z=>?_,λp hp z=>?_⟩
 ·obtain⟨v,q⟩:=I.cell x c e
  exact absurd (ly q.lt (by rw[z];exact hb)) (uc _)
 ·exact absurd (ly (jb (I.pin p hp).1) (by rw[z];exact hb)) (uc _)
structure jY (P:ay)(w:ba)(K:ad)(tg:Expr)(J:It)(fp:List ax)(it:ax)(tn:Nat->Heap->Prop):Prop where
 mem:it∈fp
 obj:∀i h,tn i h->∀b∈fp,∃o,h.get? b=some o/\∀v,o.data≠.cell v
 keep:∀i h h',tn i h->(∀b∈fp,∀o,h.get? b=some o->h'.get? b=some o)->tn i h'
 item:∀(X:Cx),X.prog=P->X.w=w->X.K=K->X.calm=true->∀(i:Nat) (ag:List (ax×Obj)) (s:aw) (σ:St) (H:Hp) (E:av->aw->Prop),a8 X ag σ H s->(∀b∈fp,jH X ag H b)->tn i s.heap->J.go i H->
  wpAny (model P w) X.A (pyNext (.ref it)) (λr s1=>∃u,r=some u/\
   wpAny (model P w) X.A (letOwnedTupleGo tg (.ref it) u) (λ_ s2=>∃x H',a8 X ag σ H' s2/\b5 x u/\J.xq i H x H'/\tn (i+1) s2.heap/\∀b∈fp,H' b=none) E s1) E s
 done:∀(X:Cx),X.prog=P->X.w=w->X.K=K->X.calm=true->∀(i:Nat) (ag:List (ax×Obj)) (s:aw) (σ:St) (H:Hp) (E:av->aw->Prop),a8 X ag σ H s->(∀b∈fp,jH X ag H b)->tn i s.heap->J.stop i H->
  wpAny (model P w) X.A (pyNext (.ref it)) (λr s1=>r=none/\a8 X ag σ H s1) E s
 self:∀(A:az) (i:Nat) (s:aw) (Q:av->aw->Prop) (E:av->aw->Prop),tn i s.heap->Q (.ref it) s->wpAny (model P w) A (pyIter (.ref it)) Q E s
abbrev TI:=St->Hp->(It->Hp->Prop)->Prop
def P7 (X:Cx)(ag:List (ax×Obj))(σ:St)(tg:Expr)(R:It->Hp->Prop)(DG:av)(s2:aw):Prop:=
 ∃(it:ax) (fp:List ax) (tn:Nat->Heap->Prop) (J:It) (H':Hp),DG = .ref it/\a8 X ag σ H' s2/\jY X.prog X.w X.K tg J fp it tn/\tn 0 s2.heap/\(∀b∈fp,jH X ag H' b)/\R J H'
def PI (X:Cx)(tg iter:Expr)(wi:TI):Prop:=
 ∀(ag:List (ax×Obj)) (s:aw) (σ:St) (H:Hp) (R:It->Hp->Prop),a8 X ag σ H s->wi σ H R->
  wpAny (model X.prog X.w) X.A (eval iter X.env) (λv s1=>wpAny (model X.prog X.w) X.A (pyIter v) (P7 X ag σ tg R) X.xe s1) X.xe s
def rC {M:Model}{A:az}{E:av->aw->Prop}{s:aw}{tg:Expr}{it:ax}{u:av}{o:Obj}{n:String}{vs:Array av}{Q:Unit->aw->Prop}(ho:s.heap.get? it=some o)(hc:o.cls = .type n)(hd:o.data = .fields vs)(hn:["enumerate","zip","dict_itemiterator","dict_reverseitemiterator","odict_iterator","itertools.zip_longest","itertools.pairwise"].contains n=false)(hQ:Q () s):wpAny M A (letOwnedTupleGo tg (.ref it) u) Q E s:=by
  unfold letOwnedTupleGo;cases tg<;>first
    |exact ei hQ
    |(cases u<;>first
        |exact ei hQ
        | (refine bq (wpAny_load ho ?_)
           rw[hc,hd];show wpAny M A (if (["enumerate","zip","dict_itemiterator","dict_reverseitemiterator","odict_iterator","itertools.zip_longest","itertools.pairwise"].contains n&&vs[0]?==some (rawInt _))=true then _ else _) Q E s;rw[if_neg (by intro h;rw[hn,Bool.false_and]at h;cases h)]
           exact ei hQ))
def p7 (K:ad)(a:ax):It:=
 ⟨λi H=>∃xs x,aM K H a xs/\xs[i]? = some x,λi H x H'=>H'=H/\∀xs,aM K H a xs->xs[i]? = some x,λi H=>∃xs,aM K H a xs/\xs.length<=i⟩
def mH (K:ad)(a:ax):It:=
 ⟨λi H=>∃xs x,aW K H a xs/\xs[i]? = some x,λi H x H'=>H'=H/\∀xs,aW K H a xs->xs[i]? = some x,λi H=>∃xs,aW K H a xs/\xs.length<=i⟩
def rD (lo:Int)(n:Nat):It:=⟨λi _=>i<n,λi H x H'=>H'=H/\x = .int (lo+i),λi _=>n<=i⟩
def aE0 {P:ay}{w:ba}{K:ad}{tg:Expr}(a it:ax):jY P w K tg (p7 K a) [it] it (λi h=>h.IsListIter it a i) where
 mem:=by simp
 obj:=λi h st b hb=>by
  have e:b=it:=by simpa using hb
  subst e
  obtain⟨o,e,c,d⟩:=st
  exact⟨o,e,λv z=>by rw[d]at z;cases z⟩
 keep:=λi h h' st k=>st.at λo e=>k it (by simp) o e
 item:=by
  intro X hP hw hK hc i ag s σ H E I hf st hg;subst hP hw hK
  obtain⟨xs,x,hq,hx⟩:=hg
  obtain⟨bh,rv,p,hz⟩:=I.list hq
  obtain⟨u,hu,ru⟩:=rv.get hx
  obtain⟨f0,f1,f2,f3,f4,f5⟩:=hf it (by simp)
  refine wpAny_pyNext_list_item st p.isList (x:=u) (by simpa using hu) λh' uz sb=>?_
  have I1:a8 X ag σ H { s with heap:=h' }:=I.turned (t':=s.toks) (λb o hb e=>(sb.2 b hb).trans e) f0 f1 f3 f4 f5
  obtain⟨o,e,c,d⟩:=id uz
  exact⟨u,rfl,rC (s:={ s with heap:=h' }) e c d (by decide) ⟨x,H,I1,ru,⟨rfl,λys hy=>by rw[I.mj hy hq];exact hx⟩,uz,λb hb=>(hf b hb).1⟩⟩
 done:=by
  intro X hP hw hK hc i ag s σ H E I hf st hg;subst hP hw hK
  obtain⟨xs,hq,hx⟩:=hg
  obtain⟨bh,rv,p,hz⟩:=I.list hq
  obtain⟨f0,f1,f2,f3,f4,f5⟩:=hf it (by simp)
  have hl:=rv.length;exact wpAny_pyNext_list_end (I.ok.hd hc) st p.isList (by simp;omega) λh' eb=>⟨rfl,I.turned (t':=s.toks) (λb o hb e=>eb b o hb e) f0 f1 f3 f4 f5⟩
 self:=λ_ _ _ _ _ st h=>wpAny_pyIter_listiter st h
def P8 {P:ay}{w:ba}{K:ad}{tg:Expr}(a it:ax):jY P w K tg (mH K a) [it] it (λi h=>h.IsTupleIter it a i) where
 mem:=by simp
 obj:=λi h st b hb=>by
  have e:b=it:=by simpa using hb
  subst e
  obtain⟨o,e,c,d⟩:=st
  exact⟨o,e,λv z=>by rw[d]at z;cases z⟩
 keep:=λi h h' st k=>st.at λo e=>k it (by simp) o e
 item:=by
  intro X hP hw hK hc i ag s σ H E I hf st hg;subst hP hw hK
  obtain⟨xs,x,hq,hx⟩:=hg
  obtain⟨bh,rv,p,hz⟩:=I.tuple hq
  obtain⟨u,hu,ru⟩:=rv.get hx
  obtain⟨f0,f1,f2,f3,f4,f5⟩:=hf it (by simp)
  refine wpAny_pyNext_tuple_item st (show s.heap.IsTuple a bh.toArray from p) (x:=u) (by simpa using hu) λh' uz sb=>?_
  have I1:a8 X ag σ H { s with heap:=h' }:=I.turned (t':=s.toks) (λb o hb e=>(sb.2 b hb).trans e) f0 f1 f3 f4 f5
  obtain⟨o,e,c,d⟩:=id uz
  exact⟨u,rfl,rC (s:={ s with heap:=h' }) e c d (by decide) ⟨x,H,I1,ru,⟨rfl,λys hy=>by rw[I.tm hy hq];exact hx⟩,uz,λb hb=>(hf b hb).1⟩⟩
 done:=by
  intro X hP hw hK hc i ag s σ H E I hf st hg;subst hP hw hK
  obtain⟨xs,hq,hx⟩:=hg
  obtain⟨bh,rv,p,hz⟩:=I.tuple hq
  obtain⟨f0,f1,f2,f3,f4,f5⟩:=hf it (by simp)
  have hl:=rv.length;exact wpAny_pyNext_tuple_end (I.ok.hd hc) st (show s.heap.IsTuple a bh.toArray from p) (by simp;omega) λh' eb=>⟨rfl,I.turned (t':=s.toks) (λb o hb e=>eb b o hb e) f0 f1 f3 f4 f5⟩
 self:=λ_ _ _ _ _ st h=>wpAny_pyIter_tupleiter st h
def aE1 {P:ay}{w:ba}{K:ad}{tg:Expr}(it:ax)(lo:Int)(n:Nat):jY P w K tg (rD lo n) [it] it (λi h=>IsRangeIter h it (lo+(i:Nat)*1) ((n:Int)-(i:Nat)) 1) where
 mem:=by simp
 obj:=λi h st b hb=>by
  have e:b=it:=by simpa using hb
  subst e
  exact⟨_,st,λv z=>by
   have z':Data.fields _=Data.cell v:=z
   cases z'⟩
 keep:=λi h h' st k=>k it (by simp) _ st
 item:=by
  intro X hP hw hK hc i ag s σ H E I hf st hg;subst hP hw hK
  obtain⟨f0,f1,f2,f3,f4,f5⟩:=hf it (by simp)
  have W:=Walks.range (prog:=X.prog) (w:=X.w) (I.ok.hd hc) it lo 1 n;refine W.item i s _ _ hg st λv h' tk hv uz kk=>?_
  obtain⟨t,rfl⟩:=hv
  have I1:a8 X ag σ H { s with heap:=h',toks:=tk }:=I.turned (λb o hb e=>kk b o (by simpa using hb) e) f0 f1 f3 f4 f5;refine⟨_,rfl,rC (s:={ s with heap:=h',toks:=tk }) (n:="range_iterator") uz rfl rfl (by decide) ⟨.int (lo+i),H,I1,⟨t,?_⟩,⟨rfl,rfl⟩,uz,λb hb=>(hf b hb).1⟩⟩;rw[Int.mul_one]
 done:=by
  intro X hP hw hK hc i ag s σ H E I hf st hg;subst hP hw hK
  obtain⟨f0,f1,f2,f3,f4,f5⟩:=hf it (by simp)
  exact wpAny_pyNext_range_end (I.ok.hd hc) st (by have:n<=i:=hg;omega) λh' eb=>⟨rfl,I.turned (t':=s.toks) (λb o hb e=>eb b o hb e) f0 f1 f3 f4 f5⟩
 self:=λ_ _ _ _ _ st h=>wpAny_pyIter_rangeiter st h
section
variable {X:Cx}{tg:Expr}
def aE2 (K:ad)(tl:TE):TI:=λσ H R=>tl σ H λx H1=>∃a,x = .ref a/\(∃xs,aW K H1 a xs)/\R (mH K a) H1
def tQ {l:Expr}{tl:TE}(hl:PE X l tl):PI X tg l (aE2 X.K tl):=by
 intro ag s σ H R I h;refine aR (hl ag s σ H _ I h) λv s1 ⟨x,H1,I1,r1,q1⟩=>?_
 obtain⟨a,e,⟨xs,hq⟩,q⟩:=q1
 subst e;cases r1
 obtain⟨bh,rv,p,hz⟩:=I1.tuple hq
 refine wpAny_pyIter_tuple (show s1.heap.IsTuple a bh.toArray from p) ?_;refine⟨s1.heap.objs.size,[s1.heap.objs.size],_,_,H1,rfl,I1.kept (t':=s1.toks) λb o e=>ic _ e,P8 a _,⟨_,my _ rfl,rfl,rfl⟩,λb hb=>?_,q⟩;have e:b=s1.heap.objs.size:=by simpa using hb
 subst e;exact I1.jx (de _) (I1.cf.fresh (de _))
def P9 {ag:List (ax×Obj)}{σ:St}{H:Hp}{s:aw}{R:It->Hp->Prop}{E:av->aw->Prop}{lo hi:Int}{t u v:Tok}{tk:Nat}(I:a8 X ag σ H s)(h1:-(2^62)<=lo)(h2:lo<2^62)(h3:-(2^62)<=hi)(h4:hi<2^62)(q:R (rD lo (hi-lo).toNat) H):wpAny (model X.prog X.w) X.A (pyIter (.ref s.heap.objs.size)) (P7 X ag σ tg R) E { s with heap:=s.heap.push { cls:=.type "range",data:=.fields #[.int lo t,.int hi u,.int 1 v] },toks:=tk }:=by
 refine wpAny_pyIter_range (IsRange.new ..) (small_one h1 h2 h3 h4) ?_;have I1:a8 X ag σ H { s with heap:=s.heap.push { cls:=.type "range",data:=.fields #[.int lo t,.int hi u,.int 1 v] },toks:=tk }:=I.kept λb o e=>ic _ e
 refine⟨(s.heap.push { cls:=.type "range",data:=.fields #[.int lo t,.int hi u,.int 1 v] }).objs.size,[(s.heap.push { cls:=.type "range",data:=.fields #[.int lo t,.int hi u,.int 1 v] }).objs.size],_,_,H,rfl,
  I1.kept (t':=tk) λb o e=>ic _ e,aE1 _ lo (hi-lo).toNat,?_,λb hb=>?_,q⟩
 ·have e1:lo+((0:Nat):Int)*1=lo:=by simp
  have e2:(((hi-lo).toNat:Nat):Int)-((0:Nat):Int)=Builtin.Range.rangeSize lo hi 1:=by rw[rangeSize_one];split<;>omega
  show IsRangeIter _ _ (lo+((0:Nat):Int)*1) ((((hi-lo).toNat:Nat):Int)-((0:Nat):Int)) 1;rw[e1,e2];exact my _ rfl
 ·have e:b=(s.heap.push { cls:=.type "range",data:=.fields #[.int lo t,.int hi u,.int 1 v] }).objs.size:=by simpa using hb
  subst e;exact I1.jx (de _) (I1.cf.fresh (de _))
def Q0 (ta:TA):TI:=λσ H R=>ta σ H λvs H1=>∃j:Int,vs = [.int j]/\-(2^62)<=j/\j<2^62/\R (rD 0 j.toNat) H1
def Q2 (ta:TA):TI:=λσ H R=>ta σ H λvs H1=>∃i j:Int,vs = [.int i,.int j]/\(-(2^62)<=i/\i<2^62/\-(2^62)<=j/\j<2^62)/\R (rD i (j-i).toNat) H1
def aE3 {a:Expr}{ta:TA}{p pos:Pos}(hg:Gl X "range")(hm:X.mg "range" = none)(ha:PA X [a] ta)(hs:starEach [a] X.env = [(false,eval a X.env)]:=by rfl):PI X tg (.Call (.Name "range" p) [a] [] pos) (Q0 ta):=by
 intro ag s σ H R I h;refine Call_ (lH I hg hm boot_range (Cm (aR (ha pos ag s σ H _ I h) λus s1 ⟨vs,H1,I1,r1,q1⟩=>?_) hs rfl))
 obtain⟨j,e,q1,q2,q⟩:=q1
 subst e;cases r1 with
 |cons r rr=>
  cases rr
  obtain⟨t,rfl⟩:=r
  exact call_range_1 (P9 I1 (by omega) (by omega) q1 q2 (by simpa using q))
def aE4 {a b:Expr}{ta:TA}{p pos:Pos}(hg:Gl X "range")(hm:X.mg "range" = none)(ha:PA X [a,b] ta)(hs:starEach [a,b] X.env = [(false,eval a X.env),(false,eval b X.env)]:=by rfl)(yv:starEach [b] X.env = [(false,eval b X.env)]:=by rfl) :
  PI X tg (.Call (.Name "range" p) [a,b] [] pos) (Q2 ta):=by
 intro ag s σ H R I h;refine Call_ (lH I hg hm boot_range (Cm (aR (ha pos ag s σ H _ I h) λus s1 ⟨vs,H1,I1,r1,q1⟩=>?_) (by rw[hs,yv]) (by rw[yv];rfl)))
 obtain⟨i,j,e,⟨q1,q2,q3,q4⟩,q⟩:=q1
 subst e;cases r1 with
 |cons r rr=>
  cases rr with
  |cons r' rr=>
   cases rr
   obtain⟨t,rfl⟩:=r
   obtain⟨t',rfl⟩:=r'
   exact call_range_2 (P9 I1 q1 q2 q3 q4 q)
def tR (wi:TI)(g:TG)(tb:TS):TS:=λD σ H=>wi σ H λJ H1=>∃W:Nat->Nat->St->Hp->Prop,(∃m,W 0 m σ H1)/\∀i m σ H,W i m σ H->
 (J.stop i H/\D.nx σ H)∨(J.go i H/\∃N:St->Hp->Prop,(∀cj H',N cj H'->∃m',m'<m/\W (i+1) m' cj H')/\∀x H',J.xq i H x H'->g x σ H' λkb H2=>tb { D with nx:=N,ct:=N,bk:=D.nx } kb H2)
def rE (fp:List ax)(h:Heap):List (ax×Obj):=fp.filterMap λb=>(h.get? b).map λo=>(b,o)
def tS {fp:List ax}{h:Heap}{b:ax}{o:Obj}(hb:b∈fp)(e:h.get? b=some o):(b,o)∈rE fp h:=DT.mpr ⟨b,hb,by rw[e];rfl⟩
def aE5 {fp:List ax}{h:Heap}{p:ax×Obj}(hp:p∈rE fp h):p.1∈fp/\h.get? p.1=some p.2:=by
 obtain⟨b,hb,e⟩:=DT.mp hp
 cases q:h.get? b with
 |none=>rw[q]at e;cases e
 |some o=>
  rw[q]at e;have e':(b,o)=p:=jr e;subst e'
  exact⟨hb,q⟩
def a8.pinned {ag:List (ax×Obj)}{σ:St}{H:Hp}{s:aw}{fp:List ax}(I:a8 X ag σ H s)(hf:∀b∈fp,jH X ag H b)(ho:∀b∈fp,∃o,s.heap.get? b=some o/\∀v,o.data≠.cell v):a8 X (ag++rE fp s.heap) σ H s:=
 I.yq λp hp=>(fi.mp hp).elim (λz=>I.pin p (qt _ z)) λz=>by
  obtain⟨hb,e⟩:=aE5 z
  obtain⟨f0,f1,f2,_⟩:=hf p.1 hb
  obtain⟨o,e',d⟩:=ho p.1 hb
  rw[e]at e';cases e'
  exact⟨e,f0,f1,f2,d⟩
def a8.mf {ag pl:List (ax×Obj)}{σ:St}{H:Hp}{s:aw}(I:a8 X (ag++pl) σ H s):a8 X ag σ H s:=I.yq λp hp=>I.pin p (qt _ (pb _ hp))
def tT {iter:Expr}{body:List Stmt}{wi:TI}{g:TG}{tb:TS}{pos:Pos}(hp:PassesOwn (model X.prog X.w) X.A X.env X.xe)(hc:X.calm=true)(hi:PI X tg iter wi)(hg:PG X tg g)(hb:fI X body tb)(hs:∀x,foldedSetIterable iter X.env x=pure x:=by intro _;rfl):PS X (.For tg iter body [] pos) (tR wi g tb):=by
 intro ag s σ H D I h;refine wpAny_For (aR (hi ag s σ H _ I h) λv s1 h1=>aR h1 λDG s2 h2=>?_) hs
 obtain⟨it,fp,tn,J,H2,e,I2,T,zh,f2,W,⟨m0,w0⟩,turn⟩:=h2
 subst e;have vf:∀{H':Hp},(∀b∈fp,H' b=none)->∀b∈fp,jH X ag H' b:=λhn b hb=>⟨hn b hb,(f2 b hb).2⟩
 refine codeAny_forLoop_any (λn s'=>∃i cj H',a8 X ag cj H' s'/\tn i s'.heap/\(∀b∈fp,H' b=none)/\W i n cj H') ?_ m0 ⟨0,σ,H2,I2,zh,λb hb=>(f2 b hb).1,w0⟩;rintro n s3 ⟨i,vc,H3,I3,Ed,ES,w3⟩;rcases turn i n vc H3 w3 with⟨stop,qn⟩|⟨go,N,hN,step⟩
 ·refine Dj hp (aR (T.done X rfl rfl rfl hc i ag s3 vc H3 X.xe I3 (vf ES) Ed stop) λr s4 ⟨hr,I4⟩=>?_)
  subst hr;exact wpAny_execs_nil ⟨vc,H3,I4,qn⟩
 ·refine Dj hp (aR (T.item X rfl rfl rfl hc i ag s3 vc H3 X.xe I3 (vf ES) Ed go) λr s4 ⟨u,hr,h4⟩=>?_)
  subst hr;refine Dj hp (aR h4 λ_ s5 ⟨x,H5,I5,r5,y5,Cr,HI⟩=>?_);have HX:=I5.pinned (vf HI) (T.obj _ _ Cr);refine Dj hp (aR (hg _ s5 vc H5 x u _ HX r5 (step x H5 y5)) λ_ s6 ⟨Dz,H6,I6,q6⟩=>?_);refine Dj hp (aR (hb _ s6 Dz H6 _ I6 q6) λf s7 q7=>?_);have again:∀{Ao:St}{H7:Hp},a8 X (ag++rE fp s5.heap) Ao H7 s7->N Ao H7->∃m,m<n/\∃i cj H',a8 X ag cj H' s7/\tn i s7.heap/\(∀b∈fp,H' b=none)/\W i m cj H':=λ{Ao H7} I7 n7=>by
   obtain⟨m',hm,w7⟩:=hN Ao H7 n7
   refine⟨m',hm,i+1,Ao,H7,I7.mf,T.keep _ _ _ Cr λb hb o e=>(I7.pin (b,o) (qt _ (qt _ (tS hb e)))).1,λb hb=>?_,w7⟩
   obtain⟨o,e,d⟩:=T.obj _ _ Cr b hb
   exact (I7.pin (b,o) (qt _ (qt _ (tS hb e)))).2.1
  cases f with
  |next=>obtain⟨Ao,H7,I7,n7⟩:=q7;exact again I7 n7
  |cont=>obtain⟨Ao,H7,I7,n7⟩:=q7;exact again I7 n7
  |brk=>obtain⟨Ao,H7,I7,q7⟩:=q7;exact⟨Ao,H7,I7.mf,q7⟩
  |ret v=>obtain⟨x7,Ao,H7,I7,r7,q7⟩:=q7;exact⟨x7,Ao,H7,I7.mf,r7,q7⟩
end
def bF4 {K:ad}{a:ax}{xs:List V}{g:TG}{tb:TS}{D:dS}{σ:St}{H:Hp}(Pv:Nat->St->Hp->Prop)(h0:Pv 0 σ H)(hl:∀i σ H,i<=xs.length->Pv i σ H->aM K H a xs)(hs:∀i x σ H,xs[i]? = some x->Pv i σ H->g x σ H λkb H2=>tb { D with nx:=Pv (i+1),ct:=Pv (i+1),bk:=D.nx } kb H2)(hd:∀σ H,Pv xs.length σ H->D.nx σ H) :
  ∃W:Nat->Nat->St->Hp->Prop,(∃m,W 0 m σ H)/\∀i m σ H,W i m σ H->
   ((p7 K a).stop i H/\D.nx σ H)∨((p7 K a).go i H/\∃N:St->Hp->Prop,(∀cj H',N cj H'->∃m',m'<m/\W (i+1) m' cj H')/\∀x H',(p7 K a).xq i H x H'->g x σ H' λkb H2=>tb { D with nx:=N,ct:=N,bk:=D.nx } kb H2):=by
 refine⟨λi m σ H=>m=xs.length-i/\i<=xs.length/\Pv i σ H,⟨xs.length,by simp,ng _,h0⟩,?_⟩;rintro i m σ H ⟨rfl,hi,p⟩;have q:=hl i σ H hi p;by_cases jw:i<xs.length
 ·refine .inr ⟨⟨xs,xs[i],q,by simp[jw]⟩,Pv (i+1),λcj H' p'=>⟨xs.length-(i+1),by omega,rfl,jw,p'⟩,λx H' y=>?_⟩
  obtain⟨e,y⟩:=y
  subst e;exact hs i x σ _ (y xs q) p
 ·have e:i=xs.length:=by omega
  subst e;exact .inl ⟨⟨xs,q,de _⟩,hd σ H p⟩
def Q3 {K:ad}{a:ax}{xs:List V}{g:TG}{tb:TS}{D:dS}{σ:St}{H:Hp}(Pv:Nat->St->Hp->Prop)(h0:Pv 0 σ H)(hl:∀i σ H,i<=xs.length->Pv i σ H->aW K H a xs)(hs:∀i x σ H,xs[i]? = some x->Pv i σ H->g x σ H λkb H2=>tb { D with nx:=Pv (i+1),ct:=Pv (i+1),bk:=D.nx } kb H2)(hd:∀σ H,Pv xs.length σ H->D.nx σ H) :
  ∃W:Nat->Nat->St->Hp->Prop,(∃m,W 0 m σ H)/\∀i m σ H,W i m σ H->
   ((mH K a).stop i H/\D.nx σ H)∨((mH K a).go i H/\∃N:St->Hp->Prop,(∀cj H',N cj H'->∃m',m'<m/\W (i+1) m' cj H')/\∀x H',(mH K a).xq i H x H'->g x σ H' λkb H2=>tb { D with nx:=N,ct:=N,bk:=D.nx } kb H2):=by
 refine⟨λi m σ H=>m=xs.length-i/\i<=xs.length/\Pv i σ H,⟨xs.length,by simp,ng _,h0⟩,?_⟩;rintro i m σ H ⟨rfl,hi,p⟩;have q:=hl i σ H hi p;by_cases jw:i<xs.length
 ·refine .inr ⟨⟨xs,xs[i],q,by simp[jw]⟩,Pv (i+1),λcj H' p'=>⟨xs.length-(i+1),by omega,rfl,jw,p'⟩,λx H' y=>?_⟩
  obtain⟨e,y⟩:=y
  subst e;exact hs i x σ _ (y xs q) p
 ·have e:i=xs.length:=by omega
  subst e;exact .inl ⟨⟨xs,q,de _⟩,hd σ H p⟩
abbrev R2:=V->V->Hp->VK->Prop
def cQ (X:Cx)(f:av->av->Sem av)(r:R2):Prop:=
 ∀(ag:List (ax×Obj)) (s:aw) (σ:St) (H:Hp) (x y:V) (v u:av) (Q:VK),a8 X ag σ H s->b5 x v->b5 y u->r x y H Q->
  wpAny (model X.prog X.w) X.A (f v u) (EP X ag σ Q) X.xe s
def dU (X:Cx)(f:av)(r:List V->Hp->VK->Prop):Prop:=
 ∀(ag:List (ax×Obj)) (s:aw) (σ:St) (H:Hp) (xs:List V) (us:List av) (Q:VK),a8 X ag σ H s->aQ xs us->r xs H Q->
  wpAny (model X.prog X.w) X.A (call f us) (EP X ag σ Q) X.xe s
def aE6 (X:Cx)(r:V->Hp->(Bool->Hp->Prop)->Prop):Prop:=
 ∀(ag:List (ax×Obj)) (s:aw) (σ:St) (H:Hp) (x:V) (v:av) (Q:Bool->Hp->Prop),a8 X ag σ H s->b5 x v->r x H Q->
  wpAny (model X.prog X.w) X.A (truthy v) (TP X ag σ Q) X.xe s
def rF (r:R2)(ta tb:TE):TE:=λσ H Q=>ta σ H λx H1=>tb σ H1 λy H2=>r x y H2 Q
def rI (C:Int->Int->Prop)(g:Int->Int->V):R2:=λx y H Q=>∃i j,x = .int i/\y = .int j/\C i j/\Q (g i j) H
def kO (g:Int->Int->V):R2:=λx y H Q=>∃i j,x = .int i/\y = .int j/\Q (g i j) H
section
variable {X:Cx}{a b c:Expr}{ta tb tc:TE}{pos:Pos}
def yH (ha:PE X a ta)(hb:PE X b tb){ag:List (ax×Obj)}{s:aw}{σ:St}{H:Hp}{R:V->V->Hp->Prop}(I:a8 X ag σ H s)(h:ta σ H λx H1=>tb σ H1 λy H2=>R x y H2){Q:av->aw->Prop}{f:av->av->Sem av}(hf:∀v u s2 x y H2,a8 X ag σ H2 s2->b5 x v->b5 y u->R x y H2->wpAny (model X.prog X.w) X.A (f v u) Q X.xe s2) :
  wpAny (model X.prog X.w) X.A (eval a X.env) (λv bz=>wpAny (model X.prog X.w) X.A (eval b X.env) (λu qx=>wpAny (model X.prog X.w) X.A (f v u) Q X.xe qx) X.xe bz) X.xe s:=by
 refine aR (ha ag s σ H _ I h) λv s1 ⟨x,H1,I1,r1,q1⟩=>?_
 refine aR (hb ag s1 σ H1 _ I1 q1) λu s2 ⟨y,H2,I2,r2,q2⟩=>?_
 exact hf v u s2 x y H2 I2 r1 r2 q2
def aE7 {op:Operator}{r:R2}(ho:cQ X (binaryOp op) r)(ha:PE X a ta)(hb:PE X b tb):PE X (.BinOp a op b pos) (rF r ta tb):=by
 intro ag s σ H Q I h;exact wpAny_BinOp (yH ha hb I h λv u s2 x y H2 I2 rx ry q=>ho ag s2 σ H2 x y v u Q I2 rx ry q)
def tU {f:av->av->Sem av}{C:Int->Int->Prop}{g:Int->Int->Int}(rule:∀(i j:Int) (t u:Tok) (s:aw) (Q:av->aw->Prop) (E:av->aw->Prop),C i j->Q (.int (g i j) s.toks) { s with toks:=s.toks+1 }->wpAny (model X.prog X.w) X.A (f (.int i t) (.int j u)) Q E s) :
  cQ X f (rI C λi j=>.int (g i j)):=by
 intro ag s σ H x y v u Q I rx ry h
 obtain⟨i,j,rfl,rfl,hc,q⟩:=h
 obtain⟨t,rfl⟩:=rx
 obtain⟨t',rfl⟩:=ry
 exact rule i j t t' s _ _ hc ⟨.int (g i j),H,I.tok _,⟨_,rfl⟩,q⟩
def Q4 {f:av->av->Sem av}{g:Int->Int->Int}(rule:∀(i j:Int) (t u:Tok) (s:aw) (Q:av->aw->Prop) (E:av->aw->Prop),Q (.int (g i j) s.toks) { s with toks:=s.toks+1 }->wpAny (model X.prog X.w) X.A (f (.int i t) (.int j u)) Q E s) :
  cQ X f (kO λi j=>.int (g i j)):=by
 intro ag s σ H x y v u Q I rx ry h
 obtain⟨i,j,rfl,rfl,q⟩:=h
 obtain⟨t,rfl⟩:=rx
 obtain⟨t',rfl⟩:=ry
 exact rule i j t t' s _ _ ⟨.int (g i j),H,I.tok _,⟨_,rfl⟩,q⟩
def tV {f:av->av->Sem av}{g:Int->Int->Bool}(rule:∀(i j:Int) (t u:Tok) (s:aw) (Q:av->aw->Prop) (E:av->aw->Prop),Q (.bool (g i j)) s->wpAny (model X.prog X.w) X.A (f (.int i t) (.int j u)) Q E s) :
  cQ X f (kO λi j=>.bl (g i j)):=by
 intro ag s σ H x y v u Q I rx ry h
 obtain⟨i,j,rfl,rfl,q⟩:=h
 obtain⟨t,rfl⟩:=rx
 obtain⟨t',rfl⟩:=ry
 exact rule i j t t' s _ _ ⟨.bl (g i j),H,I,rfl,q⟩
def yI (i j:Int):Prop:=0<j/\j<1073741824
def yJ (i j:Int):Prop:=0<=j/\j<=1000000/\i.natAbs<2^64
def rG (i j:Int):Prop:=(-(2^64)<i/\i<2^64)∨(-(2^64)<j/\j<2^64)
def rG.ok {i j:Int}(h:rG i j):IntMulOk i j:=by
 rcases h with⟨h1,h2⟩|⟨h1,h2⟩
 ·exact .of_left (intBits_le_64 h1 h2)
 ·exact .of_right (intBits_le_64 h1 h2)
def aE8:cQ X (binaryOp .Add) (kO λi j=>.int (i+j)):=Q4 λ_ _ _ _ _ _ _ q=>add_int q
def aE9:cQ X (binaryOp .Sub) (kO λi j=>.int (i-j)):=Q4 λ_ _ _ _ _ _ _ q=>sub_int q
def aF0:cQ X (binaryOp .Mult) (rI rG λi j=>.int (i*j)):=tU λ_ _ _ _ _ _ _ hc q=>mul_int q hc.ok
def aF1:cQ X (binaryOp .FloorDiv) (rI yI λi j=>.int (i/j)):=tU λi j _ _ _ _ _ hc q=>by
 have h1:(0:Int)<j:=hc.1;have h2:j<1073741824:=hc.2;exact floordiv_int (by omega) (by rw[Int.fdiv_eq_ediv_of_nonneg i (by omega)];exact q) (.inl (PyProof.noPylong_small (by omega)))
def aF2:cQ X (binaryOp .Mod) (rI (λ_ j=>0<j) λi j=>.int (i%j)):=tU λi j _ _ _ _ _ hc q=>by
 have h1:(0:Int)<j:=hc;exact mod_int' (by omega) (by rw[Int.fmod_eq_emod_of_nonneg i (by omega)];exact q)
def aF3:cQ X (binaryOp .LShift) (rI yJ λi j=>.int (i*2^j.toNat)):=tU λ_ _ _ _ _ _ _ hc q=>lshift_int_small hc.1 hc.2.1 hc.2.2 q
end
def Q5:V->V->Bool
 |.bw,.bw=>true|.bw,.int _=>true|.int _,.bw=>true|.bw,.bl _=>true|.bl _,.bw=>true|.bw,.str _=>true|.str _,.bw=>true
 |.int _,.int _=>true|.bl _,.bl _=>true|.str _,.str _=>true|.Ac _,.Ac _=>true
 |.int _,.str _=>true|.str _,.int _=>true|.bl _,.str _=>true|.str _,.bl _=>true
 |_,_=>false
def Q6:R2:=λx y H Q=>Q5 x y=true/\Q (.bl (decide (x=y))) H
def yK:R2:=λx y H Q=>Q5 x y=true/\Q (.bl (!decide (x=y))) H
def Q7 {i j:Int}:decide (V.int i=V.int j)=(i==j):=by
 rw[xf];simp
def Q8 {i j:Bool}:decide (V.bl i=V.bl j)=(i==j):=by
 rw[xf];simp
def Q9 {i j:Str}:decide (V.str i=V.str j)=(i==j):=by
 rw[xf];simp
def R3 {i j:Array UInt8}:decide (V.Ac i=V.Ac j)=(i.toList==j.toList):=by
 rw[xf];cases i;cases j;simp
section
variable {X:Cx}{a b c:Expr}{ta tb tc:TE}{pos:Pos}
def cK {ag:List (ax×Obj)}{σ:St}{H:Hp}{s:aw}{Q:VK}{k k':Bool}(I:a8 X ag σ H s)(q:Q (.bl k) H)(e:k=k'):EP X ag σ Q (.bool k') s:=by
 subst e
 exact⟨.bl k,H,I,rfl,q⟩
def R4:cQ X (compareOp .Eq) Q6:=by
 intro ag s σ H x y v u Q I rx ry h
 obtain⟨hs,q⟩:=h
 cases x with
 |bw=>
  cases rx;cases y with
  |bw=>cases ry;exact PySem.EqNone.eq_none_none (cK I q (by simp))
  |bl j=>cases ry;exact PySem.EqNone.eq_none_bool (cK I q (by simp))
  |int j=>obtain⟨t',rfl⟩:=ry;exact PySem.EqNone.eq_none_int (cK I q (by simp))
  |str j=>obtain⟨t',rfl⟩:=ry;exact PySem.EqNone.eq_none_str (cK I q (by simp))
  |_=>exact absurd (show false=true from hs) om
 |bl i=>
  cases rx;cases y with
  |bw=>cases ry;exact PySem.EqNone.eq_bool_none (cK I q (by simp))
  |bl j=>cases ry;exact eq_bool (cK I q Q8)
  |str j=>obtain⟨t',rfl⟩:=ry;exact PySem.EqMixed.eq_bool_str (cK I q (by simp))
  |_=>exact absurd (show false=true from hs) om
 |int i=>
  obtain⟨t,rfl⟩:=rx
  cases y with
  |bw=>cases ry;exact PySem.EqNone.eq_int_none (cK I q (by simp))
  |int j=>obtain⟨t',rfl⟩:=ry;exact eq_int (cK I q Q7)
  |str j=>obtain⟨t',rfl⟩:=ry;exact PySem.EqMixed.eq_int_str (cK I q (by simp))
  |_=>exact absurd (show false=true from hs) om
 |str i=>
  obtain⟨t,rfl⟩:=rx
  cases y with
  |bw=>cases ry;exact PySem.EqNone.eq_str_none (cK I q (by simp))
  |bl j=>cases ry;exact PySem.EqMixed.eq_str_bool (cK I q (by simp))
  |int j=>obtain⟨t',rfl⟩:=ry;exact PySem.EqMixed.eq_str_int (cK I q (by simp))
  |str j=>obtain⟨t',rfl⟩:=ry;exact eq_str (cK I q Q9)
  |_=>exact absurd (show false=true from hs) om
 |Ac i=>
  obtain⟨t,rfl⟩:=rx
  cases y with
  |Ac j=>obtain⟨t',rfl⟩:=ry;exact PySem.W.eq_bytes (cK I q R3)
  |_=>exact absurd (show false=true from hs) om
 |_=>cases y<;>exact absurd (show false=true from hs) om
def R5:cQ X (compareOp .NotEq) yK:=by
 intro ag s σ H x y v u Q I rx ry h
 obtain⟨hs,q⟩:=h
 cases x with
 |bw=>
  cases rx;cases y with
  |bw=>cases ry;exact PySem.EqNone.ne_none_none (cK I q (by simp))
  |bl j=>cases ry;exact PySem.EqNone.ne_none_bool (cK I q (by simp))
  |int j=>obtain⟨t',rfl⟩:=ry;exact PySem.EqNone.ne_none_int (cK I q (by simp))
  |str j=>obtain⟨t',rfl⟩:=ry;exact PySem.EqNone.ne_none_str (cK I q (by simp))
  |_=>exact absurd (show false=true from hs) om
 |bl i=>
  cases rx;cases y with
  |bw=>cases ry;exact PySem.EqNone.ne_bool_none (cK I q (by simp))
  |bl j=>cases ry;exact ne_bool (cK I q (congrArg not Q8))
  |str j=>obtain⟨t',rfl⟩:=ry;exact PySem.EqMixed.ne_bool_str (cK I q (by simp))
  |_=>exact absurd (show false=true from hs) om
 |int i=>
  obtain⟨t,rfl⟩:=rx
  cases y with
  |bw=>cases ry;exact PySem.EqNone.ne_int_none (cK I q (by simp))
  |int j=>obtain⟨t',rfl⟩:=ry;exact ne_int (cK I q (congrArg not Q7))
  |str j=>obtain⟨t',rfl⟩:=ry;exact PySem.EqMixed.ne_int_str (cK I q (by simp))
  |_=>exact absurd (show false=true from hs) om
 |str i=>
  obtain⟨t,rfl⟩:=rx
  cases y with
  |bw=>cases ry;exact PySem.EqNone.ne_str_none (cK I q (by simp))
  |bl j=>cases ry;exact PySem.EqMixed.ne_str_bool (cK I q (by simp))
  |int j=>obtain⟨t',rfl⟩:=ry;exact PySem.EqMixed.ne_str_int (cK I q (by simp))
  |str j=>obtain⟨t',rfl⟩:=ry;exact ne_str (cK I q (congrArg not Q9))
  |_=>exact absurd (show false=true from hs) om
 |Ac i=>
  obtain⟨t,rfl⟩:=rx
  cases y with
  |Ac j=>obtain⟨t',rfl⟩:=ry;exact PySem.W.ne_bytes (cK I q (congrArg not R3))
  |_=>exact absurd (show false=true from hs) om
 |_=>cases y<;>exact absurd (show false=true from hs) om
def tW:cQ X (compareOp .Lt) (kO λi j=>.bl (decide (i<j))):=tV λ_ _ _ _ _ _ _ q=>lt_int q
def aF4:cQ X (compareOp .LtE) (kO λi j=>.bl (decide (i<=j))):=tV λ_ _ _ _ _ _ _ q=>le_int q
def aF5:cQ X (compareOp .Gt) (kO λi j=>.bl (decide (j<i))):=tV λ_ _ _ _ _ _ _ q=>gt_int q
def R6:cQ X (compareOp .GtE) (kO λi j=>.bl (decide (j<=i))):=tV λ_ _ _ _ _ _ _ q=>ge_int q
def aF6:cQ X (compareOp .Is) (λx y H Q=>y = .bw/\Q (.bl (decide (x = .bw))) H):=by
 intro ag s σ H x y v u Q I rx ry h
 obtain⟨rfl,q⟩:=h
 cases ry;refine is_none_gen (cK I q ?_);cases x<;>first
  |(cases rx;rfl)
  |(obtain⟨t,rfl⟩:=rx;rfl)
def aF7:cQ X (compareOp .IsNot) (λx y H Q=>y = .bw/\Q (.bl (!decide (x = .bw))) H):=by
 intro ag s σ H x y v u Q I rx ry h
 obtain⟨rfl,q⟩:=h
 cases ry;refine isnot_none_gen (cK I q ?_);cases x<;>first
  |(cases rx;rfl)
  |(obtain⟨t,rfl⟩:=rx;rfl)
def i3 (b:Expr){op:CmpOp}(h:op≠.In:=by decide)(h2:op≠.NotIn:=by decide):behindInMarks op b=false:=by
 have e1:(op==CmpOp.In)=false:=by cases op<;>first|rfl|exact absurd rfl h
 have e2:(op==CmpOp.NotIn)=false:=by cases op<;>first|rfl|exact absurd rfl h2
 cases b<;>simp[behindInMarks,e1,e2]
def yM {op:CmpOp}{r:R2}(ho:cQ X (compareOp op) r)(ha:PE X a ta)(hb:PE X b tb)(hm:behindInMarks op b=false):PE X (.Compare a [op] [b] pos) (rF r ta tb):=by
 intro ag s σ H Q I h;exact wpAny_Compare1 (yH ha hb I h λv u s2 x y H2 I2 rx ry q=>ho ag s2 σ H2 x y v u Q I2 rx ry q) hm
def aF8 (t:TE):TT:=λσ H Q=>t σ H λx H'=>∃k,x = .bl k/\Q k H'
def aF9 {op:CmpOp}{r:R2}(ho:cQ X (compareOp op) r)(ha:PE X a ta)(hb:PE X b tb)(hm:behindInMarks op b=false):PT X (.Compare a [op] [b] pos) (aF8 (rF r ta tb)):=by
 intro ag s σ H Q I h
 refine wpAny_isTrue_Compare1 (aR (ha ag s σ H _ I h) λv s1 ⟨x,H1,I1,r1,q1⟩=>aR (hb ag s1 σ H1 _ I1 q1) λu s2 ⟨y,H2,I2,r2,q2⟩=>
  aR (ho ag s2 σ H2 x y v u _ I2 r1 r2 q2) λc s3 ⟨z,H3,I3,r3,k,e,q3⟩=>?_) hm
 subst e;cases r3;exact Cf ⟨H3,I3,q3⟩
def yN (K:ad)(x:V)(H:Hp)(k:Bool):Prop:=
 match x with
 |.bw=>k=false
 |.bl b=>k=b
 |.int i=>k=(i != 0)
 |.str y=>y.length<=sizeLine/\k=((y.length:Int) != 0)
 |.Ac y=>y.size<=sizeLine/\k=((y.size:Int) != 0)
 |.ref p=>(∃xs,aM K H p xs/\k = !xs.isEmpty)∨(∃xs,aW K H p xs/\k = !xs.isEmpty)∨∃bf,H p=some (.dK bf)/\k = !bf.isEmpty
 |_=>False
def aG0 {κ:Type}{bf:List (κ×V)}{vs:List (κ×av)}(r:KV bf vs):(!vs.isEmpty) = !bf.isEmpty:=by
 cases r<;>rfl
def R7 {xs:List V}{bh:List av}(r:aQ xs bh):(!bh.toArray.isEmpty) = !xs.isEmpty:=by
 cases r<;>simp
def p9:(sizeLine:Nat)<2^63:=by rw[sizeLine_eq];decide
def aG1:aE6 X (λx H Q=>∃k,yN X.K x H k/\Q k H):=by
 intro ag s σ H x v Q I rx h
 obtain⟨k,e,q⟩:=h
 have hl:=p9;have hs:sizeLine=16777216:=sizeLine_eq;cases x with
 |bw=>
  cases rx;have e':k=false:=e;subst e';exact truthy_none ⟨H,I,q⟩
 |bl b=>
  cases rx;have e':k=b:=e;subst e';exact Cf ⟨H,I,q⟩
 |int i=>
  obtain⟨t,rfl⟩:=rx
  have e':k=(i != 0):=e;subst e';exact PySem.P.truthy_int ⟨H,I,q⟩
 |str y=>
  obtain⟨t,rfl⟩:=rx
  obtain⟨hy,e'⟩:y.length<=sizeLine/\k=((y.length:Int) != 0):=e
  subst e';exact PySem.P.truthy_str (by omega) ⟨H,I.tok _,q⟩
 |Ac y=>
  obtain⟨t,rfl⟩:=rx
  obtain⟨hy,e'⟩:y.size<=sizeLine/\k=((y.size:Int) != 0):=e
  subst e';exact PySem.W.truthy_bytes (by omega) ⟨H,I.tok _,q⟩
 |ref p=>
  cases rx;have e':(∃xs,aM X.K H p xs/\k = !xs.isEmpty)∨(∃xs,aW X.K H p xs/\k = !xs.isEmpty)∨∃bf,H p=some (.dK bf)/\k = !bf.isEmpty:=e
  rcases e' with⟨xs,hx,e'⟩|⟨xs,hx,e'⟩|⟨bf,hx,e'⟩
  ·subst e'
   obtain⟨bh,r,pl,hz⟩:=I.list hx
   have aj:=r.length;exact wpAny_truthy_list pl.isList (by simp only[gg];omega) ⟨H,I.tok _,by rw[R7 r];exact q⟩
  ·subst e'
   obtain⟨bh,r,pl,hz⟩:=I.tuple hx
   have aj:=r.length;exact truthy_tuple pl (by simp only[gg];omega) ⟨H,I.tok _,by rw[R7 r];exact q⟩
  ·subst e'
   obtain⟨hz,hS,vs,r,m⟩:bf.length<=sizeLine/\(p==sysModules)=false/\∃vs,KV bf vs/\s.heap.DictOf (g9 X.prog X.w) p vs:=I.cf p _ hx
   have aj:bf.length=vs.length:=Paired.length r;exact wpAny_truthy_dict hS m (by omega) ⟨H,I.tok _,by rw[aG0 r];exact q⟩
 |_=>exact (show False from e).elim
def aG2 (ha:PE X a ta)(he:∀whole,isTrue a X.env whole=(do let v <- whole;standAt a.pos;holding [v] (truthy v))) :
  PT X a (λσ H Q=>ta σ H λx H'=>∃k,yN X.K x H' k/\Q k H'):=by
 intro ag s σ H Q I h;exact isTrue_plain (aR (ha ag s σ H _ I h) λv s1 ⟨x,H1,I1,r1,q1⟩=>aG1 ag s1 σ H1 x v Q I1 r1 q1) (he _)
def iF {x:V}{us:List av}(r:aQ [x] us):∃u,us = [u]/\b5 x u:=by
 cases r with
 |cons r1 r2=>cases r2;exact⟨_,rfl,r1⟩
def R8 {x y:V}{us:List av}(r:aQ [x,y] us):∃u w',us = [u,w']/\b5 x u/\b5 y w':=by
 cases r with
 |cons r1 r2=>
  cases r2 with
  |cons r3 r4=>cases r4;exact⟨_,_,rfl,r1,r3⟩
def aG3 (hc:X.calm=true):dU X (.builtin "max") (λxs H Q=>∃i j,xs = [.int i,.int j]/\Q (.int (if j>i then j else i)) H):=by
 intro ag s σ H xs us Q I r h
 obtain⟨i,j,rfl,q⟩:=h
 obtain⟨u,w',rfl,⟨t,rfl⟩,⟨t',rfl⟩⟩:=R8 r
 refine max_two_ints (I.ok.hd hc) λh' tk k=>⟨_,H,I.kept k,?_,q⟩
 by_cases hj:j>i
 ·rw[if_pos hj,if_pos hj];exact⟨_,rfl⟩
 ·rw[if_neg hj,if_neg hj];exact⟨_,rfl⟩
def aG4 (hc:X.calm=true):dU X (.builtin "min") (λxs H Q=>∃i j,xs = [.int i,.int j]/\Q (.int (if j<i then j else i)) H):=by
 intro ag s σ H xs us Q I r h
 obtain⟨i,j,rfl,q⟩:=h
 obtain⟨u,w',rfl,⟨t,rfl⟩,⟨t',rfl⟩⟩:=R8 r
 refine min_two_ints (I.ok.hd hc) λh' tk k=>⟨_,H,I.kept k,?_,q⟩
 by_cases hj:j<i
 ·rw[if_pos hj,if_pos hj];exact⟨_,rfl⟩
 ·rw[if_neg hj,if_neg hj];exact⟨_,rfl⟩
end
def jF.some_of {v:V}{o:Option av}(r:jF (some v) o):∃u,o=some u/\b5 v u:=by
 cases o with
 |none=>exact (show False from r).elim
 |some u=>exact⟨u,rfl,r⟩
structure cW (k:Nat)(A:az):Prop where
 hd:A.handled=none
 dp:A.depth+3*k+5<recursionLimit
 un:A.units+16*k+200<cLine
def cW.mono {j k:Nat}{A:az}(r:cW k A)(h:j<=k):cW j A:=⟨r.hd,by have:=r.dp;omega,by have:=r.un;omega⟩
def cW.deeper {k:Nat}{A:az}(r:cW (k+1) A)(env:Env):cW k (A.deeper env):=
 ⟨r.hd,by have:=r.dp;show A.depth+1+3*k+5<_;omega,by have:=r.un;show A.units+3+16*k+200<_;omega⟩
def cW.depth {k:Nat}{A:az}(r:cW k A):A.depth<recursionLimit:=by have:=r.dp;omega
def cW.units {k:Nat}{A:az}(r:cW k A):A.units+64<cLine:=by have:=r.un;omega
def kQ:TA:=λ_ H Q=>Q [] H
def iG (ta:TE)(tr:TA):TA:=λσ H Q=>ta σ H λx H1=>tr σ H1 λxs H2=>Q (x::xs) H2
section
variable {X:Cx}{e:Expr}{es:List Expr}{te:TE}{t:TA}{pos:Pos}
def eG:PA X [] kQ:=λ_ _ _ _ H Q I h=>Calls.spliced_nil ⟨[],H,I,.nil,h⟩
def dH (ha:PE X e te)(hr:PA X es t)(hs:starEach (e::es) X.env=(false,eval e X.env)::starEach es X.env:=by rfl):PA X (e::es) (iG te t):=by
 intro pos ag s σ H Q I h;rw[hs];show wpAny _ _ (spliced ((false,eval e X.env)::backTo pos (starEach es X.env))) _ _ s;refine Calls.spliced_cons (aR (ha ag s σ H _ I h) λu s1 ⟨x,H1,I1,r1,q1⟩=>?_);exact aR (hr pos ag s1 σ H1 _ I1 q1) λus s2 ⟨xs,H2,I2,r2,q2⟩=>⟨x::xs,H2,I2,.cons r1 r2,q2⟩
def yO (t:TA):TE:=λσ H Q=>t σ H λxs H1=>xs.length<=sizeLine/\∀p,H1 p=none->Q (.ref p) (upd H1 p (.tup xs))
def R9 (t:TA):TE:=λσ H Q=>t σ H λxs H1=>xs.length<=sizeLine/\∀p,H1 p=none->Q (.ref p) (upd H1 p (.lst xs))
def S2 {x1}(h:PA X es t):PE X (.Tuple es x1 pos) (yO t):=by
 intro ag s σ H Q I hq;refine wpAny_Tuple_spliced (aR (h pos ag s σ H _ I hq) λus s1 ⟨xs,H1,I1,r,z,q⟩=>⟨by rw[<- r.length];exact z,?_⟩);have hf:H1 s1.heap.objs.size=none:=I1.cf.fresh (de _);refine⟨.ref s1.heap.objs.size,upd H1 s1.heap.objs.size (.tup xs),I1.laid (t':=s1.toks) (λb u e=>ic _ e) (de _) ?_,rfl,q _ hf⟩
 exact⟨z,us,r,⟨_,my _ rfl,rfl,_,rfl⟩,jW.new _ _ rfl⟩
def yQ (h:PA X es t):PE X (.List es pos) (R9 t):=by
 intro ag s σ H Q I hq;refine wpAny_List_spliced (aR (h pos ag s σ H _ I hq) λus s1 ⟨xs,H1,I1,r,z,q⟩=>⟨by rw[<- r.length];exact z,?_⟩);have hf:H1 s1.heap.objs.size=none:=I1.cf.fresh (de _);refine⟨.ref s1.heap.objs.size,upd H1 s1.heap.objs.size (.lst xs),I1.laid (t':=s1.toks) (λb u e=>ic _ e) (de _) ?_,rfl,q _ hf⟩
 exact⟨z,us,0,r,my _ rfl⟩
end
abbrev Sp:=List V->Hp->VK->XK->Prop
abbrev jI:=List Env->Hp->aw->XK->av->aw->Prop
structure tX (P:ay)(w:ba)(K:ad)(mg:Str->Option av)(base:Heap)(A:az)(outer:List Env)(s:aw)(H:Hp):Prop where
 frames:A.frames=some outer
 mod:Mod K mg base
 bs:∀b o,base.get? b=some o->s.heap.get? b=some o/\H b=none
 Aj:base.objs.size<=s.heap.objs.size
 lg:s.heap.FunFrames base outer
 AJ:∀b∈cV outer,H b=none
 cf:cJ P w H s.heap
 bare:AllBare s.gens
def CE (outer:List Env)(P:ay)(w:ba)(H:Hp)(s:aw)(Q:VK)(u:av)(s':aw):Prop:=
 ∃v H',s'.os=s.os/\AllBare s'.gens/\Un (cV outer) [] H H' s.heap s'.heap/\cJ P w H' s'.heap/\b5 v u/\Q v H'
def CR (CX:jI)(outer:List Env)(P:ay)(w:ba)(H:Hp)(s:aw)(Q:VK)(E:XK)(r:Result)(s':aw):Prop:=
 match r with
 |.ok (.ret u)=>CE outer P w H s Q u s'
 |.ok _=>False
 |.error e=>CX outer H s E e s'
structure dW (P:ay)(w:ba)(K:ad)(mg:Str->Option av)(base:Heap)(CX:jI)(k:Nat)(f:ax)(fd:FuncData)(ps:List Str)(sp:Sp):Prop where
 len:∀vs H Q E,sp vs H Q E->vs.length=ps.length
 run:∀(A:az) (outer:List Env) (s:aw) (H:Hp) (args:Args) (us:List av) (vs:List V) (Q:VK) (E:XK),cW k A->tX P w K mg base A outer s H->BindsTo s fd args (ps.zip us)->aQ vs us->sp vs H Q E->
  codeAny (model P w) A (.call (.ref f) args) (CR CX outer P w H s Q E) s
def dW.imp {P:ay}{w:ba}{K:ad}{mg:Str->Option av}{base:Heap}{CX:jI}{k:Nat}{f:ax}{fd:FuncData}{ps:List Str}{sp Iq:Sp}(F:dW P w K mg base CX k f fd ps sp)(h:∀vs H Q E,Iq vs H Q E->sp vs H Q E):dW P w K mg base CX k f fd ps Iq:=
 ⟨λvs H Q E q=>F.len vs H Q E (h _ _ _ _ q),λA outer s H args us vs Q E hr he hb hv hs=>F.run A outer s H args us vs Q E hr he hb hv (h _ _ _ _ hs)⟩
section
variable {X:Cx}{ag:List (ax×Obj)}{σ:St}{H:Hp}{s s':aw}
def a8.HN (I:a8 X ag σ H s):tX X.prog X.w X.K X.mg X.base X.A X.stack s H:=
 ⟨I.ok.frames,I.ok.mod,I.bs,og I.ok.Aj I.sz,I.stack,I.ug,I.cf,I.bare⟩
def a8.after {Q:VK}{u:av}(I:a8 X ag σ H s)(h:CE X.stack X.prog X.w H s Q u s'):EP X ag σ Q u s':=by
 obtain⟨v,H',os,bare,un,cf,r,q⟩:=h
 obtain⟨hh,g,d,t,Qk⟩:=s'
 obtain rfl:Qk=s.os:=os
 exact⟨v,H',I.call (h':=hh) (g':=g) (d':=d) (t':=t) (ch:=[]) un cf bare (λb z=>absurd z (by simp)),r,q⟩
end
def tY (sp:Sp)(BY:List V)(E:XK)(t:TA):TE:=λσ H Q=>t σ H λvs H1=>sp (vs++BY) H1 Q E
def jZ (K:ad)(fd:FuncData)(ps:List Str)(ds:List av):Prop:=
 ∀(s:aw) (us:List av),K.In s.heap->(us++ds).length=ps.length->BindsTo s fd ⟨us,[]⟩ (ps.zip (us++ds))
def jZ.all {K:ad}{fd:FuncData}{ps:List Str}(h:∀us:List av,us.length=ps.length->bindArgs fd ⟨us,[]⟩=pure (ps.zip us)):jZ K fd ps []:=λs us _ hl=>by
 rw[vb]at hl ⊢;exact .of_eq (h us hl)
def rH (CX:jI)(X:Cx)(E:XK):Prop:=∀(ag:List (ax×Obj)) (σ:St) (H:Hp) (s:aw) (e:av) (s':aw),a8 X ag σ H s->CX X.stack H s E e s'->X.xe e s'
section
variable {X:Cx}{CX:jI}{k:Nat}{f C:ax}{fd:FuncData}{ps:List Str}{sp:Sp}{BY:List V}{ds:List av}{E:XK}{x m:Str}{p pos ah:Pos}{e o:Expr}{es:List Expr}{ta:TE}{t:TA}
def aG5 {ag:List (ax×Obj)}{σ:St}{H:Hp}{s:aw}{Q:VK}{us:List av}{vs:List V}(F:dW X.prog X.w X.K X.mg X.base CX k f fd ps sp)(hr:cW k X.A)(hb:jZ X.K fd ps ds)(hd:aQ BY ds)(hx:rH CX X E)(I:a8 X ag σ H s)(r:aQ vs us)(h:sp (vs++BY) H Q E):wpAny (model X.prog X.w) X.A (call (.ref f) us) (EP X ag σ Q) X.xe s:=by
 have r2:aQ (vs++BY) (us++ds):=r.append hd;have hl:(us++ds).length=ps.length:=by rw[<- r2.length];exact F.len _ _ _ _ h
 refine wpAny_call (codeAny_mono (F.run X.A X.stack s H ⟨us,[]⟩ (us++ds) (vs++BY) Q E hr I.HN (hb s us I.BU hl) r2 h) λr s' hq=>?_);cases r with
 |error e=>exact hx ag σ H s e s' I hq
 |ok fl=>
  cases fl with
  |ret u=>exact I.after hq
  |next=>exact False.elim hq
  |brk=>exact False.elim hq
  |cont=>exact False.elim hq
def tZ (F:dW X.prog X.w X.K X.mg X.base CX k f fd ps sp)(hr:cW k X.A)(hg:Gl X x)(hm:X.mg x=some (.ref f))(hk:PySem.W.keepIn X.K (.ref f)=true)(hb:jZ X.K fd ps ds)(hd:aQ BY ds)(hx:rH CX X E)(ha:PA X (e::es) t)(vp:(x==("__debug__":Str))=false:=by decide)(he:starEach (e::es) X.env=(false,eval e X.env)::starEach es X.env:=by rfl)(hpl:(backTo pos (starEach es X.env)).any (·.1)=false:=by rfl) :
  PE X (.Call (.Name x p) (e::es) [] pos) (tY sp BY E t):=by
 intro ag s σ H Q I h;refine wpAny_Call_Name_kw (xZ I hg hm ?_ vp);refine PySem.W.callWith_K (h₀:=X.base) I.ok.mod.kz hk (aR (ha pos ag s σ H _ I h) λus s1 ⟨vs,H1,I1,r,q⟩=>⟨I1.BU,?_⟩) he hpl;exact aG5 F hr hb hd hx I1 r q
end
def PK (X:Cx)(QD:List Keyword)(t:TA):Prop:=
 ∀(pos:Pos) (ag:List (ax×Obj)) (s:aw) (σ:St) (H:Hp) (Q:List V->Hp->Prop),a8 X ag σ H s->t σ H Q->wpAny (model X.prog X.w) X.A (evalAll ((backToKw pos (keywordEach QD X.env)).map (·.2))) (AP X ag σ Q) X.xe s
structure bg (N P:List Str)(sc:Scope):Prop where
 kind:sc.kind = .function
 co:sc.isCoroutine=false
 gen:sc.isGenerator=false
 nd:N.Nodup
 pre:N.take P.length=P
 par:∀x∈P,sc.names.lookup x=some .local∨sc.names.lookup x=some .cell
 Cy:∀y∈sc.names,y.2≠.free
def S3 {kindOf:Str->Option NameKind}{x:Str}:∀{binds:List (Str×av)}{m:Str->Option av},(∀v,(x,v)∉binds)->bindL kindOf binds m x=m x
 |[],_,_=>rfl
 |(n,v)::r,m,h=>by
  unfold bindL;rw[S3 λw hw=>h w (fu _ hw)];split
  ·have:x≠n:=by rintro rfl;exact h v dh
   simp[this]
  ·rfl
def S4 {kindOf:Str->Option NameKind}{x:Str}:∀{binds:List (Str×av)}{m:Str->Option av},(∀v,(x,v)∉binds)->bindC kindOf binds m x=m x
 |[],_,_=>rfl
 |(n,v)::r,m,h=>by
  unfold bindC;rw[S4 λw hw=>h w (fu _ hw)];split
  ·rfl
  ·have:x≠n:=by rintro rfl;exact h v dh
   simp[this]
def S5 {kindOf:Str->Option NameKind}{x:Str}{v:av}:∀{P:List Str}{vs:List av}{i:Nat}{m:Str->Option av},P.Nodup->P[i]? = some x->vs[i]? = some v->kindOf x=some .local->
  bindL kindOf (P.zip vs) m x=some v
 |[],_,_,_,_,h,_,_=>by simp at h
 |_::_,[],_,_,_,_,h,_=>by simp at h
 |p::P,w::vs,0,m,nd,h1,h2,hk=>by
  simp at h1 h2;subst h1;subst h2;show bindL kindOf ((p,w)::P.zip vs) m p=_;unfold bindL;rw[S3 λv hv=>(oy.mp nd).1 (List.of_mem_zip hv).1,if_pos hk];simp
 |p::P,w::vs,i+1,m,nd,h1,h2,hk=>by
  show bindL kindOf ((p,w)::P.zip vs) m x=_;unfold bindL;exact S5 (i:=i) (oy.mp nd).2 (by simpa using h1) (by simpa using h2) hk
def S6 {kindOf:Str->Option NameKind}{x:Str}{v:av}:∀{P:List Str}{vs:List av}{i:Nat}{m:Str->Option av},P.Nodup->P[i]? = some x->vs[i]? = some v->kindOf x≠some .local->
  bindC kindOf (P.zip vs) m x=some v
 |[],_,_,_,_,h,_,_=>by simp at h
 |_::_,[],_,_,_,_,h,_=>by simp at h
 |p::P,w::vs,0,m,nd,h1,h2,hk=>by
  simp at h1 h2;subst h1;subst h2;show bindC kindOf ((p,w)::P.zip vs) m p=_;unfold bindC;rw[S4 λv hv=>(oy.mp nd).1 (List.of_mem_zip hv).1,if_neg hk];simp
 |p::P,w::vs,i+1,m,nd,h1,h2,hk=>by
  show bindC kindOf ((p,w)::P.zip vs) m x=_;unfold bindC;exact S6 (i:=i) (oy.mp nd).2 (by simpa using h1) (by simpa using h2) hk
def start (N:List Str)(vs:List V):St:=vs.map some++List.replicate (N.length-vs.length) none
def eI (CX:jI)(P:ay)(w:ba)(K:ad)(mg:Str->Option av)(base:Heap)(N:List Str)(qual:Str)(scope:Scope)(f:ax)(cd:av)(A:az)(outer:List Env)(s:aw)(H:Hp)(E:XK):Cx where
 prog:=P
 w:=w
 K:=K
 mg:=mg
 base:=base
 A:=A.deeper (envOfC qual scope s.heap.objs.size f cd)
 N:=N
 cx:=s
 bu:=H
 env:=envOfC qual scope s.heap.objs.size f cd
 outer:=outer
 stack:=envOfC qual scope s.heap.objs.size f cd::outer
 ex:=[]
 calm:=true
 fn:=λ_=>true
 pn:=[]
 xe:=λe s'=>wpAny (model P w) (A.deeper (envOfC qual scope s.heap.objs.size f cd)) (leaving (envOfC qual scope s.heap.objs.size f cd) e) (λ_ Ej=>CX outer H s E e Ej) (λe' Ej=>CX outer H s E e' Ej) s'
def S7 {sc:Scope}{n:Nat}{x:Str}(h:sc.names.lookup x=some .cell):∃c,(cellsFrom n sc.names []).lookup x=some c:=by
 have q:=PySem.W.cellsFrom_some sc.names n [] (.inl h);exact Option.isSome_iff_exists.mp q
def aG6 {CX:jI}{P:ay}{w:ba}{K:ad}{mg:Str->Option av}{base:Heap}{N ps:List Str}{qual:Str}{scope:Scope}{f:ax}{cd:av}{A:az}{outer:List Env}{s s1:aw}{H:Hp}{E:XK}{us:List av}{vs:List V}(S:bg N ps scope)(hd:A.handled=none)(e0:tX P w K mg base A outer s H)(hl:vs.length=ps.length)(r:aQ vs us)(x:InCallC s s.heap.objs.size (bindL (envOfC qual scope s.heap.objs.size f cd).kindOf (ps.zip us) λ_=>none) (cellsFrom (s.heap.objs.size+1) scope.names []) (bindC (envOfC qual scope s.heap.objs.size f cd).kindOf (ps.zip us) λ_=>none) s1) :
  a8 (eI CX P w K mg base N qual scope f cd A outer s H E) [] (start N vs) H s1:=by
 have hpl:ps.length<=N.length:=by have:=congrArg List.length S.pre;rw[xi]at this;omega
 obtain⟨h1,tk,rfl,hk⟩:=x.done
 have Et:∀b:ax,b∉(eI CX P w K mg base N qual scope f cd A outer s H E).ex:=λb z=>absurd (show b∈([]:List ax) from z) (by simp)
 refine⟨⟨e0.mod,S.kind,rfl,rfl,de _,λy z c h1 h2=>?_,λy hy=>?_,λy c _ h=>?_,λ_=>hd,Around.frames_deeper e0.frames,.inr ⟨rfl,rfl⟩,λb z=>absurd z (Et b),e0.bs,e0.Aj,λb _ _=>Et b,λb z=>absurd z (Et b),e0.lg,e0.AJ⟩,
  rfl,e0.bare,Un.kept hk,⟨_,x.toInCall.ns,λi y v h1 h2 h3=>?_⟩,λy c h=>⟨_,x.cell y c h⟩,e0.cf.fresh (de _),λy c h=>?_,λp hp=>absurd (show p∈([]:List (ax×Obj)) from hp) (by simp),e0.cf.kept hk,?_⟩
 ·exact name_of_addr x.apart (Am h1) (Am h2)
 ·have hy:scope.names.lookup y=some .cell∨scope.names.lookup y=some .free:=hy
  rcases hy with hy|hy
  ·exact S7 hy
  ·exact absurd rfl (S.Cy _ (Am hy))
 ·exact uv (x.above y c (Am h))
 ·have hi:i<vs.length:=by
   unfold start at h2;by_cases hi:i<vs.length
   ·exact hi
   ·rw[AS (by simpa using hi)]at h2
    rw[Fc]at h2;split at h2<;>cases h2
  have ha:vs[i]? = some v:=by
   unfold start at h2;rw[tf (by simpa using hi),gf]at h2;cases e:vs[i]? with
   |none=>rw[e]at h2;cases h2
   |some a=>rw[e]at h2;cases h2;rfl
  obtain⟨u,hu,rv⟩:=r.get ha
  have hp:ps[i]? = some y:=by
   rw[<- S.pre,List.getElem?_take_of_lt (by omega)];exact h1
  have Gp:ps.Nodup:=by rw[<- S.pre];exact S.nd.sublist (List.take_sublist _ _)
  refine⟨u,rv,?_⟩;rcases S.par y (fm hp) with k|k
  ·exact .inl ⟨k,S5 Gp hp hu k⟩
  ·obtain⟨c,e⟩:=S7 (n:=s.heap.objs.size+1) k
   refine .inr ⟨.inl k,c,e,?_⟩;have q:=x.cell y c e;rw[S6 Gp hp hu (by show scope.names.lookup y≠_;rw[k];decide)]at q;exact q
 ·exact e0.cf.fresh (uv (x.above y c (Am h)))
 ·unfold start
  show _=N.length;rw[jg,df,Cg];omega
def S8 {CX:jI}{P:ay}{w:ba}{K:ad}{mg:Str->Option av}{base:Heap}{k:Nat}{f:ax}{name qual:Str}{params:Arguments}{body:List Stmt}{scope:Scope}{dV kV doc pm cy ct oc:av}{an od:Option ax}{Bl:Array (Option av)}{N ps:List Str}{sp:Sp}(lk:K.lookup f=some ⟨oc,od,.func (PySem.W.fnOf name qual params body scope dV kV doc pm an cy ct),Bl⟩)(ko:PySem.W.codeIn K cy qual=true)(S:bg N ps scope)(len:∀vs H Q E,sp vs H Q E->vs.length=ps.length)(vq:∀(A:az) (outer:List Env) (s:aw) (H:Hp) (vs:List V) (Q:VK) (E:XK),cW k (A.deeper (envOfC qual scope s.heap.objs.size f cy))->sp vs H Q E->
   ∃t,fI (eI CX P w K mg base N qual scope f cy A outer s H E) body t/\t { nx:=λ_ H'=>Q .bw H',rt:=Q } (start N vs) H) :
  dW P w K mg base CX (k+1) f (PySem.W.fnOf name qual params body scope dV kV doc pm an cy ct) ps sp:=by
 refine⟨len,λA outer s H args us vs Q E hr e0 hb r AZ=>?_⟩;have hl:=len _ _ _ _ AZ;have KX:K.In s.heap:=e0.mod.kz.keeps λb o e=>(e0.bs b o e).1
 have lim:s.heap.NoLimit:=e0.mod.nolimit.keeps λb o e=>(e0.bs b o e).1
 have EB:∀y∈ps.zip us,scope.names.lookup y.1=some .local∨(scope.names.lookup y.1=some .cell/\((cellsFrom (s.heap.objs.size+1) scope.names []).lookup y.1).isSome=true):=λ⟨n,v⟩ hy=>by
  rcases S.par n (List.of_mem_zip hy).1 with q|q
  ·exact .inl q
  ·exact .inr ⟨q,PySem.W.cellsFrom_some _ _ _ (.inl q)⟩
 refine codeAny_call_function hr.depth (KX _ _ lk) rfl S.co S.gen rfl (PySem.W.codeRec_of KX ko) (hb _ _ _ _ ?_);refine wpAny_newFunctionEnv_cells S.kind EB λenv he s1 x=>?_
 subst he;refine⟨lim.keeps x.toInCall.keep,codeAny_func ?_⟩
 obtain⟨t,ht,hq⟩:=vq A outer s H vs Q E (hr.deeper _) AZ
 have I:a8 (eI CX P w K mg base N qual scope f cy A outer s H E) [] (start N vs) H s1:=aG6 S hr.hd e0 hl r x;refine qp (ht [] s1 (start N vs) H _ I hq) (λfl s' hs=>?_) λe s' hs=>hs
 have fin:∀{cj:St}{H':Hp}{v:V}{u:av},a8 (eI CX P w K mg base N qual scope f cy A outer s H E) [] cj H' s'->b5 v u->Q v H'->CE outer P w H s Q u s':=
  λ{cj H' v u} J rv q=>⟨v,H',J.os,J.bare,J.base,J.cf,rv,q⟩
 cases fl with
 |ret u=>
  obtain⟨v,cj,H',J,rv,q⟩:=hs
  exact fin J rv q
 |next=>
  obtain⟨cj,H',J,q⟩:=hs
  exact fin (v:=V.bw) (u:=Value.none) J rfl q
 |brk=>
  obtain⟨_,_,_,q⟩:=hs
  exact False.elim q
 |cont=>
  obtain⟨_,_,_,q⟩:=hs
  exact False.elim q
section
variable {X:Cx}{x:Str}{p pos:Pos}{e:Expr}{es:List Expr}{t:TA}{id T:String}{r:List V→Hp→VK→Prop}
def yR (r:List V->Hp->VK->Prop)(t:TA):TE:=λσ H Q=>t σ H λvs H1=>r vs H1 Q
def yT (hc:dU X (.builtin id) r)(hg:Gl X x)(hm:X.mg x=none)(hv:bootBuiltins x=some (.builtin id))(ha:PA X (e::es) t)(hn:x≠"__name__":=by decide)(vp:(x==("__debug__":Str))=false:=by decide)(he:starEach (e::es) X.env=(false,eval e X.env)::starEach es X.env:=by rfl)(hpl:(backTo pos (starEach es X.env)).any (·.1)=false:=by rfl):PE X (.Call (.Name x p) (e::es) [] pos) (yR r t):=by
 intro ag s σ H Q I h;refine wpAny_Call_Name_kw (lH I hg hm hv ?_ hn vp);exact PyProof.Rows.callWith_builtin1 (aR (ha pos ag s σ H _ I h) λus s1 ⟨vs,H1,I1,r1,q1⟩=>hc ag s1 σ H1 vs us Q I1 r1 q1) he hpl
def yU (hc:dU X (.type T) r)(hg:Gl X x)(hm:X.mg x=none)(hv:bootBuiltins x=some (.type T))(ha:PA X (e::es) t)(hn:x≠"__name__":=by decide)(vp:(x==("__debug__":Str))=false:=by decide)(he:starEach (e::es) X.env=(false,eval e X.env)::starEach es X.env:=by rfl)(hpl:(backTo pos (starEach es X.env)).any (·.1)=false:=by rfl):PE X (.Call (.Name x p) (e::es) [] pos) (yR r t):=by
 intro ag s σ H Q I h;refine wpAny_Call_Name_kw (lH I hg hm hv ?_ hn vp);exact Cm (aR (ha pos ag s σ H _ I h) λus s1 ⟨vs,H1,I1,r1,q1⟩=>hc ag s1 σ H1 vs us Q I1 r1 q1) he hpl
end
end L2
namespace HT
open PySem PyProof.Rows
def gB:af->af->Bool
 |[],[]=>false
 |[],_::_=>true
 |_::_,[]=>false
 |x::xs,y::ys=>if x=y then gB xs ys else decide (x<y)
def pA (x y:Int)(xs ys:af):gB (x::xs) (y::ys)=if x=y then gB xs ys else decide (x<y):=rfl
section
variable {prog:ay}{w:ba}{A:az}{E:av→aw→Prop}{s:aw}
def aG7 {t b:ax}{vs ws:List av}{Q:av->aw->Prop}(ht:IsTup s.heap t vs.toArray)(hb:IsTup s.heap b ws.toArray)(hv:vs≠[])(h1:ws = []->Q (.ref t) s)(h2:ws≠[]->Q (.ref s.heap.objs.size) { s with heap:=s.heap.push { cls:=.type "tuple",data:=.seq (vs++ws).toArray } })(hsz:vs.length+ws.length<=sizeLine):wpAny (model prog w) A (binaryOp .Add (.ref t) (.ref b)) Q E s:=by
 obtain⟨⟨cls,dd,data,sl⟩,ho,hc,n,hd⟩:=id ht
 obtain⟨⟨HU,DQ,data2,DC⟩,CK,hc2,n2,hd2⟩:=id hb
 simp only at hc hd hc2 hd2;subst hc hd hc2 hd2;have e:vs.toArray++ws.toArray=(vs++ws).toArray:=by simp
 by_cases hw:ws = []
 ·exact concat_meets ⟨_,ho,rfl⟩ ⟨_,CK,rfl⟩ noFill_tuple_add seq_tuple_add PySem.F.slot_tuple_add PySem.F.entry_tuple_add (PySem.F.args_tuple_add_2 _ _)
   (tuple_addW1 t b vs.toArray ws.toArray n n2 dd DQ sl DC (by simpa using hv) (by simp[hw])) ⟨ho,CK,h1 hw⟩
 ·refine concat_meets ⟨_,ho,rfl⟩ ⟨_,CK,rfl⟩ noFill_tuple_add seq_tuple_add PySem.F.slot_tuple_add PySem.F.entry_tuple_add (PySem.F.args_tuple_add_2 _ _)
   (tuple_addW2 t b vs.toArray ws.toArray n n2 dd DQ sl DC (by simpa using hv) (by simpa using hw) (by rw[gg,gg];exact hsz)) ⟨ho,CK,?_⟩
  rw[e];exact h2 hw
def bB (n d:Nat):Option Int->Nat
 |none=>d
 |some v=>if v<0 then (v+(n:Int)).toNat else min v.toNat n
def aG8 (n d:Nat):bB n d none=d:=rfl
def aG9 (n d k:Nat):bB n d (some (k:Int))=min k n:=by
 show (if (k:Int)<0 then ((k:Int)+(n:Int)).toNat else min (k:Int).toNat n)=min k n;rw[if_neg (by omega),qh]
def aH0 (n d:Nat)(hd:d<=n)(o:Option Int):bB n d o<=n:=by
 cases o with
 |none=>exact hd
 |some v=>
  show (if v<0 then (v+(n:Int)).toNat else min v.toNat n)<=n;by_cases hv:v<0
  ·rw[if_pos hv];omega
  ·rw[if_neg hv];exact Nat.min_le_right _ _
def S9 (v:Int)(n d:Nat):(if v<0 then max (v+(n:Int)) 0 else min v (n:Int))=((bB n d (some v):Nat):Int):=by
 show (if v<0 then max (v+(n:Int)) 0 else min v (n:Int))=(((if v<0 then (v+(n:Int)).toNat else min v.toNat n):Nat):Int);by_cases hv:v<0
 ·simp only[if_pos hv];omega
 ·simp only[if_neg hv];omega
def aH1 (lo hi:Option Int)(n:Nat):Builtin.Slice.sliceAdjust lo hi 1 (n:Int)=(((bB n 0 lo:Nat):Int),((bB n n hi:Nat):Int)):=by
 have h1:¬((1:Int)<0):=by omega
 unfold Builtin.Slice.sliceAdjust;simp only[h1,me];refine Prod.ext ?_ ?_
 ·cases lo with
  |none=>rfl
  |some v=>exact S9 v n 0
 ·cases hi with
  |none=>rfl
  |some v=>exact S9 v n n
def aH2 (i j:Nat):Builtin.Slice.slicePlaces (i:Int) (j:Int) 1=j-i:=by
 unfold Builtin.Slice.slicePlaces;have h1:(1:Int)>0:=by omega
 simp only[h1,if_true,Int.ediv_one];split<;>omega
def T0 {v:av}{o:Option Int}{Q:Option Int->aw->Prop}(p:IsPart v o)(h:Q o s):wpAny (model prog w) A (Builtin.Slice.slicePartIndex v) Q E s:=by
 cases p with
 |none=>exact slicePart_none h
 |int i t=>exact slicePart_int h
def T1 {sl:ax}{vl vu:av}{lo hi:Option Int}{n:Nat}{Q:Int×Int×Nat->aw->Prop}(hs:s.heap.IsSliceOf sl vl vu .none)(pl:IsPart vl lo)(pu:IsPart vu hi)(h:Q (((bB n 0 lo:Nat):Int),1,bB n n hi-bB n 0 lo) s):wpAny (model prog w) A (Builtin.Slice.sliceApplied (.ref sl) (pure (n:Int))) Q E s:=by
 obtain⟨os,Ez,Ja,DL⟩:=id hs
 unfold Builtin.Slice.sliceApplied Builtin.Slice.sliceFields;refine bq (bq (ye Ez DL (x:=vl) rfl (bq (ye Ez DL (x:=vu) rfl (bq (ye Ez DL (x:=.none) rfl (ei ?_)))))));refine bq (slicePart_none ?_);show wpAny _ _ (if ((1:Int)==0)=true then _ else _) _ _ s;rw[if_neg (by decide)];refine bq (T0 pl (bq (T0 pu (bq (ei ?_)))));show wpAny _ _ (match Builtin.Slice.sliceAdjust lo hi 1 (n:Int) with|(lo,hi)=>pure (lo,(1:Int),Builtin.Slice.slicePlaces lo hi 1)) _ _ s;rw[aH1 lo hi n];show wpAny _ _ (pure (((bB n 0 lo:Nat):Int),(1:Int),Builtin.Slice.slicePlaces ((bB n 0 lo:Nat):Int) ((bB n n hi:Nat):Int) 1)) _ _ s;rw[aH2];exact ei h
def aH3 (xs:Array av)(i k:Nat):((List.range k).filterMap λ(m:Nat)=>xs[((i:Int)+(m:Int)*1).toNat]?).toArray=((xs.toList.drop i).take k).toArray:=by
 have e:(λ(m:Nat)=>xs[((i:Int)+(m:Int)*1).toNat]?)=λm=>xs[i+m]?:=by
  funext m
  have:((i:Int)+(m:Int)*1).toNat=i+m:=by omega
  rw[this]
 rw[e]
 have:=pick_run xs i k
 rw[List.filterMap_map]at this;have e2:((λx=>xs[x]?) ∘ λx=>i+x)=λm=>xs[i+m]?:=rfl
 rw[e2]at this;rw[this]
def aH4 {t sl:ax}{items:Array av}{vl vu:av}{lo hi:Option Int}{Q:av->aw->Prop}(ht:IsTup s.heap t items)(hs:s.heap.IsSliceOf sl vl vu .none)(pl:IsPart vl lo)(pu:IsPart vu hi)(hw:¬(bB items.size 0 lo=0/\bB items.size items.size hi=items.size))(h:Q (.ref s.heap.objs.size) { s with heap:=s.heap.push { cls:=.type "tuple",data:=.seq ((items.toList.drop (bB items.size 0 lo)).take (bB items.size items.size hi-bB items.size 0 lo)).toArray } })(hsz:items.size<=sizeLine):wpAny (model prog w) A (getItem (.ref t) (.ref sl)) Q E s:=by
 have yu:sizeOk (.seq ((items.toList.drop (bB items.size 0 lo)).take (bB items.size items.size hi-bB items.size 0 lo)).toArray):=by
  show ((items.toList.drop (bB items.size 0 lo)).take (bB items.size items.size hi-bB items.size 0 lo)).toArray.size<=sizeLine;rw[gg,xi,BE,Dr];omega
 have hj:bB items.size items.size hi<=items.size:=aH0 _ _ (de _) hi
 obtain⟨os,Ez,Ja,DL⟩:=id hs
 have Rx:s.TypeIs (.ref sl) "slice":=⟨os,Ez,Ja⟩;unfold getItem
 try with_reducible refine Al ?_
 first|refine bq (ei ?_)|skip
 refine bq (wpAny_sequenceKey ht.typeIs (by decide) ?_)
 refine bq (Du (name:=Str.ofString "__getitem__") ht.typeIs FO
  (Be FO ht.typeIs entry_tuple_getitem ?_ (args_tuple_getitem _ _)))
 show wpAny _ _ (Builtin.Tuple.tupleItemsOf (.ref t) >>= _) _ _ s;refine bq (tupleItemsOf_ ht ?_);refine bq (wpAny_typeOf Rx ?_);rw[if_pos (by decide)];refine bq (T1 hs pl pu ?_);have Rc:¬((((bB items.size 0 lo:Nat):Int)==0&&(1:Int)==1&&(bB items.size items.size hi-bB items.size 0 lo)==items.size)=true):=by
  intro q;rw[mv,mv]at q;have q1:((bB items.size 0 lo:Nat):Int)=0:=eq_of_beq q.1.1;have q2:bB items.size items.size hi-bB items.size 0 lo=items.size:=eq_of_beq q.2;exact hw ⟨by omega,by omega⟩
 show wpAny _ _ (if (((bB items.size 0 lo:Nat):Int)==0&&(1:Int)==1&&(bB items.size items.size hi-bB items.size 0 lo)==items.size)=true then _ else _) _ _ s;rw[if_neg Rc,aH3]
 first
  |exact bq (m:=Builtin.Tuple.tupleExact _) (Af (ei ⟨_,rfl,ei h⟩) yu)
  |exact bq (m:=Builtin.Tuple.tupleExact _) (Af (bq (ei (ei ⟨_,rfl,ei h⟩))) yu)
  |exact bq (bq (m:=Builtin.Tuple.tupleExact _) (Af (ei (ei ⟨_,rfl,ei h⟩)) yu))
  |exact bq (bq (m:=Builtin.Tuple.tupleExact _) (Af (ei ⟨_,rfl,ei h⟩) yu))
end
end HT
namespace L2
open PySem PySem.Spec PyProof.Rows
abbrev TO:=St->Hp->(Option Int->Hp->Prop)->Prop
def PO (X:Cx)(e:Option Expr)(t:TO):Prop:=
 ∀(ag:List (ax×Obj)) (s:aw) (σ:St) (H:Hp) (Q:Option Int->Hp->Prop),a8 X ag σ H s->t σ H Q->
  wpAny (model X.prog X.w) X.A (evalPart e X.env) (λu s'=>∃o H',a8 X ag σ H' s'/\IsPart u o/\Q o H') X.xe s
def aH5:TO:=λ_ H Q=>Q none H
def aH6 (t:TE):TO:=λσ H Q=>t σ H λx H1=>∃i,x = .int i/\Q (some i) H1
def rJ {ns:af}:∀{us:List av},aQ (ns.map V.int) us->IntsAre us ns:=by
 induction ns with
 |nil=>intro us r;rw[List.map_nil]at r;cases r;exact .nil
 |cons n ns ih=>
  intro us r;rw[ib]at r;cases r with
  |cons r1 r2=>
   obtain⟨t,e⟩:=r1
   subst e;exact .cons n t (ih r2)
section
variable {X:Cx}{e:Expr}{te:TE}{lo hi:Option Expr}{tl th:TO}{pos p2:Pos}
def yV:PO X none aH5:=by
 intro ag s σ H Q I h;rw[evalPart_none];exact ei ⟨none,H,I,.none,h⟩
def yW (h:PE X e te):PO X (some e) (aH6 te):=by
 intro ag s σ H Q I hw;rw[evalPart_some];refine aR (h ag s σ H _ I hw) λu s1 ⟨x,H1,I1,r1,q1⟩=>?_
 obtain⟨i,rfl,q⟩:=q1
 obtain⟨t,rfl⟩:=r1
 exact⟨some i,H1,I1,.int i t,q⟩
def mI (X:Cx)(r:V->Option Int->Option Int->Hp->VK->Prop):Prop:=
 ∀(ag:List (ax×Obj)) (s:aw) (σ:St) (H:Hp) (x:V) (v vl vu:av) (lo hi:Option Int) (sl:ax) (Q:VK),a8 X ag σ H s->b5 x v->s.heap.IsSliceOf sl vl vu .none->IsPart vl lo->IsPart vu hi->r x lo hi H Q->
  ∃T id,typeLookup (.type T) "__getitem__" = pure (some (.builtin id))/\s.TypeIs v T/\wpAny (model X.prog X.w) X.A (getItem v (.ref sl)) (EP X ag σ Q) X.xe s
def mI.or {r r':V->Option Int->Option Int->Hp->VK->Prop}(h:mI X r)(h':mI X r'):mI X (λx lo hi H Q=>r x lo hi H Q∨r' x lo hi H Q):=by
 intro ag s σ H x v vl vu lo hi sl Q I rx hs pl pu q;rcases q with q|q
 ·exact h ag s σ H x v vl vu lo hi sl Q I rx hs pl pu q
 ·exact h' ag s σ H x v vl vu lo hi sl Q I rx hs pl pu q
def PR (r:V->Option Int->Option Int->Hp->VK->Prop)(te:TE)(tl th:TO):TE:=λσ H Q=>te σ H λx H1=>tl σ H1 λl H2=>th σ H2 λu H3=>r x l u H3 Q
def yX {r:V->Option Int->Option Int->Hp->VK->Prop}(hr:mI X r)(he:PE X e te)(hl:PO X lo tl)(hu:PO X hi th):PE X (.Subscript e (.Slice lo hi none p2) pos) (PR r te tl th):=by
 intro ag s σ H Q I h;refine Subscript_ (aR (he ag s σ H _ I h) λv s1 ⟨x,H1,I1,r1,q1⟩=>?_);refine wpAny_Slice (aR (hl ag s1 σ H1 _ I1 q1) λvl s2 ⟨l,H2,I2,pl,q2⟩=>aR (hu ag s2 σ H2 _ I2 q2) λvu s3 ⟨u,H3,I3,pu,q3⟩=>?_);rw[evalPart_none];refine ei ?_;have I4:a8 X ag σ H3 { s3 with heap:=s3.heap.push { cls:=.type "slice",data:=.fields #[vl,vu,.none] } }:=I3.kept (t':=s3.toks) λb ob q=>ic _ q
 obtain⟨T,id,hT,ht,hg⟩:=hr ag { s3 with heap:=s3.heap.push { cls:=.type "slice",data:=.fields #[vl,vu,.none] } } σ H3 x v vl vu l u s3.heap.objs.size Q I4 r1 (Heap.IsSliceOf.new ..) pl pu q3
 show wpAny (model X.prog X.w) X.A (subscriptTail e (.Slice lo hi none p2) v (.ref s3.heap.objs.size)) (EP X ag σ Q) X.xe { s3 with heap:=s3.heap.push { cls:=.type "slice",data:=.fields #[vl,vu,.none] } };exact tail_any (ops:=[.ref s3.heap.objs.size,v]) ht hT hg (by with_unfolding_all rfl)
def gH (xs:List V)(lo hi:Option Int):List V:=(xs.drop (HT.bB xs.length 0 lo)).take (HT.bB xs.length xs.length hi-HT.bB xs.length 0 lo)
def T2 (xs:List V)(lo hi:Option Int):(gH xs lo hi).length<=xs.length:=by
 unfold gH;rw[xi,BE];omega
def aH7 (K:ad):V->Option Int->Option Int->Hp->VK->Prop:=λx lo hi H Q=>∃a xs,x = .ref a/\aW K H a xs/\
 ¬(HT.bB xs.length 0 lo=0/\HT.bB xs.length xs.length hi=xs.length)/\∀p,H p=none->Q (.ref p) (upd H p (.tup (gH xs lo hi)))
def aH8:mI X (aH7 X.K):=by
 intro ag s σ H x v vl vu lo hi sl Q I rx hs pl pu h
 obtain⟨a,xs,rfl,hx,hw,q⟩:=h
 cases rx
 obtain⟨bh,r,ht,hz⟩:=I.tuple hx
 have aj:bh.toArray.size=xs.length:=by rw[gg];exact r.length.symm
 refine⟨"tuple",_,PyProof.Rows.slot_tuple_getitem.lookup,ht.typeIs,?_⟩;refine HT.aH4 ht hs pl pu (by rw[aj];exact hw) ?_ (by rw[aj];exact hz);rw[aj];refine⟨.ref s.heap.objs.size,_,I.laid (t':=s.toks) (o:=.tup (gH xs lo hi)) (λb ob q=>ic _ q) (de _) ?_,rfl,q _ (I.cf.fresh (de _))⟩
 exact⟨og (T2 xs lo hi) hz,_,(r.drop (HT.bB xs.length 0 lo)).take (HT.bB xs.length xs.length hi-HT.bB xs.length 0 lo),IsTup.new _ _,jW.new _ _ rfl⟩
def aH9 (K:ad):R2:=λx y H Q=>∃a b xs ys,x = .ref a/\y = .ref b/\aW K H a xs/\aW K H b ys/\xs≠[]/\xs.length+ys.length<=sizeLine/\
 (ys = []->Q (.ref a) H)/\(ys≠[]->∀p,H p=none->Q (.ref p) (upd H p (.tup (xs++ys))))
def aQ.ou {xs:List V}{us:List av}(r:aQ xs us):us = []↔xs = []:=by
 cases r with
 |nil=>simp
 |cons _ _=>simp
def aI0:cQ X (binaryOp .Add) (aH9 X.K):=by
 intro ag s σ H x y v u Q I rx ry h
 obtain⟨a,b,xs,ys,rfl,rfl,ha,hb,hx,hz,q1,q2⟩:=h
 cases rx;cases ry
 obtain⟨bh,r1,p1,_⟩:=I.tuple ha
 obtain⟨aq,r2,p2,_⟩:=I.tuple hb
 refine HT.aG7 p1 p2 (λz=>hx (r1.ou.mp z)) (λz=>⟨.ref a,H,I,rfl,q1 (r2.ou.mp z)⟩) (λz=>?_) (by rw[<- r1.length,<- r2.length];exact hz);refine⟨.ref s.heap.objs.size,_,I.laid (t':=s.toks) (o:=.tup (xs++ys)) (λb ob q=>ic _ q) (de _) ?_,rfl,q2 (λw=>z (r2.ou.mpr w)) _ (I.cf.fresh (de _))⟩
 exact⟨by rw[jg];exact hz,_,r1.append r2,IsTup.new _ _,jW.new _ _ rfl⟩
end
def iH (n:Nat)(i:Int):Option Nat:=if 0<=i then (if i<n then some i.toNat else none) else if -(n:Int)<=i then some (i+n).toNat else none
def ma {α:Type}(xs:List α)(i:Int):Option α:=(iH xs.length i).bind λj=>xs[j]?
def T3 {n:Nat}{i:Int}{j:Nat}(h:iH n i=some j):seqIndex? i n=some j/\j<n/\-(n:Int)<=i/\i<n:=by
 unfold iH at h;by_cases h0:0<=i
 ·rw[if_pos h0]at h
  by_cases h1:i<n
  ·rw[if_pos h1]at h
   have e:i.toNat=j:=jr h
   exact⟨by rw[seqIndex_of h0 h1,e],by omega,by omega,h1⟩
  ·rw[if_neg h1]at h;cases h
 ·rw[if_neg h0]at h
  by_cases h1:-(n:Int)<=i
  ·rw[if_pos h1]at h
   have e:(i+n).toNat=j:=jr h
   exact⟨by rw[seqIndex_neg (by omega) h1,e],by omega,h1,by omega⟩
  ·rw[if_neg h1]at h;cases h
def yY {α:Type}{xs:List α}{i:Int}{v:α}(h:ma xs i=some v):∃j,seqIndex? i xs.length=some j/\xs[j]? = some v/\j<xs.length/\-(xs.length:Int)<=i/\i<xs.length:=by
 unfold ma at h;cases e:iH xs.length i with
 |none=>rw[e]at h;cases h
 |some j=>
  rw[e]at h
  obtain⟨h1,h2,h3,h4⟩:=T3 e
  exact⟨j,h1,h,h2,h3,h4⟩
def jJ {α:Type}{xs:List α}{j:Nat}{v:α}(h:xs[j]? = some v):ma xs (j:Int)=some v:=by
 have hj:j<xs.length:=(gv.mp h).1;have e:iH xs.length (j:Int)=some j:=by
  unfold iH;rw[if_pos (by omega),if_pos (by omega)];simp
 unfold ma;rw[e];exact h
def T4 (b:Expr):Prop:=∀o i,subscripted b false o i=operate [o,i] (getItem o i)
def lM (X:Cx)(r:R2):Prop:=
 ∀(value slice:Expr) (ag:List (ax×Obj)) (s:aw) (σ:St) (H:Hp) (x y:V) (v u:av) (Q:VK),a8 X ag σ H s->b5 x v->b5 y u->r x y H Q->
  subscripted slice false v u=operate [v,u] (getItem v u)->wpAny (model X.prog X.w) X.A (subscriptTail value slice v u) (EP X ag σ Q) X.xe s
def T5 (X:Cx)(id:String)(r:V->List V->Hp->VK->Prop):Prop:=
 ∀(ag:List (ax×Obj)) (s:aw) (σ:St) (H:Hp) (x:V) (xs:List V) (v:av) (us:List av) (Q:VK),a8 X ag σ H s->b5 x v->aQ xs us->r x xs H Q->
  wpAny (model X.prog X.w) X.A (call (.builtin id) (v::us)) (EP X ag σ Q) X.xe s
section
variable {X:Cx}{a b:Expr}{ta tb:TE}{pos:Pos}
def lM.or {r r':R2}(h:lM X r)(h':lM X r'):lM X (λx y H Q=>r x y H Q∨r' x y H Q):=by
 intro value slice ag s σ H x y v u Q I rx ry q hs;rcases q with q|q
 ·exact h value slice ag s σ H x y v u Q I rx ry q hs
 ·exact h' value slice ag s σ H x y v u Q I rx ry q hs
def lN {r:R2}(hr:lM X r)(ha:PE X a ta)(hb:PE X b tb)(hs:T4 b):PE X (.Subscript a b pos) (rF r ta tb):=by
 intro ag s σ H Q I h;exact Subscript_ (yH ha hb I h λv u s2 x y H2 I2 rx ry q=>hr a b ag s2 σ H2 x y v u Q I2 rx ry q (hs _ _))
def T6 (K:ad):R2:=λx y H Q=>∃p xs i v,x = .ref p/\y = .int i/\aM K H p xs/\ma xs i=some v/\Q v H
def T7 (K:ad):R2:=λx y H Q=>∃p xs i v,x = .ref p/\y = .int i/\aW K H p xs/\ma xs i=some v/\Q v H
def T9:R2:=λx y H Q=>∃z i c,x = .str z/\y = .int i/\z.length<=sizeLine/\ma z.cps.toList i=some c/\Q (.str ⟨#[c]⟩) H
def rK:lM X (T6 X.K):=by
 intro value slice ag s σ H x y v u Q I rx ry h hs
 obtain⟨p,xs,i,z,rfl,rfl,hq,he,q⟩:=h
 cases rx
 obtain⟨t,rfl⟩:=ry
 obtain⟨bh,r,pl,hz⟩:=I.list hq
 obtain⟨j,h1,h2,h3,h4,h5⟩:=yY he
 obtain⟨w,ew,wu⟩:=r.get h2
 have hl:=r.length;have hn:=p9;have fin:EP X ag σ Q w s:=⟨z,H,I,wu,q⟩;by_cases h0:0<=i
 ·have hj:i.toNat=j:=by
   rw[seqIndex_of h0 h5]at h1;exact jr h1
  exact item_listR pl.isList h0 (by omega) (by rw[hj];simpa using ew) fin hs
 ·have hj:(i+(bh.toArray.size:Int)).toNat=j:=by
   rw[seqIndex_neg (by omega) h4]at h1;rw[gg,<- hl];exact jr h1
  exact subscriptTail_builtinR (x:=w) pl.isList.typeIs slot_list_getitem.lookup
   (wpAny_getItem_list_neg (Q:=λr s'=>r=w/\EP X ag σ Q r s') pl.isList (by omega) (by rw[gg]<;>omega) (by omega) (by rw[hj];simpa using ew) ⟨rfl,fin⟩) hs
def rL:lM X (T7 X.K):=by
 intro value slice ag s σ H x y v u Q I rx ry h hs
 obtain⟨p,xs,i,z,rfl,rfl,hq,he,q⟩:=h
 cases rx
 obtain⟨t,rfl⟩:=ry
 obtain⟨bh,r,pl,hz⟩:=I.tuple hq
 obtain⟨j,h1,h2,h3,h4,h5⟩:=yY he
 obtain⟨w,ew,wu⟩:=r.get h2
 have hl:=r.length;have hn:=p9;have fin:EP X ag σ Q w s:=⟨z,H,I,wu,q⟩;exact subscriptTail_builtinR (x:=w) pl.typeIs slot_tuple_getitem.lookup
  (getItem_tuple (j:=j) (Q:=λr s'=>r=w/\EP X ag σ Q r s') pl (by omega) (by omega) (by rw[gg,<- hl];exact h1) (by simpa using ew) ⟨rfl,fin⟩) hs
def aI1:lM X T9:=by
 intro value slice ag s σ H x y v u Q I rx ry h hs
 obtain⟨z,i,c,rfl,rfl,hz,he,q⟩:=h
 obtain⟨t,rfl⟩:=rx
 obtain⟨t',rfl⟩:=ry
 obtain⟨j,h1,h2,h3,h4,h5⟩:=yY he
 have hl:z.cps.toList.length=z.length:=by simp[Str.length]
 rw[hl]at h1 h4 h5;have hn:=p9
 exact tail_any (typeIs_str s z t) slot_str_getitem.lookup (getItem_str (c:=c) (by
  have e1:decide (i < -(2^63:Int))=false:=fk (by omega);have e2:decide (i >= 2^63)=false:=fk (by omega)
  rw[e1,e2,Bool.or_false]) (by rw[h1];simpa using h2) ⟨.str ⟨#[c]⟩,H,I.tok _,⟨_,rfl⟩,q⟩) hs
def U0 (K:ad):R2:=λx y H Q=>T6 K x y H Q∨T7 K x y H Q∨T9 x y H Q
def aI2:lM X (U0 X.K):=rK.or (rL.or aI1)
def aI3 (bh:List av)(n j:Nat)(u:av):Obj.mapSeq (·.setIfInBounds j u) { cls:=.type "list",data:=.seq bh.toArray n }={ cls:=.type "list",data:=.seq (bh.set j u).toArray n }:=by
 simp[Obj.mapSeq]
def a8.lst {ag:List (ax×Obj)}{σ:St}{H:Hp}{s:aw}{p:ax}{xs:List V}(I:a8 X ag σ H s)(h:H p=some (.lst xs)) :
  ∃(bh:List av) (n:Nat),aQ xs bh/\s.heap.get? p=some { cls:=.type "list",data:=.seq bh.toArray n }/\xs.length<=sizeLine:=by
 obtain⟨z,bh,n,r,e⟩:=I.cf p _ h
 exact⟨bh,n,r,e,z⟩
def a8.CB {ag:List (ax×Obj)}{σ:St}{H:Hp}{s:aw}{p:ax}{xs ys:List V}{bh its':List av}{n n':Nat}{f:Obj->Obj}(I:a8 X ag σ H s)(h:H p=some (.lst xs))(ho:s.heap.get? p=some { cls:=.type "list",data:=.seq bh.toArray n })(hf:f { cls:=.type "list",data:=.seq bh.toArray n }={ cls:=.type "list",data:=.seq its'.toArray n' })(r:aQ ys its')(hz:ys.length<=sizeLine)(t:Nat) :
  a8 X ag σ (upd H p (.lst ys)) { s with heap:=s.heap.update p f,toks:=t }:=by
 have e:(s.heap.update p f).get? p=some { cls:=.type "list",data:=.seq its'.toArray n' }:=by
  rw[Heap.get?_update_self f ho (by rw[hf]<;>rfl),hf]
 refine I.write (x:=p) (e:=p) (by rw[h];trivial) (.inl rfl) (λb u hb q=>(Heap.get?_update_other _ _ (Ne.symm hb)).trans q) ⟨_,e⟩ ?_
 exact⟨hz,its',n',r,e⟩
def yZ:V->V->V->Hp->(Hp->Prop)->Prop:=λo i v H Q=>∃p xs k j,o = .ref p/\i = .int k/\H p=some (.lst xs)/\iH xs.length k=some j/\Q (upd H p (.lst (xs.set j v)))
def aI4:P5 X yZ:=by
 intro ag s σ H o i v ov iv u Q I ro ri rv h
 obtain⟨p,xs,k,j,rfl,rfl,hp,hj,q⟩:=h
 cases ro
 obtain⟨t,rfl⟩:=ri
 obtain⟨bh,n,r,ho,hz⟩:=I.lst hp
 obtain⟨h1,h2,h3,h4⟩:=T3 hj
 have hl:=r.length;have hn:=p9;have I':a8 X ag σ (upd H p (.lst (xs.set j v))) { s with heap:=s.heap.update p (Obj.mapSeq (·.setIfInBounds j u)) }:=
  I.CB hp ho (aI3 bh n j u) (r.set rv j) (by rw[va];exact hz) s.toks
 by_cases h0:0<=k
 ·have hk:k.toNat=j:=by
   rw[seqIndex_of h0 h4]at h1;exact jr h1
  exact PySem.W.ki_setAt ho h0 (by omega) (by rw[gg,<- hl];exact h4) (by rw[hk];exact⟨_,I',q⟩)
 ·have hk:(k+(bh.toArray.size:Int)).toNat=j:=by
   rw[seqIndex_neg (by omega) h3]at h1;rw[gg,<- hl];exact jr h1
  exact PySem.W.ki_setBack ho (by omega) (by rw[gg,<- hl];exact h3) (by omega) (by rw[hk];exact⟨_,I',q⟩)
def aI5 (lo hi:Option Int)(n:Nat):(sliceBounds lo hi none n).1=((HT.bB n 0 lo:Nat):Int)/\(sliceBounds lo hi none n).2.1=((HT.bB n n hi:Nat):Int)/\(sliceBounds lo hi none n).2.2=1:=by
 refine⟨?_,?_,rfl⟩
 ·cases lo with
  |none=>simp[sliceBounds,HT.bB]
  |some i=>
   simp only[sliceBounds,HT.bB,Option.getD_none,show (1:Int)>0 by decide,if_true];by_cases h:i<0
   ·simp only[h,if_true]<;>omega
   ·simp only[h,me]<;>omega
 ·cases hi with
  |none=>simp[sliceBounds,HT.bB]
  |some i=>
   simp only[sliceBounds,HT.bB,Option.getD_none,show (1:Int)>0 by decide,if_true];by_cases h:i<0
   ·simp only[h,if_true]<;>omega
   ·simp only[h,me]<;>omega
def aI6 (bh:List av)(lo hi:Option Int):slicePick bh.toArray lo hi none=((bh.drop (HT.bB bh.length 0 lo)).take (HT.bB bh.length bh.length hi-HT.bB bh.length 0 lo)).toArray:=by
 obtain⟨h1,h2,h3⟩:=aI5 lo hi bh.toArray.size
 unfold slicePick;rw[h1,h2,h3];simp only[sliceRange_one,pick_run,gg]<;>rfl
def aI7 (K:ad):V->Option Int->Option Int->Hp->VK->Prop:=λx lo hi H Q=>∃a xs,x = .ref a/\aM K H a xs/\∀p,H p=none->Q (.ref p) (upd H p (.lst (gH xs lo hi)))
def U1:mI X (aI7 X.K):=by
 intro ag s σ H x v vl vu lo hi sl Q I rx hs pl pu h
 obtain⟨a,xs,rfl,hx,q⟩:=h
 cases rx
 obtain⟨bh,r,ht,hz⟩:=I.list hx
 have aj:=r.length;refine⟨"list",_,slot_list_getitem.lookup,ht.isList.typeIs,?_⟩;refine wpAny_getItem_list_slice ht.isList hs pl pu .none (by simp) ?_ (by rw[gg]<;>omega);rw[aI6,<- aj];refine⟨.ref s.heap.objs.size,_,I.laid (t':=s.toks) (o:=.lst (gH xs lo hi)) (λb ob q=>ic _ q) (de _) ?_,rfl,q _ (I.cf.fresh (de _))⟩
 exact⟨og (T2 xs lo hi) hz,_,0,(r.drop (HT.bB xs.length 0 lo)).take (HT.bB xs.length xs.length hi-HT.bB xs.length 0 lo),my _ rfl⟩
def lO:V->Bool
 |.bw=>true
 |.bl _=>true
 |.int _=>true
 |.str _=>true
 |_=>false
def k6:V->V->Bool
 |.bw,.bw=>true
 |.bl a,.bl b=>a==b
 |.bl a,.int b=>(if a then 1 else 0)==b
 |.int a,.bl b=>a==(if b then 1 else 0)
 |.int a,.int b=>a==b
 |.str a,.str b=>a==b
 |_,_=>false
def aI8 {A:az}{s:aw}{y x:V}{u v:av}(ry:b5 y u)(rx:b5 x v)(fy:lO y=true)(fx:lO x=true):SeqAt.EqAt A s u v (k6 y x):=by
 cases y with
 |bw=>
  cases ry;cases x with
  |bw=>cases rx;exact SeqAt.EqAt.same _
  |bl b=>cases rx;exact SeqAt.EqAt.none_bool b
  |int b=>obtain⟨t,rfl⟩:=rx;exact SeqAt.EqAt.none_int b t
  |str b=>obtain⟨t,rfl⟩:=rx;exact SeqAt.EqAt.none_str b t
  |_=>exact absurd (show false=true from fx) om
 |bl a=>
  cases ry;cases x with
  |bw=>cases rx;exact SeqAt.EqAt.bool_none a
  |bl b=>cases rx;exact SeqAt.EqAt.bool_bool a b
  |int b=>obtain⟨t,rfl⟩:=rx;exact SeqAt.EqAt.bool_int a b t
  |str b=>obtain⟨t,rfl⟩:=rx;exact SeqAt.EqAt.bool_str a b t
  |_=>exact absurd (show false=true from fx) om
 |int a=>
  obtain⟨t',rfl⟩:=ry
  cases x with
  |bw=>cases rx;exact SeqAt.EqAt.int_none a t'
  |bl b=>cases rx;exact SeqAt.EqAt.int_bool a t' b
  |int b=>obtain⟨t,rfl⟩:=rx;exact SeqAt.EqAt.int_int a t' b t
  |str b=>obtain⟨t,rfl⟩:=rx;exact SeqAt.EqAt.int_str a t' b t
  |_=>exact absurd (show false=true from fx) om
 |str a=>
  obtain⟨t',rfl⟩:=ry
  cases x with
  |bw=>cases rx;exact SeqAt.EqAt.str_none a t'
  |bl b=>cases rx;exact SeqAt.EqAt.str_bool a t' b
  |int b=>obtain⟨t,rfl⟩:=rx;exact SeqAt.EqAt.str_int a t' b t
  |str b=>obtain⟨t,rfl⟩:=rx;exact SeqAt.EqAt.str_str a t' b t
  |_=>exact absurd (show false=true from fx) om
 |_=>exact absurd (show false=true from fy) om
def lP (x:V)(u:av):Bool:=match u with
 |.none=>k6 .bw x
 |.bool b=>k6 (.bl b) x
 |.int i _=>k6 (.int i) x
 |.str z _=>k6 (.str z) x
 |_=>false
def U2 {x y:V}{u:av}(r:b5 y u)(f:lO y=true):lP x u=k6 y x:=by
 cases y with
 |bw=>cases r;rfl
 |bl b=>cases r;rfl
 |int i=>obtain⟨t,rfl⟩:=r;rfl
 |str z=>obtain⟨t,rfl⟩:=r;rfl
 |_=>exact absurd (show false=true from f) om
def zA {x:V}:∀{xs:List V}{us:List av},aQ xs us->xs.all lO=true->us.any (lP x)=xs.any λy=>k6 y x
 |_,_,.nil,_=>rfl
 |y::xs,u::us,.cons r t,f=>by
  rw[BB,mv]at f;rw[BA,BA,U2 r f.1,zA t f.2]
def zB {A:az}{s:aw}{x:V}{v:av}(rx:b5 x v)(fx:lO x=true):∀{xs:List V}{us:List av},aQ xs us->xs.all lO=true->∀u∈us,SeqAt.EqAt A s u v (lP x u)
 |_,_,.nil,_=>λu hu=>by cases hu
 |y::xs,u::us,.cons r t,f=>λu' hu=>by
  rw[BB,mv]at f;rcases ff.mp hu with rfl|hu
  ·rw[U2 r f.1];exact aI8 r rx f.1 fx
  ·exact zB rx fx t f.2 u' hu
def rM (x:V)(xs:List V):Bool:=xs.any λy=>k6 y x
def U3 (K:ad)(neg:Bool):R2:=λx y H Q=>∃p xs,y = .ref p/\(aM K H p xs∨aW K H p xs)/\lO x=true/\xs.all lO=true/\Q (.bl (if neg then !rM x xs else rM x xs)) H
def aI9:cQ X (compareOp .NotIn) (U3 X.K true):=by
 intro ag s σ H x y v u Q I rx ry h
 obtain⟨p,xs,rfl,hq,fx,fs,q⟩:=h
 cases ry;rcases hq with hq|hq
 ·obtain⟨bh,r,pl,hz⟩:=I.list hq
  refine SeqAt.notIn_listAt (lP x) pl.isList (λw hw=>zB rx fx r fs w (by simpa using hw)) ⟨.bl _,H,I,rfl,?_⟩;rw[show bh.toArray.any (lP x)=bh.any (lP x) by simp,zA r fs];exact q
 ·obtain⟨bh,r,pl,hz⟩:=I.tuple hq
  refine SeqAt.notIn_tupleAt (lP x) pl (λw hw=>zB rx fx r fs w (by simpa using hw)) ⟨.bl _,H,I,rfl,?_⟩;rw[show bh.toArray.any (lP x)=bh.any (lP x) by simp,zA r fs];exact q
def aJ0:dU X (.builtin "len") (λxs H Q=>∃p ys,xs = [.ref p]/\(aM X.K H p ys∨aW X.K H p ys)/\Q (.int ys.length) H):=by
 intro ag s σ H xs us Q I r h
 obtain⟨p,ys,rfl,hq,q⟩:=h
 obtain⟨u,rfl,rx⟩:=iF r
 cases rx;have hn:=p9;rcases hq with hq|hq
 ·obtain⟨bh,r',pl,hz⟩:=I.list hq
  have aj:=r'.length;exact Calls.call_len_list pl.isList (by simp only[gg]<;>omega) ⟨.int ys.length,H,I.tok _,⟨s.toks+1,by rw[gg,aj]⟩,q⟩
 ·obtain⟨bh,r',pl,hz⟩:=I.tuple hq
  have aj:=r'.length;exact len_tuple pl (by simp only[gg]<;>omega) ⟨.int ys.length,H,I.tok _,⟨s.toks+1,by rw[gg,aj]⟩,q⟩
def dU.or {f:av}{r r':List V->Hp->VK->Prop}(h:dU X f r)(h':dU X f r'):dU X f (λxs H Q=>r xs H Q∨r' xs H Q):=by
 intro ag s σ H xs us Q I rs q;rcases q with q|q
 ·exact h ag s σ H xs us Q I rs q
 ·exact h' ag s σ H xs us Q I rs q
def aJ1:dU X (.type "tuple") (λxs H Q=>∃p ys,xs = [.ref p]/\((aM X.K H p ys/\∀l,H l=none->Q (.ref l) (upd H l (.tup ys)))∨(aW X.K H p ys/\Q (.ref p) H))):=by
 intro ag s σ H xs us Q I r h
 obtain⟨p,ys,rfl,h⟩:=h
 obtain⟨u,rfl,rx⟩:=iF r
 cases rx;rcases h with⟨hq,q⟩|⟨hq,q⟩
 ·obtain⟨bh,r',pl,hz⟩:=I.list hq
  have aj:=r'.length;refine call_tuple_list pl.isList (λh' kp=>?_) (by simp only[gg]<;>omega);have I1:a8 X ag σ H { s with heap:=h' }:=I.kept (t':=s.toks) kp;have I2:a8 X ag σ (upd H h'.objs.size (.tup ys)) { s with heap:=h'.push { cls:=.type "tuple",data:=.seq bh.toArray } }:=
   I1.laid (t':=s.toks) (λb o e=>ic _ e) (de _) (show cB X.prog X.w _ _ _ (.tup ys) from ⟨hz,bh,r',IsTup.new _ _,jW.new _ _ rfl⟩)
  exact⟨.ref h'.objs.size,_,I2,rfl,q _ (I1.cf.fresh (de _))⟩
 ·obtain⟨bh,r',pl,hz⟩:=I.tuple hq
  exact call_tuple_same pl ⟨.ref p,H,I,rfl,q⟩
def rN (K:ad)(T:String)(x:V)(H:Hp):Prop:=match x with
 |.str _=>T="str"
 |.int _=>T="int"
 |.ref p=>(T="list"/\∃xs,aM K H p xs)∨(T="tuple"/\∃o,K.lookup p=some o/\o.cls = .type "tuple"/\o.dict=none) ∨
   (T="dict"/\((∃bf,H p=some (.dK bf))∨∃bf,H p=some (.dT bf)))∨(T="set"/\∃S n,H p=some (.set S n))
 |_=>False
def U4 {ag:List (ax×Obj)}{σ:St}{H:Hp}{s:aw}{T:String}{x:V}{v:av}(I:a8 X ag σ H s)(r:b5 x v)(ty:rN X.K T x H) :
  s.TypeIs v T/\∀a,v = .ref a->∃ob,s.heap.get? a=some ob/\ob.dict=none:=by
 cases x with
 |str z=>
  obtain⟨t,rfl⟩:=r
  cases (show T="str" from ty)
  exact⟨typeIs_str s z t,λ_ e=>nomatch e⟩
 |int i=>
  obtain⟨t,rfl⟩:=r
  cases (show T="int" from ty)
  exact⟨typeIs_int s i t,λ_ e=>nomatch e⟩
 |ref p=>
  cases r;rcases ty with⟨rfl,xs,hq⟩|⟨rfl,o,hk,hc,hd⟩|⟨rfl,hk⟩|⟨rfl,S,n,hk⟩
  ·obtain⟨bh,_,pl,_⟩:=I.list hq
   refine⟨pl.isList.typeIs,λa e=>?_⟩;cases e
   obtain⟨o,n,e,c,hd,_⟩:=pl
   exact⟨o,e,hd⟩
  ·refine⟨⟨o,I.BU p o hk,hc⟩,λa e=>?_⟩
   cases e
   exact⟨o,I.BU _ o hk,hd⟩
  ·have z:∃o,s.heap.get? p=some o/\o.ExactDict:=by
    rcases hk with⟨bf,hk⟩|⟨bf,hk⟩
    ·obtain⟨_,_,_,_,o,_,_,e,ex,_⟩:=I.cf p _ hk
     exact⟨o,e,ex⟩
    ·obtain⟨_,_,_,_,o,_,_,e,ex,_⟩:=I.cf p _ hk
     exact⟨o,e,ex⟩
   obtain⟨o,e,ex⟩:=z
   refine⟨⟨o,e,ex.1⟩,λa e2=>?_⟩;cases e2
   exact⟨o,e,ex.2.1⟩
  ·obtain⟨o,_,_,_,e,ex,_⟩:=I.cf p _ hk
   refine⟨⟨o,e,ex.1⟩,λa e2=>?_⟩;cases e2
   exact⟨o,e,ex.2.1⟩
 |_=>exact False.elim ty
def U5 (K:ad)(T:String)(r:V->List V->Hp->VK->Prop)(to:TE):TE:=λσ H Q=>to σ H λx H1=>rN K T x H1/\r x [] H1 Q
def u0 (K:ad)(T:String)(r:V->List V->Hp->VK->Prop)(to:TE)(t:TA):TE:=λσ H Q=>to σ H λx H1=>rN K T x H1/\t σ H1 λxs H2=>r x xs H2 Q
variable {o e:Expr}{es:List Expr}{to:TE}{t:TA}{name:Str}{ah ai:Pos}{T id:String}{r:V→List V→Hp→VK→Prop}
def aJ2 (pa:PlainAttrs T)(slot:Slot T name id)(GP:typeOf (.builtin id)=pure (.type "method_descriptor"))(hm:T5 X id r)(ho:PE X o to)(ki:attributeBase o name X.env (eval o X.env)=eval o X.env:=by rfl)(kh:(ah.endLine==ai.line)=true:=by rfl):PE X (.Call (.Attribute o name ah) [] [] ai) (U5 X.K T r to):=by
 intro ag s σ H Q I h;refine wpAny_Call_method0_late ki kh (aR (ho ag s σ H _ I h) λv s1 ⟨x,H1,I1,r1,ty,q1⟩=>?_)
 obtain⟨h1,h2⟩:=U4 I1 r1 ty
 exact⟨T,id,pa,slot,GP,h1,h2,Calls.callWith_builtin rfl (PySem.evalArgs_none (hm ag s1 σ H1 x [] v [] Q I1 r1 .nil q1))⟩
def nQ (pa:PlainAttrs T)(slot:Slot T name id)(GP:typeOf (.builtin id)=pure (.type "method_descriptor"))(hm:T5 X id r)(ho:PE X o to)(ha:PA X (e::es) t)(ki:attributeBase o name X.env (eval o X.env)=eval o X.env:=by rfl)(yb:((backTo ai (starEach (e::es) X.env)).all (λx=>!x.1)&&(backToKw ai (keywordEach [] X.env)).all (λx=>x.1.isSome)
  &&decide ((e::es).length+([]:List Keyword).length+(if ([]:List Keyword).isEmpty then 0 else 1)<30))=true:=by rfl)(kh:(ah.endLine==ai.line)=true:=by rfl)(hs:starEach (e::es) X.env=(false,eval e X.env)::starEach es X.env:=by rfl)(ar:(backTo ai (starEach es X.env)).any (·.1)=false:=by rfl) :
  PE X (.Call (.Attribute o name ah) (e::es) [] ai) (u0 X.K T r to t):=by
 intro ag s σ H Q I h;refine wpAny_Call_method_late ki yb kh rfl (aR (ho ag s σ H _ I h) λv s1 ⟨x,H1,I1,r1,ty,q1⟩=>?_)
 obtain⟨h1,h2⟩:=U4 I1 r1 ty
 refine⟨T,id,pa,slot,GP,h1,h2,?_⟩;have hA:=ha ai ag s1 σ H1 _ I1 q1;rw[hs]at hA ⊢;refine Calls.callWith_builtin (by show (false||(backTo ai (starEach es X.env)).any (·.1))=false;rw[ar]<;>rfl) (Calls.evalArgs_plain ?_);exact aR hA λus s2 ⟨vs,H2,I2,r2,q2⟩=>hm ag s2 σ H2 x vs v us Q I2 r1 r2 q2
end
def pB (X:Cx)(id:String)(r:V->List V->Hp->VK->Prop):Prop:=
 ∀(ag:List (ax×Obj)) (s:aw) (σ:St) (H:Hp) (x:V) (xs:List V) (v:av) (us:List av) (Q:VK),a8 X ag σ H s->b5 x v->aQ xs us->r x xs H Q->
  wpAny (model X.prog X.w) X.A (call (.builtin id) (v::us)) (EP X ag σ Q) X.xe s
def aQ.one {x:V}{us:List av}(h:aQ [x] us):∃u,us = [u]/\b5 x u:=by
 cases h with
 |cons r t=>
  cases t
  exact⟨_,rfl,r⟩
def aQ.two {x y:V}{us:List av}(h:aQ [x,y] us):∃u v,us = [u,v]/\b5 x u/\b5 y v:=by
 cases h with
 |cons r t=>
  cases t with
  |cons q t=>
   cases t
   exact⟨_,_,rfl,r,q⟩
def aQ.zero:∀{us:List av},aQ [] us->us = []
 |_,.nil=>rfl
def aQ.dropLast {xs:List V}{us:List av}(h:aQ xs us):aQ xs.dropLast us.dropLast:=by
 induction h with
 |nil=>exact .nil
 |cons r t ih=>
  cases t with
  |nil=>exact .nil
  |cons q t'=>exact .cons r ih
def aQ.rep {xs:List V}{us:List av}(h:aQ xs us):∀k:Nat,aQ (List.replicate k xs).flatten (List.replicate k us).flatten
 |0=>.nil
 |k+1=>by
  rw[Ag,Ag,BF,BF];exact aQ.append h (aQ.rep h k)
def aJ3 {α:Type}(l:List α):l.eraseIdx (l.length-1)=l.dropLast:=by
 induction l with
 |nil=>rfl
 |cons a r ih=>
  cases r with
  |nil=>rfl
  |cons b r=>
   have e:(a::b::r).length-1=((b::r).length-1)+1:=by
    have h1:(a::b::r).length=r.length+2:=rfl;have h2:(b::r).length=r.length+1:=rfl;omega
   rw[e,List.eraseIdx_cons_succ,ih]
   all_goals rfl
def U6 (bh:List av):∀(k:Nat) (acc:List av),
  List.foldl (λx1 x2=>x1++x2) acc.toArray (List.replicate k bh.toArray)=(acc++(List.replicate k bh).flatten).toArray
 |0,acc=>by simp
 |k+1,acc=>by
  have e:acc.toArray++bh.toArray=(acc++bh).toArray:=by simp
  have e2:(acc++bh)++(List.replicate k bh).flatten=acc++(List.replicate (k+1) bh).flatten:=by
   rw[Ag,BF,List.append_assoc]
  rw[<- e2,<- U6 bh k (acc++bh),<- e,Ag,List.foldl_cons]
section
variable {X:Cx}{ag:List (ax×Obj)}{σ:St}{H:Hp}{s:aw}{l b:ax}{xs ys zs:List V}
def a8.pg {bh its':List av}{n:Nat}{f:Array av->Array av}{t':Nat}(I:a8 X ag σ H s)(hH:H l=some (.lst xs))(e:s.heap.get? l=some { cls:=.type "list",data:=.seq bh.toArray n })(hf:f bh.toArray=its'.toArray)(hv:aQ ys its')(hz:ys.length<=sizeLine) :
  a8 X ag σ (upd H l (.lst ys)) { s with heap:=s.heap.update l (Obj.mapSeq f),toks:=t' }:=by
 have q:=PySem.IsL.update e f;rw[hf]at q;refine I.write (x:=l) (e:=l) (by rw[hH];exact trivial) (.inl rfl) (λb' u hb hu=>(Heap.get?_update_other s.heap (Obj.mapSeq f) (Ne.symm hb)).trans hu) ⟨_,q⟩ ?_
 exact⟨hz,its',_,hv,q⟩
def a8.CD {bh:List av}{t':Nat}(I:a8 X ag σ H s)(hv:aQ ys bh)(hz:ys.length<=sizeLine) :
  a8 X ag σ (upd H s.heap.objs.size (.lst ys)) { s with heap:=s.heap.push { cls:=.type "list",data:=.seq bh.toArray },toks:=t' }:=
 I.laid (λ_ _ q=>ic _ q) (de _) ⟨hz,bh,0,hv,my _ rfl⟩
def a8.fresh (I:a8 X ag σ H s):H s.heap.objs.size=none:=I.cf.fresh (de _)
def a8.uj (I:a8 X ag σ H s)(hH:H l=some (.lst xs)):xs.length<=sizeLine/\∃(bh:List av) (n:Nat),aQ xs bh/\xs.length=bh.length/\s.heap.get? l=some { cls:=.type "list",data:=.seq bh.toArray n }:=by
 obtain⟨z,bh,n,r,e⟩:=I.cf l _ hH
 exact⟨z,bh,n,r,r.length,e⟩
def zC {n:Nat}(h:n<=sizeLine):Builtin.List.listTooLong n=false:=by
 unfold Builtin.List.listTooLong;exact fk (by omega)
end
section
variable {X:Cx}
def U7:V->List V->Hp->VK->Prop:=λx vs H Q=>∃l xs y,x = .ref l/\vs = [y]/\H l=some (.lst xs)/\xs.length<sizeLine/\Q .bw (upd H l (.lst (xs++[y])))
def pC:pB X "list.append" U7:=by
 intro ag s σ H x vs v us Q I rx rv h
 obtain⟨l,xs,y,rfl,rfl,hH,hz,q⟩:=h
 cases rx
 obtain⟨u,rfl,ru⟩:=rv.one
 obtain⟨z,bh,n,r,hl,e⟩:=I.uj hH
 refine call_meets F.slot_list_append ⟨_,e,rfl⟩ F.entry_list_append (F.args_list_append_2 _ _) (PySem.list_append l bh.toArray n u (by rw[gg];omega)) ⟨e,?_⟩;refine⟨.bw,_,I.pg (its':=bh++[u]) hH e (by simp) (r.append (.cons ru .nil)) ?_,rfl,q⟩;rw[jg,uy];omega
def U8:V->List V->Hp->VK->Prop:=λx vs H Q=>∃l b xs zs,x = .ref l/\vs = [.ref b]/\H l=some (.lst xs)/\H b=some (.lst zs)/\xs.length+zs.length<=sizeLine/\Q .bw (upd H l (.lst (xs++zs)))
def aJ4:pB X "list.extend" U8:=by
 intro ag s σ H x vs v us Q I rx rv h
 obtain⟨l,b,xs,zs,rfl,rfl,hH,hB,hz,q⟩:=h
 cases rx
 obtain⟨u,rfl,ru⟩:=rv.one
 cases ru
 obtain⟨z,bh,n,r,hl,e⟩:=I.uj hH
 obtain⟨z2,aq,n2,r2,ya,e2⟩:=I.uj hB
 have hsz:bh.toArray.size+aq.toArray.size<=sizeLine:=by rw[gg,gg];omega
 have vo:¬(!bh.toArray.isEmpty&&Builtin.List.listTooLong (bh.toArray.size+aq.toArray.size))=true:=by
  rw[zC hsz,Cc];exact om
 refine call_meets F.slot_list_extend ⟨_,e,rfl⟩ F.entry_list_extend (F.args_list_extend_2 _ _)
  (AutoSeq1.list_extend_list_list_0 l bh.toArray n b aq.toArray n2 vo (by rw[gg];omega) (by omega)) ⟨e,e2,?_⟩
 refine⟨.bw,_,I.pg (its':=bh++aq) hH e (by simp) (r.append r2) ?_,rfl,q⟩;rw[jg];omega
def U9:V->List V->Hp->VK->Prop:=λx vs H Q=>∃l xs y,x = .ref l/\vs = []/\H l=some (.lst xs)/\xs[xs.length-1]? = some y/\Q y (upd H l (.lst xs.dropLast))
def aJ5:pB X "list.pop" U9:=by
 intro ag s σ H x vs v us Q I rx rv h
 obtain⟨l,xs,y,rfl,rfl,hH,hy,q⟩:=h
 cases rx;have QR:=rv.zero;subst QR
 obtain⟨z,bh,n,r,hl,e⟩:=I.uj hH
 obtain⟨u,hu,ru⟩:=r.get hy
 have zq:bh.toArray[bh.toArray.size-1]? = some u:=by
  show bh.toArray[bh.length-1]? = some u;rw[<- Array.getElem?_toList,<- hl];exact hu
 refine call_meets F.slot_list_pop ⟨_,e,rfl⟩ F.entry_list_pop (F.args_list_pop_1 _) (MeetsSeq.list_pop_last l bh.toArray n u zq (by rw[gg];omega)) ⟨e,?_⟩;refine⟨y,_,I.pg (its':=bh.dropLast) hH e ?_ r.dropLast ?_,ru,q⟩
 ·show bh.toArray.eraseIdxIfInBounds (bh.toArray.size-1)=bh.dropLast.toArray
  rw[gg,List.eraseIdxIfInBounds_toArray,aJ3]
 ·rw[List.length_dropLast]
  omega
def V0:R2:=λx y H Q=>∃l b xs zs,x = .ref l/\y = .ref b/\H l=some (.lst xs)/\H b=some (.lst zs)/\xs.length+zs.length<=sizeLine/\∀p,H p=none->Q (.ref p) (upd H p (.lst (xs++zs)))
def aJ6:cQ X (binaryOp .Add) V0:=by
 intro ag s σ H x y v u Q I rx ry h
 obtain⟨l,b,xs,zs,rfl,rfl,hH,hB,hz,q⟩:=h
 cases rx;cases ry
 obtain⟨z,bh,n,r,hl,e⟩:=I.uj hH
 obtain⟨z2,aq,n2,r2,ya,e2⟩:=I.uj hB
 refine PySem.P.add_list e e2 ?_ (by rw[gg,gg];omega);have ea:bh.toArray++aq.toArray=(bh++aq).toArray:=by simp
 rw[ea]
 exact⟨.ref _,_,I.CD (t':=s.toks) (r.append r2) (by rw[jg];omega),rfl,q _ I.fresh⟩
def V1:R2:=λx y H Q=>∃l k xs,x = .ref l/\y = .int k/\H l=some (.lst xs)/\-(2^63)<=k/\k<2^63/\xs.length*k.toNat<=sizeLine/\
 ∀p,H p=none->Q (.ref p) (upd H p (.lst (List.replicate k.toNat xs).flatten))
def aJ7 {α:Type}(xs:List α)(k:Nat):(List.replicate k xs).flatten.length=k*xs.length:=by
 induction k with
 |zero=>simp
 |succ k ih=>rw[Ag,BF,jg,ih,Nat.succ_mul,Nat.add_comm]
def aJ8:cQ X (binaryOp .Mult) V1:=by
 intro ag s σ H x y v u Q I rx ry h
 obtain⟨l,k,xs,rfl,rfl,hH,h1,h2,hz,q⟩:=h
 cases rx
 obtain⟨t,rfl⟩:=ry
 obtain⟨z,bh,n,r,hl,e⟩:=I.uj hH
 have aj:bh.toArray.size*k.toNat<=sizeLine:=by rw[gg,<- hl];exact hz
 have Hq:¬bh.toArray.size*k.toNat>(2^63-1)/8:=by
  have:(sizeLine:Nat)<=(2^63-1)/8:=by decide
  omega
 have Hk:¬(!Builtin.List.listFitsIndex k)=true:=by
  rw[fitsIndex_both h1 h2];exact om
 have vo:¬Builtin.List.listTooLong (bh.toArray.size*k.toNat)=true:=by
  rw[zC aj];exact om
 have GZ:List.foldl (λx1 x2=>x1++x2) #[] (List.replicate (if bh.toArray.isEmpty=true then 0 else k.toNat) bh.toArray)=(List.replicate k.toNat bh).flatten.toArray:=by
  have f0:∀m:Nat,List.foldl (λx1 x2=>x1++x2) #[] (List.replicate m bh.toArray)=(List.replicate m bh).flatten.toArray:=λm=>by
   have:=U6 bh m []
   rw[List.nil_append]at this;exact this
  rw[f0];cases bh with
  |nil=>simp
  |cons a r'=>rw[if_neg (by simp)]
 refine wpAny_binaryOp_repeat_ref (T:="list") (U:="int") (by decide) ⟨_,e,rfl⟩ (λs'=>typeIs_int s' k t) noFill_list_mul F.fills_int_mul F.slot_int_rmul repeat_list F.slot_int_index.lookup
  (call_meets F.slot_int_rmul (typeIs_int s k t) F.entry_int_rmul (F.args_int_rmul_2 _ _) (int___rmul___int_list k t l bh.toArray n)
   ⟨e,rfl,⟨_,e,rfl⟩,call_meets F.slot_list_mul ⟨_,e,rfl⟩ F.entry_list_mul (F.args_list_mul_2 _ _) (AutoListH.list___mul___list_int_3 l bh.toArray n k t Hk Hq vo) ⟨e,?_⟩⟩)
 rw[GZ]
 exact⟨.ref _,_,I.CD (t':=s.toks) (r.rep k.toNat) (by rw[aJ7,Nat.mul_comm];exact hz),rfl,q _ I.fresh⟩
end
section
variable {κ:Type}[DecidableEq κ]
def i4 (bf:List (κ×V))(k:κ):Option V:=(bf.find? λkv=>decide (kv.1=k)).map (·.2)
def fJ (bf:List (κ×V))(k:κ)(v:V):List (κ×V):=
 if (bf.any λkv=>decide (kv.1=k))=true then bf.map (λkv=>if kv.1=k then (kv.1,v) else kv) else bf++[(k,v)]
def zD {p:κ×V}{r:List (κ×V)}{k:κ}(e:p.1=k):i4 (p::r) k=some p.2:=by simp[i4,AN,e]
def zE {p:κ×V}{r:List (κ×V)}{k:κ}(e:¬p.1=k):i4 (p::r) k=i4 r k:=by simp[i4,AN,e]
def V2 (k:κ):∀bf:List (κ×V),(bf.any λkv=>decide (kv.1=k))=(i4 bf k).isSome
 |[]=>rfl
 |p::r=>by
  rw[BA];by_cases e:p.1=k
  ·simp only[zD e,di e,Bool.true_or,Option.isSome_some]
  ·rw[zE e,fk e,Bool.false_or];exact V2 k r
def zF (bf:List (κ×V))(k:κ)(v:V):(fJ bf k v).length<=bf.length+1:=by
 unfold fJ;split
 ·rw[df];omega
 ·rw[jg,ie,List.length_nil];omega
def jF.jq {o:Option V}{u:Option av}(r:jF o u):o.isSome=u.isSome:=by
 cases o with
 |none=>cases u with
  |none=>rfl
  |some _=>exact (show False from r).elim
 |some _=>cases u with
  |none=>exact (show False from r).elim
  |some _=>rfl
def jF.getD {o:Option V}{u:Option av}{d:V}{d':av}(r:jF o u)(rd:b5 d d'):b5 (o.getD d) (u.getD d'):=by
 cases o with
 |none=>cases u with
  |none=>exact rd
  |some _=>exact (show False from r).elim
 |some _=>cases u with
  |none=>exact (show False from r).elim
  |some _=>exact r
def KV.val {bf:List (κ×V)}{vs:List (κ×av)}(r:KV bf vs)(k:κ):jF (i4 bf k) (valueAt vs k):=by
 unfold KV at r
 induction r with
 |nil=>exact True.intro
 |@cons p q ps qs h t ih=>
  obtain⟨h1,h2⟩:=h
  by_cases e:p.1=k
  ·have e':q.1=k:=h1.symm.trans e
   have b:valueAt (q::qs) k=some q.2:=by simp[valueAt,AN,e']
   rw[zD e,b];exact h2
  ·have e':¬q.1=k:=λz=>e (h1.trans z)
   have b:valueAt (q::qs) k=valueAt qs k:=by simp[valueAt,AN,e']
   rw[zE e,b];exact ih
def KV.any {bf:List (κ×V)}{vs:List (κ×av)}(r:KV bf vs)(k:κ):(bf.any λkv=>decide (kv.1=k))=vs.any λkv=>decide (kv.1=k):=by
 unfold KV at r
 induction r with
 |nil=>rfl
 |cons h t ih=>rw[BA,BA,ih,h.1]
def KV.Cu {bf:List (κ×V)}{vs:List (κ×av)}(r:KV bf vs)(k:κ){y:V}{u:av}(ry:b5 y u) :
  KV (bf.map λkv=>if kv.1=k then (kv.1,y) else kv) (vs.map λkv=>if kv.1=k then (kv.1,u) else kv):=by
 unfold KV at r ⊢
 induction r with
 |nil=>exact .nil
 |@cons p q ps qs h t ih=>
  rw[ib,ib];refine .cons ?_ ih
  obtain⟨h1,h2⟩:=h
  by_cases e:p.1=k
  ·rw[if_pos e,if_pos (h1.symm.trans e)];exact⟨h1,ry⟩
  ·rw[if_neg e,if_neg (λz=>e (h1.trans z))];exact⟨h1,h2⟩
def KV.put {bf:List (κ×V)}{vs:List (κ×av)}(r:KV bf vs)(k:κ){y:V}{u:av}(ry:b5 y u):KV (fJ bf k y) (stored vs k u):=by
 unfold fJ stored;rw[r.any k];by_cases e:(vs.any λkv=>decide (kv.1=k))=true
 ·rw[if_pos e,if_pos e];exact r.Cu k ry
 ·rw[if_neg e,if_neg e];exact Paired.snoc r ⟨rfl,ry⟩
def KV.length {bf:List (κ×V)}{vs:List (κ×av)}(r:KV bf vs):bf.length=vs.length:=Paired.length r
end
def nR {P:ay}{w:ba}{k:aC}{u:av}(r:b5 (kV k) u):(g9 P w).is k u=true:=by
 cases k with
 |inl i=>obtain⟨t,e⟩:=(show ∃t,u=Value.int i t from r);subst e;exact aB7 P w i t
 |inr x=>obtain⟨t,e⟩:=(show ∃t,u=Value.str x t from r);subst e;exact aB8 P w x t
def V3 {P:ay}{w:ba}:∀{ks:List aC}{us:List av},aQ (ks.map kV) us->ItemsAre (g9 P w) ks us
 |[],_,r=>by rw[List.map_nil]at r;cases r;exact .nil
 |k::ks,_,r=>by
  rw[ib]at r;cases r with
  |cons h t=>exact .cons (nR h) (V3 t)
abbrev KT (H:Hp):List (List aC×V)->List (List aC×ax×av)->Prop:=Paired λp q=>p.1=q.1/\H q.2.1=some (.tup (p.1.map kV))/\b5 p.2 q.2.2
def KT.val {H:Hp}{bf:List (List aC×V)}{xs:List (List aC×ax×av)}(r:KT H bf xs)(k:List aC):jF (i4 bf k) ((atKey xs k).map (·.2)):=by
 induction r with
 |nil=>exact True.intro
 |@cons p q ps qs h t ih=>
  obtain⟨h1,_,h2⟩:=h
  by_cases e:p.1=k
  ·have e':q.1=k:=h1.symm.trans e
   have b:atKey (q::qs) k=some q.2:=by simp[atKey,AN,e']
   rw[zD e,b];exact h2
  ·have e':¬q.1=k:=λz=>e (h1.trans z)
   have b:atKey (q::qs) k=atKey qs k:=by simp[atKey,AN,e']
   rw[zE e,b];exact ih
def KT.Cu {H:Hp}{bf:List (List aC×V)}{xs:List (List aC×ax×av)}(r:KT H bf xs)(k:List aC){y:V}{u:av}(ry:b5 y u) :
  KT H (bf.map λkv=>if kv.1=k then (kv.1,y) else kv) (xs.map (putAt k u)):=by
 induction r with
 |nil=>exact .nil
 |@cons p q ps qs h t ih=>
  rw[ib,ib];refine .cons ?_ ih
  obtain⟨h1,h2,h3⟩:=h
  unfold putAt;by_cases e:p.1=k
  ·rw[if_pos e,if_pos (h1.symm.trans e)];exact⟨h1,h2,ry⟩
  ·rw[if_neg e,if_neg (λz=>e (h1.trans z))];exact⟨h1,h2,h3⟩
def KT.put {H:Hp}{bf:List (List aC×V)}{xs:List (List aC×ax×av)}(r:KT H bf xs)(k:List aC){b:ax}{y:V}{u:av}(hb:H b=some (.tup (k.map kV)))(ry:b5 y u) :
  KT H (fJ bf k y) (storedH xs k b u):=by
 have e:(bf.any λkv=>decide (kv.1=k))=(atKey xs k).isSome:=by
  rw[V2,(r.val k).jq,Option.isSome_map]
 unfold fJ storedH;rw[e];by_cases q:(atKey xs k).isSome=true
 ·rw[if_pos q,if_pos q];exact r.Cu k ry
 ·rw[if_neg q,if_neg q];exact Paired.snoc r ⟨rfl,hb,ry⟩
def KT.keeps {H H':Hp}{bf:List (List aC×V)}{xs:List (List aC×ax×av)}(r:KT H bf xs)(ht:∀b ys,H b=some (.tup ys)->H' b=some (.tup ys)):KT H' bf xs:=
 Paired.CA r λ_ _ z=>⟨z.1,ht _ _ z.2.1,z.2.2⟩
section
variable {P:ay}{w:ba}{H:Hp}{h:Heap}{a:ax}
def zG {u:HO}(ok:cJ P w H h)(e:Rd H a u):cB P w H h a u:=e.ok ok
def mJ {bf:List (aC×V)}(ok:cJ P w H h)(e:Rd H a (.dK bf)):bf.length<=sizeLine/\(a==sysModules)=false/\∃vs,KV bf vs/\h.DictOf (g9 P w) a vs:=
 show cB P w H h a (.dK bf) from zG ok e
def V4 {bf:List (aC×V)}(ok:cJ P w H h)(e:H a=some (.dK bf)):bf.length<=sizeLine/\(a==sysModules)=false/\∃vs,KV bf vs/\h.DictOf (g9 P w) a vs:=mJ ok (.inl e)
def nV {ks:List aC}(ok:cJ P w H h)(e:H a=some (.tup (ks.map kV))):(tupleKind (g9 P w)).is h ks a:=by
 obtain⟨_,bh,r,⟨o,h1,h2,n,h3⟩,_⟩:=(show cB P w H h a (.tup (ks.map kV)) from ok a _ e)
 exact⟨o,bh.toArray,n,h1,h2,h3,by simpa using V3 r⟩
def nW {bf:List (List aC×V)}(ok:cJ P w H h)(e:Rd H a (.dT bf)):bf.length<=sizeLine/\(a==sysModules)=false/\
  ∃xs,KT H bf xs/\h.DictOfH (tupleKind (g9 P w)) a xs:=by
 obtain⟨z,y,xs,r,o,es,ep,h1,h2,h3,h4,h5⟩:=(show cB P w H h a (.dT bf) from zG ok e)
 refine⟨z,y,xs,r,o,es,ep,h1,h2,h3,h4,λx hx=>?_,h5⟩;have all:∀{l:List (List aC×V)}{m:List (List aC×ax×av)},KT H l m->∀x∈m,(tupleKind (g9 P w)).is h x.1 x.2.1:=by
  intro l m q
  induction q with
  |nil=>intro x hx;exact nomatch hx
  |@cons p q ps qs hq t ih=>
   intro x hx;rcases ff.mp hx with e|hx
   ·subst e
    exact nV ok (by rw[<- hq.1];exact hq.2.1)
   ·exact ih x hx
 exact all r x hx
def V5 {bf:List (List aC×V)}(ok:cJ P w H h)(e:H a=some (.dT bf)):bf.length<=sizeLine/\(a==sysModules)=false/\
  ∃xs,KT H bf xs/\h.DictOfH (tupleKind (g9 P w)) a xs:=nW ok (.inl e)
end
def gT (H:Hp)(a:ax)(y:V)(r:Option V):Prop:=
 (∃bf k,Rd H a (.dK bf)/\y=kV k/\r=i4 bf k)∨∃bf k b,Rd H a (.dT bf)/\y = .ref b/\H b=some (.tup (k.map kV))/\r=i4 bf k
def mK (H:Hp)(a:ax)(y v:V)(H':Hp):Prop:=
 (∃bf k,H a=some (.dK bf)/\y=kV k/\bf.length<sizeLine/\H'=upd H a (.dK (fJ bf k v))) ∨
 ∃bf k b,H a=some (.dT bf)/\y = .ref b/\H b=some (.tup (k.map kV))/\bf.length<sizeLine/\H'=upd H a (.dT (fJ bf k v))
def gT.k {H:Hp}{a:ax}{bf:List (aC×V)}{k:aC}(e:H a=some (.dK bf)):gT H a (kV k) (i4 bf k):=.inl ⟨bf,k,.inl e,rfl,rfl⟩
def gT.t {H:Hp}{a b:ax}{bf:List (List aC×V)}{k:List aC}(e:H a=some (.dT bf))(eb:H b=some (.tup (k.map kV))):gT H a (.ref b) (i4 bf k):=.inr ⟨bf,k,b,.inl e,rfl,eb,rfl⟩
def mK.k {H:Hp}{a:ax}{bf:List (aC×V)}{k:aC}{v:V}(e:H a=some (.dK bf))(hl:bf.length<sizeLine):mK H a (kV k) v (upd H a (.dK (fJ bf k v))):=.inl ⟨bf,k,e,rfl,hl,rfl⟩
def mK.t {H:Hp}{a b:ax}{bf:List (List aC×V)}{k:List aC}{v:V}(e:H a=some (.dT bf))(eb:H b=some (.tup (k.map kV)))(hl:bf.length<sizeLine) :
  mK H a (.ref b) v (upd H a (.dT (fJ bf k v))):=.inr ⟨bf,k,b,e,rfl,eb,hl,rfl⟩
section
variable {X:Cx}{ag:List (ax×Obj)}{σ:St}{H:Hp}{s:aw}{a:ax}{y v:V}{u r:av}{o:Option V}{A:az}{E:av→aw→Prop}
def a8.big (I:a8 X ag σ H s):sysModules<s.heap.objs.size:=by
 have h:mainGlobals<s.heap.objs.size:=(I.mod.glob.keeps I.bk).lt;exact Nat.lt_trans (by decide) h
def aJ9 {Q:av->aw->Prop}(hu:A.units+1<cLine)(I:a8 X ag σ H s)(g:gT H a y (some v))(ry:b5 y u)(h:∀w' s',a8 X ag σ H s'->b5 v w'->Q w' s') :
  wpAny (model X.prog X.w) A (getItem (.ref a) u) Q E s:=by
 rcases g with⟨bf,k,e,ey,l⟩|⟨bf,k,b,e,ey,eb,l⟩
 ·subst ey
  obtain⟨z,hd,vs,rel,dd⟩:=mJ I.cf e
  obtain⟨w',hw,wu⟩:=jF.some_of (v:=v) (o:=valueAt vs k) (by rw[l];exact rel.val k)
  exact wpAny_getItem_of (nR ry) dd.mapOf hw (h w' _ (I.tok _) wu)
 ·subst ey
  cases (show u=Value.ref b from ry)
  obtain⟨z,hd,xs,rel,dd⟩:=nW I.cf e
  obtain⟨w',hw,wu⟩:=jF.some_of (v:=v) (o:=(atKey xs k).map (·.2)) (by rw[l];exact rel.val k)
  obtain⟨p,hp,FD⟩:=Option.map_eq_some_iff.mp hw
  refine wpAny_getItem_heap (tupleKind_room_in1 hu) (nV I.cf eb) dd hp ?_;rw[FD];exact h w' _ (I.tok _) wu
def aK0 {Q:av->aw->Prop}(hu:A.units+1<cLine)(I:a8 X ag σ H s)(g:gT H a y o)(ry:b5 y u)(h:∀s',a8 X ag σ H s'->Q (.bool o.isSome) s') :
  wpAny (model X.prog X.w) A (compareOp .In u (.ref a)) Q E s:=by
 rcases g with⟨bf,k,e,ey,l⟩|⟨bf,k,b,e,ey,eb,l⟩
 ·subst ey
  obtain⟨z,hd,vs,rel,dd⟩:=mJ I.cf e
  refine wpAny_in_of (nR ry) hd dd.mapOf ?_;rw[<- (rel.val k).jq,<- l];exact h _ (I.tok _)
 ·subst ey
  cases (show u=Value.ref b from ry)
  obtain⟨z,hd,xs,rel,dd⟩:=nW I.cf e
  refine wpAny_in_heap (tupleKind_room_in1 hu) (nV I.cf eb) hd dd ?_;have q:=(rel.val k).jq;rw[Option.isSome_map]at q;rw[<- q,<- l];exact h _ (I.tok _)
def aK1 {Q:av->aw->Prop}(hu:A.units+1<cLine)(I:a8 X ag σ H s)(g:gT H a y o)(ry:b5 y u)(h:∀s',a8 X ag σ H s'->Q (.bool (!o.isSome)) s') :
  wpAny (model X.prog X.w) A (compareOp .NotIn u (.ref a)) Q E s:=by
 rcases g with⟨bf,k,e,ey,l⟩|⟨bf,k,b,e,ey,eb,l⟩
 ·subst ey
  obtain⟨z,hd,vs,rel,dd⟩:=mJ I.cf e
  refine wpAny_notIn_of (nR ry) hd dd.mapOf ?_;rw[<- (rel.val k).jq,<- l];exact h _ (I.tok _)
 ·subst ey
  cases (show u=Value.ref b from ry)
  obtain⟨z,hd,xs,rel,dd⟩:=nW I.cf e
  refine wpAny_notIn_heap (tupleKind_room_in1 hu) (nV I.cf eb) hd dd ?_;have q:=(rel.val k).jq;rw[Option.isSome_map]at q;rw[<- q,<- l];exact h _ (I.tok _)
def u3 {h':Heap}{t':Nat}{ob:HO}(I:a8 X ag σ H s)(mu:r9 (H a))(hs:Heap.SameBut a s.heap h')(he:∃q,h'.get? a=some q)(new:cB X.prog X.w (upd H a ob) h' a ob) :
  a8 X ag σ (upd H a ob) { s with heap:=h',toks:=t' }:=
 I.write (x:=a) (e:=a) mu (.inl rfl) (λb q hb z=>(hs.2 b hb).trans z) he new
def V6 {P:ay}{w:ba}{H':Hp}{h':Heap}{bf:List (aC×V)}{vs:List (aC×av)}(z:bf.length<=sizeLine)(hd:(a==sysModules)=false)(rel:KV bf vs)(dd:h'.DictOf (g9 P w) a vs) :
  cB P w H' h' a (.dK bf):=⟨z,hd,vs,rel,dd⟩
def aK2 {H':Hp}{Q:Unit->aw->Prop}(hu:A.units+1<cLine)(I:a8 X ag σ H s)(g:mK H a y v H')(ry:b5 y u)(rv:b5 v r)(h:∀s',a8 X ag σ H' s'->Q () s') :
  wpAny (model X.prog X.w) A (setItem (.ref a) u r) Q E s:=by
 rcases g with⟨bf,k,e,ey,l,eH⟩|⟨bf,k,b,e,ey,eb,l,eH⟩
 ·subst ey eH
  obtain⟨z,hd,vs,rel,dd⟩:=V4 I.cf e
  have hz:vs.length<=sizeLine:=by rw[<- rel.length];exact z
  have hl:(fJ bf k v).length<=sizeLine:=by have:=zF bf k v;omega
  refine wpAny_setItem_pairs (hsz:=hz) (nR ry) dd λh' Br hs=>h _ ?_
  have he:∃q,h'.get? a=some q:=let ⟨q,_,_,hq,_⟩:=Br;⟨q,hq⟩
  exact u3 I (by rw[e];exact True.intro) hs he (V6 hl hd (rel.put k rv) Br)
 ·subst ey eH
  cases (show u=Value.ref b from ry)
  obtain⟨z,hd,xs,rel,dd⟩:=V5 I.cf e
  have hz:xs.length<=sizeLine:=by rw[<- Paired.length rel];exact z
  have hl:(fJ bf k v).length<=sizeLine:=by have:=zF bf k v;omega
  refine wpAny_setItem_heap (hsz:=hz) (tupleKind_room_in1 hu) (nV I.cf eb) dd λh' Br hs=>h _ ?_
  obtain⟨q,es,ep,hq,h2,h3,h4,_,h5⟩:=Br
  refine u3 I (by rw[e];exact True.intro) hs ⟨q,hq⟩ ⟨hl,hd,_,(rel.put k eb rv).keeps λc ys ec=>?_,q,es,ep,hq,h2,h3,h4,h5⟩;rw[aK (N7 ec e (λz=>nomatch z))];exact ec
end
section
variable {X:Cx}{ag:List (ax×Obj)}{σ:St}{H:Hp}{s:aw}{a:ax}{bf:List (aC×V)}{k:aC}{u:av}{A:az}{E:av→aw→Prop}
def aK3 {Q:av->aw->Prop}(I:a8 X ag σ H s)(e:Rd H a (.dK bf))(h:∀t s',a8 X ag σ H s'->Q (.int bf.length t) s'):wpAny (model X.prog X.w) A (call (.builtin "len") [.ref a]) Q E s:=by
 obtain⟨z,hd,vs,rel,dd⟩:=mJ I.cf e
 refine call_len_dict hd dd (by rw[<- rel.length];rw[sizeLine_eq]at z;omega) ?_;rw[<- rel.length];exact h _ _ (I.tok _)
end
def zH (i:Expr):Prop:=∀ov iv,subscripted i false ov iv=operate [ov,iv] (getItem ov iv)
def aK4 {prog:ay}{w:ba}{A:az}{E:av->aw->Prop}{s:aw}{env:Env}{value slice:Expr}{pos:Pos}{T id:String}{Q:av->aw->Prop}(hl:typeLookup (.type T) "__getitem__" = pure (some (.builtin id)))(hs:zH slice)(h:wpAny (model prog w) A (eval value env) (λo bz=>wpAny (model prog w) A (eval slice env) (λi qx=>qx.TypeIs o T/\wpAny (model prog w) A (getItem o i) Q E qx) E bz) E s) :
  wpAny (model prog w) A (eval (.Subscript value slice pos) env) Q E s:=by
 refine Subscript_ (qp h (λo bz oa=>qp oa (λi qx CJ=>?_) λ_ _ x=>x) λ_ _ x=>x)
 obtain⟨hT,CJ⟩:=CJ
 unfold subscriptTail;refine bq ?_;rw[getitemInPython_of_ne hT.not_modules];refine bq (wpAny_specialOf hT hl ?_);have fin:wpAny (model prog w) A (subscripted slice false o i) (λr Bj=>wpAny (model prog w) A (letTemporaryGo value o r >>= λ_=>pure r) Q E Bj) E qx:=by
  rw[hs o i];exact wpAny_operating (qp CJ (λr Bj GG=>bq (wpAny_letTemporaryGo (ei GG))) λ_ _ x=>x)
 first
  |exact ei (bq fin)
  |exact bq (ei (bq fin))
  |exact bq fin
def aK5 {X:Cx}{ag:List (ax×Obj)}{σ:St}{H:Hp}{s:aw}{a:ax}{y:V}{o:Option V}(I:a8 X ag σ H s)(g:gT H a y o):s.TypeIs (.ref a) "dict":=by
 rcases g with⟨bf,k,e,_,_⟩|⟨bf,k,b,e,_,_,_⟩
 ·obtain⟨_,_,vs,_,dd⟩:=mJ I.cf e
  exact dd.typeIs
 ·obtain⟨_,_,xs,_,dd⟩:=nW I.cf e
  exact dd.typeIs
def V7 (td ty:TE):TE:=λσ H Q=>td σ H λx H1=>ty σ H1 λy H2=>∃a v,x = .ref a/\gT H2 a y (some v)/\Q v H2
def V8 (ty td:TE):TE:=λσ H Q=>ty σ H λy H1=>td σ H1 λx H2=>∃a o,x = .ref a/\gT H2 a y o/\Q (.bl o.isSome) H2
def V9 (ty td:TE):TE:=λσ H Q=>ty σ H λy H1=>td σ H1 λx H2=>∃a o,x = .ref a/\gT H2 a y o/\Q (.bl (!o.isSome)) H2
def zI (td ty tv:TE):TS:=λD σ H=>tv σ H λv H1=>td σ H1 λx H2=>ty σ H2 λy H3=>∃a H4,x = .ref a/\mK H3 a y v H4/\D.nx σ H4
section
variable {X:Cx}{o i e value:Expr}{pos pos' vd:Pos}{td ty tv:TE}
def aK6 (hu:X.A.units+1<cLine)(ho:PE X o td)(hi:PE X i ty)(hs:zH i):PE X (.Subscript o i pos) (V7 td ty):=by
 intro ag s σ H Q I h;refine aK4 PySem.F.slot_dict_getitem.lookup hs (aR (ho ag s σ H _ I h) λu s1 ⟨x,H1,I1,rx,q1⟩=>aR (hi ag s1 σ H1 _ I1 q1) λiv s2 ⟨y,H2,I2,ry,a,v,ex,g,q2⟩=>?_);subst ex;obtain rfl:u=Value.ref a:=rx
 exact⟨aK5 I2 g,aJ9 hu I2 g ry λw' s3 I3 wu=>⟨v,H2,I3,wu,q2⟩⟩
def aK7 (hu:X.A.units+1<cLine)(hi:PE X i ty)(ho:PE X o td):PC X .In i o (V8 ty td):=by
 intro ag s σ H Q I h;refine aR (hi ag s σ H _ I h) λiv s1 ⟨y,H1,I1,ry,q1⟩=>aR (ho ag s1 σ H1 _ I1 q1) λu s2 ⟨x,H2,I2,rx,a,ov,ex,g,q2⟩=>?_
 subst ex;obtain rfl:u=Value.ref a:=rx;exact aK0 hu I2 g ry λs3 I3=>⟨.bl ov.isSome,H2,I3,rfl,q2⟩
def aK8 (hu:X.A.units+1<cLine)(hi:PE X i ty)(ho:PE X o td):PC X .NotIn i o (V9 ty td):=by
 intro ag s σ H Q I h;refine aR (hi ag s σ H _ I h) λiv s1 ⟨y,H1,I1,ry,q1⟩=>aR (ho ag s1 σ H1 _ I1 q1) λu s2 ⟨x,H2,I2,rx,a,ov,ex,g,q2⟩=>?_
 subst ex;obtain rfl:u=Value.ref a:=rx;exact aK1 hu I2 g ry λs3 I3=>⟨.bl (!ov.isSome),H2,I3,rfl,q2⟩
def W0 (hu:X.A.units+1<cLine)(ho:PE X o td)(hi:PE X i ty)(hv:PE X value tv)(hs:swapsWith value (some (.Subscript o i pos')) pos.line X.env=pure false) :
  PS X (.Assign [.Subscript o i pos'] value pos) (zI td ty tv):=by
 intro ag s σ H D I h;refine wpAny_Assign_Subscript (aR (hv ag s σ H _ I h) λr s1 ⟨v,H1,I1,rv,q1⟩=>aR (ho ag s1 σ H1 _ I1 q1) λu s2 ⟨x,H2,I2,rx,q2⟩=>aR (hi ag s2 σ H2 _ I2 q2) λiv s3 ⟨y,H3,I3,ry,a,H4,ex,g,q3⟩=>?_) hs;subst ex;obtain rfl:u=Value.ref a:=rx;exact aK2 hu I3 g ry rv λs4 I4=>⟨σ,H4,I4,q3⟩
end
def W5 {P:ay}{w:ba}{H:Hp}(h:Heap)(hb:sysModules<h.objs.size):cB P w H (h.push { cls:=.type "dict",data:=.dict #[] }) h.objs.size (.dK []):=
 ⟨ng _,beq_eq_false_iff_ne.mpr (Ne.symm (mr hb)),[],.nil,Heap.DictOf.new h⟩
def W6 {P:ay}{w:ba}{H:Hp}(h:Heap)(hb:sysModules<h.objs.size):cB P w H (h.push { cls:=.type "dict",data:=.dict #[] }) h.objs.size (.dT []):=
 ⟨ng _,beq_eq_false_iff_ne.mpr (Ne.symm (mr hb)),[],.nil,_,#[],0,my _ rfl,⟨rfl,rfl,rfl⟩,rfl,rfl,List.nodup_nil⟩
def W7:TE:=λ_ H Q=>∀p,H p=none->Q (.ref p) (upd H p (.dK []))
def W8:TE:=λ_ H Q=>∀p,H p=none->Q (.ref p) (upd H p (.dT []))
section
variable {X:Cx}{pos:Pos}
def aK9:PE X (.Dict [] [] pos) W7:=λag s σ H Q I h=>
 wpAny_Dict_empty ⟨.ref s.heap.objs.size,_,I.laid (a:=s.heap.objs.size) (o:=.dK []) (t':=s.toks) (λ_ _ q=>ic _ q) (de _) (W5 s.heap I.big),rfl,h _ (I.cf.fresh (de _))⟩
def aL0:PE X (.Dict [] [] pos) W8:=λag s σ H Q I h=>
 wpAny_Dict_empty ⟨.ref s.heap.objs.size,_,I.laid (a:=s.heap.objs.size) (o:=.dT []) (t':=s.toks) (λ_ _ q=>ic _ q) (de _) (W6 s.heap I.big),rfl,h _ (I.cf.fresh (de _))⟩
end
def u4:List (TE×TE)->St->Hp->(List (V×V)->Hp->Prop)->Prop
 |[],_,H,Q=>Q [] H
 |(tk,tv)::r,σ,H,Q=>tk σ H λx H1=>tv σ H1 λy H2=>u4 r σ H2 λps H3=>Q ((x,y)::ps) H3
abbrev VV:List (V×V)->List (av×av)->Prop:=Paired λp q=>b5 p.1 q.1/\b5 p.2 q.2
def u5 (X:Cx)(pos:Pos)(keys:List (Option Expr))(values:List Expr)(Bi:List (TE×TE)):Prop:=
 ∀(ag:List (ax×Obj)) (s:aw) (σ:St) (H:Hp) (Q:List (V×V)->Hp->Prop),a8 X ag σ H s->u4 Bi σ H Q->
  wpAny (model X.prog X.w) X.A (evalPairs (pairTrees keys values X.env pos)) (λvs s'=>∃ps H',a8 X ag σ H' s'/\VV ps vs/\Q ps H') X.xe s
def W9 {X:Cx}{pos:Pos}:u5 X pos [] [] []:=λag s σ H Q I h=>pairTrees_nil_walk ⟨[],H,I,.nil,h⟩
def X0 {X:Cx}{pos:Pos}{k v:Expr}{ks:List (Option Expr)}{vs:List Expr}{tk tv:TE}{Bi:List (TE×TE)}(hk:PE X k tk)(hv:PE X v tv)(hr:u5 X pos ks vs Bi) :
  u5 X pos (some k::ks) (v::vs) ((tk,tv)::Bi):=λag s σ H Q I h=>
 pairTrees_cons_walk (aR (hk ag s σ H _ I h) λu s1 ⟨x,H1,I1,rx,q1⟩=>aR (hv ag s1 σ H1 _ I1 q1) λw2 s2 ⟨y,H2,I2,ry,q2⟩=>
  aR (hr ag s2 σ H2 _ I2 q2) λws s3 ⟨ps,H3,I3,rel,q3⟩=>⟨(x,y)::ps,H3,I3,.cons ⟨rx,ry⟩ rel,q3⟩)
def pD (bf more:List (aC×V)):List (aC×V):=more.foldl (λacc kv=>fJ acc kv.1 kv.2) bf
def KV.merge:∀{more:List (aC×V)}{rs:List (aC×av)}{bf:List (aC×V)}{vs:List (aC×av)},KV more rs->KV bf vs->KV (pD bf more) (merged vs rs):=by
 intro more rs bf vs r;unfold KV at r
 induction r generalizing bf vs with
 |nil=>intro q;exact q
 |@cons p q ps qs h t ih=>
  intro r0;have e:KV (fJ bf p.1 p.2) (stored vs q.1 q.2):=by
   have:=r0.put p.1 h.2
   rw[<- h.1];exact this
  exact ih e
def X1:∀(more bf:List (aC×V)),(pD bf more).length<=bf.length+more.length
 |[],bf=>by show bf.length<=bf.length+0;omega
 |p::r,bf=>by
  have h1:=X1 r (fJ bf p.1 p.2);have h2:=zF bf p.1 p.2;show (pD (fJ bf p.1 p.2) r).length<=_;rw[ie];omega
def X2 {P:ay}{w:ba}:∀{bf:List (aC×V)}{ws:List (av×av)},VV (bf.map λkv=>(kV kv.1,kv.2)) ws->∃rs,Carries (g9 P w) ws rs/\KV bf rs
 |[],_,r=>by rw[List.map_nil]at r;cases r;exact⟨[],True.intro,.nil⟩
 |p::bf,_,r=>by
  rw[ib]at r;cases r with
  |@cons a b as bs h t=>
   obtain⟨rs,c,q⟩:=X2 (P:=P) (w:=w) t
   obtain⟨b1,b2⟩:=b
   exact⟨(p.1,b2)::rs,⟨nR h.1,rfl,c⟩,.cons ⟨rfl,h.2⟩ q⟩
def X3 (Bi:List (TE×TE)):TE:=λσ H Q=>∀p,H p=none->u4 Bi σ (upd H p (.dK [])) λps H2=>H2 p=some (.dK [])/\∃bf:List (aC×V),ps=bf.map (λkv=>(kV kv.1,kv.2))/\bf.length<=15/\Q (.ref p) (upd H2 p (.dK (pD [] bf)))
def aL1 {X:Cx}{pos:Pos}{keys:List (Option Expr)}{values:List Expr}{Bi:List (TE×TE)}(h:u5 X pos keys values Bi)(CU:keys.all (·.isSome)=true)(hl:keys.length=values.length)(h0:keys≠[])(h15:keys.length<=15):PE X (.Dict keys values pos) (X3 Bi):=by
 intro ag s σ H Q I q;have hn:=I.cf.fresh (de s.heap.objs.size);have I1:=I.laid (a:=s.heap.objs.size) (o:=.dK []) (h':=s.heap.push { cls:=.type "dict",data:=.dict #[] }) (t':=s.toks) (λ_ _ q=>ic _ q) (de _) (W5 s.heap I.big);refine wpAny_Dict_walk (knd:=g9 X.prog X.w) CU hl h0 h15 (aR (h ag _ σ _ _ I1 (q _ hn)) λws s2 ⟨ps,H2,I2,rel,e,bf,ep,lk,q2⟩=>?_);subst ep
 obtain⟨rs,c,rk⟩:=X2 (P:=X.prog) (w:=X.w) rel
 obtain⟨z,hd,Py,r0,dd⟩:=V4 I2.cf e
 cases r0;refine⟨rs,c,dd,λh' Br hs=>⟨.ref s.heap.objs.size,_,?_,rfl,q2⟩⟩;have hz:(pD [] bf).length<=sizeLine:=by
  have h1:=X1 bf [];rw[List.length_nil]at h1;rw[sizeLine_eq];omega
 have he:∃q,h'.get? s.heap.objs.size=some q:=let ⟨q,_,_,hq,_⟩:=Br;⟨q,hq⟩
 exact u3 I2 (by rw[e];exact True.intro) hs he (V6 hz hd (rk.merge .nil) Br)
structure M2 (X:Cx)(o:Expr)(m:Str)(ah:Pos)(e f:Expr)(ai:Pos):Prop where
 base:attributeBase o m X.env (eval o X.env)=eval o X.env
 eu:((backTo ai (starEach [e,f] X.env)).all (λx=>!x.1)&&(backToKw ai (keywordEach [] X.env)).all (λx=>x.1.isSome)
 &&decide (([e,f]:List Expr).length+([]:List Keyword).length+(if ([]:List Keyword).isEmpty then 0 else 1)<30))=true
 line:(ah.endLine==ai.line)=true
 trees:backTo ai (starEach [e,f] X.env) = [(false,eval e X.env),(false,eval f X.env)]
def X4 (H:Hp)(a:ax):Prop:=(∃bf,Rd H a (.dK bf))∨∃bf,Rd H a (.dT bf)
def aL2 {X:Cx}{ag:List (ax×Obj)}{σ:St}{H:Hp}{s:aw}{a:ax}(I:a8 X ag σ H s)(d:X4 H a) :
  s.TypeIs (.ref a) "dict"/\(∀b,Value.ref a = .ref b->∃ob,s.heap.get? b=some ob/\ob.dict=none)/\(a==sysModules)=false:=by
 rcases d with⟨bf,e⟩|⟨bf,e⟩
 ·obtain⟨_,hd,vs,_,dd⟩:=mJ I.cf e
  refine⟨dd.typeIs,λb q=>?_,hd⟩;cases q
  obtain⟨ob,_,_,h1,h2,_⟩:=dd
  exact⟨ob,h1,h2.2.1⟩
 ·obtain⟨_,hd,xs,_,dd⟩:=nW I.cf e
  refine⟨dd.typeIs,λb q=>?_,hd⟩;cases q
  obtain⟨ob,_,_,h1,h2,_⟩:=dd
  exact⟨ob,h1,h2.2.1⟩
section
variable {X:Cx}{ag:List (ax×Obj)}{σ:St}{H:Hp}{s:aw}{a:ax}{y d:V}{u r:av}{o:Option V}{A:az}{E:av→aw→Prop}
def aL3 {Q:av->aw->Prop}(hu:A.units+1<cLine)(I:a8 X ag σ H s)(g:gT H a y o)(ry:b5 y u)(rd:b5 d r)(h:∀w' s',a8 X ag σ H s'->b5 (o.getD d) w'->Q w' s') :
  wpAny (model X.prog X.w) A (call (.builtin "dict.get") [.ref a,u,r]) Q E s:=by
 rcases g with⟨bf,k,e,ey,l⟩|⟨bf,k,b,e,ey,eb,l⟩
 ·subst ey
  obtain⟨z,hd,vs,rel,dd⟩:=mJ I.cf e
  refine call_meetsIn PySem.F.slot_dict_get dd.typeIs PySem.F.entry_dict_get (PySem.F.args_dict_get_3 _ _ _) (meets_dict_get_default (g9 X.prog X.w) a (nR ry) hd r) ⟨_,dd.mapOf,h _ _ (I.tok _) ?_⟩;rw[l];exact (rel.val k).getD rd
 ·subst ey
  cases (show u=Value.ref b from ry)
  obtain⟨z,hd,xs,rel,dd⟩:=nW I.cf e
  refine call_meetsIn PySem.F.slot_dict_get dd.typeIs PySem.F.entry_dict_get (PySem.F.args_dict_get_3 _ _ _) (meetsH_dict_get_default (tupleKind (g9 X.prog X.w)) a b hd r) ⟨tupleKind_room_in1 hu,k,xs,nV I.cf eb,dd,h _ _ (I.tok _) ?_⟩;rw[l];exact (rel.val k).getD rd
end
def X5 (td ty tx:TE):TE:=λσ H Q=>td σ H λx H1=>∃a,x = .ref a/\X4 H1 a/\ty σ H1 λy H2=>tx σ H2 λz H3=>∃o,gT H3 a y o/\Q (o.getD z) H3
section
variable {X:Cx}{o e f:Expr}{ah ai:Pos}{td ty tx:TE}
def aL4 (hu:X.A.units+1<cLine)(ho:PE X o td)(he:PE X e ty)(hf:PE X f tx)(m:M2 X o "get" ah e f ai):PE X (.Call (.Attribute o "get" ah) [e,f] [] ai) (X5 td ty tx):=by
 intro ag s σ H Q I h;refine wpAny_Call_method m.base m.eu m.line PySem.F.plainAttrs_dict PySem.F.slot_dict_get PySem.F.type_dict_get (aR (ho ag s σ H _ I h) λu s1 ⟨x,H1,I1,rx,a,ex,d,q1⟩=>?_);subst ex;obtain rfl:u=Value.ref a:=rx
 obtain⟨t1,t2,_⟩:=aL2 I1 d
 refine⟨t1,t2,?_⟩;rw[m.trees]
 refine Calls.callWith_builtin rfl (Calls.evalArgs_plain (Calls.spliced_cons (aR (he ag s1 σ H1 _ I1 q1) λiv s2 ⟨y,H2,I2,ry,q2⟩=>
  Calls.spliced_cons (aR (hf ag s2 σ H2 _ I2 q2) λfv s3 ⟨z,H3,I3,rz,ov,g,q3⟩=>Calls.spliced_nil ?_))))
 exact aL3 hu I3 g ry rz λw' s4 I4 wu=>⟨_,H3,I4,wu,q3⟩
end
end L2
namespace Pu
open PySem PySem.W PySem.Calls PyProof.Rows
def aL5 {P:Params}{h:Heap}:∀(ns:af) (vs:List av),WellAll P h vs (ns.map WData.int)->IntsAre vs ns:=by
 intro ns
 induction ns with
 |nil=>
  intro vs w;rw[List.map_nil]at w;cases w;exact .nil
 |cons n ns ih=>
  intro vs w;rw[ib]at w;cases w with
  |cons a b=>
   cases a;exact .cons _ _ (ih _ b)
def X6 {l:OpenLaw}{n:Nat}(hn:l.most=some n){P:Params}{h:Heap}{args:List WData}{vals:List av}(zr:l.row.toRowW.claim.pre args=true)(Ex:WellAll P h vals args) :
  ∃a vs ns,vals = [Value.ref a]/\args = [WData.list (ns.map WData.int)]/\h.get? a=some { cls:=.type "list",data:=.seq vs.toArray }/\IntsAre vs ns/\ns.length<=n:=by
 have QX:WShape.hasAll [] args [.list .int]=true:=(pre_splitW zr).1;have hc:l.pre.holds [] { args:=args }=true:=(pre_splitW zr).2
 obtain⟨d,r,rfl,h1,h2⟩:=hasAllW_cons QX
 obtain rfl:=hasAllW_nil h2
 obtain⟨xs,rfl,h3⟩:=hasW_list h1
 obtain⟨ns,rfl⟩:=items_int h3
 have aj:ns.length<=n:=by
  unfold OpenLaw.pre at hc;have h4:(WTm.not (.lt (.lit (.int (n:Int))) (.len (.arg 0)))).holds [] { args:=[.list (ns.map .int)] }=true:=by
   have h4:=(holds_andW hc).1;rw[hn]at h4;exact h4
  have h5:=condW_of h4 (w_not (w_lt w_lit (w_len_list (w_arg rfl))));rw[df]at h5;refine Dl λq=>?_
  have q':(n:Int)<((ns.length:Nat):Int):=by omega
  first
   |(rw[di q']at h5;exact absurd h5 (by decide))
   |(simp at h5;omega)
 cases Ex with
 |cons w1 w2=>
  cases w2;cases w1 with
  |list ho CU=>exact⟨_,_,ns,rfl,rfl,ho,aL5 ns _ CU,aj⟩
def X7 (l:OpenLaw)(args:List WData):l.row.toRowW.claim.post args (.bool true) args=true:=
 postW_of (r:=l.row.toRowW) (X:=(true==true))
  (show WShape.has [] (.bool true) .bool=true by first|rfl|decide|simp[WShape.has,WShape.arms,WShape.armsAll])
  (show (WTm.eq .res (.lit (.bool true))).value [] { args:=args,res:=some (.bool true),after:=args }=some (.bool (true==true)) from w_eq_bool (w_res rfl) w_lit) rfl
def bF5 {l:OpenLaw}{n:Nat}{q:ay}{loose:List Str}{XP:(Str->Option av)->Heap->Prop}{YP:ba->Heap->Prop}{d:DefRec}{x:Str}(hn:l.most=some n)(CO:d.params.defaults = [])(AH:∀pm cd doc v:av,bindArgs (docDef d.name d.params d.body d.scope pm cd doc) ⟨[v],[]⟩=pure [(x,v)])(hx:d.scope.names.lookup x=some .local∨d.scope.names.lookup x=some .cell)(hk:d.scope.kind = .function)(EF:d.scope.isCoroutine=false)(Hi:d.scope.isGenerator=false)(body:∀(w:ba) (cx bz s:aw) (mg mb:Str->Option av) (fa:ax) (o:Obj) (pm cd doc:av) (a:ax) (vs:List av) (ns:af),
   Ground q loose [] XP w cx mg mb bz.heap->YP w bz.heap->
   bz.heap.get? fa=some o->o.data = .func (docDef d.name d.params d.body d.scope pm cd doc)->bz.heap.CodeRec cd d.name->mg d.name=some (.ref fa)->
   bz.heap.get? a=some { cls:=.type "list",data:=.seq vs.toArray }->IntsAre vs ns->ns.length<=n->
   s.gens = #[]->s.os=bz.os->
   Fr bz.heap bz.heap.objs.size s.heap (bindL (envOfC d.name d.scope bz.heap.objs.size fa cd).kindOf [(x,.ref a)] λ_=>none)->
   Cl bz.heap.objs.size (cellsFrom (bz.heap.objs.size+1) d.scope.names []) s.heap (bindC (envOfC d.name d.scope bz.heap.objs.size fa cd).kindOf [(x,.ref a)] λ_=>none)->
   wpAny (model l.prog w) (callerA.deeper (envOfC d.name d.scope bz.heap.objs.size fa cd)) (execs d.body (envOfC d.name d.scope bz.heap.objs.size fa cd))
    (λf s'=>f = .ret (.bool true)/\OldK bz.heap s'.heap/\s'.os=bz.os/\AllBare s'.gens) (λ_ _=>False) s) :
  WalkO q loose XP YP l.row.toRowW d [] (λf vs=>PySem.call f vs):=by
 intro w cx bz mg mb G Y fa o pm cd doc dV kV ho hd ko hD hmg hg args vals as zr Hd QY Ex Ri;obtain rfl:dV = .none:=Dflts.none hD CO;obtain rfl:kV = .none:=Dflts.noKw hD
 obtain⟨a,vs,ns,rfl,rfl,AF,hints,aj⟩:=X6 hn zr Ex
 refine enter_call ?_;refine call_cells_ret (o:=o) (by rw[depth_caller];decide) ho (fd_plain hd) G.T.nolimit ko (AH pm cd doc (.ref a)) (λy hy=>?_) (λoa tk F X=>?_) EF Hi hk
 ·obtain rfl:y=(x,Value.ref a):=dt.mp hy
  rcases hx with e|e
  ·exact .inl e
  ·exact .inr ⟨e,cellsFrom_some _ _ _ (.inl e)⟩
 ·refine qp (body w cx bz { bz with heap:=oa,toks:=tk } mg mb fa o pm cd doc a vs ns G Y ho (fd_plain hd) ko hmg AF hints aj hg rfl F X) (λf s' hq=>?_) (λ_ _ hq=>hq)
  obtain⟨rfl,h2,h3,h4⟩:=hq
  exact⟨.inl ⟨.bool true,.bool true,[],rfl,λ_=>rfl,.bool true,X7 l _,λ_=>⟨wq,λ_ hm=>(nomatch hm)⟩⟩,h2,h3,h4⟩
def aL6 {l:OpenLaw}{n:Nat}{q:ay}{loose:List Str}{XP:(Str->Option av)->Heap->Prop}{YP:ba->Heap->Prop}{d:DefRec}(hn:l.most=some n)(CO:d.params.defaults = [])(call:∀(w:ba) (cx bz:aw) (mg mb:Str->Option av) (fa:ax) (o:Obj) (pm cd doc:av) (a:ax) (vs:List av) (ns:af),
   Ground q loose [] XP w cx mg mb bz.heap->YP w bz.heap->
   bz.heap.get? fa=some o->o.data = .func (docDef d.name d.params d.body d.scope pm cd doc)->bz.heap.CodeRec cd d.name->mg d.name=some (.ref fa)->
   bz.heap.get? a=some { cls:=.type "list",data:=.seq vs.toArray }->IntsAre vs ns->ns.length<=n->bz.gens = #[]->
   codeAny (model l.prog w) callerA (.call (.ref fa) ⟨[.ref a],[]⟩) (λr s'=>r = .ok (.ret (.bool true))/\OldK bz.heap s'.heap/\s'.os=bz.os/\AllBare s'.gens) bz) :
  WalkO q loose XP YP l.row.toRowW d [] (λf vs=>PySem.call f vs):=by
 intro w cx bz mg mb G Y fa o pm cd doc dV kV ho hd ko hD hmg hg args vals as zr Hd QY Ex Ri;obtain rfl:dV = .none:=Dflts.none hD CO;obtain rfl:kV = .none:=Dflts.noKw hD
 obtain⟨a,vs,ns,rfl,rfl,AF,hints,aj⟩:=X6 hn zr Ex
 refine enter_call (codeAny_mono (call w cx bz mg mb fa o pm cd doc a vs ns G Y ho (fd_plain hd) ko hmg AF hints aj hg) λr s' hq=>?_)
 obtain⟨rfl,h2,h3,h4⟩:=hq
 exact⟨.inl ⟨.bool true,.bool true,[],rfl,λ_=>rfl,.bool true,X7 l _,λ_=>⟨wq,λ_ hm=>(nomatch hm)⟩⟩,h2,h3,h4⟩
section
variable {prog:ay}{w:ba}{A:az}{E:av→aw→Prop}{s:aw}{K:Frag}
def bF6 (h:Heap)(L d:ax):List (ax×Obj):=(List.range h.objs.size).filterMap λa=>if a=L∨a=d then none else (h.get? a).map λo=>(a,o)
end
end Pu
namespace L2
open PySem PySem.Spec PyProof.Rows
def u6:∀{vs:List av}{ns:af},IntsAre vs ns->aQ (ns.map V.int) vs
 |_,_,.nil=>.nil
 |_,_,.cons n t h=>.cons ⟨t,rfl⟩ (u6 h)
def u7 (H:Hp):Prop:=∀b,H b=none∨∃o xs,H b=some (.et o (.lst xs))
def aL7 {P:ay}{w:ba}{K:ad}{mg mb:Str->Option av}{CX:jI}{k:Nat}{fa a:ax}{fd:FuncData}{x:Str}{sp:Sp}{bz:aw}{vs:List av}{ns:af}(KX:K.In bz.heap)(Ai:bz.heap.Ns mainGlobals mg)(hb:bz.heap.Ns builtinsNs mb)(Rv:∀x:Str,x≠"__name__"->mb x=bootBuiltins x)(Hc:bz.heap.NoLimit)(hg:bz.gens = #[])(ha:bz.heap.get? a=some { cls:=.type "list",data:=.seq vs.toArray })(hi:IntsAre vs ns)(hl:ns.length<=sizeLine)(hr:cW k callerA)(F:∀base:Heap,K.In base->base.Ns mainGlobals mg->dW P w K mg base CX k fa fd [x] sp)(AH:∀(s:aw) (u:av),BindsTo s fd ⟨[u],[]⟩ [(x,u)])(AZ:∀H:Hp,u7 H->aM K H a (ns.map V.int)->sp [.ref a] H (λv _=>v = .bl true) λ_ _ _=>False)(HE:∀H e s',CX [] H bz (λ_ _ _=>False) e s'->False) :
  codeAny (model P w) callerA (.call (.ref fa) ⟨[.ref a],[]⟩) (λr s'=>r = .ok (.ret (.bool true))/\OldK bz.heap s'.heap/\s'.os=bz.os/\AllBare s'.gens) bz:=by
 have rv:=u6 hi;have Gv:=hi.length;have core:∀H:Hp,u7 H->aM K H a (ns.map V.int)->cJ P w H bz.heap->(∀b,H b≠none->b=a)->(H a≠none->K.lookup a=none)->
   codeAny (model P w) callerA (.call (.ref fa) ⟨[.ref a],[]⟩) (λr s'=>r = .ok (.ret (.bool true))/\OldK bz.heap s'.heap/\s'.os=bz.os/\AllBare s'.gens) bz:=by
  intro H hO hS cf hA hK;have yx:∀{b:ax}{o:Obj},bz.heap.get? b=some o->H b=none->(lG bz.heap H).get? b=some o:=λe n=>aC0 e n
  have Et:∀{b:ax}{o:Obj}{es:Array DictEntry}{ep:Nat},bz.heap.get? b=some o->o.data = .dict es ep->H b=none:=λ{b o es ep} e d=>by
   cases q:H b with
   |none=>rfl
   |some u=>
    have e':b=a:=hA b (by rw[q];simp);subst e';rw[ha]at e;cases e;have d':Data.seq vs.toArray _=Data.dict es ep:=d;cases d'
  have Fs:∀{b:ax}{m:Str->Option av},bz.heap.Ns b m->(lG bz.heap H).Ns b m:=λ{b m} ⟨o,es,ep,e,d,r⟩=>⟨o,es,ep,yx e (Et e d),d,r⟩
  have Je:K.In (lG bz.heap H):=λb o e=>yx (KX b o e) (by
   cases q:H b with
   |none=>rfl
   |some u=>
    have e':b=a:=hA b (by rw[q];simp);subst e'
    rw[hK (by rw[q];simp)]at e;cases e)
  have hM:Mod K mg (lG bz.heap H):=⟨Je,Fs Ai,⟨mb,Fs hb,Rv⟩,let ⟨mc,h1,h2⟩:=Hc;⟨mc,Fs h1,h2⟩⟩;have e0:tX P w K mg (lG bz.heap H) callerA [] bz H:=⟨rfl,hM,λb o e=>aC1 e,Nat.le_of_eq (aB9 _ _),trivial,λb hb=>absurd (show b∈([]:List ax) from hb) (by simp),cf,.of_eq hg⟩;refine codeAny_mono ((F _ Je (Fs Ai)).run callerA [] bz H ⟨[.ref a],[]⟩ [.ref a] [.ref a] _ _ hr e0 (AH bz (.ref a)) (.cons rfl .nil) (AZ H hO hS)) λr s' h=>?_
  cases r with
  |error e=>exact (HE H e s' h).elim
  |ok fl=>
   cases fl with
   |next=>exact False.elim h
   |brk=>exact False.elim h
   |cont=>exact False.elim h
   |ret u=>
    obtain⟨v,H',os,bare,un,GX,r',q⟩:=h
    have q':v = .bl true:=q;subst q';obtain rfl:u=Value.bool true:=r';refine⟨rfl,OldK.of_keep λb o e=>?_,os,bare⟩;cases q:H b with
    |none=>exact un.keep b o e q (by intro z;exact absurd (show b∈([]:List ax) from z) (by simp)) (by simp)
    |some u=>
     rcases hO b with z|⟨ob,xs,z⟩
     ·rw[q]at z;cases z
     ·have z2:=un.kr b ob _ z
      obtain⟨e1,_⟩:=cf b _ z
      obtain⟨e2,_⟩:=GX b _ z2
      rw[e]at e1;cases e1;exact e2
 cases hk:K.lookup a with
 |some o=>
  have e:=KX a o hk;rw[ha]at e;cases e;refine core (λ_=>none) (λ_=>.inl rfl) (.inr ⟨_,vs.toArray,_,hk,rfl,rfl,rfl,by rw[gg,Gv];exact hl,by simpa using rv⟩) (λb u z=>by have z':(none:Option HO)=some u:=z;cases z') (λb z=>absurd rfl z) λz=>absurd rfl z
 |none=>
  refine core (λb=>if b=a then some (.et { cls:=.type "list",data:=.seq vs.toArray } (.lst (ns.map V.int))) else none) (λb=>?_) (.inl (.inr ⟨{ cls:=.type "list",data:=.seq vs.toArray },if_pos rfl⟩)) (λb u z=>?_) (λb z=>?_) λ_=>hk
  ·by_cases hb:b=a
   ·exact .inr ⟨_,_,if_pos hb⟩
   ·exact .inl (if_neg hb)
  ·by_cases hb:b=a
   ·have z':=(if_pos hb).symm.trans z
    cases z';subst hb
    exact⟨ha,by rw[df];exact hl,vs,_,rv,ha⟩
   ·have z':=(if_neg hb).symm.trans z
    cases z'
  ·by_cases hb:b=a
   ·exact hb
   ·exact absurd (if_neg hb) z
def aL8 {l:PySem.W.OpenLaw}{n k:Nat}{q:ay}{loose:List Str}{XP:(Str->Option av)->Heap->Prop}{YP:ba->Heap->Prop}{d:DefRec}{K:Params->ad}{CX:ba->jI}{sp:ba->Sp}{x:Str}(hn:l.most=some n)(Rf:n<=sizeLine)(CO:d.params.defaults = [])(hr:cW k callerA)(hY:∀(w:ba) (h:Heap),YP w h->(K w.params).In h)(F:∀(w:ba) (mg:Str->Option av) (fa:ax) (h:Heap),(K w.params).In h->h.Ns mainGlobals mg->mg d.name=some (.ref fa)->
   ∃fd:FuncData,(∀(s:aw) (u:av),BindsTo s fd ⟨[u],[]⟩ [(x,u)])/\
    ∀base:Heap,(K w.params).In base->base.Ns mainGlobals mg->dW l.prog w (K w.params) mg base (CX w) k fa fd [x] (sp w))(AZ:∀(w:ba) (H:Hp) (a:ax) (ns:af),ns.length<=n->u7 H->aM (K w.params) H a (ns.map V.int)->sp w [.ref a] H (λv _=>v = .bl true) λ_ _ _=>False)(HE:∀(w:ba) (H:Hp) (s:aw) (e:av) (s':aw),CX w [] H s (λ_ _ _=>False) e s'->False) :
  PySem.W.WalkO q loose XP YP l.row.toRowW d [] (λf vs=>PySem.call f vs):=by
 refine Pu.aL6 hn CO λw cx bz mg mb fa o pm cd doc a vs ns G Y ho hd ko hmg AF hints aj hg=>?_
 have KX:=hY w _ Y
 obtain⟨fd,hb,hF⟩:=F w mg fa _ KX G.T.g hmg
 exact aL7 KX G.T.g G.T.b G.T.builtins G.T.nolimit hg AF hints (og aj Rf) hr hF hb (λH hO hS=>AZ w H a ns aj hO hS) λH e s'=>HE w H bz e s'
def kR (s:Stmt):Arguments:=match s with
 |.FunctionDef _ a _ _ _ _ _ _ _ _=>a
 |_=>{ posonlyargs:=[],args:=[],vararg:=none,kwonlyargs:=[],kw_defaults:=[],kwarg:=none,defaults:=[] }
def gC (s:Stmt):List Stmt:=match s with
 |.FunctionDef _ _ b _ _ _ _ _ _ _=>b
 |_=>[]
def aZ (s:Stmt):Scope:=match s with
 |.FunctionDef _ _ _ _ _ _ sc _ _ _=>sc
 |_=>{ kind:=.function,names:=[],isGenerator:=false,isCoroutine:=false }
abbrev eJ:jI:=λ_ _ _ _ _ _=>False
abbrev E0:XK:=λ_ _ _=>False
def X8 {X:Cx}:rH eJ X E0:=λ_ _ _ _ _ _ _ h=>h.elim
structure gI (K:ad)(x qual:Str)(st:Stmt)(f:ax)(fd:FuncData):Prop where
 ex:∃(oc:av) (od:Option ax) (kV doc pm:av) (an:Option ax) (cy ct:av) (Bl:Array (Option av)),
  fd=PySem.W.fnOf x qual (kR st) (gC st) (aZ st) .none kV doc pm an cy ct/\K.lookup f=some ⟨oc,od,.func fd,Bl⟩/\PySem.W.codeIn K cy qual=true
 kp:PySem.W.keepIn K (.ref f)=true
section
variable {P:ay}{w:ba}{K:ad}{mg:Str→Option av}{base:Heap}
def gI.ok {x qual:Str}{st:Stmt}{f:ax}{fd:FuncData}{N ps:List Str}{k:Nat}{sp:Sp}(F:gI K x qual st f fd)(S:bg N ps (aZ st))(len:∀vs H Q E,sp vs H Q E->vs.length=ps.length)(vq:∀(cy:av) (A:az) (outer:List Env) (s:aw) (H:Hp) (vs:List V) (Q:VK) (E:XK),cW k (A.deeper (envOfC qual (aZ st) s.heap.objs.size f cy))->sp vs H Q E->
   ∃t,fI (eI eJ P w K mg base N qual (aZ st) f cy A outer s H E).Bo (gC st) t/\t { nx:=λ_ H'=>Q .bw H',rt:=Q } (start N vs) H):dW P w K mg base eJ (k+1) f fd ps sp:=by
 obtain⟨oc,od,kV,doc,pm,an,cy,ct,Bl,rfl,lk,ko⟩:=F.ex
 refine S8 lk ko S len λA outer s H vs Q E hr AZ=>?_
 obtain⟨t,h,q⟩:=vq cy A outer s H vs Q E hr AZ
 exact⟨t,h.Bo,q⟩
def gI.binds {x qual:Str}{st:Stmt}{f:ax}{fd:FuncData}{ps:List Str}(F:gI K x qual st f fd)(h:∀(kV doc pm:av) (an:Option ax) (cy ct:av) (us:List av),us.length=ps.length->bindArgs (PySem.W.fnOf x qual (kR st) (gC st) (aZ st) .none kV doc pm an cy ct) ⟨us,[]⟩=pure (ps.zip us)):jZ K fd ps []:=by
 obtain⟨oc,od,kV,doc,pm,an,cy,ct,Bl,rfl,lk,ko⟩:=F.ex
 exact .all (h kV doc pm an cy ct)
def aL9 {x qual:Str}{st:Stmt}{f:ax}{oc:av}{od an:Option ax}{Bl:Array (Option av)}{kV doc pm cy ct:av}(l:K.lookup f=some ⟨oc,od,.func (PySem.W.fnOf x qual (kR st) (gC st) (aZ st) .none kV doc pm an cy ct),Bl⟩)(c:PySem.W.codeIn K cy qual=true)(k:PySem.W.keepIn K (.ref f)=true):gI K x qual st f (PySem.W.fnOf x qual (kR st) (gC st) (aZ st) .none kV doc pm an cy ct):=⟨⟨oc,od,kV,doc,pm,an,cy,ct,Bl,rfl,l,c⟩,k⟩
end
def lQ {A:az}{k:Nat}(hr:cW k A):A.units+1<cLine:=Dp (Nat.add_le_add_left (by decide:1<=64) _) hr.units
def rO {n:Nat}(h:n<=1000):n<sizeLine:=Dp h (by decide)
section
variable {X:Cx}
def pv (i:Nat){x:Str}{pos:Pos}(hN:X.N[i]? = some x:=by rfl)(hv:iR X.env.scope x:=by first|exact Or.inl rfl|exact Or.inr (Or.inl rfl)|exact Or.inr (Or.inr rfl))(hd:(x==("__debug__":Str))=false:=by decide)(ko:(x==("__classdict__":Str))=false:=by decide):PE X (.Name x pos) (gA i):=kN hN hv hd ko
def aM0:dU X (.builtin "len") (λxs H Q=>∃a bf,xs = [V.ref a]/\H a=some (.dK bf)/\Q (.int bf.length) H):=by
 intro ag s σ H xs us Q I r h
 obtain⟨a,bf,rfl,ha,q⟩:=h
 obtain⟨u,rfl,ru⟩:=iF r
 cases ru;exact aK3 I (.inl ha) λt s' I'=>⟨.int bf.length,H,I',⟨t,rfl⟩,q⟩
end
def bK {A B:Prop}(h:B):if false=true then A else B:=by
 rw[if_neg om];exact h
def bP {A B:Prop}(h:A):if true=true then A else B:=by
 rw[if_pos rfl];exact h
def aE (H H':Hp):Prop:=∀b o,H b=some o->H' b=some o
def aE.refl (H:Hp):aE H H:=λ_ _ h=>h
def aE.trans {H H1 H2:Hp}(a:aE H H1)(b:aE H1 H2):aE H H2:=λc o h=>b c o (a c o h)
def aE.free {H H':Hp}(e:aE H H'){l:ax}(h:H' l=Option.none):H l=Option.none:=by
 cases q:H l with
 |none=>rfl
 |some o=>
  rw[e l o q]at h;cases h
def aE.seq {K:ad}{H H':Hp}{a:ax}{xs:List V}(e:aE H H')(h:aM K H a xs):aM K H' a xs:=by
 rcases h with (h|⟨o,h⟩)|h
 ·exact .inl (.inl (e _ _ h))
 ·exact .inl (.inr ⟨o,e _ _ h⟩)
 ·exact .inr h
def gJ (cells:List (Str×ax)):List (Str×NameKind)->List (Str×ax)->List (Str×ax)
 |[],cs=>cs
 |(n,k)::r,cs=>gJ cells r (if k==.free then (n,(cells.lookup n).getD 0)::cs else cs)
def zJ {env:Env}:∀(ns:List (Str×NameKind)) (cs:List (Str×ax)),(∀x∈ns,x.2 = .free->∃c,env.cells.lookup x.1=some c)->
  (forIn ns cs (λ(x:Str×NameKind) r=>(match x with
   |(name,kind)=>if (kind==.free)=true then (do let y <- cellOf env name;pure (ForInStep.yield ((name,y)::r))) else pure (ForInStep.yield r)):_->_->Sem _))=(pure (gJ env.cells ns cs):Sem (List (Str×ax)))
 |[],cs,_=>by rw[List.forIn_nil];rfl
 |(n,k)::r,cs,h=>by
  rw[List.forIn_cons];have hr:∀x∈r,x.2 = .free->∃c,env.cells.lookup x.1=some c:=λx hx=>h x (fu _ hx)
  cases hk:(k==NameKind.free) with
  |true=>
   have e:k = .free:=by simpa using hk
   obtain⟨c,hc⟩:=h (n,k) dh e
   simp only[hk,if_true];have e1:cellOf env n=pure c:=by unfold cellOf;rw[hc]
   rw[e1];show ((pure c >>= λy=>pure (ForInStep.yield ((n,y)::cs))) >>= _:Sem _)=_;rw[pure_bind,pure_bind]
   have:=zJ (env:=env) r ((n,c)::cs) hr
   refine this.trans ?_;unfold gJ;simp only[hk,if_true,hc,Option.getD_some];cases r<;>rfl
  |false=>
   simp only[hk,oz,me];rw[pure_bind]
   have:=zJ (env:=env) r cs hr
   refine this.trans ?_
   conv=>rhs;unfold gJ
   simp only[hk,oz,me]
def u9 {scope:Scope}{env:Env}(h:∀x∈scope.names,x.2 = .free->∃c,env.cells.lookup x.1=some c):closureFor scope env=pure (gJ env.cells scope.names []):=by
 have e:=zJ (env:=env) scope.names [] h;unfold closureFor;rw[show (pure (gJ env.cells scope.names []):Sem (List (Str×ax)))=(pure (gJ env.cells scope.names []) >>= pure) by rw[pure_bind]];rw[<- e]
def uA {cells:List (Str×ax)}:∀(ns:List (Str×NameKind)) (cs:List (Str×ax)) {x:Str}{c:ax},(∀y∈ns,y.2 = .free->∃c,cells.lookup y.1=some c)->
  (∀x c,cs.lookup x=some c->cells.lookup x=some c)->(gJ cells ns cs).lookup x=some c->cells.lookup x=some c
 |[],cs,x,c,_,hc,h=>hc x c h
 |(n,k)::r,cs,x,c,hn,hc,h=>by
  unfold gJ at h;have hr:∀y∈r,y.2 = .free->∃c,cells.lookup y.1=some c:=λy hy=>hn y (fu _ hy)
  cases hk:(k==NameKind.free) with
  |false=>
   simp only[hk,oz,me]at h;exact uA r cs hr hc h
  |true=>
   simp only[hk,if_true]at h;refine uA r _ hr (λy d e=>?_) h
   obtain⟨c0,h0⟩:=hn (n,k) dh (by simpa using hk)
   have h0:cells.lookup n=some c0:=h0;rw[h0]at e;rw[Ae]at e;by_cases IM:y=n
   ·subst IM
    simp only[Bd,Option.getD_some]at e;rw[h0];exact e
   ·have:(y==n)=false:=beq_eq_false_iff_ne.mpr IM
    simp only[this]at e;exact hc y d e
def zK {cells:List (Str×ax)}:∀(ns:List (Str×NameKind)) (cs:List (Str×ax)) {x:Str},((x,NameKind.free)∈ns∨∃c,cs.lookup x=some c)->∃c,(gJ cells ns cs).lookup x=some c
 |[],cs,x,h=>by
  rcases h with h|h
  ·simp at h
  ·exact h
 |(n,k)::r,cs,x,h=>by
  unfold gJ;refine zK r _ ?_;rcases h with h|⟨c,h⟩
  ·rcases ff.mp h with e|e
   ·cases e
    exact .inr ⟨_,by simp[Ae];rfl⟩
   ·exact .inl e
  ·right
   cases hk:(k==NameKind.free) with
   |false=>exact⟨c,by simpa[hk] using h⟩
   |true=>
    simp only[if_true];rw[Ae];by_cases IP:(x==n)=true
    ·simp only[IP];exact⟨_,rfl⟩
    ·simp only[Ce.mpr IP];exact⟨c,h⟩
def uB {env:Env}:∀{names:List (Str×NameKind)}{x:Str}{k:NameKind},(names.map λ(n,k)=>if (k==NameKind.free&&env.scope.kind==.function&&env.kindOf n==some .cell) then (n,NameKind.cell) else (n,k)).lookup x=some k->
  names.lookup x=some k∨(names.lookup x=some .free/\k = .cell)
 |[],_,_,h=>by simp at h
 |(n,q)::r,x,k,h=>by
  have ih:=@uB env r x k;rw[ib]at h;by_cases hx:(x==n)=true
  ·have e:x=n:=by simpa using hx
   subst e;by_cases hc:(q==NameKind.free&&env.scope.kind==.function&&env.kindOf x==some .cell)=true
   ·simp only[hc,if_true,Ae,Bd]at h
    have hq:q = .free:=by simp at hc;exact hc.1.1
    exact .inr ⟨by simp[Ae,hq],(jr h).symm⟩
   ·simp only[hc,oz,me,Ae,Bd]at h
    exact .inl (by simp[Ae];exact jr h)
  ·have GL:(x==n)=false:=Ce.mpr hx
   have h':(r.map λ(n,k)=>if (k==NameKind.free&&env.scope.kind==.function&&env.kindOf n==some .cell) then (n,NameKind.cell) else (n,k)).lookup x=some k:=by
    by_cases hc:(q==NameKind.free&&env.scope.kind==.function&&env.kindOf n==some .cell)=true
    ·simp only[hc,if_true,Ae,GL]at h;exact h
    ·simp only[hc,oz,me,Ae,GL]at h;exact h
   simp only[Ae,GL];exact ih h'
def iI (fr:List (Option Nat))(σ:St):St:=fr.map λo=>o.bind λj=>(σ[j]?).join
def Wk (BL BK:St):Prop:=BL.length=BK.length/\∀(i:Nat) v,BL[i]? = some (some v)->BK[i]? = some (some v)
def Wk.refl (σ:St):Wk σ σ:=⟨rfl,λ_ _ h=>h⟩
def Wk.set {σ τ:St}{i:Nat}{v:V}(h:Wk σ τ)(hi:σ[i]? = some none):Wk σ (τ.set i (some v)):=by
 refine⟨by rw[va];exact h.1,λj w e=>?_⟩;by_cases hj:j=i
 ·subst hj;rw[hi]at e;cases e
 ·rw[xo (Ne.symm hj)];exact h.2 j w e
def lR:∀(ns:List (Str×NameKind)) (n:Nat) (cs:List (Str×ax)),cellsFrom n ns cs=cellsFrom n ns []++cs
 |[],_,_=>rfl
 |(x,k)::r,n,cs=>by
  unfold cellsFrom;split
  ·rw[lR r (n+1) ((x,n)::cs),lR r (n+1) [(x,n)]];simp
  ·exact lR r n cs
def zL:∀(ns:List (Str×NameKind)) (n:Nat) {x:Str}{c:ax},(x,c)∈cellsFrom n ns []->(x,NameKind.cell)∈ns
 |[],_,_,_,h=>by simp[cellsFrom]at h
 |(y,k)::r,n,x,c,h=>by
  unfold cellsFrom at h;split at h
  ·rename_i hk
   rw[lR]at h;rcases fi.mp h with z|z
   ·exact fu _ (zL r _ z)
   ·rw[dt]at z
    cases z
    have:k = .cell:=by simpa using hk
    rw[this];exact dh
  ·exact fu _ (zL r _ h)
def uC:∀(ns:List (Str×NameKind)) (n:Nat) {x:Str},(x,NameKind.cell)∈ns->∃c,(x,c)∈cellsFrom n ns []
 |(y,k)::r,n,x,h=>by
  unfold cellsFrom;rcases ff.mp h with z|z
  ·cases z
   rw[if_pos (by rfl),lR]
   exact⟨n,qt _ (by simp)⟩
  ·split
   ·obtain⟨c,hc⟩:=uC r (n+1) z
    rw[lR]
    exact⟨c,pb _ hc⟩
   ·exact uC r n z
def zM {α:Type}:∀{l:List (Str×α)}{x:Str}{c:α},(x,c)∈l->∃d,l.lookup x=some d
 |(y,v)::r,x,c,h=>by
  rw[Ae];cases hb:x==y with
  |true=>exact⟨v,rfl⟩
  |false=>
   rcases ff.mp h with z|z
   ·cases z;simp at hb
   ·exact zM z
def uD {α:Type}{x:Str}:∀(l r:List (Str×α)),(l++r).lookup x=(match l.lookup x with|some v=>some v|none=>r.lookup x)
 |[],_=>rfl
 |(y,v)::l,r=>by
  rw[List.cons_append,Ae,Ae];cases hb:x==y with
  |true=>rfl
  |false=>exact uD l r
def jK (X:Cx)(scope:Scope)(C:ax):List (Str×ax):=cellsFrom (C+1) scope.names (gJ X.env.cells scope.names [])
def nX {X:Cx}{scope:Scope}{C:ax}{x:Str}{c:ax}(h:(jK X scope C).lookup x=some c) :
  (x,c)∈cellsFrom (C+1) scope.names []∨((∀d,(x,d)∉cellsFrom (C+1) scope.names [])/\(gJ X.env.cells scope.names []).lookup x=some c):=by
 unfold jK at h;rw[lR,uD]at h;cases e:(cellsFrom (C+1) scope.names []).lookup x with
 |some v=>rw[e]at h;cases h;exact .inl (Am e)
 |none=>
  rw[e]at h;refine .inr ⟨λd hd=>?_,h⟩
  obtain⟨d',z⟩:=zM hd
  rw[e]at z;cases z
def aM1 {X:Cx}{scope:Scope}{C:ax}{x:Str}{c:ax}(hn:(x,NameKind.cell)∉scope.names)(h:(gJ X.env.cells scope.names []).lookup x=some c):(jK X scope C).lookup x=some c:=by
 unfold jK;rw[lR,uD];cases e:(cellsFrom (C+1) scope.names []).lookup x with
 |some v=>exact absurd (zL _ _ (Am e)) hn
 |none=>exact h
def X9 {X:Cx}{scope:Scope}{C:ax}{x:Str}(h:(x,NameKind.cell)∈scope.names∨∃c,(gJ X.env.cells scope.names []).lookup x=some c):∃c,(jK X scope C).lookup x=some c:=by
 unfold jK;rw[lR,uD];cases e:(cellsFrom (C+1) scope.names []).lookup x with
 |some v=>exact⟨v,rfl⟩
 |none=>
  rcases h with h|h
  ·obtain⟨c,hc⟩:=uC scope.names (C+1) h
   obtain⟨d,hd⟩:=zM hc
   rw[e]at hd;cases hd
  ·exact h
def bQ (X:Cx)(scope:Scope)(N:List Str)(s:aw)(H:Hp)(C:ax)(fp:List ax)(E:av->aw->Prop):Cx:=
 { X with N:=N,cx:=s,bu:=H,env:=compEnvC scope (jK X scope C) C X.env,outer:=X.stack,ex:=fp,fn:=λx=>scope.names.lookup x==some .cell,pn:=[],xe:=E }
structure cX (X:Cx)(scope:Scope)(N:List Str)(fr:List (Option Nat)):Prop where
 kind:scope.kind = .function
 own:∀y∈scope.names,y.2 = .cell->scope.names.lookup y.1=some .cell
 names:∀y∈scope.names,y.2 = .local->scope.names.lookup y.1=some .local
 free:∀y∈scope.names,y.2 = .free->X.env.scope.names.lookup y.1=some .cell∨X.env.scope.names.lookup y.1=some .free
 len:fr.length=N.length
 EO:∀(i j:Nat),fr[i]? = some (some j)->∃x,N[i]? = some x/\X.N[j]? = some x/\scope.names.lookup x=some .free
section
variable {X:Cx}{ag:List (ax×Obj)}{σ:St}{H:Hp}{s:aw}{scope:Scope}{N:List Str}{fr:List (Option Nat)}
def cX.cells (S:cX X scope N fr)(I:a8 X ag σ H s):∀y∈scope.names,y.2 = .free->∃c,X.env.cells.lookup y.1=some c:=λy hy hk=>I.ok.has y.1 (S.free y hy hk)
def aM2 {C D:ax}{fp:List ax}{E:av->aw->Prop}{h1:Heap}{tk:Nat}{m:Str->Option av}(S:cX X scope N fr)(I:a8 X ag σ H s)(hf:∀b∈fp,jH X ag H b)(CN:∀b∈fp,b<s.heap.objs.size)(hD:s.heap.objs.size<=D)(hC:s.heap.objs.size<=C)(FF:D<C)(old:∀b o,s.heap.get? b=some o->h1.get? b=some o)(Ai:h1.Ns C m)(CV:h1.get? D=some { cls:=.type "list",data:=.seq #[] 0 })(EF:CellsOk h1 (C+1) (cellsFrom (C+1) scope.names [])) :
  a8 (bQ X scope N s H C fp E) [] (iI fr σ) (upd H D (.lst [])) { s with heap:=h1,toks:=tk }:=by
 have EN:H D=none:=I.cf.fresh hD;have cl:=S.cells I;have cs:∀{x:Str}{c:ax},(gJ X.env.cells scope.names []).lookup x=some c->X.env.cells.lookup x=some c:=λ{x c} h=>uA scope.names [] cl (λ_ _ z=>by simp at z) h
 have HS:∀{x:Str}{c:ax},X.env.cells.lookup x=some c->c<s.heap.objs.size:=λ{x c} h=>by obtain⟨v,z⟩:=I.cell x c h;exact z.lt
 have DE:∀{x:Str}{c:ax},(x,c)∈cellsFrom (C+1) scope.names []->C<c:=λ{x c} h=>(EF.empty x c h).2
 refine⟨⟨I.ok.mod,?_,I.ok.glob,I.ok.blt,hC,?_,?_,?_,I.ok.hd,I.ok.frames,.inl rfl,?_,I.bs,og I.ok.Aj I.sz,?_,?_,I.stack,I.ug⟩,rfl,I.bare,Un.laid old hD EN,⟨m,Ai,?_⟩,?_,?_,?_,λp hp=>absurd (show p∈([]:List (ax×Obj)) from hp) (by simp),?_,?_⟩
 ·exact S.kind
 ·intro x y c h1 h2
  rcases nX h1 with a|⟨_,a⟩<;>rcases nX h2 with b|⟨_,b⟩
  ·exact name_of_addr EF.apart a b
  ·exact absurd (ly (Nat.lt_trans (DE a) (HS (cs b))) hC) (uc _)
  ·exact absurd (ly (Nat.lt_trans (DE b) (HS (cs a))) hC) (uc _)
  ·exact I.ok.inj x y c (cs a) (cs b)
 ·intro x hx
  have hx:(relabel scope X.env).names.lookup x=some .cell∨(relabel scope X.env).names.lookup x=some .free:=hx;have fin:(x,NameKind.free)∈scope.names->∃c,(jK X scope C).lookup x=some c:=λz=>X9 (.inr (zK scope.names [] (.inl z)))
  rcases hx with hx|hx
  ·rcases uB hx with z|z
   ·exact X9 (.inl (Am z))
   ·exact fin (Am z.1)
  ·rcases uB hx with z|z
   ·exact fin (Am z)
   ·exact absurd z.2 (by decide)
 ·intro x c hx h
  have hx:(scope.names.lookup x==some NameKind.cell)=true:=hx;have hx:scope.names.lookup x=some .cell:=by simpa using hx
  rcases nX h with a|⟨a,_⟩
  ·exact og hC (uv (DE a))
  ·obtain⟨d,hd⟩:=uC scope.names (C+1) (Am hx)
   exact absurd hd (a d)
 ·intro b hb
  refine⟨mr (ly (CN b hb) hC),λx c e=>?_⟩;rcases nX e with a|⟨_,a⟩
  ·exact yy (Nat.lt_trans (ly (CN b hb) hC) (DE a))
  ·exact (hf b hb).2.2.2.2.1 x c (cs a)
 ·intro b o e hb
  rcases (hf b hb).2.2.2.1 with z|z
  ·exact I.ok.vi b o e z
  ·exact absurd (ly (jb e) (og I.ok.Aj z)) (uc _)
 ·intro b hb z
  rcases ff.mp (I.pf b z) with e|e
  ·exact (hf b hb).2.1 e
  ·exact (hf b hb).2.2.1 e
 ·intro i x v e1 e2 e3
  have e2:(fr.map λo=>o.bind λj=>(σ[j]?).join)[i]? = some (some v):=e2;rw[gf]at e2;cases ef:fr[i]? with
  |none=>rw[ef]at e2;cases e2
  |some o=>
   rw[ef]at e2;cases o with
   |none=>cases e2
   |some j=>
    have e2:some ((σ[j]?).join)=some (some v):=e2;have ej:σ[j]? = some (some v):=by
     cases q:σ[j]? with
     |none=>rw[q]at e2;cases e2
     |some w=>rw[q]at e2;cases w with
      |none=>cases e2
      |some w=>cases e2;rfl
    obtain⟨y,a1,a2,a4⟩:=S.EO i j ef
    have e1:N[i]? = some x:=e1;rw[e1]at a1;cases a1;have a3:(x,NameKind.free)∈scope.names:=Am a4;have Pz:iR X.env.scope x:=(S.free _ a3 rfl).elim (λz=>.inr (.inl z)) λz=>.inr (.inr z)
    obtain⟨m0,hn0,He⟩:=I.loc
    obtain⟨u,r,l⟩:=He j x v a2 ej Pz
    refine⟨u,r,.inr ⟨?_,?_⟩⟩
    ·have e3:(relabel scope X.env).names.lookup x=some .local∨(relabel scope X.env).names.lookup x=some .cell∨(relabel scope X.env).names.lookup x=some .free:=e3
     rcases e3 with z|z|z
     ·rcases uB z with y|y
      ·rw[a4]at y;cases y
      ·exact absurd y.2 (by decide)
     ·exact .inl z
     ·exact .inr z
    ·obtain⟨c,hc⟩:=zK (cells:=X.env.cells) scope.names [] (x:=x) (.inl a3)
     refine⟨c,aM1 (λz=>by have:=S.own _ z rfl;rw[a4]at this;cases this) hc,?_⟩;have dq:=cs hc;have S1:=S.free (x,.free) a3 rfl;rcases l with⟨k,_⟩|⟨_,c2,hc2,z⟩
     ·have k:X.env.scope.names.lookup x=some .local:=k
      rcases S1 with q|q<;>(have q:X.env.scope.names.lookup x=_:=q;rw[k]at q;cases q)
     ·rw[dq]at hc2;cases hc2
      obtain⟨oc,ho,hd⟩:=z
      exact⟨oc,old c oc ho,hd⟩
 ·intro x c e
  rcases nX e with a|⟨_,a⟩
  ·exact⟨_,(EF.empty x c a).1⟩
  ·obtain⟨v,oc,ho,hd⟩:=I.cell x c (cs a)
   exact⟨v,oc,old c oc ho,hd⟩
 ·show upd H D (.lst []) C=none
  rw[aK (yy FF)];exact I.cf.fresh hC
 ·intro x c e
  show upd H D (.lst []) c=none;rcases nX e with a|⟨_,a⟩
  ·rw[aK (yy (Nat.lt_trans FF (DE a)))];exact I.cf.fresh (og hC (uv (DE a)))
  ·have q:=cs a
   rw[aK (mr (ly (HS q) hD))];exact I.jm x c q
 ·exact I.cf.laid old hD ⟨ng _,[],0,.nil,CV⟩
 ·show (iI fr σ).length=N.length
  unfold iI;rw[df];exact S.len
end
def mL (X:Cx)(ifs:List Expr)(t:TT):Prop:=
 ∀(ag:List (ax×Obj)) (s:aw) (σ:St) (H:Hp) (Q:Bool->Hp->Prop),a8 X ag σ H s->t σ H Q->
  wpAny (model X.prog X.w) X.A (forIn ifs true λc r=>if r=true then do let ok <- isTrue c X.env (eval c X.env);pure (ForInStep.yield ok) else pure (ForInStep.yield r)) (TP X ag σ Q) X.xe s
def zN:TT:=λ_ H Q=>Q true H
def rP {X:Cx}:mL X [] zN:=λ_ _ _ H _ I h=>wpAny_tests_nil ⟨H,I,h⟩
def zO {X:Cx}{c:Expr}{t:TT}(h:PT X c t):mL X [c] t:=λag s σ H Q I hq=>wpAny_tests_one (h ag s σ H Q I hq)
section
variable {prog:ay}{w:ba}{A:az}
def zP (prog:ay)(w:ba)(A:az)(elt tg:Expr)(ifs:List Expr)(it acc:av)(env:Env)(zo:av->aw->Prop)(stop next:aw->Prop)(s:aw):Prop:=
 let M:=model prog w
 let tests:Sem Bool:=forIn ifs true λc r=>if r=true then do let ok <- isTrue c env (eval c env);pure (ForInStep.yield ok) else pure (ForInStep.yield r)
 let put:aw->Prop:=wpAny M A (eval elt env) (λx=>wpAny M A (call (.builtin "list.append") [acc,x]) (λ_=>next) zo) zo
 let taken:av->aw->Prop:=λv=>wpAny M A (letOwnedTupleGo tg it v) (λ_=>wpAny M A (assign tg env v) (λ_=>wpAny M A tests (λok s'=>if ok=true then put s' else next s') zo) zo) zo
 wpAny M A (pyNext it) (λr s'=>match r with
  |none=>stop s'
  |some v=>taken v s') zo s
def aM3 {R:Result->aw->Prop}{s:aw}{elt tg iter:Expr}{ifs:List Expr}{scope:Scope}{pos:Pos}{it acc:av}{env:Env}(I:Nat->aw->Prop)(turn:∀n s,I n s->zP prog w A elt tg ifs it acc env (notedBy (model prog w) A env λe=>R (.error e)) (R (.ok .next)) (λs'=>∃m,m<n/\I m s') s)(n:Nat)(h:I n s) :
  codeAny (model prog w) A (.compLoop (.ListComp elt [⟨tg,iter,ifs,0⟩] scope pos) 0 it acc env) R s:=by
 apply codeAny_loop rfl I _ n h;intro k s1 h1
 change wpAny _ A ((compTurn _ 0 it acc env).onRaise (λx=>do noteFrame x env;theTreesLotGoes x)) _ _ s1
 apply wpAny_noted;rw[compTurn_list];have t:=turn k s1 h1;unfold zP at t;apply bq;apply wpAny_standAt;apply bq;refine qp t (λr s2 h2=>?_) λ_ _ z=>z
 cases r with
 |none=>exact ei h2
 |some v=>
  apply bq;refine qp h2 (λ_ s3 h3=>?_) λ_ _ z=>z
  apply bq;refine qp h3 (λ_ s4 h4=>?_) λ_ _ z=>z
  apply bq;refine qp h4 (λok s5 h5=>?_) λ_ _ z=>z
  cases ok with
  |false=>exact ei ⟨rfl,h5⟩
  |true=>
   apply bq;apply bq;refine qp h5 (λx s6 h6=>?_) λ_ _ z=>z
   apply bq;exact qp h6 (λ_ s7 h7=>ei (ei ⟨rfl,h7⟩)) λ_ _ z=>z
end
def rQ (g:TG)(tc:TT)(te:TE)(AW:St)(J:It)(D:ax)(Q:VK)(W:Nat->Nat->List V->Hp->Prop):Prop:=
 ∀i m acc H',W i m acc H'->H' D=some (.lst acc)/\((J.stop i H'/\Q (.ref D) H')∨(J.go i H'/\∀x H2,J.xq i H' x H2->g x AW H2 λkb H3=>Wk AW kb/\tc kb H3 λb H4=>
  if b=true then te kb H4 λv H5=>H5 D=some (.lst acc)/\acc.length<sizeLine/\∃m',m'<m/\W (i+1) m' (acc++[v]) (upd H5 D (.lst (acc++[v]))) else ∃m',m'<m/\W (i+1) m' acc H4))
def Y0 (wi:TI)(fr:List (Option Nat))(g:TG)(tc:TT)(te:TE):TE:=λσ H Q=>wi σ H λJ H1=>∀D,H1 D=none->
 ∃W:Nat->Nat->List V->Hp->Prop,(∃m,W 0 m [] (upd H1 D (.lst [])))/\rQ g tc te (iI fr σ) J D Q W
section
variable {M:Model}{A:az}{E:av→aw→Prop}{s:aw}
def aM4 {scope:Scope}{globals:ax}{cl:List (Str×ax)}{qual:Str}{func:Option ax}{code:av}{builtins:ax}{outer:Env}{Q:Env->aw->Prop}(hQ:∀h',h'.Ns s.heap.objs.size (λ_=>none)->(∀b o,s.heap.get? b=some o->h'.get? b=some o)->CellsOk h' (s.heap.objs.size+1) (cellsFrom (s.heap.objs.size+1) scope.names [])->
   Q (newEnv scope s.heap.objs.size globals (cellsFrom (s.heap.objs.size+1) scope.names cl) qual func code (some outer) builtins) { s with heap:=h' }) :
  wpAny M A (newFunctionEnv scope globals cl [] qual func code (some outer) builtins) Q E s:=by
 simp only[newFunctionEnv,Option.isSome_some,if_true];refine bq (wpAny_alloc ?_);refine bq (wpAny_layCells _ (λname kind cells=>by cases Rj:kind==NameKind.cell<;>simp[Rj]) _ _ _ _ ?_);have ok:=cellsFrom_ok scope.names (s.heap.push { cls:=.type "dict",data:=.dict #[] }) (s.heap.objs.size+1) [] ⟨λ_ _ hm=>(nomatch hm),wq⟩ (by rw[Dh];exact de _);rw[Dh]at ok;rw[show ({ s with heap:=s.heap.push { cls:=.type "dict",data:=.dict #[] } }:aw).heap.objs.size=s.heap.objs.size+1 from Dh ..];rw[List.forIn_nil];refine bq (ei (ei (hQ _ ((Heap.Ns.new s.heap (.type "dict")).keeps (pushCells_keeps _ _)) (λb o e=>pushCells_keeps _ _ b o (ic _ e)) ok)))
end
section
variable {X:Cx}{ag:List (ax×Obj)}{σ:St}{H:Hp}{s:aw}{scope:Scope}{N:List Str}{fr:List (Option Nat)}{tg iter elt:Expr}{ifs:List Expr}{pos:Pos}{wi:TI}{g:TG}{tc:TT}{te:TE}
structure pE (X:Cx)(scope:Scope)(N:List Str)(tg:Expr)(ifs:List Expr)(elt:Expr)(s:aw)(H:Hp)(g:TG)(tc:TT)(te:TE):Prop where
 tg:∀(C:ax) (fp:List ax),PG (bQ X scope N s H C fp λ_ _=>False) tg g
 ifs:∀(C:ax) (fp:List ax),mL (bQ X scope N s H C fp λ_ _=>False) ifs tc
 elt:∀(C:ax) (fp:List ax),PE (bQ X scope N s H C fp λ_ _=>False) elt te
structure fM (X:Cx)(scope:Scope)(N:List Str)(tg:Expr)(ifs:List Expr)(elt:Expr)(g:TG)(tc:TT)(te:TE):Prop where
 tg:∀(s:aw) (H:Hp) (C:ax) (fp:List ax),PG (bQ X scope N s H C fp λ_ _=>False) tg g
 ifs:∀(s:aw) (H:Hp) (C:ax) (fp:List ax),mL (bQ X scope N s H C fp λ_ _=>False) ifs tc
 elt:∀(s:aw) (H:Hp) (C:ax) (fp:List ax),PE (bQ X scope N s H C fp λ_ _=>False) elt te
def fM.at (B:fM X scope N tg ifs elt g tc te)(s:aw)(H:Hp):pE X scope N tg ifs elt s H g tc te:=⟨B.tg s H,B.ifs s H,B.elt s H⟩
def aM5 {C:ax}{fp:List ax}{E:av->aw->Prop}{tq:List (ax×Obj)}{cj:St}{H':Hp}{s':aw}(I:a8 X ag σ H s)(hf:∀b∈fp,jH X ag H b)(I':a8 (bQ X scope N s H C fp E) tq cj H' s'):a8 X ag σ H' s':=
 I.Ca (ch:=fp) I'.os I'.base I'.cf I'.bare λb hb=>⟨(hf b hb).2.2.2.1,(hf b hb).2.1,(hf b hb).2.2.2.2.1,(hf b hb).2.2.2.2.2⟩
def uE {Rr:av->ax->Result->aw->Prop}{J:It}{fp:List ax}{it:ax}{tn:Nat->Heap->Prop}{Q:VK}(hc:X.calm=true)(S:cX X scope N fr)(B:pE X scope N tg ifs elt s H g tc te)(I:a8 X ag σ H s)(T:jY X.prog X.w X.K tg J fp it tn)(FA:tn 0 s.heap)(hf:∀b∈fp,jH X ag H b)(h:∀D,H D=none->∃W:Nat->Nat->List V->Hp->Prop,(∃m,W 0 m [] (upd H D (.lst [])))/\rQ g tc te (iI fr σ) J D Q W)(Hm:∀(D C:ax) (s':aw) (H':Hp) (m:Str->Option av),s.heap.objs.size<=C->s.heap.objs.size<=D->a8 X ag σ H' s'->s'.heap.Ns C m->H' C=none->Q (.ref D) H'->Rr (.ref D) C (.ok .next) s') :
  wpAny (model X.prog X.w) X.A (newList []) (λacc Bj=>wpAny (model X.prog X.w) X.A (newFunctionEnv scope X.env.globals (gJ X.env.cells scope.names []) [] X.env.qual none .none (some X.env)) (λEV FU=>
   codeAny (model X.prog X.w) X.A (.compStart (.ListComp elt [⟨tg,iter,ifs,0⟩] scope pos) 0 (.ref it) acc { EV with scope:=relabel scope X.env }) (Rr acc EV.locals) FU) X.xe Bj) X.xe s:=by
 refine Af (aM4 (λoa xy ox um=>?_));dsimp only at xy ox um ⊢;generalize Hz:s.heap.push { cls:=.type "list",dict:=none,data:=.seq ([]:List av).toArray }=H2 at xy ox um ⊢;have hC:H2.objs.size=s.heap.objs.size+1:=by rw[<- Hz,Dh]
 have FF:s.heap.objs.size<H2.objs.size:=by rw[hC];exact Nat.lt_succ_self _
 have Bq:s.heap.objs.size<=H2.objs.size:=by rw[hC];exact Nat.le_succ _
 have old:∀b o,s.heap.get? b=some o->oa.get? b=some o:=λb o e=>ox b o (Hz▸ic _ e)
 have CV:oa.get? s.heap.objs.size=some { cls:=.type "list",data:=.seq #[] 0 }:=ox _ _ (Hz▸my _ rfl);have CN:∀b∈fp,b<s.heap.objs.size:=λb hb=>by obtain⟨o,e,_⟩:=T.obj _ _ FA b hb;exact jb e
 obtain⟨W,⟨m0,w0⟩,turn⟩:=h s.heap.objs.size (I.cf.fresh (de _))
 have Ee:tn 0 oa:=T.keep _ _ _ FA λb _ o e=>old b o e
 have RG:∀b∈fp,upd H s.heap.objs.size (.lst []) b=none:=λb hb=>by rw[aK (mr (CN b hb))];exact (hf b hb).1
 have vf:∀{H':Hp},(∀b∈fp,H' b=none)->∀b∈fp,jH (bQ X scope N s H H2.objs.size fp λ_ _=>False) [] H' b:=λ{H'} hn b hb=>by
  have f:=hf b hb;refine⟨hn b hb,mr (ly (CN b hb) Bq),λz=>?_,.inl hb,λx c e=>(nX e).elim (λz=>yy (Nat.lt_trans (ly (CN b hb) Bq) (um.empty x c z).2)) λz=>f.2.2.2.2.1 x c (uA scope.names [] (S.cells I) (λ_ _ z=>by simp at z) z.2),λp hp=>absurd (show p∈([]:List (ax×Obj)) from hp) (by simp)⟩;rcases ff.mp (I.pf b z) with e|e
  ·exact f.2.1 e
  ·exact f.2.2.1 e
 generalize hX:bQ X scope N s H H2.objs.size fp (λ_ _=>False)=Y at vf;have I0:a8 Y [] (iI fr σ) (upd H s.heap.objs.size (.lst [])) { s with heap:=oa }:=hX▸aM2 S I hf CN (de _) Bq FF old xy CV um;have bt:PG Y tg g:=hX▸B.tg H2.objs.size fp;have bi:mL Y ifs tc:=hX▸B.ifs H2.objs.size fp;have be:PE Y elt te:=hX▸B.elt H2.objs.size fp;have eP:Y.prog=X.prog:=by rw[<- hX];rfl
 have ew:Y.w=X.w:=by rw[<- hX];rfl
 have eK:Y.K=X.K:=by rw[<- hX];rfl
 have eA:Y.A=X.A:=by rw[<- hX];rfl
 have eE:Y.env=compEnvC scope (jK X scope H2.objs.size) H2.objs.size X.env:=by rw[<- hX];rfl
 have eX:Y.xe=λ_ _=>False:=by rw[<- hX];rfl
 have ec:Y.calm=true:=by rw[<- hX];exact hc
 have never:∀{E:av->aw->Prop} (e:av) (s':aw),Y.xe e s'->E e s':=λ{E} e s' z=>by rw[eX]at z;exact z.elim
 have out:∀{tq cj H' s'},a8 Y tq cj H' s'->a8 X ag σ H' s':=λ{_ _ _ _} I'=>aM5 (C:=H2.objs.size) (E:=λ_ _=>False) (scope:=scope) (N:=N) I hf (hX▸I')
 have loop:codeAny (model X.prog X.w) X.A (.compLoop (.ListComp elt [⟨tg,iter,ifs,0⟩] scope pos) 0 (.ref it) (.ref s.heap.objs.size) (compEnvC scope (jK X scope H2.objs.size) H2.objs.size X.env))
   (Rr (.ref s.heap.objs.size) H2.objs.size) { s with heap:=oa }:=by
  refine aM3 (λn s'=>∃i acc H',a8 Y [] (iI fr σ) H' s'/\tn i s'.heap/\(∀b∈fp,H' b=none)/\W i n acc H') ?_ m0 ⟨0,[],_,I0,Ee,RG,w0⟩;rintro n s3 ⟨i,acc,H3,I3,Ed,ES,w3⟩;unfold zP;dsimp only
  obtain⟨hD3,step⟩:=turn i n acc H3 w3
  rcases step with⟨stop,qn⟩|⟨go,step⟩
  ·have z:=T.done Y eP ew eK ec i [] s3 _ H3 (notedBy (model X.prog X.w) X.A (compEnvC scope (jK X scope H2.objs.size) H2.objs.size X.env) λe s'=>Rr (.ref s.heap.objs.size) H2.objs.size (.error e) s') I3 (vf ES) Ed stop
   rw[eA]at z;refine aR z λr s4 ⟨hr,I4⟩=>?_
   subst hr
   obtain⟨m4,IV,_⟩:=I4.loc
   rw[eE]at IV;have f4:=I4.free;rw[eE]at f4;exact Hm _ _ s4 H3 m4 Bq (de _) (out I4) IV f4 qn
  ·have z:=T.item Y eP ew eK ec i [] s3 _ H3 (notedBy (model X.prog X.w) X.A (compEnvC scope (jK X scope H2.objs.size) H2.objs.size X.env) λe s'=>Rr (.ref s.heap.objs.size) H2.objs.size (.error e) s') I3 (vf ES) Ed go
   rw[eA]at z;refine aR z λr s4 ⟨u,hr,h4⟩=>?_
   subst hr;refine aR h4 λ_ s5 ⟨x,H5,I5,r5,y5,Cr,HI⟩=>?_
   have HX:=I5.pinned (vf HI) (T.obj _ _ Cr);have q1:=bt _ s5 _ H5 x u _ HX r5 (step x H5 y5);rw[eP,ew,eA,eE]at q1;refine qp q1 (λ_ s6 ⟨Dz,H6,I6,wk,q6⟩=>?_) never;have q2:=bi _ s6 Dz H6 _ I6 q6;rw[eP,ew,eA,eE]at q2;refine qp q2 (λb s7 ⟨H7,I7,q7⟩=>?_) never;have again:∀{H8:Hp}{s8:aw}{yh:List V},a8 Y ([]++rE fp s5.heap) Dz H8 s8->(∃m',m'<n/\W (i+1) m' yh H8)->∃m,m<n/\∃i acc H',a8 Y [] (iI fr σ) H' s8/\tn i s8.heap/\(∀b∈fp,H' b=none)/\W i m acc H':=λ{H8 s8 yh} I8 n8=>by
    obtain⟨m',hm,w8⟩:=n8
    refine⟨m',hm,i+1,yh,H8,(I8.mf).weak wk.1 wk.2,T.keep _ _ _ Cr λb hb o e=>(I8.pin (b,o) (qt _ (qt _ (tS hb e)))).1,λb hb=>?_,w8⟩
    obtain⟨o,e,d⟩:=T.obj _ _ Cr b hb
    exact (I8.pin (b,o) (qt _ (qt _ (tS hb e)))).2.1
   cases b with
   |false=>
    rw[if_neg om]at q7 ⊢;exact again I7 q7
   |true=>
    rw[if_pos rfl]at q7 ⊢;have q3:=be _ s7 Dz H7 _ I7 q7;rw[eP,ew,eA,eE]at q3;refine qp q3 (λv s8 ⟨y,H8,I8,r8,RC,QM,q8⟩=>?_) never;have q4:=pC _ s8 Dz H8 (.ref s.heap.objs.size) [y] (.ref s.heap.objs.size) [v] (λ_ H9=>∃m',m'<n/\W (i+1) m' (acc++[y]) H9) I8 rfl (.cons r8 .nil) ⟨_,_,_,rfl,rfl,RC,QM,q8⟩;rw[eP,ew,eA]at q4;exact qp q4 (λ_ s9 ⟨_,H9,I9,_,q9⟩=>again I9 q9) never
 exact codeAny_compStart_list loop (T.self _ 0 _ _ _ Ee loop)
end
section
variable {X:Cx}{scope:Scope}{N:List Str}{fr:List (Option Nat)}{tg iter elt:Expr}{ifs:List Expr}{pos:Pos}{wi:TI}{g:TG}{tc:TT}{te:TE}
def a8.drop {ag:List (ax×Obj)}{σ:St}{H H':Hp}{s s':aw}{C:ax}{h':Heap}(I0:a8 X ag σ H s)(hC:s.heap.objs.size<=C){cj:St}(I:a8 X ag cj H' s')(hn:H' C=none)(sb:Heap.SameBut C s'.heap h'):a8 X ag cj H' { s' with heap:=h' }:=by
 refine I.turned (t':=s'.toks) (it:=C) (λb o hb e=>(sb.2 b hb).trans e) hn (yy (ly I0.lt hC)) (.inr (og I0.sz hC)) (λx c e z=>?_) λp hp z=>?_
 ·obtain⟨v,q⟩:=I0.cell x c e
  exact absurd (ly q.lt (by rw[z];exact hC)) (uc _)
 ·exact absurd (ly (jb (I0.pin p hp).1) (by rw[z];exact hC)) (uc _)
def Y1 (hc:X.calm=true)(S:cX X scope N fr)(hi:PI X tg iter wi)(B:fM X scope N tg ifs elt g tc te)(hs:∀x,foldedSetIterable iter X.env x=pure x:=by intro _;rfl):PE X (.ListComp elt [⟨tg,iter,ifs,0⟩] scope pos) (Y0 wi fr g tc te):=by
 intro ag s σ H Q I h;rw[eval_ListComp];refine wpAny_comprehension_free (use:=none) rfl hs (u9 (S.cells I)) S.kind S.names (aR (hi ag s σ H _ I h) λv s1 h1=>aR h1 λDG s2 h2=>?_)
 obtain⟨it,fp,tn,J,H2,e,I2,T,zh,f2,hW⟩:=h2
 subst e;refine uE (Rr:=λacc C=>compPost (model X.prog X.w) X.A X.xe none (EP X ag σ Q) acc C) hc S (B.at _ _) I2 T zh f2 hW ?_;intro D C s' H' m hC hD I' Ai CZ q
 exact⟨m,Ai,λh' sb=>⟨.ref D,H',I2.drop hC I' CZ sb,rfl,q⟩⟩
def Y2 {i:Nat}{x:Str}{px Aw:Pos}(hc:X.calm=true)(S:cX X scope N fr)(hi:PI X tg iter wi)(B:fM X scope N tg ifs elt g tc te)(hN:X.N.Nodup)(Hg:X.N[i]? = some x)(hx:X.env.scope.names.lookup x=some .local)(vn:swapsWith (.ListComp elt [⟨tg,iter,ifs,0⟩] scope pos) (some (.Name x px)) Aw.line X.env=pure true)(hs:∀x,foldedSetIterable iter X.env x=pure x:=by intro _;rfl) :
  PS X (.Assign [.Name x px] (.ListComp elt [⟨tg,iter,ifs,0⟩] scope pos) Aw) (mG (Y0 wi fr g tc te) (cZ i)):=by
 intro ag s σ H D I h;rw[exec_Assign_Name_used _ _ _ _ vn];refine bq (wpAny_standAt (bq ?_));show wpAny _ _ (do let _ <- comprehension (.ListComp elt [⟨tg,iter,ifs,0⟩] scope pos) scope X.env _ (newList []) false (eval iter X.env) (some (assign (.Name x px) X.env))) _ _ s
 refine bq (qp (wpAny_comprehension_free (Q:=λ_ s'=>SP X ag D .next s') (use:=some (assign (.Name x px) X.env)) rfl hs (u9 (S.cells I)) S.kind S.names (aR (hi ag s σ H _ I h) λv s1 h1=>aR h1 λDG s2 h2=>?_))
  (λ_ s' hq=>ei (ei hq)) λ_ _ e=>e)
 obtain⟨it,fp,tn,J,H2,e,I2,T,zh,f2,hW⟩:=h2
 subst e;refine uE (Rr:=λacc C=>compPost (model X.prog X.w) X.A X.xe (some (assign (.Name x px) X.env)) (λ_ s'=>SP X ag D .next s') acc C) hc S (B.at _ _) I2 T zh f2 hW ?_;intro D' C s' H' m hC hD I' Ai CZ q;refine wpAny_assign_Name (xY I' hN Hg (.inl hx) (v:=.ref D') rfl (λEj HY sb=>?_) (.inr hx))
 obtain⟨a,sb,ha⟩:=sb
 have HD:C≠a:=by
  rcases ha with z|z
  ·rw[z];exact yy (ly I2.lt hC)
  ·intro e;subst e
   obtain⟨v,q⟩:=I2.cell x _ z
   exact absurd (ly q.lt hC) (uc _)
 exact⟨m,Ai.sameBut sb HD,λh' FY=>⟨_,H',I2.drop hC HY CZ FY,q⟩⟩
variable {gh:Hp→TG}{tch:Hp→TT}{teh:Hp→TE}
def zQ (wi:TI)(fr:List (Option Nat))(gh:Hp->TG)(tch:Hp->TT)(teh:Hp->TE):TE:=λσ H Q=>wi σ H λJ H1=>∀D,H1 D=none->
 ∃W:Nat->Nat->List V->Hp->Prop,(∃m,W 0 m [] (upd H1 D (.lst [])))/\rQ (gh H1) (tch H1) (teh H1) (iI fr σ) J D Q W
def uF (hc:X.calm=true)(S:cX X scope N fr)(hi:PI X tg iter wi)(B:∀(s:aw) (H:Hp),pE X scope N tg ifs elt s H (gh H) (tch H) (teh H))(hs:∀x,foldedSetIterable iter X.env x=pure x:=by intro _;rfl):PE X (.ListComp elt [⟨tg,iter,ifs,0⟩] scope pos) (zQ wi fr gh tch teh):=by
 intro ag s σ H Q I h;rw[eval_ListComp];refine wpAny_comprehension_free (use:=none) rfl hs (u9 (S.cells I)) S.kind S.names (aR (hi ag s σ H _ I h) λv s1 h1=>aR h1 λDG s2 h2=>?_)
 obtain⟨it,fp,tn,J,H2,e,I2,T,zh,f2,hW⟩:=h2
 subst e;refine uE (Rr:=λacc C=>compPost (model X.prog X.w) X.A X.xe none (EP X ag σ Q) acc C) hc S (B _ _) I2 T zh f2 hW ?_;intro D C s' H' m hC hD I' Ai CZ q
 exact⟨m,Ai,λh' sb=>⟨.ref D,H',I2.drop hC I' CZ sb,rfl,q⟩⟩
def uG {i:Nat}{x:Str}{px Aw:Pos}(hc:X.calm=true)(S:cX X scope N fr)(hi:PI X tg iter wi)(B:∀(s:aw) (H:Hp),pE X scope N tg ifs elt s H (gh H) (tch H) (teh H))(hN:X.N.Nodup)(Hg:X.N[i]? = some x)(hx:X.env.scope.names.lookup x=some .local)(vn:swapsWith (.ListComp elt [⟨tg,iter,ifs,0⟩] scope pos) (some (.Name x px)) Aw.line X.env=pure true)(hs:∀x,foldedSetIterable iter X.env x=pure x:=by intro _;rfl) :
  PS X (.Assign [.Name x px] (.ListComp elt [⟨tg,iter,ifs,0⟩] scope pos) Aw) (mG (zQ wi fr gh tch teh) (cZ i)):=by
 intro ag s σ H D I h;rw[exec_Assign_Name_used _ _ _ _ vn];refine bq (wpAny_standAt (bq ?_));show wpAny _ _ (do let _ <- comprehension (.ListComp elt [⟨tg,iter,ifs,0⟩] scope pos) scope X.env _ (newList []) false (eval iter X.env) (some (assign (.Name x px) X.env))) _ _ s
 refine bq (qp (wpAny_comprehension_free (Q:=λ_ s'=>SP X ag D .next s') (use:=some (assign (.Name x px) X.env)) rfl hs (u9 (S.cells I)) S.kind S.names (aR (hi ag s σ H _ I h) λv s1 h1=>aR h1 λDG s2 h2=>?_))
  (λ_ s' hq=>ei (ei hq)) λ_ _ e=>e)
 obtain⟨it,fp,tn,J,H2,e,I2,T,zh,f2,hW⟩:=h2
 subst e;refine uE (Rr:=λacc C=>compPost (model X.prog X.w) X.A X.xe (some (assign (.Name x px) X.env)) (λ_ s'=>SP X ag D .next s') acc C) hc S (B _ _) I2 T zh f2 hW ?_;intro D' C s' H' m hC hD I' Ai CZ q;refine wpAny_assign_Name (xY I' hN Hg (.inl hx) (v:=.ref D') rfl (λEj HY sb=>?_) (.inr hx))
 obtain⟨a,sb,ha⟩:=sb
 have HD:C≠a:=by
  rcases ha with z|z
  ·rw[z];exact yy (ly I2.lt hC)
  ·intro e;subst e
   obtain⟨v,q⟩:=I2.cell x _ z
   exact absurd (ly q.lt hC) (uc _)
 exact⟨m,Ai.sameBut sb HD,λh' FY=>⟨_,H',I2.drop hC HY CZ FY,q⟩⟩
end
def bL {H:Hp}{p:ax}(h:H p=none)(o:HO):aE H (upd H p o):=λb u q=>by rw[aK (dR q h)];exact q
def aE.tup {K:ad}{H H':Hp}{a:ax}{xs:List V}(e:aE H H')(h:aW K H a xs):aW K H' a xs:=by
 rcases h with (h|⟨o,h⟩)|h
 ·exact .inl (.inl (e _ _ h))
 ·exact .inl (.inr ⟨o,e _ _ h⟩)
 ·exact .inr h
structure Y3 (H:Hp)(J:It)(xs:List V):Prop where
 go:∀i H',aE H H'->i<xs.length->J.go i H'
 xq:∀i H' x H2,aE H H'->J.xq i H' x H2->i<xs.length->xs[i]? = some x/\H2=H'
 stop:∀H',aE H H'->J.stop xs.length H'
def Y4 {K:ad}{H:Hp}{a:ax}{xs:List V}(h:aW K H a xs):Y3 H (mH K a) xs:=
 ⟨λi H' e hi=>⟨xs,xs[i],e.tup h,by simp[hi]⟩,λi H' x H2 e y hi=>⟨y.2 xs (e.tup h),y.1⟩,λH' e=>⟨xs,e.tup h,de _⟩⟩
def jL (lo:Int)(n:Nat):List V:=(List.range n).map λ(i:Nat)=>V.int (lo+(i:Int))
def uH (lo:Int)(n:Nat):(jL lo n).length=n:=by unfold jL;rw[df,Dm]
def CW (H1:Hp)(D:ax)(n:Nat)(Pv:Nat->List V->Hp->Prop):Nat->Nat->List V->Hp->Prop:=λi m acc H'=>m=n-i/\i<=n/\acc.length<=i/\aE H1 H'/\H' D=some (.lst acc)/\Pv i acc H'
def zR (H1:Hp)(D:ax)(n:Nat)(Pv:Nat->List V->Hp->Prop)(i:Nat)(acc:List V)(v:V)(H5:Hp):Prop:=H5 D=some (.lst acc)/\acc.length<sizeLine/\∃m',m'<n-i/\CW H1 D n Pv (i+1) m' (acc++[v]) (upd H5 D (.lst (acc++[v])))
def Y5 (H1:Hp)(D:ax)(n:Nat)(Pv:Nat->List V->Hp->Prop)(i:Nat)(acc:List V)(H4:Hp):Prop:=∃m',m'<n-i/\CW H1 D n Pv (i+1) m' acc H4
structure uI (H1:Hp)(D:ax)(n i:Nat)(acc:List V)(H':Hp):Prop where
 lt:i<n
 eu:acc.length<=i
 sz:n<=sizeLine
 same:aE H1 H'
 new:H1 D=none
 acc:H' D=some (.lst acc)
def uI.yes {H1:Hp}{D:ax}{n i:Nat}{acc:List V}{H' H5:Hp}{Pv:Nat->List V->Hp->Prop}{v:V}(c:uI H1 D n i acc H')(s:aE H' H5)(p:Pv (i+1) (acc++[v]) (upd H5 D (.lst (acc++[v])))):zR H1 D n Pv i acc v H5:=by
 refine⟨s _ _ c.acc,Dp c.eu (ly c.lt c.sz),_,?_,rfl,c.lt,?_,λb o e=>?_,bA,p⟩
 ·have:=c.lt;omega
 ·rw[jg,uy];exact Nat.succ_le_succ c.eu
 ·rw[aK (dR e c.new)];exact s _ _ (c.same _ _ e)
def Y6 {H1:Hp}{J:It}{xs:List V}{g:TG}{tc:TT}{te:TE}{AW:St}{Q:VK}(O:Y3 H1 J xs)(Pv:Nat->List V->Hp->Prop)(hn:xs.length<=sizeLine)(h0:∀D,H1 D=none->Pv 0 [] (upd H1 D (.lst [])))(hs:∀i x acc D H',xs[i]? = some x->uI H1 D xs.length i acc H'->Pv i acc H'->g x AW H' λkb H3=>Wk AW kb/\tc kb H3 λb H4=>
   if b=true then te kb H4 λv H5=>zR H1 D xs.length Pv i acc v H5 else Y5 H1 D xs.length Pv i acc H4)(hd:∀D acc H',H1 D=none->aE H1 H'->H' D=some (.lst acc)->acc.length<=xs.length->Pv xs.length acc H'->Q (.ref D) H') :
  ∀D,H1 D=none->∃W:Nat->Nat->List V->Hp->Prop,(∃m,W 0 m [] (upd H1 D (.lst [])))/\rQ g tc te AW J D Q W:=by
 intro D hD;refine⟨CW H1 D xs.length Pv,⟨xs.length,rfl,ng _,de _,bL hD _,bA,h0 D hD⟩,?_⟩;rintro i m acc H' ⟨rfl,hi,ha,sm,uo,p⟩;refine⟨uo,?_⟩;by_cases jw:i<xs.length
 ·refine .inr ⟨O.go i H' sm jw,λx H2 y=>?_⟩
  obtain⟨hx,e⟩:=O.xq i H' x H2 sm y jw
  subst e;exact hs i x acc D H2 hx ⟨jw,ha,hn,sm,hD,uo⟩ p
 ·have e:i=xs.length:=by omega
  subst e;exact .inl ⟨O.stop H' sm,hd D acc H' hD sm uo ha p⟩
end L2
namespace An
open PySem PySem.W PyProof.Rows
abbrev G (p:Array Nat)(i:Nat):Nat:=p.getD i 0
def rR {p q:Array Nat}{i j:Nat}(h:p[i]? = q[j]?):G p i=G q j:=by
 unfold G;rw[FL,FL,h]
def zT {p:Array Nat}{i j:Nat}(hj:j<=p.size)(k:Nat):G (kas_rev p i j) k=if i<=k/\k<j then G p (i+j-1-k) else G p k:=by
 have e:=getElem?_mirror_all (i:=i) hj k;unfold kas_rev;by_cases h1:i<=k/\k<j
 ·rw[if_pos h1]at e ⊢;exact rR e
 ·rw[if_neg h1]at e ⊢;exact rR e
def aM6 {p:Array Nat}{src d:Nat}(hs:src<p.size)(hd:d<=src)(k:Nat):G (bubble p src d) k=if k=src-d then G p src else if src-d<k/\k<=src then G p (k-1) else G p k:=by
 have e:=getElem?_bubble hs d hd k;by_cases h1:k=src-d
 ·rw[if_pos h1]at e ⊢;exact rR e
 ·rw[if_neg h1]at e ⊢
  by_cases h2:src-d<k/\k<=src
  ·rw[if_pos h2]at e ⊢;exact rR e
  ·rw[if_neg h2]at e ⊢;exact rR e
def PP (n:Nat)(p:Array Nat):Prop:=p.toList.Perm (List.range n)
def PP.size {n:Nat}{p:Array Nat}(h:PP n p):p.size=n:=by
 have:=h.length_eq
 rw[Dm]at this;simpa using this
def PP.lt {n:Nat}{p:Array Nat}(h:PP n p){k:Nat}(hk:k<n):G p k<n:=by
 have hs:=h.size;have Hf:k<p.toList.length:=by simpa[hs] using hk
 have e:G p k=p.toList[k]:=by
  unfold G;rw[FL];simp[hs,hk]
 have m:p.toList[k]∈p.toList:=BD Hf;rw[e];exact BC.mp (h.mem_iff.mp m)
def PP.of {n:Nat}{p q:Array Nat}(h:PP n p)(e:q.Perm p):PP n q:=(Array.perm_iff_toList_perm.mp e).trans h
def PP.rev {n:Nat}{p:Array Nat}(h:PP n p)(i j:Nat):PP n (kas_rev p i j):=h.of (mirror_perm _ _ _ _)
def PP.SU {n:Nat}{p:Array Nat}(h:PP n p)(i j:Nat):PP n (bubble p i j):=h.of (bubble_perm _ _ _)
structure uJ (c:Nat->Nat->Bool):Prop where
 Fh:∀{i j},c i j=true->c j i=false
 Qn:∀{i j k},c i j=false->c j k=false->c i k=false
section
variable {c:Nat→Nat→Bool}(O:uJ c)
def Le (c:Nat->Nat->Bool)(i j:Nat):Prop:=c j i=false
include O
def le_refl (i:Nat):Le c i i:=by
 unfold Le;cases h:c i i with
 |false=>rfl
 |true=>have:=O.Fh h;rw[h]at this;exact this
def le_trans {i j k:Nat}(h1:Le c i j)(h2:Le c j k):Le c i k:=O.Qn h2 h1
def uK {i j:Nat}(h:c i j=true):Le c i j:=O.Fh h
omit O
def iJ (c:Nat->Nat->Bool)(p:Array Nat)(n:Nat):Prop:=∀a b,a<=b->b<n->Le c (G p a) (G p b)
def mM (c:Nat->Nat->Bool)(p:Array Nat)(n:Nat):Prop:=∀a b,a<=b->b<n->Le c (G p b) (G p a)
include O
def aM7 {p:Array Nat}{n:Nat}(h:iJ c p n)(h1:1<=n)(hl:Le c (G p (n-1)) (G p n)):iJ c p (n+1):=λa b xa hb=>by
 by_cases Ht:b<n
 ·exact h a b xa Ht
 ·have e:b=n:=by omega
  subst e;by_cases Hv:a=b
  ·subst Hv;exact le_refl O _
  ·exact le_trans O (h a (b-1) (by omega) (by omega)) hl
def uL {p:Array Nat}{n:Nat}(h:mM c p n)(h1:1<=n)(hl:Le c (G p n) (G p (n-1))):mM c p (n+1):=λa b xa hb=>by
 by_cases Ht:b<n
 ·exact h a b xa Ht
 ·have e:b=n:=by omega
  subst e;by_cases Hv:a=b
  ·subst Hv;exact le_refl O _
  ·exact le_trans O hl (h a (b-1) (by omega) (by omega))
omit O
def cR {α:Type}(n:Nat)(c:Nat->Nat->Bool)(R:α->Prop):KasT α->Prop
 |.ret a=>R a
 |.ask i j k=>i<n/\j<n/\cR n c R (k (c i j))
def cR.mono {α:Type}{n:Nat}{R R':α->Prop}(h:∀a,R a->R' a):∀(t:KasT α),cR n c R t->cR n c R' t
 |.ret a,q=>h a q
 |.ask i j k,q=>⟨q.1,q.2.1,cR.mono h (k (c i j)) q.2.2⟩
def cR.bind {α β:Type}{n:Nat}{R:α->Prop}{R':β->Prop}{f:α->KasT β}(h:∀a,R a->cR n c R' (f a)):∀(t:KasT α),cR n c R t->cR n c R' (t.bind f)
 |.ret a,q=>h a q
 |.ask i j k,q=>⟨q.1,q.2.1,cR.bind h (k (c i j)) q.2.2⟩
def cR.run {α:Type}{n:Nat}{R:α->Prop}{I:aw->Prop}{cmp:Nat->Nat->(Bool->aw->Prop)->aw->Prop}{Q:α->aw->Prop}(hc:∀i j C s,i<n->j<n->I s->(∀s',I s'->C (c i j) s')->cmp i j C s)(hQ:∀a s,R a->I s->Q a s):∀(t:KasT α) (s:aw),I s->cR n c R t->t.kasWp cmp Q s
 |.ret a,s,hI,q=>hQ a s q hI
 |.ask i j k,s,hI,q=>hc i j _ s q.1 q.2.1 hI λs' Rz=>cR.run hc hQ (k (c i j)) s' Rz q.2.2
include O
def zU {n:Nat}{p:Array Nat}(hp:PP n p):∀(f m:Nat),1<=m->m+f<=n->iJ c p m->cR n c (λr=>m<=r/\r<=m+f/\iJ c p r/\(r<m+f->c (G p r) (G p (r-1))=true)) (kas_asc p f m)
 |0,m,_,_,h=>⟨de _,de _,h,λz=>absurd z (uc _)⟩
 |f+1,m,h1,h2,h=>by
  refine⟨hp.lt (by omega),hp.lt (by omega),?_⟩;by_cases hc:c (p.getD m 0) (p.getD (m-1) 0)=true
  ·simp only[hc,if_true]
   exact⟨de _,by omega,h,λ_=>hc⟩
  ·have dq:c (p.getD m 0) (p.getD (m-1) 0)=false:=Ce.mpr hc
   simp only[dq,oz,me];refine cR.mono (λr q=>⟨by omega,by omega,q.2.2.1,λz=>q.2.2.2 (by omega)⟩) _ (zU hp f (m+1) (by omega) (by omega) (aM7 O h h1 dq))
omit O
def nY (c:Nat->Nat->Bool)(i j:Nat):Prop:=Le c i j/\Le c j i
include O
def zV {p q:Array Nat}{n:Nat}(h:mM c p n)(e:∀k,k<n->nY c (G q k) (G p k)):mM c q n:=λa b xa hb=>
 le_trans O (e b hb).1 (le_trans O (h a b xa hb) (e a (by omega)).2)
def Y7 {n m i:Nat}{p:Array Nat}(hp:PP n p)(hm:m<=n)(h:∀a,i<=a->a<m->nY c (G p a) (G p (m-1))):∀k,nY c (G (kas_rev p i m) k) (G p k):=λk=>by
 rw[zT (by rw[hp.size];exact hm)];by_cases hk:i<=k/\k<m
 ·rw[if_pos hk]
  have h1:=h (i+m-1-k) (by omega) (by omega);have h2:=h k hk.1 hk.2
  exact⟨le_trans O h1.1 h2.2,le_trans O h2.1 h1.2⟩
 ·rw[if_neg hk];exact⟨le_refl O _,le_refl O _⟩
omit O
def DI (c:Nat->Nat->Bool)(n:Nat)(p:Array Nat)(m q:Nat):Prop:=PP n p/\1<=m/\m<=n/\mM c p m/\q+1<=m/\∀a,m-(q+1)<=a->a<m->nY c (G p a) (G p (m-1))
include O
def Y8 {n m q:Nat}{p:Array Nat}(h:DI c n p m q):PP n (kas_rev p (m-(q+1)) m)/\∀k,nY c (G (kas_rev p (m-(q+1)) m) k) (G p k):=
 ⟨h.1.rev _ _,Y7 O h.1 h.2.2.1 h.2.2.2.2.2⟩
def uM {n:Nat}:∀(f:Nat) (p:Array Nat) (m q:Nat),m+f<=n->DI c n p m q->cR n c (λr=>DI c n r.1 r.2.1 r.2.2) (kas_desc f p m q)
 |0,p,m,q,_,h=>h
 |f+1,p,m,q,hf,h=>by
  have hp:=h.1;have h1:=h.2.1;refine⟨hp.lt (by omega),hp.lt (by omega),?_⟩;by_cases hc:c (p.getD m 0) (p.getD (m-1) 0)=true
  ·simp only[hc,if_true]
   have dn:mM c p (m+1):=uL O h.2.2.2.1 h1 (uK O hc);by_cases hq:q>0
   ·simp only[hq,if_true]
    obtain⟨pr,er⟩:=Y8 O h
    refine uM f _ (m+1) 0 (by omega) ⟨pr,by omega,by omega,zV O dn λk _=>er k,by omega,λa h1 h2=>?_⟩;have e:a=m+1-1:=by omega
    rw[e];exact⟨le_refl O _,le_refl O _⟩
   ·simp only[hq,me]
    refine uM f p (m+1) 0 (by omega) ⟨hp,by omega,by omega,dn,by omega,λa h1 h2=>?_⟩;have e:a=m+1-1:=by omega
    rw[e];exact⟨le_refl O _,le_refl O _⟩
  ·have dq:c (p.getD m 0) (p.getD (m-1) 0)=false:=Ce.mpr hc
   simp only[dq,oz,me];refine⟨hp.lt (by omega),hp.lt (by omega),?_⟩;by_cases hd:c (p.getD (m-1) 0) (p.getD m 0)=true
   ·simp only[hd,if_true]
    exact h
   ·have CP:c (p.getD (m-1) 0) (p.getD m 0)=false:=Ce.mpr hd
    simp only[CP,oz,me];have ee:nY c (G p (m-1)) (G p m):=⟨dq,CP⟩;refine uM f p (m+1) (q+1) (by omega) ⟨hp,by omega,by omega,uL O h.2.2.2.1 h1 ee.2,by have:=h.2.2.2.2.1;omega,λa h1 h2=>?_⟩;rw[Nat.add_sub_cancel];by_cases ha:a=m
    ·rw[ha];exact⟨le_refl O _,le_refl O _⟩
    ·have z:=h.2.2.2.2.2 a (by omega) (by omega)
     exact⟨le_trans O z.1 ee.1,le_trans O ee.2 z.2⟩
omit O
def CI (c:Nat->Nat->Bool)(n:Nat)(r:Nat×Array Nat):Prop:=PP n r.2/\1<=r.1/\r.1<=n/\iJ c r.2 r.1
include O
def Y9 {n m:Nat}{p:Array Nat}(hp:PP n p)(h1:1<=m)(hm:m<=n)(h:mM c p m):cR n c (CI c n) (kas_tail3 m n p):=by
 have ha:iJ c (kas_rev p 0 m) m:=λa b xa hb=>by
  rw[zT (by rw[hp.size];exact hm),zT (by rw[hp.size];exact hm),if_pos ⟨ng _,by omega⟩,if_pos ⟨ng _,hb⟩];exact h _ _ (by omega) (by omega)
 refine cR.bind (R:=λr=>m<=r/\r<=m+(n-m)/\iJ c (kas_rev p 0 m) r/\_) (λr q=>?_) _ (zU O (hp.rev 0 m) (n-m) m h1 (by omega) ha)
 exact⟨hp.rev _ _,by have:=q.1;omega,by have:=q.2.1;omega,q.2.2.1⟩
def Z0 {n m:Nat}{p:Array Nat}(hp:PP n p)(h1:1<=m)(hm:m+1<=n)(h:mM c p (m+1)):cR n c (CI c n) (kas_descPart m n p):=by
 refine cR.bind (R:=λr=>DI c n r.1 r.2.1 r.2.2) (λr q=>?_) _ (uM O (n-(m+1)) p (m+1) 0 (by omega) ⟨hp,by omega,hm,h,by omega,λa h1 h2=>?_⟩)
 ·by_cases hq:r.2.2>0
  ·rw[if_pos hq]
   obtain⟨pr,er⟩:=Y8 O q
   exact Y9 O pr q.2.1 q.2.2.1 (zV O q.2.2.2.1 λk _=>er k)
  ·rw[if_neg hq]
   exact Y9 O q.1 q.2.1 q.2.2.1 q.2.2.2.1
 ·have e:a=m+1-1:=by omega
  rw[e];exact⟨le_refl O _,le_refl O _⟩
def aM8 {n:Nat}{p:Array Nat}(hp:PP n p)(hn:1<=n):cR n c (CI c n) (kas_count n p):=by
 have a1:iJ c p 1:=λa b xa hb=>by
  have e1:a=0:=by omega
  have e2:b=0:=by omega
  rw[e1,e2];exact le_refl O _
 refine cR.bind (R:=λr=>1<=r/\r<=1+(n-1)/\iJ c p r/\(r<1+(n-1)->c (G p r) (G p (r-1))=true)) (λm q=>?_) _ (zU O hp (n-1) 1 (de _) (by omega) a1)
 obtain⟨q1,q2,q3,q4⟩:=q
 by_cases hm:(m==n)=true
 ·rw[if_pos hm]
  exact⟨hp,q1,by omega,q3⟩
 ·rw[if_neg hm]
  have tu:m≠n:=by simpa using hm
  have hc:=q4 (by omega);by_cases h1:m>1
  ·rw[if_pos h1]
   refine⟨hp.lt (by omega),hp.lt (by omega),?_⟩;by_cases hd:c (p.getD 0 0) (p.getD (m-1) 0)=true
   ·simp only[hd,if_true]
    exact⟨hp,q1,by omega,q3⟩
   ·have CP:c (p.getD 0 0) (p.getD (m-1) 0)=false:=Ce.mpr hd
    simp only[CP,oz,me];have eq:∀a,0<=a->a<m->nY c (G p a) (G p (m-1)):=λa _ ha=>⟨q3 a (m-1) (by omega) (by omega),le_trans O CP (q3 0 a (ng _) ha)⟩
    have er:=Y7 O hp (by omega:m<=n) eq;refine Z0 O (hp.rev 0 m) q1 (by omega) (zV O (p:=p) ?_ λk _=>er k);refine uL O (λa b xa hb=>?_) q1 (uK O hc);exact le_trans O (eq b (ng _) hb).1 (eq a (ng _) (by omega)).2
  ·rw[if_neg h1]
   have e:m=1:=by omega
   subst e;refine Z0 O hp (de _) (by omega) (uL O (λa b xa hb=>?_) (de _) (uK O hc));have e1:a=0:=by omega
   have e2:b=0:=by omega
   rw[e1,e2];exact le_refl O _
def zW {n k:Nat}{p:Array Nat}(hp:PP n p)(hk:k<n)(ha:iJ c p k):∀(f l r:Nat),l<=r->r<=k->r-l<=f->(∀a,a<l->Le c (G p a) (G p k))->(∀a,r<=a->a<k->Le c (G p k) (G p a))->
  cR n c (λl=>l<=k/\(∀a,a<l->Le c (G p a) (G p k))/\∀a,l<=a->a<k->Le c (G p k) (G p a)) (kas_place p k f l r)
 |0,l,r,h1,h2,h3,hl,hr=>⟨by omega,hl,λa h4 h5=>hr a (by omega) h5⟩
 |f+1,l,r,h1,h2,h3,hl,hr=>by
  unfold kas_place;by_cases IW:l >= r
  ·rw[if_pos IW]
   exact⟨by omega,hl,λa h4 h5=>hr a (by omega) h5⟩
  ·rw[if_neg IW]
   refine⟨hp.lt hk,hp.lt (by omega),?_⟩;by_cases hc:c (p.getD k 0) (p.getD ((l+r)/2) 0)=true
   ·simp only[hc,if_true]
    exact zW hp hk ha f l ((l+r)/2) (by omega) (by omega) (by omega) hl λa h4 h5=>le_trans O (uK O hc) (ha _ _ h4 h5)
   ·have dq:c (p.getD k 0) (p.getD ((l+r)/2) 0)=false:=Ce.mpr hc
    simp only[dq,oz,me];exact zW hp hk ha f ((l+r)/2+1) r (by omega) h2 (by omega) (λa h4=>le_trans O (ha a ((l+r)/2) (by omega) (by omega)) dq) hr
def Z1 {n:Nat}:∀(f:Nat) (p:Array Nat) (k:Nat),PP n p->k+f<=n->iJ c p k->cR n c (λq=>PP n q/\iJ c q (k+f)) (kas_bin f p k)
 |0,p,k,hp,_,h=>⟨hp,h⟩
 |f+1,p,k,hp,hk,h=>by
  refine cR.bind (R:=λl=>l<=k/\(∀a,a<l->Le c (G p a) (G p k))/\∀a,l<=a->a<k->Le c (G p k) (G p a)) (λl q=>?_) _ (zW O hp (by omega) h k 0 k (ng _) (de _) (by omega) (λa z=>absurd z (Nat.not_lt_zero _)) λa h1 h2=>absurd h2 (by omega))
  obtain⟨q1,q2,q3⟩:=q
  have e:∀a,G (bubble p k (k-l)) a=if a=l then G p k else if l<a/\a<=k then G p (a-1) else G p a:=λa=>by
   rw[aM6 (by rw[hp.size];omega) (by omega),show k-(k-l)=l by omega]
  refine cR.mono (λr z=>⟨z.1,by rw[show k+(f+1)=k+1+f by omega];exact z.2⟩) _ (Z1 f _ (k+1) (hp.SU _ _) (by omega) λa b xa hb=>?_);rw[e,e];by_cases ha:a=l
  ·rw[if_pos ha]
   by_cases CS:b=l
   ·rw[if_pos CS];exact le_refl O _
   ·rw[if_neg CS,if_pos (by omega)];exact q3 _ (by omega) (by omega)
  ·rw[if_neg ha]
   by_cases EK:l<a/\a<=k
   ·rw[if_pos EK,if_neg (by omega),if_pos (by omega)]
    exact h _ _ (by omega) (by omega)
   ·rw[if_neg EK]
    by_cases CS:b=l
    ·rw[if_pos CS];exact q2 a (by omega)
    ·rw[if_neg CS]
     by_cases DM:l<b/\b<=k
     ·rw[if_pos DM];exact h _ _ (by omega) (by omega)
     ·rw[if_neg DM];exact h _ _ xa (by omega)
def Z2 {n:Nat}(hn:1<=n):cR n c (λq=>PP n q/\iJ c q n) (kas_sort n):=by
 have hp:PP n (List.toArray (List.range n)):=by unfold PP;simp
 refine cR.bind (R:=CI c n) (λr q=>?_) _ (aM8 O hp hn)
 obtain⟨q1,q2,q3,q4⟩:=q
 by_cases h:r.1<n
 ·rw[if_pos h]
  have e:max r.1 1=r.1:=by omega
  rw[e];exact cR.mono (λp z=>⟨z.1,by rw[show r.1+(n-r.1)=n by omega]at z;exact z.2⟩) _ (Z1 O (n-r.1) r.2 r.1 q1 (by omega) q4)
 ·rw[if_neg h]
  have e:r.1=n:=by omega
  exact⟨q1,by rw[e]at q4;exact q4⟩
end
end An
namespace L2
open PySem PySem.Spec PyProof.Rows
def cB.there {P:ay}{w:ba}{H:Hp}{h:Heap}{a:ax}{o:HO}(x:cB P w H h a o):∃u,h.get? a=some u:=by
 cases o with
 |lst xs=>obtain⟨_,_,_,_,e⟩:=x;exact⟨_,e⟩
 |tup xs=>obtain⟨_,_,_,⟨o,e,_⟩,_⟩:=x;exact⟨_,e⟩
 |dK bf=>obtain⟨_,_,_,_,o,_,_,e,_⟩:=x;exact⟨_,e⟩
 |dT bf=>obtain⟨_,_,_,_,o,_,_,e,_⟩:=x;exact⟨_,e⟩
 |set S n=>obtain⟨o,_,_,_,e,_⟩:=x;exact⟨_,e⟩
 |ins C dx fs=>obtain⟨_,_,_,e,_⟩:=x;exact⟨_,e⟩
 |own y=>exact x
 |xd fs=>obtain⟨_,⟨_,_,_,e,_⟩,_⟩:=x;exact⟨_,e⟩
 |bj lo hi=>obtain⟨_,_,_,e⟩:=x;exact⟨_,e⟩
 |et ob u=>obtain⟨e,_⟩:=x;exact⟨_,e⟩
 |yk ps=>exact⟨_,(show h.get? a=some _ from x)⟩
 |met f y=>exact⟨_,(show h.get? a=some _ from x)⟩
 |ext φ=>obtain⟨_,z,_⟩:=x;exact z
section
variable {X:Cx}{ag:List (ax×Obj)}{σ:St}{H:Hp}{s:aw}{h':Heap}{a:ax}{o:HO}{t':Nat}
def a8.BS (I:a8 X ag σ H s)(hn:s.heap.get? a=none)(k:∀b u,b≠X.env.locals->s.heap.get? b=some u->h'.get? b=some u)(ns:∀m,s.heap.Ns X.env.locals m->h'.Ns X.env.locals m)(new:cB X.prog X.w (upd H a o) h' a o):H a=none/\a8 X ag σ (upd H a o) { s with heap:=h',toks:=t' }:=by
 have DN:H a=none:=by
  cases q:H a with
  |none=>rfl
  |some u=>obtain⟨z,e⟩:=(I.cf a u q).there;rw[hn]at e;cases e
 have ne:∀b u,s.heap.get? b=some u->b≠a:=λb u e z=>by rw[z,hn]at e;cases e
 have hL:=I.free
 refine⟨DN,I.step (g':=s.gens) (d':=s.drawn) (ch:=[]) (λ_ z=>nomatch z) (λb o' h1 _ _ e _=>k b o' h1 e) (λb o' h1 _ _ e _=>⟨o'.slots,k b o' h1 e⟩) (λb o' _ e n=>by rw[aK (ne b o' e)];exact n) (λb o' _ e=>?_)
  (λb xs q=>by rw[aK (dR q DN)];exact q) (λb u xs q=>by rw[aK (dR q DN)];exact q) (λb ps q=>⟨#[],by rw[aK (dR q DN),q];simp⟩) ns (λb u q=>?_) I.bare⟩
 ·by_cases hb:b=X.env.locals
  ·obtain⟨m,hm,_⟩:=I.loc
   obtain⟨o2,_,_,e2,_⟩:=ns m hm
   exact⟨o2,by rw[hb];exact e2⟩
  ·exact⟨o',k b o' hb e⟩
 ·by_cases hb:b=a
  ·subst hb;rw[bA]at q;cases q;exact new
  ·rw[aK hb]at q
   refine (I.cf b u q).cq (λc v hc e=>k c v ?_ e) (λc e=>by rw[aK (dR e DN)];exact e) λc xs e=>by rw[aK (dR e DN)];exact e
   rcases hc with z|z
   ·rw[z];intro y;rw[y,hL]at q;cases q
   ·intro y;rw[y,hL]at z;cases z
def a8.ow (I:a8 X ag σ H s){news:List (ax×Obj)}{m:Str->Option av}(hs:∀p∈rA X.base s.heap X.env.locals,p∈news)(F:Fr X.base X.env.locals h' m)(N:News X.base X.env.locals h' news) :
  ∀b o,b≠X.env.locals->s.heap.get? b=some o->h'.get? b=some o:=λb o h1 e=>by
 cases q:X.base.get? b with
 |some u=>
  have:=I.bk b u q
  rw[e]at this;cases this;exact F.keep b _ q
 |none=>exact (N (b,o) (hs _ (xX h1 q e))).1
end
def Z3 {α:Type}{d:α}(l:List α){p:List Nat}(h:p.Perm (List.range l.length)):(p.map λi=>l.getD i d).Perm l:=by
 have e:(List.range l.length).map (λi=>l.getD i d)=l:=by
  apply List.ext_getElem
  ·simp
  ·intro i h1 h2
   simp at h1;simp[h1]
 have:=h.map λi=>l.getD i d
 rw[e]at this;exact this
def uN:∀{xs:List V}{us:List av} (i:Nat),i<xs.length->aQ xs us->b5 (xs.getD i .bw) (us.getD i Value.none)
 |_,_,_,h,.nil=>by simp at h
 |_,_,0,_,.cons r _=>by simpa using r
 |_,_,i+1,h,.cons _ t=>by
  have:=uN i (by simpa using h) t
  simpa using this
def zX {xs:List V}{us:List av}(r:aQ xs us):∀{p:List Nat},(∀i∈p,i<xs.length)->aQ (p.map λi=>xs.getD i .bw) (p.map λi=>us.getD i Value.none)
 |[],_=>.nil
 |i::p,h=>.cons (uN i (h i dh) r) (zX r λj hj=>h j (fu _ hj))
def Z4 {α:Type}:∀l:List α,(l.zip l).map (·.2)=l
 |[]=>rfl
 |a::l=>by
  show a::((l.zip l).map (·.2))=a::l;rw[Z4 l]
def aM9 {prog:ay}{w:ba}{A:az}{E:av->aw->Prop}{s:aw}{a:ax}{vs:List av}{n:Nat}{P:PySem.Fin->aw->Prop}(e:s.heap.get? a=some (seqObj "list" vs.toArray n))(eu:vs.length<2)(q:P (.done (.ret .none)) { s with heap:=sortedHeap s.heap a vs vs.toArray }):wpAny (model prog w) A (Builtin.«list.sort» ⟨[.ref a],[]⟩) P E s:=by
 have big:vs.length<=sizeLine:=og (uv eu) (by decide);have la:=jb e;have c:vs.toArray.size<2:=by simpa using eu
 have same:(arrOf (SortSt.mk' general' (vs.toArray.zip vs.toArray) #[] 7 none)).map (·.2)=vs.toArray:=by
  change (vs.toArray.zip vs.toArray).map (·.2)=vs.toArray
  apply Array.ext';simpa using Z4 vs
 obtain⟨k,ek⟩:∃k,(s.heap.update a (Obj.mapSeq λ_=>#[])).get? a=some (seqObj "list" #[] k):=⟨_,get?_update_seq e λ_=>#[]⟩
 have there:(((s.heap.update a (Obj.mapSeq λ_=>#[])).push (seqObj "tuple" vs.toArray 0)).push (seqObj "list" #[] 0)).get? a=some (seqObj "list" #[] k):=
  ic _ (ic _ ek)
 rw[list_sort_plain];apply bq;apply listItems_at e rfl;apply bq;refine listUpdate_at e rfl ?_ (by simpa using big) (ng _);apply bq;apply seqEpoch_at ek rfl;apply bq;refine wpAny_newTuple ?_ big;apply bq;refine wpAny_newList ?_ (ng _);apply Al;simp only[c,if_true,StateT.run_pure];apply bq;apply ei;apply bq;apply ei;apply bq;apply seqEpoch_at there rfl;apply bq;refine listUpdate_at there rfl ?_ (ng _) (by rw[same,gg];exact Nat.le_succ_of_le big);rw[same];simp only[bne_self_eq_false,oz,me];exact ei q
def zY {prog:ay}{w:ba}{A:az}{E:av->aw->Prop}{s:aw}{l:ax}{vs:List av}{Q:av->aw->Prop}(hl:s.heap.IsList l vs.toArray)(eu:vs.length<2)(q:Q (.ref (s.heap.objs.size+1)) { s with heap:=sortedAll s.heap vs vs.toArray }):wpAny (model prog w) A (call (.builtin "sorted") [.ref l]) Q E s:=by
 have big:vs.length<=sizeLine:=og (uv eu) (by decide);apply Calls.call_function_entry kind_sorted plain_sorted entry_sorted (args_sorted1 _);simp only[Builtin.«sorted»];apply bq (m:=checkCount "sorted" 1 1 _);apply ei;apply bq;refine collect_list hl ?_ big;apply bq;refine wpAny_newList ?_ big;have one:((s.heap.push (seqObj "list" #[] 0)).update s.heap.objs.size (Obj.mapSeq (·++vs.toArray))).objs.size=s.heap.objs.size+1:=(Heap.size_update _ _ _).trans (size_push' _ _);have Dw:(((s.heap.push (seqObj "list" #[] 0)).update s.heap.objs.size (Obj.mapSeq (·++vs.toArray))).push (seqObj "list" vs.toArray 0)).get? (s.heap.objs.size+1)=some (seqObj "list" vs.toArray 0):=one▸my _ rfl
 change wpAny _ _ _ _ _ { s with heap:=((s.heap.push (seqObj "list" #[] 0)).update s.heap.objs.size (Obj.mapSeq (·++vs.toArray))).push (seqObj "list" vs.toArray 0) }
 rw[one];apply bq;apply Al;refine Be slot_list_sort ⟨_,Dw,rfl⟩ entry_list_sort ?_ (args_list_sort _);refine aM9 Dw eu ⟨_,rfl,?_⟩;exact ei ⟨_,rfl,q⟩
def Z5 (K:ad):List V->Hp->VK->Prop:=λxs H Q=>∃a ns,xs = [.ref a]/\aM K H a (ns.map V.int)/\ns.length<64/\∀l (ms:af),H l=none->ms.Perm ns->ms.Pairwise (· <= ·)->Q (.ref l) (upd H l (.lst (ms.map V.int)))
def aN0 {X:Cx}:dU X (.builtin "sorted") (Z5 X.K):=by
 intro ag s σ H xs us Q I r h
 obtain⟨a,ns,rfl,hs,HG,q⟩:=h
 obtain⟨u,rfl,ru⟩:=iF r
 cases ru
 obtain⟨bh,rv,p,hz⟩:=I.list hs
 have hl:=rv.length;rw[df]at hl;refine sorted_ints p.isList (rJ rv) (by omega) λout zj a1 a2 a3=>?_
 obtain⟨e,he⟩:=sortedAll_at s.heap bh out
 have hn:s.heap.objs.size<=s.heap.objs.size+1:=Nat.le_succ _;have aj:zj.length=ns.length:=a2.length_eq;refine⟨.ref (s.heap.objs.size+1),upd H (s.heap.objs.size+1) (.lst (zj.map V.int)),I.laid (t':=s.toks) (λ_ _=>sortedAll_old) hn ⟨?_,out.toList,e,u6 a1,by simpa using he⟩,rfl,q _ zj (I.cf.fresh hn) a2 a3⟩;rw[df,aj];exact uv (rO (by omega))
def Z6:∀{a b:af},HT.gB a b=true->HT.gB b a=false
 |[],[],h=>by cases h
 |[],_::_,_=>rfl
 |_::_,[],h=>by cases h
 |x::xs,y::ys,h=>by
  rw[HT.pA]at h ⊢;by_cases e:x=y
  ·rw[if_pos e]at h;rw[if_pos e.symm];exact Z6 h
  ·rw[if_neg e]at h;rw[if_neg (Ne.symm e)]
   have:=mw h
   exact fk (by omega)
def Z7:∀{a b c:af},HT.gB a b=false->HT.gB b c=false->HT.gB a c=false
 |[],[],c,_,h=>h
 |[],_::_,_,h,_=>by cases h
 |_::_,[],[],_,_=>rfl
 |_::_,[],_::_,_,h=>by cases h
 |_::_,_::_,[],_,_=>rfl
 |x::xs,y::ys,z::zs,h1,h2=>by
  rw[HT.pA]at h1 h2 ⊢;by_cases e1:x=y
  ·rw[if_pos e1]at h1
   by_cases e2:y=z
   ·rw[if_pos e2]at h2;rw[if_pos (e1.trans e2)];exact Z7 h1 h2
   ·rw[if_neg e2]at h2;rw[if_neg (by rw[e1];exact e2)];rw[e1];exact h2
  ·rw[if_neg e1]at h1
   have k1:=BG h1;by_cases e2:y=z
   ·rw[<- e2,if_neg e1];exact h1
   ·rw[if_neg e2]at h2
    have k2:=BG h2;rw[if_neg (by omega)];exact fk (by omega)
section
variable {prog:ay}{w:ba}{A:az}{s:aw}{Q:Bool→aw→Prop}
def Z8:∀{us ws:List av}{xs ys:af} (i:Nat),IntsAre us xs->IntsAre ws ys->Q (HT.gB xs ys) s->PySem.W.KatLex prog w A true (decide (us.length<ws.length)) Q (us.zip ws) i s
 |_,_,_,_,_,.nil,.nil,h=>h
 |_,_,_,_,_,.nil,.cons _ _ _,h=>h
 |_,_,_,_,_,.cons _ _ _,.nil,h=>h
 |_,_,_,_,i,.cons (vs:=us) x t hx,.cons (vs:=ws) y u hy,h=>by
  refine PySem.W.kat_cons (wpAny_eqBool_int ?_);rw[HT.pA]at h;by_cases e:x=y
  ·rw[if_pos e]at h
   have eb:(x==y)=true:=by simpa using e
   rw[eb];refine PySem.W.kat_yes ?_;have e2:decide ((Value.int x t::us).length<(Value.int y u::ws).length)=decide (us.length<ws.length):=by simp
   rw[e2];exact Z8 (i+1) hx hy h
  ·rw[if_neg e]at h
   have eb:(x==y)=false:=by simpa using e
   rw[eb];refine PySem.W.kat_no ?_;cases hi:(true&&i==0) with
   |true=>exact PySem.W.kat_lt_int h
   |false=>exact PySem.W.kat_one _ _ (lt_int h)
end
def uO (K:ad):List V->Hp->VK->Prop:=λxs H Q=>∃(a:ax) (ys:List V) (key:V->af),xs = [.ref a]/\aM K H a ys/\ys.length<64/\(∀y∈ys,∃b,y = .ref b/\aW K H b ((key y).map V.int)/\key y≠[])/\
 ∀l (zs:List V),H l=none->zs.Perm ys->zs.Pairwise (λu v=>HT.gB (key v) (key u)=false)->Q (.ref l) (upd H l (.lst zs))
def Z9 {c:Nat->Nat->Bool}{R:V->V->Prop}{ys:List V}{p:Array Nat}{n:Nat}(hp:An.PP n p)(ha:An.iJ c p n)(hR:∀i j,An.Le c i j->R (ys.getD i .bw) (ys.getD j .bw)) :
  (p.toList.map λi=>ys.getD i .bw).Pairwise R:=by
 rw[uw,List.pairwise_iff_getElem];intro i j hi hj Rl;have hs:=hp.size;have h1:i<n:=by rw[<- hs];simpa using hi
 have h2:j<n:=by rw[<- hs];simpa using hj
 have q:=ha i j (uv Rl) h2;have e:∀k (hk:k<p.toList.length),An.G p k=p.toList[k]:=λk hk=>by
  have Hf:k<p.size:=by simpa using hk
  unfold An.G;rw[FL];simp[Hf]
 rw[e i hi,e j hj]at q;exact hR _ _ q
def OT {X:Cx}:dU X (.builtin "sorted") (uO X.K):=by
 intro ag s σ H xs us Q I r h
 obtain⟨a,ys,key,rfl,hs,HG,hk,q⟩:=h
 obtain⟨u,rfl,ru⟩:=iF r
 cases ru
 obtain⟨bh,rv,p,hz⟩:=I.list hs
 have hl:=rv.length;by_cases h2:bh.length<2
 ·
  refine zY p.isList h2 ?_
  obtain⟨e,he⟩:=sortedAll_at s.heap bh bh.toArray
  have hn:s.heap.objs.size<=s.heap.objs.size+1:=Nat.le_succ _;refine⟨.ref (s.heap.objs.size+1),upd H (s.heap.objs.size+1) (.lst ys),I.laid (t':=s.toks) (λ_ _=>sortedAll_old) hn ⟨hz,bh,e,rv,he⟩,rfl,q _ ys (I.cf.fresh hn) (Bc _) ?_⟩
  match ys,hl with
  |[],_=>exact wq
  |[_],_=>exact ot _ _
  |_::_::_,hl=>simp at hl;omega
 ·obtain⟨m,F⟩:=I.fr
  have hL:∀{b:ax}{k:af},aW X.K H b (k.map V.int)->b≠X.env.locals:=λ{b k} z e=>by
   obtain⟨its',_,⟨ob,e1,c1,_⟩,_⟩:=I.tuple z
   obtain⟨m',⟨o',DO,ET,e2,d2,_⟩,_⟩:=I.loc
   rcases z with (z|⟨_,z⟩)|⟨o3,GB,n3,z3,zc,zd,_⟩
   ·rw[e,I.free]at z;cases z
   ·rw[e,I.free]at z;cases z
   ·have:=I.BU b o3 z3
    rw[e,e2]at this;cases this;rw[d2]at zd;cases zd
  refine PySem.W.kat_sorted F (N8 (g:=X.base) (h:=s.heap) (L:=X.env.locals)) p.isList (by omega) (by omega) λD e1 h' F' N' hD=>?_
  have keep:=I.ow (λp hp=>fu _ hp) F' N';have look:∀i,i<ys.length->∃(b:ax) (ob:Obj) (us:List av) (n:Nat),bh.getD i Value.none = .ref b/\h'.get? b=some ob/\ob.cls = .type "tuple"/\ob.data = .seq us.toArray n/\IntsAre us (key (ys.getD i .bw))/\key (ys.getD i .bw)≠[]:=λi hi=>by
   have hy:ys.getD i .bw∈ys:=by
    rw[ju,gs hi];exact BD hi
   obtain⟨b,eb,sq,ne⟩:=hk _ hy
   have rr:=uN i hi rv;rw[eb]at rr;have rr:bh.getD i Value.none = .ref b:=rr
   obtain⟨us,ru,⟨ob,e1,c1,n1,d1⟩,_⟩:=I.tuple sq
   exact⟨b,ob,us,n1,rr,keep b ob (hL sq) e1,c1,d1,rJ ru,ne⟩
  have yd:∀{xs:List V}{vs:List av},aQ xs vs->(∀y∈xs,∃b,y = .ref b/\aW X.K H b ((key y).map V.int)/\key y≠[])->∃fs:List av,PySem.W.KatTups h' vs fs/\fs.length=vs.length/\∀v∈fs,∃i t,v=Value.int i t:=by
   intro xs vs r
   induction r with
   |nil=>intro _;exact⟨[],PySem.W.KatTups.nil,rfl,λ_ z=>nomatch z⟩
   |@cons x v xs vs rx rt ih=>
    intro hh
    obtain⟨fs,t1,t2,t3⟩:=ih λy hy=>hh y (fu _ hy)
    obtain⟨b,eb,sq,ne⟩:=hh x dh
    subst eb;cases rx
    obtain⟨us,ru,⟨ob,e1,c1,n1,d1⟩,_⟩:=I.tuple sq
    have ia:=rJ ru;generalize key (V.ref b)=kk at ia ne;cases ia with
    |nil=>exact absurd rfl ne
    |@cons n t Py ns0 ht=>
     exact⟨Value.int n t::fs,PySem.W.KatTups.cons (keep b ob (hL sq) e1) c1 d1 (by simp) t1,by simp[t2],λv hv=>(ff.mp hv).elim (λz=>⟨n,t,z⟩) (t3 v)⟩
  obtain⟨fs,t1,t2,t3⟩:=yd rv hk
  refine PySem.W.kat_kind (T:=.type "int") t1 (by omega) (λv hv=>?_) (by decide) ?_
  ·obtain⟨i,t,rfl⟩:=t3 v hv
   exact PySem.W.Looks.now
  let c:Nat->Nat->Bool:=λi j=>HT.gB (key (ys.getD i .bw)) (key (ys.getD j .bw))
  have O:An.uJ c:=⟨λh=>Z6 h,λh1 h2=>Z7 h1 h2⟩;have ok:=An.Z2 (n:=bh.length) O (by omega);refine An.cR.run (I:=λs'=>s'={ s with heap:=h' }) (λi j C s' hi hj hI hC=>?_) (λpa s' hR hI=>?_) _ _ rfl ok
  ·subst hI
   obtain⟨b1,o1,u1,n1,g1,g2,_,g4,g5,_⟩:=look i (by omega)
   obtain⟨b2,o2,u2,n2,k1,k2,_,k4,k5,_⟩:=look j (by omega)
   show wpAny _ _ (keyLt' (tuples' (Value.type "int" != Value.type "tuple")) (bh.getD i Value.none) (bh.getD j Value.none)) _ _ _;rw[g1,k1];have eT:(Value.type "int" != Value.type "tuple")=true:=by decide
   rw[eT];refine PySem.W.kat_lt g2 g4 k2 k4 ?_
   have:=Z8 (prog:=X.prog) (w:=X.w) (A:=X.A.in1.in1) (s:={ s with heap:=h' }) (Q:=C) 0 g5 k5 (hC _ rfl)
   simpa using this
  ·subst hI
   obtain⟨hp,CT⟩:=hR
   refine PySem.W.KasFin.intro F' N' (PySem.W.UpdF.head λp hp=>mr (hD p hp)) λh2 cc F2 N2=>?_
   have yt:=I.ow (λp hp=>fu _ hp) F2 N2;have HB:s.heap.get? D=none:=by
    cases z:s.heap.get? D with
    |none=>rfl
    |some o=>
     obtain⟨_,n1,n2⟩:=N2 (D,_) dh
     exact absurd (hD _ (xX n1 n2 z)) (uc _)
   have hpl:∀i∈pa.toList,i<ys.length:=λi hi=>by
    have:=BC.mp (hp.mem_iff.mp hi);omega
   have GU:pa.toList.Perm (List.range ys.length):=by rw[hl];exact hp
   have pm:=Z3 (d:=V.bw) ys GU
   obtain⟨HA,RB,RA⟩:=N2 (D,_) dh
   obtain⟨EN,I2⟩:=I.BS (t':=s.toks) (a:=D) (o:=.lst (pa.toList.map λi=>ys.getD i .bw)) HB yt (λm' zt=>by
     have e:m'=m:=funext λnm=>Heap.Ns.agree zt F.ns nm
     rw[e];exact F2.ns) ⟨by rw[pm.length_eq];exact hz,_,cc,zX rv hpl,HA⟩
   exact⟨.ref D,_,I2,rfl,q D _ EN pm (Z9 hp CT λi j hle=>hle)⟩
end L2
namespace Raw
open PySem PySem.W PySem.Calls PyProof.Rows
def iK (h:Heap)(d:ax)(es:Array DictEntry)(ep:Nat):Prop:=∃o,h.get? d=some o/\o.ExactDict/\o.data = .dict es ep
def iK.ty {s:aw}{d:ax}{es:Array DictEntry}{ep:Nat}(x:iK s.heap d es ep):s.TypeIs (.ref d) "dict":=x.elim λo y=>⟨o,y.1,y.2.1.1⟩
def iK.lt {h:Heap}{d:ax}{es:Array DictEntry}{ep:Nat}(x:iK h d es ep):d<h.objs.size:=x.elim λ_ y=>jb y.1
def iK.keep {h h':Heap}{d:ax}{es:Array DictEntry}{ep:Nat}(x:iK h d es ep)(k:∀o,h.get? d=some o->h'.get? d=some o):iK h' d es ep:=x.elim λo y=>⟨o,k o y.1,y.2⟩
section
variable {prog:ay}{w:ba}{A:az}{E:av→aw→Prop}{s:aw}{d it:ax}{es:Array DictEntry}{ep i:Nat}
def made (vt:(d==sysModules)=false)(x:iK s.heap d es ep){Q:av->aw->Prop}(q:Q (.ref s.heap.objs.size) { s with heap:=s.heap.push { cls:=.type "dict_keyiterator",data:=.fields #[.ref d,.int 0 0,.int es.size 0,.int ep 0] } }):wpAny (model prog w) A (pyIter (.ref d)) Q E s:=by
 have T:=x.ty
 obtain⟨o,e1,e2,e3⟩:=x
 apply wpAny_pyIter_slot T PySem.F.slot_dict_iter;apply Be PySem.F.slot_dict_iter T PySem.F.entry_dict_iter _ (PySem.F.args_dict_iter_1 _);simp only[Builtin.«dict.__iter__»,Builtin.Dict.dictSlotNone];apply bq;apply bq;apply wpAny_notOrdered_dict T;apply ei
 change wpAny _ _ (Builtin.Dict.showsAll d >>= _) _ _ s
 have HL:Builtin.Dict.showsAll d=pure ():=by
  unfold Builtin.Dict.showsAll;simp only[vt,oz,me]
 rw[HL,pure_bind];apply bq;apply wpAny_dictEntries e1 e3;apply bq;apply wpAny_dictEpoch e1 e3;apply bq;refine Af (ei ?_);refine⟨.ref s.heap.objs.size,rfl,"dict_keyiterator",_,⟨_,my _ rfl,rfl⟩,PySem.F.slot_dict_keyiterator_next.lookup,?_⟩;simpa only[rawInt] using q
def turn (hh:A.handled=none)(hi:s.heap.IsKeyIter it d i es.size ep)(x:iK s.heap d es ep){Q:Option av->aw->Prop}(yes:∀(lt:i<es.size) h',h'.IsKeyIter it d (i+1) es.size ep->Heap.SameBut it s.heap h'->Q (some es[i].key) { s with heap:=h' })(no:es.size<=i->∀h',Heap.ExtBut it s.heap h'->Q none { s with heap:=h' }):wpAny (model prog w) A (pyNext (.ref it)) Q E s:=by
 have T:=hi.typeIs
 obtain⟨oi,f1,f2,f3⟩:=hi
 obtain⟨o,e1,e2,e3⟩:=x
 have slot:=PySem.F.slot_dict_keyiterator_next;have plain:Builtin.Dict_items.ownsTuple "dict_keyiterator" = false:=by decide
 have vm:(Value.ref d==Value.none)=false:=rfl;have nn:¬(i:Int)<0:=by omega
 unfold pyNext;apply bq;apply wpAny_attempt;apply Du (name:=Str.ofString "__next__") T slot;apply Be slot T PySem.F.entry_dict_keyiterator_next _ (PySem.F.args_dict_keyiterator_next_1 _);apply bq;apply ei;apply bq;apply bq;apply bq
 first
  |apply wpAny_typeNameOfWhole_keyiter T
  |apply wpAny_typeNameOf_keyiter T
 apply ei;apply bq;apply wpAny_fieldsOf f1 f3;simp only[plain,oz,me]
 change wpAny _ _ (if (Value.ref d==Value.none)=true then _ else _) _ _ s
 have adr:Builtin.Dict_items.addrOf (Value.ref d)=pure d:=rfl;simp only[vm,oz,me,adr,pure_bind];apply bq;apply wpAny_dictEntries e1 e3;simp only[bne_self_eq_false,oz,me];apply bq;apply wpAny_dictEpoch e1 e3;simp only[bne_self_eq_false,oz,me];apply ei;simp only[nn,me,qh];by_cases lt:i<es.size
 ·simp only[Array.getElem?_eq_getElem lt]
  apply bq;apply bq
  first
   |apply wpAny_typeNameOfWhole_keyiter T
   |apply wpAny_typeNameOf_keyiter T
  apply ei;apply bq;apply wpAny_isOneOf_keyiter T
  change wpAny _ _ (setField (.ref it) 1 (rawInt ((i:Int)+1)) >>= _) _ _ s
  apply bq;refine wpAny_setField f1 f3 (by simp) ?_;have again:(s.heap.update it (Obj.mapFields (·.setIfInBounds 1 (rawInt ((i:Int)+1))))).IsKeyIter it d (i+1) es.size ep:=by
   refine⟨_,Heap.get?_update_self _ f1 (Obj.isFreed_of_fields (Obj.data_mapFields f3 _)),?_,?_⟩
   ·rw[Obj.cls_mapFields];exact f2
   ·rw[Obj.data_mapFields f3];simp[rawInt]
  apply bq;apply Al;apply bq;refine wpAny_isOneOf_keyiter (s:={ s with heap:=s.heap.update it (Obj.mapFields (·.setIfInBounds 1 (rawInt ((i:Int)+1)))) }) again.typeIs ?_
  change wpAny _ _ (pure es[i].key) _ _ _
  apply ei;apply ei
  exact⟨es[i].key,rfl,ei (yes lt _ again (Heap.SameBut.update ..))⟩
 ·have ge:es.size<=i:=Dl lt
  simp only[Array.getElem?_eq_none ge];apply bq;apply bq
  first
   |apply wpAny_typeNameOfWhole_keyiter T
   |apply wpAny_typeNameOf_keyiter T
  apply ei
  change wpAny _ _ (setField (.ref it) 0 .none >>= _) _ _ s
  apply bq;refine wpAny_setField f1 f3 (by simp) ?_;apply bq;simp only[newExc,newTuple];apply bq;refine Af ?_ (by size_fits);apply bq;refine wpAny_of_eq (a:=Value.none) (by first|rfl|(simp only[firstArgMember];rfl)) ?_;refine Af ?_ (by size_fits);unfold raiseNew;apply bq;apply wpAny_handled;have quiet:A.in1.handled=none:=hh;rw[quiet];refine wpAny_throw ?_;apply bq;refine wpAny_isInstance (T:="StopIteration") (b:=true) ⟨_,my _ rfl,rfl⟩ isSubtype_stop ?_;exact ei (no ge _ (((Heap.SameBut.update ..).extBut.push _).push _))
def aN1 (hh:A.handled=none)(ne:d≠it):Walks prog w A it [it,d] [it] es.size (λi v=>∃lt:i<es.size,es[i].key=v) (λi h=>h.IsKeyIter it d i es.size ep/\iK h d es ep) where
 sub:=by intro b hb;rw[dt.mp hb];exact dh
 frame:=by
  intro i h h' st hk
  exact⟨st.1.at (hk it dh),st.2.keep (hk d (fu _ dh))⟩
 item:=by
  intro i s Q E lt st hQ;refine turn hh st.1 st.2 (λlt' h' again sb=>?_) λge=>absurd lt (Nat.not_lt.mpr ge)
  exact hQ _ h' s.toks ⟨lt',rfl⟩ ⟨again,st.2.keep λo e=>sb.extBut d o ne e⟩ λb o hb e=>sb.extBut b o (λz=>hb (dt.mpr z)) e
 done:=by
  intro s Q E st hQ;refine turn hh st.1 st.2 (λlt=>absurd lt (uc _)) λ_ h' eb=>?_
  exact hQ h' s.toks λb o hb e=>eb b o (λz=>hb (dt.mpr z)) e
 self:=by intro i s Q E st hQ;exact wpAny_pyIter_keyiter st.1 hQ
def aN2 (vt:(d==sysModules)=false):KdlSrc prog w "dict" d d es.size (λi v=>∃lt:i<es.size,es[i].key=v) (λh=>iK h d es ep) where
 type:=λ_ x=>x.ty
 there:=λ_ x=>⟨x.lt,x.lt⟩
 keep:=λ_ _ x k=>x.keep (k d (.inl rfl))
 notList:=by decide
 notTuple:=by decide
 hint:=λ_ _ _ _ x q=>kdl_hint_dict x.ty q
 iter:=λ_ _ hh x=>⟨_,_,λ_ _ q=>made vt x q,aN1 hh (mr x.lt),⟨_,my _ rfl,rfl,rfl⟩,x.keep λo e=>ic _ e⟩
end
end Raw
namespace L2
open PySem PySem.Spec PyProof.Rows
section
variable {X:Cx}{ag:List (ax×Obj)}{σ:St}{H:Hp}{s:aw}{a:ax}
def zZ (H:Hp)(y:V)(k:List aC):Prop:=∃q,y = .ref q/\H q=some (.tup (k.map kV))
def OS {bf:List (aC×V)}(I:a8 X ag σ H s)(h:H a=some (.dK bf)):∃es ep,Raw.iK s.heap a es ep/\(a==sysModules)=false/\aQ (bf.map λp=>kV p.1) (es.toList.map (·.key))/\bf.length<=sizeLine:=by
 obtain⟨z,vt,vs,rel,o,es,ep,e1,e2,e3,kk,pr,nd⟩:=(show cB X.prog X.w H s.heap a (.dK bf) from I.cf a _ h)
 refine⟨es,ep,⟨o,e1,e2,e3⟩,vt,?_,z⟩;clear z vt e1 e2 e3 kk nd h;generalize es.toList=l at pr
 induction pr generalizing bf with
 |nil=>cases rel;exact .nil
 |@cons e k DO QF h1 h2 _ ih=>
  cases rel with
  |@cons p q ps qs r rs=>
   refine .cons ?_ (ih rs)
   obtain⟨r1,_⟩:=r
   show b5 (kV p.1) e.key;rw[r1];rcases kM h1 with⟨n,t,e4,e5⟩|⟨x,t,e4,e5⟩
   ·rw[e4,e5];exact⟨t,rfl⟩
   ·rw[e4,e5];exact⟨t,rfl⟩
def aN3 {bf:List (List aC×V)}(I:a8 X ag σ H s)(h:H a=some (.dT bf)):∃es ep ys,Raw.iK s.heap a es ep/\(a==sysModules)=false/\Paired (zZ H) ys (bf.map (·.1))/\aQ ys (es.toList.map (·.key))/\bf.length<=sizeLine:=by
 obtain⟨z,vt,xs,rel,o,es,ep,e1,e2,e3,e4,nd⟩:=(show cB X.prog X.w H s.heap a (.dT bf) from I.cf a _ h)
 refine⟨es,ep,xs.map λq=>V.ref q.2.1,⟨o,e1,e2,e3⟩,vt,?_,?_,z⟩
 ·clear e4 nd h z
  induction rel with
  |nil=>exact .nil
  |cons r rs ih=>exact .cons ⟨_,rfl,r.2.1⟩ ih
 ·rw[e4]
  clear rel e4 nd
  induction xs with
  |nil=>exact .nil
  |cons q qs ih=>exact .cons rfl ih
def aN4 {es:Array DictEntry}{acc:Array av}(h:ItemsOf (λi v=>∃lt:i<es.size,es[i].key=v) acc es.size):acc.toList=es.toList.map (·.key):=by
 apply List.ext_getElem?;intro j;have h1:=h.1;by_cases hj:j<es.size
 ·have qz:j<acc.size:=by rw[h1];exact hj
  obtain⟨_,e⟩:=h.2 j acc[j] (by simp[qz])
  rw[gf];simp[hj,qz,e]
 ·have qz:¬j<acc.size:=by rw[h1];exact hj
  rw[gf];simp[Dl hj,Dl qz]
end
def OR (outer:List (Str×NameKind))(XN:List Str)(names:List (Str×NameKind))(N:List Str)(fr:List (Option Nat)):Bool:=
 names.all (λy=>!(y.2==.cell)||names.lookup y.1==some .cell)&&names.all (λy=>!(y.2==.local)||names.lookup y.1==some .local) &&
 names.all (λy=>!(y.2==.free)||(outer.lookup y.1==some .cell||outer.lookup y.1==some .free))&&fr.length==N.length &&
 (fr.zip N).all (λp=>match p.1 with
  |none=>true
  |some j=>XN[j]?==some p.2&&names.lookup p.2==some .free)
def cX.of {X:Cx}{scope:Scope}{N:List Str}{fr:List (Option Nat)}(hk:scope.kind = .function)(h:OR X.env.scope.names X.N scope.names N fr=true):cX X scope N fr:=by
 unfold OR at h;simp only[mv]at h
 obtain⟨⟨⟨⟨h1,h2⟩,h3⟩,h4⟩,h5⟩:=h
 refine⟨hk,λy hy e=>?_,λy hy e=>?_,λy hy e=>?_,by simpa using h4,λi j e=>?_⟩
 ·have:=AO.mp h1 y hy
  rw[e]at this;simpa using this
 ·have:=AO.mp h2 y hy
  rw[e]at this;simpa using this
 ·have:=AO.mp h3 y hy
  rw[e]at this;simpa using this
 ·have hl:fr.length=N.length:=by simpa using h4
  have hi:i<fr.length:=(gv.mp e).1;have m:(some j,N[i]'(by omega))∈fr.zip N:=by
   have:(fr.zip N)[i]? = some (some j,N[i]'(by omega)):=by
    rw[List.getElem?_zip_eq_some]
    exact⟨e,by simp⟩
   exact fm this
  have:=AO.mp h5 _ m
  simp only[mv,beq_iff_eq]at this
  exact⟨N[i]'(by omega),by simp,this.1,this.2⟩
def Ih {n:Option V}{r:St}{v:V}:Wk (none::r) (some v::r):=(Wk.refl (none::r)).set (i:=0) rfl
def rS (H:Hp)(ys:List V)(ls:aa):Prop:=Paired (λy l=>∃b,y = .ref b/\H b=some (.tup [.int l.1,.int l.2])) ys ls
structure OQ (H:Hp)(v:V)(ws:af)(ls:aa):Prop where
 at_:∃a p q ys,v = .ref a/\H a=some (.tup [.ref p,.ref q])/\H p=some (.tup (ws.map V.int))/\H q=some (.tup ys)/\rS H ys ls
def rS.get {H:Hp}:∀{ys:List V}{ls:aa}{i:Nat}{y:V},rS H ys ls->ys[i]? = some y->∃l b,ls[i]? = some l/\y = .ref b/\H b=some (.tup [.int l.1,.int l.2])
 |_,_,_,_,.nil,e=>by simp at e
 |_,_,0,_,.cons (b:=l) ⟨b,h1,h2⟩ _,e=>by simp at e;subst e;exact⟨l,b,rfl,h1,h2⟩
 |_,_,i+1,_,.cons _ t,e=>by
  obtain⟨l,b,h1,h2⟩:=rS.get (i:=i) t (by simpa using e)
  exact⟨l,b,by simpa using h1,h2⟩
def aF (ls:aa)(k:Int):af:=ls.flatMap λl=>(if l.1=k then [l.2] else [])++(if l.2=k then [l.1] else [])
def aN5 (ls:aa)(l:Int×Int)(k:Int):aF (ls++[l]) k=aF ls k++((if l.1=k then [l.2] else [])++(if l.2=k then [l.1] else [])):=by
 unfold aF;rw[List.flatMap_append];simp
def OP {ls:aa}{i:Nat}{l:Int×Int}(h:ls[i]? = some l)(k:Int):aF (ls.take (i+1)) k=aF (ls.take i) k++((if l.1=k then [l.2] else [])++(if l.2=k then [l.1] else [])):=by
 rw[nq,h];exact aN5 _ _ _
structure k7 (H H':Hp)(r:ax)(bs:List ax)(f:Nat->af):Prop where
 new:H r=none
 news:∀b∈bs,H b=none/\b≠r
 nd:bs.Nodup
 row:H' r=some (.lst (bs.map V.ref))
 rows:∀(k:Nat) (b:ax),bs[k]? = some b->H' b=some (.lst ((f k).map V.int))
 same:aE H H'
def k7.congr {H H':Hp}{r:ax}{bs:List ax}{f g:Nat->af}(h:k7 H H' r bs f)(e:∀k,k<bs.length->f k=g k):k7 H H' r bs g:=
 ⟨h.new,h.news,h.nd,h.row,λk b hb=>by rw[<- e k (gv.mp hb).1];exact h.rows k b hb,h.same⟩
def k7.app {H H':Hp}{r:ax}{bs:List ax}{f:Nat->af}(h:k7 H H' r bs f){k:Nat}{b:ax}(hb:bs[k]? = some b)(x:Int) :
  k7 H (upd H' b (.lst ((f k).map V.int++[V.int x]))) r bs (λj=>if j=k then f j++[x] else f j):=by
 have hm:b∈bs:=fm hb;refine⟨h.new,h.news,h.nd,by rw[aK (Ne.symm (h.news b hm).2)];exact h.row,λj c hc=>?_,λc o e=>by rw[aK (dR e (h.news b hm).1)];exact h.same c o e⟩;by_cases hj:j=k
 ·subst hj
  rw[hb]at hc;cases hc;rw[bA,if_pos rfl];simp
 ·rw[if_neg hj]
  have ne:c≠b:=λz=>by
   subst z
   obtain⟨i1,e1⟩:=gv.mp hb
   obtain⟨i2,e2⟩:=gv.mp hc
   refine hj (Nat.le_antisymm (Dl λz=>?_) (Dl λz=>?_))
   ·exact List.pairwise_iff_getElem.mp h.nd _ _ i1 i2 z (e1.trans e2.symm)
   ·exact List.pairwise_iff_getElem.mp h.nd _ _ i2 i1 z (e2.trans e1.symm)
  rw[aK ne];exact h.rows j c hc
def rT (ls:aa)(k:Int):(aF ls k).length<=2*ls.length:=by
 induction ls with
 |nil=>exact de _
 |cons l r ih=>
  have e:aF (l::r) k=((if l.1=k then [l.2] else [])++(if l.2=k then [l.1] else []))++aF r k:=rfl;rw[e,jg,jg,ie];have h1:(if l.1=k then [l.2] else []).length<=1:=by split<;>simp
  have h2:(if l.2=k then [l.1] else []).length<=1:=by split<;>simp
  omega
def nZ {α:Type}{xs:List α}{i:Int}{v:α}(h0:0<=i)(h:xs[i.toNat]? = some v):ma xs i=some v:=by
 have:=jJ h
 rwa [show ((i.toNat:Nat):Int)=i by omega]at this
def iS {n:Nat}(h:n<=16000000):n<sizeLine:=by rw[sizeLine_eq];omega
def rU {σ:St}{H:Hp}{A B:Hp->Prop}(h:A H):zN σ H λb H4=>if b=true then A H4 else B H4:=by
 show if true=true then A H else B H
 rw[if_pos rfl];exact h
def mO {K:ad}{H:Hp}{p:ax}{xs:List V}(h:aM K H p xs):rN K "list" (.ref p) H:=.inl ⟨rfl,xs,h⟩
def A0 {l:Int×Int}{k x:Int}:x∈(if l.1=k then [l.2] else [])++(if l.2=k then [l.1] else [])↔(l.1=k/\x=l.2)∨(l.2=k/\x=l.1):=by
 rw[fi];by_cases h1:l.1=k<;>by_cases h2:l.2=k<;>simp[h1,h2]
def eL {ls:aa}{k x:Int}:x∈aF ls k↔(k,x)∈ls∨(x,k)∈ls:=by
 unfold aF;rw[List.mem_flatMap];constructor
 ·rintro⟨l,hl,hx⟩
  rcases A0.mp hx with⟨h1,h2⟩|⟨h1,h2⟩
  ·left;rw[<- h1,h2];exact hl
  ·right;rw[<- h1,h2];exact hl
 ·rintro (h|h)
  ·exact⟨_,h,A0.mpr (.inl ⟨rfl,rfl⟩)⟩
  ·exact⟨_,h,A0.mpr (.inr ⟨rfl,rfl⟩)⟩
def lS {ls:aa}{k x:Int}(h:x∈aF ls k):k∈aF ls x:=eL.mpr (eL.mp h).symm
end L2
namespace Zp
open PySem PyProof.Rows
section
variable {prog:ay}{w:ba}{A:az}{E:av→aw→Prop}{s:aw}
def aN6 {it t:ax}{i:Nat}{items:Array av}{x:av}{Q:av->aw->Prop}(hi:s.heap.IsTupleIter it t i)(ht:s.heap.IsTuple t items)(hx:items[i]? = some x)(q:∀h',h'.IsTupleIter it t (i+1)->Heap.SameBut it s.heap h'->Q x { s with heap:=h' }):wpAny (model prog w) A (Builtin.SmallTypes.nextOf (.ref it)) Q E s:=by
 have T:=hi.typeIs
 obtain⟨o,e1,e2,e3⟩:=hi
 obtain⟨u,f1,_,k,f3⟩:=ht
 have slot:=PySem.F.slot_tuple_iterator_next;have vm:(Value.ref t==Value.none)=false:=rfl;unfold Builtin.SmallTypes.nextOf;apply bq;apply Du (name:=Str.ofString "__next__") T slot;apply Be slot T PySem.F.entry_tuple_iterator_next _ (PySem.F.args_tuple_iterator_next_1 _)
 change wpAny _ _ (field (.ref it) 0 >>= _) _ _ s
 apply bq;refine ye e1 e3 (x:=.ref t) rfl ?_
 change wpAny _ _ (if (Value.ref t==Value.none)=true then _ else _) _ _ s
 simp only[vm,oz,me]
 change wpAny _ _ (field (.ref it) 1 >>= _) _ _ s
 apply bq;refine ye e1 e3 (x:=.int i 0) rfl ?_
 change wpAny _ _ (seqItems? (.ref t) >>= _) _ _ s
 apply bq;apply Cb f1 f3;simp only[qh,hx];apply bq;refine wpAny_setField e1 e3 (by simp) ?_;apply ei;refine⟨x,rfl,ei (q _ ⟨_,Heap.get?_update_self _ e1 (Obj.isFreed_of_fields (Obj.data_mapFields e3 _)),?_,?_⟩ (Heap.SameBut.update ..))⟩
 ·rw[Obj.cls_mapFields];exact e2
 ·rw[Obj.data_mapFields e3];simp[rawInt]
def aN7 {it t:ax}{i:Nat}{items:Array av}{Q:av->aw->Prop}(hh:A.handled=none)(hi:s.heap.IsTupleIter it t i)(ht:s.heap.IsTuple t items)(hx:items[i]? = none)(q:∀h' e,Heap.ExtBut it s.heap h'->(∃o,h'.get? e=some o/\o.cls = .type "StopIteration")->E (.ref e) { s with heap:=h' }):wpAny (model prog w) A (Builtin.SmallTypes.nextOf (.ref it)) Q E s:=by
 have T:=hi.typeIs
 obtain⟨o,e1,e2,e3⟩:=hi
 obtain⟨u,f1,_,k,f3⟩:=ht
 have slot:=PySem.F.slot_tuple_iterator_next;have vm:(Value.ref t==Value.none)=false:=rfl;unfold Builtin.SmallTypes.nextOf;apply bq;apply Du (name:=Str.ofString "__next__") T slot;apply Be slot T PySem.F.entry_tuple_iterator_next _ (PySem.F.args_tuple_iterator_next_1 _)
 change wpAny _ _ (field (.ref it) 0 >>= _) _ _ s
 apply bq;refine ye e1 e3 (x:=.ref t) rfl ?_
 change wpAny _ _ (if (Value.ref t==Value.none)=true then _ else _) _ _ s
 simp only[vm,oz,me]
 change wpAny _ _ (field (.ref it) 1 >>= _) _ _ s
 apply bq;refine ye e1 e3 (x:=.int i 0) rfl ?_
 change wpAny _ _ (seqItems? (.ref t) >>= _) _ _ s
 apply bq;apply Cb f1 f3;simp only[qh,hx];apply bq;apply wpAny_rule;apply bq;refine wpAny_setField e1 e3 (by simp) ?_;apply bq;simp only[newExc,newTuple];apply bq;refine Af ?_ (by size_fits);apply bq;refine wpAny_of_eq (a:=Value.none) (by first|rfl|(simp only[firstArgMember];rfl)) ?_;refine Af ?_ (by size_fits);unfold raiseNew;apply bq;apply wpAny_handled;have quiet:A.in1.handled=none:=hh;rw[quiet];refine wpAny_throw ?_;exact q _ _ (((Heap.SameBut.update ..).extBut.push _).push _) ⟨_,my _ rfl,rfl⟩
def aN8 (hh:A.handled=none)(it t:ax)(ne:t≠it)(items:Array av):Draws prog w A it [it,t] items.size (λi v=>items[i]? = some v) (λi h=>h.IsTupleIter it t i/\h.IsTuple t items) where
 live:=λ_ _ st=>st.1.elim λo y=>⟨o,y.1⟩
 frame:=λ_ _ _ st k=>⟨st.1.at λo e=>k it dh o e,st.2.elim λo y=>⟨o,k t (fu _ dh) o y.1,y.2⟩⟩
 item:=λi s Q E lt st q=>aN6 st.1 st.2 (Array.getElem?_eq_getElem lt) λh' again sb=>q _ h' s.toks (Array.getElem?_eq_getElem lt) ⟨again,st.2.elim λo y=>⟨o,sb.extBut t o ne y.1,y.2⟩⟩ sb
 done:=λs Q E st q=>aN7 hh st.1 st.2 (Array.getElem?_eq_none (de _)) q
end
structure Ap (z TI TO i1 i2:ax)(zv zu:List ax):Prop where
 TIz:TI≠z
 TOz:TO≠z
 TITO:TI≠TO
 z1:z∉zv
 z2:z∉zu
 o1:TO∉zv
 o2:TO∉zu
 t1:TI∉zv
 t2:TI∉zu
 m1:i1∈zv
 m2:i2∈zu
 n1:i1∉zu
 n2:i2∉zv
structure A1 (z TI TO i1 i2:ax)(Co Cn:Nat->Heap->Prop)(f0:av)(i j:Nat)(h:Heap):Prop where
 zz:IsZip h z TI TO f0
 ti:IsPair h TI (.ref i1) (.ref i2)
 Au:∃a b,IsPair h TO a b
 s1:Co i h
 s2:Cn j h
section
variable {prog:ay}{w:ba}{A:az}{E:av→aw→Prop}{s:aw}{z TI TO i1 i2:ax}{zv zu:List ax}{n1 n2:Nat}{P1 P2:Nat→av→Prop}{Co Cn:Nat→Heap→Prop}
def mP (ap:Ap z TI TO i1 i2 zv zu){b:ax}(h:b∉zv):b≠i1:=λe=>h (e▸ap.m1)
def pF (ap:Ap z TI TO i1 i2 zv zu){b:ax}(h:b∉zu):b≠i2:=λe=>h (e▸ap.m2)
def item (D1:Draws prog w A.in1 i1 zv n1 P1 Co)(D2:Draws prog w A.in1 i2 zu n2 P2 Cn)(ap:Ap z TI TO i1 i2 zv zu){i:Nat}(l1:i<n1)(l2:i<n2)(st:A1 z TI TO i1 i2 Co Cn .none i i s.heap){Q:Option av->aw->Prop}(q:∀x y h' tk,P1 i x->P2 i y->A1 z TI TO i1 i2 Co Cn (rawInt s.heap.objs.size) (i+1) (i+1) h'->IsPair h' s.heap.objs.size x y->(∀c o,c≠z->c≠TO->c≠i1->c≠i2->s.heap.get? c=some o->h'.get? c=some o)->
   h'.objs.size=s.heap.objs.size+1->Q (some (.ref s.heap.objs.size)) { s with heap:=h',toks:=tk }):wpAny (model prog w) A (pyNext (.ref z)) Q E s:=by
 obtain⟨hz,Fz,⟨a,b,GQ⟩,h1,h2⟩:=st
 have T:s.TypeIs (.ref z) "zip":=⟨_,hz,rfl⟩;have slot:=PySem.F.slot_zip_next;unfold pyNext;apply bq;apply wpAny_attempt;apply Du (name:=Str.ofString "__next__") T slot;apply Be slot T PySem.F.entry_zip_next _ (PySem.F.args_zip_next_1 _)
 change wpAny _ _ (field (.ref z) 2 >>= _) _ _ _
 apply bq;refine ye hz rfl (x:=.bool false) rfl ?_
 change wpAny _ _ (field (.ref z) 3 >>= _) _ _ _
 apply bq;refine ye hz rfl (x:=.ref TI) rfl ?_;apply bq;apply Cb Fz rfl
 change wpAny _ _ (Builtin.SmallTypes.ownedTupleIsFree (.ref z) >>= _) _ _ _
 apply bq;unfold Builtin.SmallTypes.ownedTupleIsFree;apply bq;refine ye hz rfl (x:=.none) rfl (ei ?_);simp only[if_true];apply bq;apply wpAny_rule;apply bq;refine ye hz rfl (x:=.ref TO) rfl ?_;apply bq;refine DR hz (by simp) λg1 GH Fo=>?_
 have k1:∀c o,c≠z->s.heap.get? c=some o->g1.get? c=some o:=λc o c1 e=>Fo.extBut c o c1 e
 apply bq;simp only[List.zipIdx_cons,List.zipIdx_nil,List.forIn_cons,List.forIn_nil];apply bq;apply bq;apply wpAny_onRaise
 change wpAny _ _ (Builtin.SmallTypes.nextOf (.ref i1) >>= _) _ _ _
 apply bq;refine D1.item i { s with heap:=g1 } _ _ l1 (D1.frame _ _ _ h1 λc hc o e=>k1 c o (λy=>ap.z1 (y▸hc)) e) λx g2 Fm px Ee DD=>ei ?_
 have k2:∀c o,c≠z->c≠i1->s.heap.get? c=some o->g2.get? c=some o:=λc o c1 c2 e=>DD.extBut c o c2 (k1 c o c1 e)
 have to2:IsPair g2 TO a b:=k2 _ _ ap.TOz (mP ap ap.o1) GQ;apply bq;apply Cb to2 rfl;apply bq;refine wpAny_updateSeq_pair to2 λg3 to3 AX=>?_
 have to3:IsPair g3 TO x b:=to3;apply bq;apply wpAny_letGo;apply ei;apply bq;apply bq;apply wpAny_onRaise
 change wpAny _ _ (Builtin.SmallTypes.nextOf (.ref i2) >>= _) _ _ _
 apply bq;have k3:∀c o,c≠z->c≠i1->c≠TO->s.heap.get? c=some o->g3.get? c=some o:=λc o c1 c2 c3 e=>AX.extBut c o c3 (k2 c o c1 c2 e)
 refine D2.item i { s with heap:=g3,toks:=Fm } _ _ l2 (D2.frame _ _ _ h2 λc hc o e=>k3 c o (λy=>ap.z2 (y▸hc)) (λy=>ap.n1 (y▸hc)) (λy=>ap.o2 (y▸hc)) e) λy g4 PJ py zh Eg=>ei ?_
 have Ik:IsPair g4 TO x b:=Eg.extBut _ _ (pF ap ap.o2) to3;apply bq;apply Cb Ik rfl;apply bq;refine wpAny_updateSeq_pair Ik λg5 Fl BP=>?_
 have Fl:IsPair g5 TO x y:=Fl;apply bq;apply wpAny_letGo;apply ei;apply ei;apply bq;apply Cb Fl rfl;apply bq;refine wpAny_newTuple ?_ (by show 2<=sizeLine;decide);have size:g5.objs.size=s.heap.objs.size:=by rw[BP.1,Eg.1,AX.1,DD.1,Fo.1]
 have k5:∀c o,c≠z->c≠TO->c≠i1->c≠i2->s.heap.get? c=some o->g5.get? c=some o:=λc o c1 c2 c3 c4 e=>BP.extBut c o c2 (Eg.extBut c o c4 (k3 c o c1 c3 c2 e))
 have z5:IsZip g5 z TI TO .ellipsis:=BP.extBut _ _ (Ne.symm ap.TOz) (Eg.extBut _ _ (pF ap ap.z2) (AX.extBut _ _ (Ne.symm ap.TOz) (DD.extBut _ _ (mP ap ap.z1) GH)))
 change wpAny _ _ (Builtin.SmallTypes.ownedTupleHandOut (.ref z) (.ref g5.objs.size) >>= _) _ _ _
 apply bq;unfold Builtin.SmallTypes.ownedTupleHandOut;apply bq;have z6:IsZip (g5.push { cls:=.type "tuple",data:=.seq #[x,y] }) z TI TO .ellipsis:=ic _ z5;refine DR z6 (by simp) λg7 z7 FX=>?_
 have z7:IsZip g7 z TI TO (rawInt g5.objs.size):=z7;refine DR z7 (by simp) λg8 z8 FW=>?_
 have z8:IsZip g8 z TI TO (rawInt g5.objs.size):=z8;have Ic:z<g5.objs.size:=jb z5;have up:∀c o,c≠z->g5.get? c=some o->g8.get? c=some o:=λc o c1 e=>FW.extBut c o c1 (FX.extBut c o c1 (ic _ e))
 have p8:IsPair g8 g5.objs.size x y:=FW.extBut _ _ (yy Ic) (FX.extBut _ _ (yy Ic) (my _ rfl));have s8:g8.objs.size=g5.objs.size+1:=by rw[FW.1,FX.1,Dh]
 have f1:Co (i+1) g8:=D1.frame _ _ _ Ee λc hc o e=>up c o (λy=>ap.z1 (y▸hc)) (BP.extBut c o (λy=>ap.o1 (y▸hc)) (Eg.extBut c o (λy=>ap.n2 (y▸hc)) (AX.extBut c o (λy=>ap.o1 (y▸hc)) e)))
 have f2:Cn (i+1) g8:=D2.frame _ _ _ zh λc hc o e=>up c o (λy=>ap.z2 (y▸hc)) (BP.extBut c o (λy=>ap.o2 (y▸hc)) e)
 have PN:IsPair g8 TI (.ref i1) (.ref i2):=up _ _ ap.TIz (k5 _ _ ap.TIz ap.TITO (mP ap ap.t1) (pF ap ap.t2) Fz);rw[size]at z8 p8 s8;apply ei;refine⟨_,rfl,ei ?_⟩
 change Q (some (.ref g5.objs.size)) _
 rw[size];exact q x y g8 PJ px py ⟨z8,PN,⟨x,y,up _ _ ap.TOz Fl⟩,f1,f2⟩ p8 (λc o c1 c2 c3 c4 e=>up c o c1 (k5 c o c1 c2 c3 c4 e)) s8
def fin (D1:Draws prog w A.in1 i1 zv n1 P1 Co)(D2:Draws prog w A.in1 i2 zu n2 P2 Cn)(ap:Ap z TI TO i1 i2 zv zu){i:Nat}(le:i=n1∨(i<n1/\i=n2))(st:A1 z TI TO i1 i2 Co Cn .none i i s.heap){Q:Option av->aw->Prop}(q:∀h' tk,(∀c o,c≠z->c≠TO->c≠i1->c≠i2->s.heap.get? c=some o->h'.get? c=some o)->Q none { s with heap:=h',toks:=tk }):wpAny (model prog w) A (pyNext (.ref z)) Q E s:=by
 obtain⟨hz,Fz,⟨a,b,GQ⟩,h1,h2⟩:=st
 have T:s.TypeIs (.ref z) "zip":=⟨_,hz,rfl⟩;have slot:=PySem.F.slot_zip_next;unfold pyNext;apply bq;apply wpAny_attempt;apply Du (name:=Str.ofString "__next__") T slot;apply Be slot T PySem.F.entry_zip_next _ (PySem.F.args_zip_next_1 _)
 change wpAny _ _ (field (.ref z) 2 >>= _) _ _ _
 apply bq;refine ye hz rfl (x:=.bool false) rfl ?_
 change wpAny _ _ (field (.ref z) 3 >>= _) _ _ _
 apply bq;refine ye hz rfl (x:=.ref TI) rfl ?_;apply bq;apply Cb Fz rfl
 change wpAny _ _ (Builtin.SmallTypes.ownedTupleIsFree (.ref z) >>= _) _ _ _
 apply bq;unfold Builtin.SmallTypes.ownedTupleIsFree;apply bq;refine ye hz rfl (x:=.none) rfl (ei ?_);simp only[if_true];apply bq;apply wpAny_rule;apply bq;refine ye hz rfl (x:=.ref TO) rfl ?_;apply bq;refine DR hz (by simp) λg1 GH Fo=>?_
 have k1:∀c o,c≠z->s.heap.get? c=some o->g1.get? c=some o:=λc o c1 e=>Fo.extBut c o c1 e
 apply bq;simp only[List.zipIdx_cons,List.zipIdx_nil,List.forIn_cons,List.forIn_nil];apply bq;apply bq;apply wpAny_onRaise
 change wpAny _ _ (Builtin.SmallTypes.nextOf (.ref i1) >>= _) _ _ _
 apply bq;have z1:IsZip g1 z TI TO .ellipsis:=GH;rcases le with rfl|⟨lt,rfl⟩
 ·refine D1.done { s with heap:=g1 } _ _ (D1.frame _ _ _ h1 λc hc o e=>k1 c o (λy=>ap.z1 (y▸hc)) e) λg2 e eb ex=>?_
  have z2:IsZip g2 z TI TO .ellipsis:=eb _ _ (mP ap ap.z1) z1;refine DR z2 (by simp) λg3 z3 AX=>?_
  obtain⟨oe,eo,co⟩:=ex
  have ne:e≠z:=λy=>by
   rw[y,z2]at eo
   have:=jr eo
   rw[<- this]at co;exact absurd (show Value.type "zip" = Value.type "StopIteration" from co) (by decide)
  apply bq;refine wpAny_isInstance (T:="StopIteration") (b:=true) ⟨oe,AX.extBut _ _ ne eo,co⟩ isSubtype_stop ?_;exact ei (q g3 s.toks λc o c1 _ c3 _ e=>AX.extBut c o c1 (eb c o c3 (k1 c o c1 e)))
 ·refine D1.item i { s with heap:=g1 } _ _ lt (D1.frame _ _ _ h1 λc hc o e=>k1 c o (λy=>ap.z1 (y▸hc)) e) λx g2 Fm px Ee DD=>ei ?_
  have k2:∀c o,c≠z->c≠i1->s.heap.get? c=some o->g2.get? c=some o:=λc o c1 c2 e=>DD.extBut c o c2 (k1 c o c1 e)
  have to2:IsPair g2 TO a b:=k2 _ _ ap.TOz (mP ap ap.o1) GQ;apply bq;apply Cb to2 rfl;apply bq;refine wpAny_updateSeq_pair to2 λg3 to3 AX=>?_
  apply bq;apply wpAny_letGo;apply ei;apply bq;apply bq;apply wpAny_onRaise
  change wpAny _ _ (Builtin.SmallTypes.nextOf (.ref i2) >>= _) _ _ _
  apply bq;have k3:∀c o,c≠z->c≠i1->c≠TO->s.heap.get? c=some o->g3.get? c=some o:=λc o c1 c2 c3 e=>AX.extBut c o c3 (k2 c o c1 c2 e)
  refine D2.done { s with heap:=g3,toks:=Fm } _ _ (D2.frame _ _ _ h2 λc hc o e=>k3 c o (λy=>ap.z2 (y▸hc)) (λy=>ap.n1 (y▸hc)) (λy=>ap.o2 (y▸hc)) e) λg4 e eb ex=>?_
  have z4:IsZip g4 z TI TO .ellipsis:=eb _ _ (pF ap ap.z2) (AX.extBut _ _ (Ne.symm ap.TOz) (DD.extBut _ _ (mP ap ap.z1) z1));refine DR z4 (by simp) λg5 z5 BP=>?_
  obtain⟨oe,eo,co⟩:=ex
  have ne:e≠z:=λy=>by
   rw[y,z4]at eo
   have:=jr eo
   rw[<- this]at co;exact absurd (show Value.type "zip" = Value.type "StopIteration" from co) (by decide)
  apply bq;refine wpAny_isInstance (T:="StopIteration") (b:=true) ⟨oe,BP.extBut _ _ ne eo,co⟩ isSubtype_stop ?_;exact ei (q g5 Fm λc o c1 c2 c3 c4 e=>BP.extBut c o c1 (eb c o c4 (k3 c o c1 c3 c2 e)))
end
def iT (h:Heap)(t u:ax):Heap:=
 ((((h.push { cls:=.type "tuple_iterator",data:=.fields #[.ref t,.int 0 0] }).push { cls:=.type "tuple_iterator",data:=.fields #[.ref u,.int 0 0] }).push { cls:=.type "tuple",data:=.seq #[.ref h.objs.size,.ref (h.objs.size+1)] }).push
  { cls:=.type "tuple",data:=.seq #[.none,.none] }).push { cls:=.type "zip",data:=.fields #[.none,.bool false,.bool false,.ref (h.objs.size+2),.ref (h.objs.size+3)] }
def aN9 (t u:ax)(xs ys:Array av):Meets (Builtin.«zip.__new__» ⟨[.type "zip",.ref t,.ref u],[]⟩) (λ_ R s=>s.heap.IsTuple t xs/\s.heap.IsTuple u ys/\R (.ok (.ret (.ref (s.heap.objs.size+4)))) { s with heap:=iT s.heap t u }):=
 .of_wp λprog w A R s h=>by
  obtain⟨hp,g,d,tk,os⟩:=s
  obtain⟨ht,hu,h⟩:=h
  have sub:=sub_zip;have a1:Heap.IsTuple (Shared.heap ⟨hp,g,d,tk,os⟩) t xs:=ht;have a2:Heap.IsTuple (Shared.heap ⟨hp.push { cls:=.type "tuple_iterator",data:=.fields #[.ref t,.int 0 0] },g,d,tk,os⟩) u ys:=hu.elim λo y=>⟨o,ic _ y.1,y.2⟩
  wp_walk using wpAny_pyIter_tuple a1,wpAny_pyIter_tuple a2
  have e:∀(o:Obj) (k:Heap),(k.push o).objs.size=k.objs.size+1:=λo k=>Dh ..
  refine⟨_,rfl,?_⟩;simp only[iT,e]at h ⊢;exact h
section
variable {prog:ay}{w:ba}{A:az}{E:av→aw→Prop}{s:aw}
def aO0 {t u:ax}{xs ys:Array av}{Q:av->aw->Prop}(ht:s.heap.IsTuple t xs)(hu:s.heap.IsTuple u ys)(q:∀h',IsZip h' (s.heap.objs.size+4) (s.heap.objs.size+2) (s.heap.objs.size+3) .none->IsPair h' (s.heap.objs.size+2) (.ref s.heap.objs.size) (.ref (s.heap.objs.size+1))->
   IsPair h' (s.heap.objs.size+3) .none .none->h'.IsTupleIter s.heap.objs.size t 0->h'.IsTupleIter (s.heap.objs.size+1) u 0->(∀c o,s.heap.get? c=some o->h'.get? c=some o)->Q (.ref (s.heap.objs.size+4)) { s with heap:=h' }) :
  wpAny (model prog w) A (call (.type "zip") [.ref t,.ref u]) Q E s:=by
 refine callType_new PySem.F.called_zip (by decide) (PySem.F.typeCall_zip_2 _ _) (PySem.F.newCall_zip_2 _ _) (λobj=>PySem.F.args_object_init_3 obj _ _) PySem.F.entry_zip_new (aN9 t u xs ys) ⟨ht,hu,?_⟩;have e:∀(o:Obj) (k:Heap),(k.push o).objs.size=k.objs.size+1:=λo k=>Dh ..
 have p0:∀(k:Heap) (o:Obj) (m:Nat),o.isFreed=false->m=k.objs.size->(k.push o).get? m=some o:=λk o m f z=>by rw[z];exact my _ f
 have g0:(iT s.heap t u).get? s.heap.objs.size=some { cls:=.type "tuple_iterator",data:=.fields #[.ref t,.int 0 0] }:=by
  unfold iT;exact ic _ (ic _ (ic _ (ic _ (p0 _ _ _ rfl rfl))))
 have g1:(iT s.heap t u).get? (s.heap.objs.size+1)=some { cls:=.type "tuple_iterator",data:=.fields #[.ref u,.int 0 0] }:=by
  unfold iT;exact ic _ (ic _ (ic _ (p0 _ _ _ rfl (by simp only[e]))))
 have g2:(iT s.heap t u).get? (s.heap.objs.size+2)=some { cls:=.type "tuple",data:=.seq #[.ref s.heap.objs.size,.ref (s.heap.objs.size+1)] }:=by
  unfold iT;exact ic _ (ic _ (p0 _ _ _ rfl (by simp only[e])))
 have g3:(iT s.heap t u).get? (s.heap.objs.size+3)=some { cls:=.type "tuple",data:=.seq #[.none,.none] }:=by
  unfold iT;exact ic _ (p0 _ _ _ rfl (by simp only[e]))
 have g4:(iT s.heap t u).get? (s.heap.objs.size+4)=some { cls:=.type "zip",data:=.fields #[.none,.bool false,.bool false,.ref (s.heap.objs.size+2),.ref (s.heap.objs.size+3)] }:=by
  unfold iT;exact p0 _ _ _ rfl (by simp only[e])
 refine⟨⟨_,g4,rfl⟩,q _ g4 g2 g3 ⟨_,g0,rfl,rfl⟩ ⟨_,g1,rfl,rfl⟩ λc o z=>?_⟩;unfold iT;exact ic _ (ic _ (ic _ (ic _ (ic _ z))))
end
end Zp
namespace L2
open PySem PySem.Spec PyProof.Rows
def A2 (K:ad)(a b:ax):It:=
  ⟨λi H=>∃xs ys x y,aW K H a xs/\aW K H b ys/\xs[i]? = some x/\ys[i]? = some y,
   λi H v H'=>∃T x y,H T=none/\v = .ref T/\H'=upd H T (.tup [x,y])/\∀xs ys,aW K H a xs->aW K H b ys->xs[i]? = some x/\ys[i]? = some y,
   λi H=>∃xs ys,aW K H a xs/\aW K H b ys/\(i=xs.length∨(i<xs.length/\i=ys.length))⟩
def Sq (t:Bool)(K:ad)(H:Hp)(a:ax)(xs:List V):Prop:=match t with
 |true=>aW K H a xs
 |false=>aM K H a xs
def iU (t:Bool)(h:Heap)(i a:ax)(n:Nat):Prop:=match t with
 |true=>h.IsTupleIter i a n
 |false=>h.IsListIter i a n
def Pf (t:Bool)(h:Heap)(a:ax)(xs:Array av):Prop:=match t with
 |true=>h.IsTuple a xs
 |false=>h.IsList a xs
def iU.at {h h':Heap}{i a:ax}{n:Nat}:∀{t:Bool},iU t h i a n->(∀o,h.get? i=some o->h'.get? i=some o)->iU t h' i a n
 |true,x,k=>Heap.IsTupleIter.at x k
 |false,x,k=>Heap.IsListIter.at x k
def iU.ob {h:Heap}{i a:ax}{n:Nat}:∀{t:Bool},iU t h i a n->∃o,h.get? i=some o/\∀v,o.data≠.cell v
 |true,⟨o,f,_,d⟩=>⟨o,f,λv q=>by rw[d]at q;cases q⟩
 |false,⟨o,f,_,d⟩=>⟨o,f,λv q=>by rw[d]at q;cases q⟩
def iU.draws {prog:ay}{w:ba}{A:az}:∀(t:Bool) (hh:A.handled=none) (it a:ax) (ne:a≠it) (items:Array av),Draws prog w A it [it,a] items.size (λi v=>items[i]? = some v) (λi h=>iU t h it a i/\Pf t h a items)
 |true,hh,it,a,ne,items=>Zp.aN8 hh it a ne items
 |false,hh,it,a,ne,items=>Draws.list hh it a ne items
section
variable {X:Cx}{ag:List (ax×Obj)}{σ:St}{H:Hp}{s:aw}{a:ax}{xs ys:List V}
def Sq.get (I:a8 X ag σ H s):∀{t:Bool},Sq t X.K H a xs->∃us,aQ xs us/\Pf t s.heap a us.toArray
 |true,h=>by obtain⟨us,r,p,_⟩:=I.tuple h;exact⟨us,r,p⟩
 |false,h=>by obtain⟨us,r,p,_⟩:=I.list h;exact⟨us,r,p.isList⟩
def Sq.inj (I:a8 X ag σ H s):∀{t:Bool},Sq t X.K H a xs->Sq t X.K H a ys->xs=ys
 |true,h,g=>I.tm h g
 |false,h,g=>I.mj h g
def Sq.off (I:a8 X ag σ H s)(he:H a=none)(hb:X.base.get? a=none):∀{t:Bool},Sq t X.K H a xs->False
 |true,h=>by
  rcases h with (h|⟨_,h⟩)|⟨o,_,_,h,_⟩
  ·rw[he]at h;cases h
  ·rw[he]at h;cases h
  ·have:=I.ok.mod.kz a o h
   rw[hb]at this;cases this
 |false,h=>by
  rcases h with (h|⟨_,h⟩)|⟨o,_,_,h,_⟩
  ·rw[he]at h;cases h
  ·rw[he]at h;cases h
  ·have:=I.ok.mod.kz a o h
   rw[hb]at this;cases this
end
def aO1 (t1 t2:Bool)(K:ad)(a b:ax):It:=
  ⟨λi H=>∃xs ys x y,Sq t1 K H a xs/\Sq t2 K H b ys/\xs[i]? = some x/\ys[i]? = some y,
   λi H v H'=>∃T x y,H T=none/\v = .ref T/\H'=upd H T (.tup [x,y])/\∀xs ys,Sq t1 K H a xs->Sq t2 K H b ys->xs[i]? = some x/\ys[i]? = some y,
   λi H=>∃xs ys,Sq t1 K H a xs/\Sq t2 K H b ys/\(i=xs.length∨(i<xs.length/\i=ys.length))⟩
structure A3 (t1 t2:Bool)(z TI TO i1 i2 a b:ax)(i:Nat)(h:Heap):Prop where
 zz:IsZip h z TI TO .none
 ti:IsPair h TI (.ref i1) (.ref i2)
 Au:∃x y,IsPair h TO x y
 s1:iU t1 h i1 a i
 s2:iU t2 h i2 b i
def OO (t1 t2:Bool){P:ay}{w:ba}{K:ad}{elts:List Expr}{k:Nat}{pos:Pos}(a b z TI TO i1 i2:ax)(d:[z,TI,TO,i1,i2].Nodup) :
  jY P w K (.Tuple elts k pos) (aO1 t1 t2 K a b) [z,TI,TO,i1,i2] z (A3 t1 t2 z TI TO i1 i2 a b):=by
 have nd:z≠TI/\z≠TO/\z≠i1/\z≠i2/\TI≠TO/\TI≠i1/\TI≠i2/\TO≠i1/\TO≠i2/\i1≠i2:=by
  simp only[oy,ff,nh,mz,not_or]at d
  obtain⟨⟨a1,a2,a3,a4⟩,⟨b1,b2,b3⟩,⟨c1,c2⟩,e1,_⟩:=d
  exact⟨a1,a2,a3,a4,b1,b2,b3,c1,c2,e1⟩
 obtain⟨n1,n2,n3,n4,n5,n6,n7,n8,n9,IF⟩:=nd
 have Bm:∀{X:Cx}{ag:List (ax×Obj)}{σ:St}{H:Hp}{s:aw},a8 X ag σ H s->(∀c∈[z,TI,TO,i1,i2],jH X ag H c)->∀c∈[z,TI,TO,i1,i2],X.base.get? c=none:=by
  intro X ag σ H s I hf c hc;cases q:X.base.get? c with
  |none=>rfl
  |some o=>
   rcases (hf c hc).2.2.2.1 with h|h
   ·exact absurd h (I.ok.vi c o q)
   ·exact absurd (ly (jb q) (og I.ok.Aj h)) (uc _)
 have off:∀{t:Bool}{X:Cx}{ag:List (ax×Obj)}{σ:St}{H:Hp}{s:aw}{c:ax}{zs:List V},a8 X ag σ H s->(∀c∈[z,TI,TO,i1,i2],jH X ag H c)->Sq t X.K H c zs->c∉[z,TI,TO,i1,i2]:=by
  intro t X ag σ H s c zs I hf hc hm;exact Sq.off I (hf c hm).1 (Bm I hf c hm) hc
 have ap:∀{c e:ax},c∉[z,TI,TO,i1,i2]->e∉[z,TI,TO,i1,i2]->Zp.Ap z TI TO i1 i2 [i1,c] [i2,e]:=λ{c e} hc he=>by
  simp only[ff,nh,mz,not_or]at hc he
  obtain⟨c1,c2,c3,c4,c5⟩:=hc
  obtain⟨e1,e2,e3,e4,e5⟩:=he
  have two:∀{q u v:ax},q≠u->q≠v->q∉[u,v]:=λ{q u v} h1 h2 hm=>by
   simp only[ff,nh,mz]at hm;exact hm.elim h1 h2
  exact⟨n1.symm,n2.symm,n5,two n3 (Ne.symm c1),two n4 (Ne.symm e1),two n8 (Ne.symm c3),two n9 (Ne.symm e3),two n6 (Ne.symm c2),two n7 (Ne.symm e2),dh,dh,two IF (Ne.symm e4),two IF.symm (Ne.symm c5)⟩
 refine⟨by simp,λi h st c hc=>?_,λi h h' st kp=>?_,?_,?_,λA i s Q E st q=>wpAny_pyIter_zip st.zz q⟩
 ·simp only[ff,nh,mz]at hc
  obtain⟨x,y,to⟩:=st.Au
  rcases hc with rfl|rfl|rfl|rfl|rfl
  ·exact⟨_,st.zz,λv q=>by cases q⟩
  ·exact⟨_,st.ti,λv q=>by cases q⟩
  ·exact⟨_,to,λv q=>by cases q⟩
  ·exact st.s1.ob
  ·exact st.s2.ob
 ·obtain⟨x,y,to⟩:=st.Au
  exact⟨kp z (by simp) _ st.zz,kp TI (by simp) _ st.ti,⟨x,y,kp TO (by simp) _ to⟩,st.s1.at λo e=>kp i1 (by simp) o e,st.s2.at λo e=>kp i2 (by simp) o e⟩
 ·
  intro X hP hw hK hc i ag s σ H E I hf st hg;subst hP hw hK
  obtain⟨xs,ys,x,y,ha,hb,hx,hy⟩:=hg
  obtain⟨us,ru,pu⟩:=Sq.get I ha
  obtain⟨vs,rv,Gh⟩:=Sq.get I hb
  obtain⟨ux,FI,Gd⟩:=ru.get hx
  obtain⟨vy,Jk,Qg⟩:=rv.get hy
  have fa:=off I hf ha;have fb:=off I hf hb;have hh:X.A.in1.handled=none:=I.ok.hd hc;have l1:i<us.toArray.size:=by simpa using (gv.mp FI).1
  have l2:i<vs.toArray.size:=by simpa using (gv.mp Jk).1
  have HM:a≠i1:=λq=>fa (by rw[q];simp)
  have HK:b≠i2:=λq=>fb (by rw[q];simp)
  have D1:=iU.draws t1 (prog:=X.prog) (w:=X.w) hh i1 a HM us.toArray;have D2:=iU.draws t2 (prog:=X.prog) (w:=X.w) hh i2 b HK vs.toArray;refine Zp.item D1 D2 (ap fa fb) l1 l2 ⟨st.zz,st.ti,st.Au,⟨st.s1,pu⟩,⟨st.s2,Gh⟩⟩ λp q h' tk hp hq uz pr kp sz=>⟨_,rfl,?_⟩
  obtain rfl:p=ux:=by
   have:us.toArray[i]? = some ux:=by simpa using FI
   rw[this]at hp;exact (jr hp).symm
  obtain rfl:q=vy:=by
   have:vs.toArray[i]? = some vy:=by simpa using Jk
   rw[this]at hq;exact (jr hq).symm
  refine wpAny_letOwnedTupleGo_zip (s:={ s with heap:=h',toks:=tk }) uz.zz λg zz sb=>?_
  have AD:z<s.heap.objs.size:=jb st.zz;have up:∀c o,c≠z->c≠TO->c≠i1->c≠i2->s.heap.get? c=some o->g.get? c=some o:=λc o c1 c2 c3 c4 e=>sb.extBut c o c1 (kp c o c1 c2 c3 c4 e)
  have hT:H s.heap.objs.size=none:=I.cf.fresh (de _);have Em:IsPair g s.heap.objs.size p q:=sb.extBut _ _ (yy AD) pr;have De:∀c u,H c=some u->c∉[z,TI,TO,i1,i2]:=λc u e hm=>by rw[(hf c hm).1]at e;cases e
  have As:∀c o u,H c=some u->s.heap.get? c=some o->g.get? c=some o:=λc o u e z=>by
   have:=De c u e
   simp only[ff,nh,mz,not_or]at this;exact up c o this.1 this.2.2.1 this.2.2.2.1 this.2.2.2.2 z
  have ns:∀m,s.heap.Ns X.env.locals m->g.Ns X.env.locals m:=λm hm=>by
   obtain⟨o,es,ep,e1,e2⟩:=hm
   exact⟨o,es,ep,up _ o (Ne.symm (hf z (by simp)).2.1) (Ne.symm (hf TO (by simp)).2.1) (Ne.symm (hf i1 (by simp)).2.1) (Ne.symm (hf i2 (by simp)).2.1) e1,e2⟩
  have I2:a8 X ag σ (upd H s.heap.objs.size (.tup [x,y])) { s with heap:=g,toks:=tk }:=by
   refine I.step (g':=s.gens) (d':=s.drawn) (ch:=[z,TO,i1,i2]) (λc dq=>?_) (λc o _ _ dq e _=>?_) (λc o _ _ dq e _=>⟨o.slots,?_⟩) (λc o _ e n=>?_) (λc o dq e=>⟨o,?_⟩)
    (λc zs e=>by rw[aK (dR e hT)];exact e) (λc u zs e=>by rw[aK (dR e hT)];exact e) (λc ps e=>⟨#[],by rw[aK (dR e hT),e];simp⟩) ns (λc u e=>?_) I.bare
   ·have hm:c∈[z,TI,TO,i1,i2]:=by
     simp only[ff,nh,mz]at dq ⊢;rcases dq with h|h|h|h<;>simp[h]
    exact⟨(hf c hm).2.2.2.1,(hf c hm).2.1,(hf c hm).2.2.2.2.1,(hf c hm).2.2.2.2.2⟩
   ·simp only[ff,nh,mz,not_or]at dq
    exact up c o dq.1 dq.2.1 dq.2.2.1 dq.2.2.2 e
   ·simp only[ff,nh,mz,not_or]at dq
    exact up c o dq.1 dq.2.1 dq.2.2.1 dq.2.2.2 e
   ·rw[aK (mr (jb e))];exact n
   ·simp only[ff,nh,mz,not_or]at dq
    exact up c o dq.1 dq.2.1 dq.2.2.1 dq.2.2.2 e
   ·by_cases EG:c=s.heap.objs.size
    ·subst EG
     rw[bA]at e;cases e
     exact⟨by show 2<=sizeLine;decide,[p,q],.cons Gd (.cons Qg .nil),⟨_,Em,rfl,_,rfl⟩,λu e=>by rw[Em]at e;cases e;rfl⟩
    ·rw[aK EG]at e
     refine (I.cf c u e).cq (λc' o' hc2 q'=>?_) (λc' q'=>by rw[aK (dR q' hT)];exact q') λc' zs q'=>by rw[aK (dR q' hT)];exact q'
     rcases hc2 with rfl|hc2
     ·exact As _ _ _ e q'
     ·exact As _ _ _ hc2 q'
  obtain⟨x',y',PF⟩:=uz.Au
  refine⟨.ref s.heap.objs.size,_,I2,rfl,⟨_,x,y,hT,rfl,rfl,λFj ys' Hw CS=>?_⟩,⟨zz,sb.extBut _ _ n1.symm uz.ti,⟨x',y',sb.extBut _ _ n2.symm PF⟩,uz.s1.1.at λo e=>sb.extBut _ o n3.symm e,uz.s2.1.at λo e=>sb.extBut _ o n4.symm e⟩,λc dq=>?_⟩
  ·rw[Sq.inj I Hw ha,Sq.inj I CS hb];exact⟨hx,hy⟩
  ·obtain⟨o,e,_⟩:∃o,s.heap.get? c=some o/\True:=by
    simp only[ff,nh,mz]at dq
    obtain⟨x2,y2,to2⟩:=st.Au
    obtain⟨o1,f1,_⟩:=st.s1.ob
    obtain⟨o2,f2,_⟩:=st.s2.ob
    rcases dq with rfl|rfl|rfl|rfl|rfl
    ·exact⟨_,st.zz,trivial⟩
    ·exact⟨_,st.ti,trivial⟩
    ·exact⟨_,to2,trivial⟩
    ·exact⟨_,f1,trivial⟩
    ·exact⟨_,f2,trivial⟩
   rw[aK (mr (jb e))];exact (hf c dq).1
 ·
  intro X hP hw hK hc i ag s σ H E I hf st hg;subst hP hw hK
  obtain⟨xs,ys,ha,hb,hi⟩:=hg
  obtain⟨us,ru,pu⟩:=Sq.get I ha
  obtain⟨vs,rv,Gh⟩:=Sq.get I hb
  have fa:=off I hf ha;have fb:=off I hf hb;have hh:X.A.in1.handled=none:=I.ok.hd hc;have HM:a≠i1:=λq=>fa (by rw[q];simp)
  have HK:b≠i2:=λq=>fb (by rw[q];simp)
  have D1:=iU.draws t1 (prog:=X.prog) (w:=X.w) hh i1 a HM us.toArray;have D2:=iU.draws t2 (prog:=X.prog) (w:=X.w) hh i2 b HK vs.toArray;have e1:=ru.length;have e2:=rv.length;refine Zp.fin D1 D2 (ap fa fb) (by simp only[gg];omega) ⟨st.zz,st.ti,st.Au,⟨st.s1,pu⟩,⟨st.s2,Gh⟩⟩ λg tk kp=>⟨rfl,?_⟩
  have De:∀c u,H c=some u->c∉[z,TI,TO,i1,i2]:=λc u e hm=>by rw[(hf c hm).1]at e;cases e
  have As:∀c o u,H c=some u->s.heap.get? c=some o->g.get? c=some o:=λc o u e z=>by
   have:=De c u e
   simp only[ff,nh,mz,not_or]at this;exact kp c o this.1 this.2.2.1 this.2.2.2.1 this.2.2.2.2 z
  have ns:∀m,s.heap.Ns X.env.locals m->g.Ns X.env.locals m:=λm hm=>by
   obtain⟨o,es,ep,e1,e2⟩:=hm
   exact⟨o,es,ep,kp _ o (Ne.symm (hf z (by simp)).2.1) (Ne.symm (hf TO (by simp)).2.1) (Ne.symm (hf i1 (by simp)).2.1) (Ne.symm (hf i2 (by simp)).2.1) e1,e2⟩
  refine I.step (g':=s.gens) (d':=s.drawn) (ch:=[z,TO,i1,i2]) (λc dq=>?_) (λc o _ _ dq e _=>?_) (λc o _ _ dq e _=>⟨o.slots,?_⟩) (λc o _ e n=>n) (λc o dq e=>⟨o,?_⟩)
   (λc zs e=>e) (λc u zs e=>e) (λc ps e=>⟨#[],by rw[e];simp⟩) ns (λc u e=>?_) I.bare
  ·have hm:c∈[z,TI,TO,i1,i2]:=by
    simp only[ff,nh,mz]at dq ⊢;rcases dq with h|h|h|h<;>simp[h]
   exact⟨(hf c hm).2.2.2.1,(hf c hm).2.1,(hf c hm).2.2.2.2.1,(hf c hm).2.2.2.2.2⟩
  ·simp only[ff,nh,mz,not_or]at dq
   exact kp c o dq.1 dq.2.1 dq.2.2.1 dq.2.2.2 e
  ·simp only[ff,nh,mz,not_or]at dq
   exact kp c o dq.1 dq.2.1 dq.2.2.1 dq.2.2.2 e
  ·simp only[ff,nh,mz,not_or]at dq
   exact kp c o dq.1 dq.2.1 dq.2.2.1 dq.2.2.2 e
  ·refine (I.cf c u e).cq (λc' o' hc2 q'=>?_) (λ_ q'=>q') λ_ _ q'=>q'
   rcases hc2 with rfl|hc2
   ·exact As _ _ _ e q'
   ·exact As _ _ _ hc2 q'
abbrev aO2:=A3 true true
def aO3 {P:ay}{w:ba}{K:ad}{elts:List Expr}{k:Nat}{pos:Pos}(a b z TI TO i1 i2:ax)(d:[z,TI,TO,i1,i2].Nodup) :
  jY P w K (.Tuple elts k pos) (A2 K a b) [z,TI,TO,i1,i2] z (aO2 z TI TO i1 i2 a b):=OO true true a b z TI TO i1 i2 d
section
variable {X:Cx}
def aO4 (K:ad)(ta:TA):TI:=λσ H R=>ta σ H λvs H1=>∃a b xs ys,vs = [.ref a,.ref b]/\aW K H1 a xs/\aW K H1 b ys/\R (A2 K a b) H1
def aO5 {elts:List Expr}{kt:Nat}{pt:Pos}{a b:Expr}{ta:TA}{p pos:Pos}(hg:Gl X "zip")(hm:X.mg "zip" = none)(ha:PA X [a,b] ta)(hs:starEach [a,b] X.env = [(false,eval a X.env),(false,eval b X.env)]:=by rfl)(yv:starEach [b] X.env = [(false,eval b X.env)]:=by rfl) :
  PI X (.Tuple elts kt pt) (.Call (.Name "zip" p) [a,b] [] pos) (aO4 X.K ta):=by
 intro ag s σ H R I h;refine Call_ (lH I hg hm PyProof.Rows.boot_zip (Cm (aR (ha pos ag s σ H _ I h) λus s1 ⟨vs,H1,I1,r1,q1⟩=>?_) (by rw[hs,yv]) (by rw[yv];rfl)))
 obtain⟨a',b',xs,ys,e,h1,h2,q⟩:=q1
 subst e;cases r1 with
 |cons r rr=>
  cases rr with
  |cons r' rr=>
   cases rr;cases r;cases r'
   obtain⟨us,_,p1,_⟩:=I1.tuple h1
   obtain⟨ws,_,p2,_⟩:=I1.tuple h2
   refine Zp.aO0 p1 p2 λh' z ti to Ei FZ kp=>wpAny_pyIter_zip z ?_
   have fresh:∀k,H1 (s1.heap.objs.size+k)=none:=λk=>I1.cf.fresh (Ad _ _)
   refine⟨s1.heap.objs.size+4,[s1.heap.objs.size+4,s1.heap.objs.size+2,s1.heap.objs.size+3,s1.heap.objs.size,s1.heap.objs.size+1],_,_,H1,rfl,I1.kept (t':=s1.toks) kp,
    aO3 a' b' _ _ _ _ _ (by simp),⟨z,ti,⟨_,_,to⟩,Ei,FZ⟩,λc hc=>?_,q⟩
   simp only[ff,nh,mz]at hc;rcases hc with rfl|rfl|rfl|rfl|rfl
   ·exact I1.jx (Ad _ _) (fresh 4)
   ·exact I1.jx (Ad _ _) (fresh 2)
   ·exact I1.jx (Ad _ _) (fresh 3)
   ·exact I1.jx (de _) (fresh 0)
   ·exact I1.jx (Ad _ _) (fresh 1)
def A4 (hc:X.calm=true):dU X (.builtin "all") (λxs H Q=>∃(a:ax) (bs:List Bool),xs = [.ref a]/\aM X.K H a (bs.map V.bl)/\Q (.bl (bs.all id)) H):=by
 intro ag s σ H xs us Q I r h
 obtain⟨a,bs,rfl,hq,q⟩:=h
 obtain⟨u,rfl,ru⟩:=iF r
 cases ru
 obtain⟨bh,rv,p,hz⟩:=I.list hq
 have hl:=rv.length;rw[df]at hl;have jw:a<s.heap.objs.size:=by obtain⟨o,e,_⟩:=p.isList;exact jb e
 refine call_all_walk (wpAny_pyIter_list p.isList ?_);have hh:X.A.in1.handled=none:=I.ok.hd hc;refine⟨s.heap.objs.size,_,_,_,_,_,λi=>bs.getD i false,rfl,Walks.list hh s.heap.objs.size a (mr jw) bh.toArray,⟨⟨_,my _ rfl,rfl,rfl⟩,p.isList.push _⟩,?_,λh' tk kp=>?_⟩
 ·intro i v s' Q' E' hP Hy
  have hi:bh[i]? = some v:=by simpa using hP
  have BV:i<bs.length:=by rw[hl];exact (gv.mp hi).1
  obtain⟨u,e1,e2⟩:=rv.get (i:=i) (x:=.bl bs[i]) (by simp[BV])
  rw[hi]at e1;cases e1;cases e2
  have:bs.getD i false=bs[i]:=by rw[ju,gs BV];rfl
  have EM:Q' (bs.getD i false) s':=Hy;rw[this]at EM;exact Cf EM
 ·have all_eq:(List.range bh.toArray.size).all (λi=>bs.getD i false)=bs.all id:=by
   rw[gg,<- hl];clear q rv hz hl hq jw p hh kp
   induction bs with
   |nil=>rfl
   |cons b r ih=>
    rw[ie,List.range_succ_eq_map,BB,List.all_map,BB,<- ih];rfl
  rw[all_eq];refine⟨.bl (bs.all id),H,I.kept (t':=tk) (h':=h') λb o e=>kp b o (λz=>?_) (ic _ e),rfl,q⟩;rw[dt.mp z]at e;exact absurd (jb e) (uc _)
end
structure A5 (H:Hp)(J:It)(n:Nat)(R:Nat->V->Hp->Prop):Prop where
 go:∀i H',aE H H'->i<n->J.go i H'
 xq:∀i H' x H2,aE H H'->J.xq i H' x H2->i<n->aE H' H2/\R i x H2
 stop:∀H',aE H H'->J.stop n H'
def A6 {H1:Hp}{J:It}{n:Nat}{R:Nat->V->Hp->Prop}{g:TG}{tc:TT}{te:TE}{AW:St}{Q:VK}(O:A5 H1 J n R)(Pv:Nat->List V->Hp->Prop)(hn:n<=sizeLine)(h0:∀D,H1 D=none->Pv 0 [] (upd H1 D (.lst [])))(mono:∀i acc H' H2,aE H' H2->Pv i acc H'->Pv i acc H2)(hs:∀i x acc D H',i<n->R i x H'->uI H1 D n i acc H'->Pv i acc H'->g x AW H' λkb H3=>Wk AW kb/\tc kb H3 λb H4=>
   if b=true then te kb H4 λv H5=>zR H1 D n Pv i acc v H5 else Y5 H1 D n Pv i acc H4)(hd:∀D acc H',H1 D=none->aE H1 H'->H' D=some (.lst acc)->acc.length<=n->Pv n acc H'->Q (.ref D) H') :
  ∀D,H1 D=none->∃W:Nat->Nat->List V->Hp->Prop,(∃m,W 0 m [] (upd H1 D (.lst [])))/\rQ g tc te AW J D Q W:=by
 intro D hD;refine⟨CW H1 D n Pv,⟨n,rfl,ng _,de _,bL hD _,bA,h0 D hD⟩,?_⟩;rintro i m acc H' ⟨rfl,hi,ha,sm,uo,p⟩;refine⟨uo,?_⟩;by_cases jw:i<n
 ·refine .inr ⟨O.go i H' sm jw,λx H2 y=>?_⟩
  obtain⟨s2,r2⟩:=O.xq i H' x H2 sm y jw
  exact hs i x acc D H2 jw r2 ⟨jw,ha,hn,sm.trans s2,hD,s2 _ _ uo⟩ (mono i acc H' H2 s2 p)
 ·have e:i=n:=by omega
  subst e;exact .inl ⟨O.stop H' sm,hd D acc H' hD sm uo ha p⟩
def ON {K:ad}{H:Hp}{a b:ax}{xs ys:List V}(ha:aW K H a xs)(hb:aW K H b ys)(hl:ys.length<=xs.length) :
  A5 H (A2 K a b) ys.length (λi v H2=>∃T x y,v = .ref T/\H2 T=some (.tup [x,y])/\xs[i]? = some x/\ys[i]? = some y):=by
 refine⟨λi H' sm hi=>⟨xs,ys,xs[i]'(by omega),ys[i],sm.tup ha,sm.tup hb,by simp,by simp⟩,λi H' v H2 sm y hi=>?_,λH' sm=>⟨xs,ys,sm.tup ha,sm.tup hb,by omega⟩⟩
 obtain⟨T,x,y',hT,hv,e,GJ⟩:=y
 subst e
 obtain⟨h1,h2⟩:=GJ xs ys (sm.tup ha) (sm.tup hb)
 exact⟨bL hT _,T,x,y',hv,bA,h1,h2⟩
end L2
namespace HT
open PySem PyProof.Rows
section
variable {prog:ay}{w:ba}{A:az}{E:av→aw→Prop}{s:aw}
def aO6 {t sl:ax}{items:Array av}{vl vu:av}{lo hi:Option Int}{Q:av->aw->Prop}(ht:IsTup s.heap t items)(hs:s.heap.IsSliceOf sl vl vu .none)(pl:IsPart vl lo)(pu:IsPart vu hi)(h1:bB items.size 0 lo=0)(h2:bB items.size items.size hi=items.size)(h:Q (.ref t) s):wpAny (model prog w) A (getItem (.ref t) (.ref sl)) Q E s:=by
 obtain⟨o,e1,e2,e3⟩:=id hs
 have T:s.TypeIs (.ref sl) "slice":=⟨o,e1,e2⟩;unfold getItem
 try with_reducible refine Al ?_
 first|refine bq (ei ?_)|skip
 apply bq;apply wpAny_sequenceKey ht.typeIs (by decide);apply bq;apply Du (name:=Str.ofString "__getitem__") ht.typeIs FO;apply Be FO ht.typeIs entry_tuple_getitem _ (args_tuple_getitem _ _)
 change wpAny _ _ (Builtin.Tuple.tupleItemsOf (.ref t) >>= _) _ _ s
 apply bq;apply tupleItemsOf_ ht;apply bq;apply wpAny_typeOf T;rw[if_pos (by decide)];apply bq;apply T1 hs pl pu;rw[h1,h2];have yes:((((0:Nat):Int)==0&&(1:Int)==1&&(items.size-0)==items.size)=true):=by simp
 change wpAny _ _ (if ((((0:Nat):Int)==0&&(1:Int)==1&&(items.size-0)==items.size)=true) then _ else _) _ _ s
 rw[if_pos yes];apply bq;unfold Builtin.Tuple.tupleIsExact;apply bq;apply wpAny_typeOf ht.typeIs;apply ei
 change wpAny _ _ (rule "tuple.getitem.whole" >>= λ_=>ret (Value.ref t)) _ _ s
 apply bq;apply wpAny_rule;exact ei ⟨_,rfl,ei h⟩
end
end HT
namespace L2
open PySem PySem.Spec PyProof.Rows
section
variable {X:Cx}
def aO7 (K:ad):V->Option Int->Option Int->Hp->VK->Prop:=λx lo hi H Q=>∃a xs,x = .ref a/\aW K H a xs/\(∀p,H p=none->Q (.ref p) (upd H p (.tup (gH xs lo hi))))/\(gH xs lo hi=xs->Q (.ref a) H)
def OM:mI X (aO7 X.K):=by
 intro ag s σ H x v vl vu lo hi sl Q I rx hs pl pu h
 obtain⟨a,xs,ex,hx,q1,q2⟩:=h
 by_cases hw:HT.bB xs.length 0 lo=0/\HT.bB xs.length xs.length hi=xs.length
 ·subst ex
  cases rx
  obtain⟨bh,r,ht,hz⟩:=I.tuple hx
  have aj:bh.toArray.size=xs.length:=by rw[gg];exact r.length.symm
  refine⟨"tuple",_,PyProof.Rows.slot_tuple_getitem.lookup,ht.typeIs,?_⟩;refine HT.aO6 ht hs pl pu (by rw[aj];exact hw.1) (by rw[aj];exact hw.2) ⟨.ref a,H,I,rfl,q2 ?_⟩;unfold gH;rw[hw.1,hw.2];simp
 ·exact aH8 ag s σ H x v vl vu lo hi sl Q I rx hs pl pu ⟨a,xs,ex,hx,hw,q1⟩
end
def A7 (xs:List V):gH xs (some 1) none=xs.drop 1:=by
 unfold gH;have e1:HT.bB xs.length 0 (some 1)=min 1 xs.length:=HT.aG9 xs.length 0 1;have e2:HT.bB xs.length xs.length none=xs.length:=rfl;rw[e1,e2];cases xs with
 |nil=>rfl
 |cons x r=>
  have:min 1 (x::r).length=1:=by simp
  rw[this];simp
def A8 (K:ad)(a b:ax):It:=
  ⟨λi H=>∃xs ys x y,aM K H a xs/\aM K H b ys/\xs[i]? = some x/\ys[i]? = some y,
   λi H v H'=>∃T x y,H T=none/\v = .ref T/\H'=upd H T (.tup [x,y])/\∀xs ys,aM K H a xs->aM K H b ys->xs[i]? = some x/\ys[i]? = some y,
   λi H=>∃xs ys,aM K H a xs/\aM K H b ys/\(i=xs.length∨(i<xs.length/\i=ys.length))⟩
abbrev aO8:=A3 false false
def aO9 {P:ay}{w:ba}{K:ad}{elts:List Expr}{k:Nat}{pos:Pos}(a b z TI TO i1 i2:ax)(d:[z,TI,TO,i1,i2].Nodup) :
  jY P w K (.Tuple elts k pos) (A8 K a b) [z,TI,TO,i1,i2] z (aO8 z TI TO i1 i2 a b):=OO false false a b z TI TO i1 i2 d
section
variable {X:Cx}
def aP0 (K:ad)(ta:TA):TI:=λσ H R=>ta σ H λvs H1=>∃a b xs ys,vs = [.ref a,.ref b]/\aM K H1 a xs/\aM K H1 b ys/\R (A8 K a b) H1
def aP1 {elts:List Expr}{kt:Nat}{pt:Pos}{a b:Expr}{ta:TA}{p pos:Pos}(hg:Gl X "zip")(hm:X.mg "zip" = none)(ha:PA X [a,b] ta)(hs:starEach [a,b] X.env = [(false,eval a X.env),(false,eval b X.env)]:=by rfl)(yv:starEach [b] X.env = [(false,eval b X.env)]:=by rfl) :
  PI X (.Tuple elts kt pt) (.Call (.Name "zip" p) [a,b] [] pos) (aP0 X.K ta):=by
 intro ag s σ H R I h;refine Call_ (lH I hg hm PyProof.Rows.boot_zip (Cm (aR (ha pos ag s σ H _ I h) λus s1 ⟨vs,H1,I1,r1,q1⟩=>?_) (by rw[hs,yv]) (by rw[yv];rfl)))
 obtain⟨a',b',xs,ys,e,h1,h2,q⟩:=q1
 subst e;cases r1 with
 |cons r rr=>
  cases rr with
  |cons r' rr=>
   cases rr;cases r;cases r'
   obtain⟨us,_,p1,_⟩:=I1.list h1
   obtain⟨ws,_,p2,_⟩:=I1.list h2
   refine call_zip_2 p1.isList p2.isList λh' z ti to Ei FZ _ kp=>wpAny_pyIter_zip z ?_
   have fresh:∀k,H1 (s1.heap.objs.size+k)=none:=λk=>I1.cf.fresh (Ad _ _)
   refine⟨s1.heap.objs.size+4,[s1.heap.objs.size+4,s1.heap.objs.size+2,s1.heap.objs.size+3,s1.heap.objs.size,s1.heap.objs.size+1],_,_,H1,rfl,I1.kept (t':=s1.toks) kp,
    aO9 a' b' _ _ _ _ _ (by simp),⟨z,ti,⟨_,_,to⟩,Ei,FZ⟩,λc hc=>?_,q⟩
   simp only[ff,nh,mz]at hc;rcases hc with rfl|rfl|rfl|rfl|rfl
   ·exact I1.jx (Ad _ _) (fresh 4)
   ·exact I1.jx (Ad _ _) (fresh 2)
   ·exact I1.jx (Ad _ _) (fresh 3)
   ·exact I1.jx (de _) (fresh 0)
   ·exact I1.jx (Ad _ _) (fresh 1)
end
def aP2 {K:ad}{H:Hp}{a b:ax}{xs ys:List V}(ha:aM K H a xs)(hb:aM K H b ys)(hl:ys.length<=xs.length) :
  A5 H (A8 K a b) ys.length (λi v H2=>∃T x y,v = .ref T/\H2 T=some (.tup [x,y])/\xs[i]? = some x/\ys[i]? = some y):=by
 refine⟨λi H' sm hi=>⟨xs,ys,xs[i]'(by omega),ys[i],sm.seq ha,sm.seq hb,by simp,by simp⟩,λi H' v H2 sm y hi=>?_,λH' sm=>⟨xs,ys,sm.seq ha,sm.seq hb,by omega⟩⟩
 obtain⟨T,x,y',hT,hv,e,GJ⟩:=y
 subst e
 obtain⟨h1,h2⟩:=GJ xs ys (sm.seq ha) (sm.seq hb)
 exact⟨bL hT _,T,x,y',hv,bA,h1,h2⟩
def aP3 (l:ax)(items:Array av)(n:Nat)(b:ax)(ph:Array av)(n2:Nat)(dd:Option ax)(ss:Array (Option av))(h0:¬(!items.isEmpty&&Builtin.List.listTooLong (items.size+ph.size))=true)(h1:items.size<=sizeLine)(h2:items.size+ph.size<=sizeLine+1) :
  Meets (Builtin.«list.extend» ⟨[.ref l,.ref b],[]⟩) (λ_ R s=>s.heap.get? l=some { cls:=.type "list",dict:=none,data:=.seq items n,slots:=#[] }/\s.heap.get? b=some { cls:=.type "tuple",dict:=dd,data:=.seq ph n2,slots:=ss }/\R (.ok (.ret Value.none)) { s with heap:=s.heap.update l (Obj.mapSeq λx=>x++ph),toks:=s.toks }):=
 .of_wp λprog w A R s h=>by
  obtain⟨hp,g,d,tk,os⟩:=s;obtain⟨hl,hb,h⟩:=h;have f2:=AutoSeq1.sub_tuple_tuple;have f3:=AutoSeq1.sub_list_list;have f4:=AutoSeq1.sub_tuple_list;have f5:=AutoSeq1.sub_list_tuple
  have QP:(items++ph).size<=sizeLine+1:=by rw[Array.size_append];exact h2
  wp_walk using (wpAny_updateSeq hl rfl (hz:=h1) (_hz':=QP)),AutoSeq1.wpAny_loadPart' hl,AutoSeq1.wpAny_loadPart' hb
  exact⟨_,rfl,h⟩
def OL (K:ad):V->List V->Hp->VK->Prop:=λx vs H Q=>∃(l b:ax) (xs zs:List V),x = .ref l/\vs = [.ref b]/\H l=some (.lst xs)/\aW K H b zs/\xs.length+zs.length<=sizeLine/\Q .bw (upd H l (.lst (xs++zs)))
def aP4 {X:Cx}:pB X "list.extend" (OL X.K):=by
 intro ag s σ H x vs v us Q I rx rv h
 obtain⟨l,b,xs,zs,rfl,rfl,hH,hB,hz,q⟩:=h
 cases rx
 obtain⟨u,rfl,ru⟩:=rv.one
 cases ru
 obtain⟨z,bh,n,r,hl,e⟩:=I.uj hH
 obtain⟨aq,r2,⟨⟨cls,dd,data,ss⟩,e2,hc,n2,hd⟩,z2⟩:=I.tuple hB
 cases hc;cases hd;have ya:=r2.length;have hsz:bh.toArray.size+aq.toArray.size<=sizeLine:=by rw[gg,gg];omega
 have vo:¬(!bh.toArray.isEmpty&&Builtin.List.listTooLong (bh.toArray.size+aq.toArray.size))=true:=by
  rw[zC hsz,Cc];exact om
 refine call_meets F.slot_list_extend ⟨_,e,rfl⟩ F.entry_list_extend (F.args_list_extend_2 _ _)
  (aP3 l bh.toArray n b aq.toArray n2 dd ss vo (by rw[gg];omega) (by omega)) ⟨e,e2,?_⟩
 refine⟨.bw,_,I.pg (its':=bh++aq) hH e (by simp) (r.append r2) ?_,rfl,q⟩;rw[jg];omega
end L2
namespace PP
open PySem L2
inductive PV where
 |bw|bl (b:Bool)|int (i:Int)|str (x:Str)|tup (xs:List PV)|lst (xs:List PV)
 |dK (bf:List (aC×PV))|dT (bf:List (List aC×PV))|jo (ns:af)|kt (xs:List PV)|exc (c:Str)|fK (bf:List (aC×PV))|fT (bf:List (List aC×PV))|fL (xs:List PV)|fn (x:Str)|ob (a:ax)
mutual
def flat:PV->Bool
 |.tup xs=>flats xs
 |.lst _=>false
 |.dK _=>false
 |.dT _=>false
 |.bw=>true
 |.bl _=>true
 |.int _=>true
 |.str _=>true
 |.jo _=>true
 |.kt xs=>flats xs
 |.exc _=>true
 |.fK _=>false
 |.fT _=>false
 |.fL xs=>flats xs
 |.fn _=>true
 |.ob _=>true
def flats:List PV->Bool
 |[]=>true
 |x::r=>flat x&&flats r
end
def lT (K:ad)(H:Hp)(a:ax)(ns:af):Prop:=(∃o,H a=some (.et o (.lst (ns.map V.int)))) ∨
  ∃(o:Obj) (bh:Array av) (n:Nat),K.lookup a=some o/\o.cls = .type "list"/\o.dict=none/\o.data = .seq bh n/\bh.size<=sizeLine/\aQ (ns.map V.int) bh.toList
def pG (K:ad)(a:ax)(us:List V):Prop:=∃(o:Obj) (bh:Array av) (n:Nat),K.lookup a=some o/\o.cls = .type "tuple"/\o.data = .seq bh n/\bh.size<=sizeLine/\aQ us bh.toList
mutual
inductive aH (K:ad)(M:ax->Prop)(H:Hp):V->PV->Prop
 |bw:aH K M H .bw .bw
 |bl (b:Bool):aH K M H (.bl b) (.bl b)
 |int (i:Int):aH K M H (.int i) (.int i)
 |str (x:Str):aH K M H (.str x) (.str x)
 |tup {a:ax}{us:List V}{xs:List PV}:H a=some (.tup us)->bb K M H us xs->aH K M H (.ref a) (.tup xs)
 |lst {a:ax}{us:List V}{xs:List PV}:M a->H a=some (.lst us)->bb K M H us xs->aH K M H (.ref a) (.lst xs)
 |dK {a:ax}{bf:List (aC×V)}{ps:List (aC×PV)}:M a->H a=some (.dK bf)->bf.map (·.1)=ps.map (·.1)->bb K M H (bf.map (·.2)) (ps.map (·.2))->aH K M H (.ref a) (.dK ps)
 |dT {a:ax}{bf:List (List aC×V)}{ps:List (List aC×PV)}:M a->H a=some (.dT bf)->bf.map (·.1)=ps.map (·.1)->bb K M H (bf.map (·.2)) (ps.map (·.2))->aH K M H (.ref a) (.dT ps)
 |jo {a:ax}{ns:af}:lT K H a ns->aH K M H (.ref a) (.jo ns)
 |kt {a:ax}{us:List V}{xs:List PV}:pG K a us->bb K M H us xs->aH K M H (.ref a) (.kt xs)
 |exc {a C:ax}{o:Obj}{c:Str}:H a=some (.et o (.own a))->PySem.W.nsIn K mainGlobals c=some (some (.ref C))->o.cls = .ref C->aH K M H (.ref a) (.exc c)
 |fK {a:ax}{o:Obj}{bf:List (aC×V)}{ps:List (aC×PV)}:H a=some (.et o (.dK bf))->bf.map (·.1)=ps.map (·.1)->bb K M H (bf.map (·.2)) (ps.map (·.2))->aH K M H (.ref a) (.fK ps)
 |fT {a:ax}{o:Obj}{bf:List (List aC×V)}{ps:List (List aC×PV)}:H a=some (.et o (.dT bf))->bf.map (·.1)=ps.map (·.1)->bb K M H (bf.map (·.2)) (ps.map (·.2))->aH K M H (.ref a) (.fT ps)
 |fL {a:ax}{o:Obj}{us:List V}{xs:List PV}:H a=some (.et o (.lst us))->bb K M H us xs->aH K M H (.ref a) (.fL xs)
 |fn {f:ax}{x:Str}:PySem.W.nsIn K mainGlobals x=some (some (.ref f))->aH K M H (.ref f) (.fn x)
 |ob {a:ax}:aH K M H (.ref a) (.ob a)
inductive bb (K:ad)(M:ax->Prop)(H:Hp):List V->List PV->Prop
 |nil:bb K M H [] []
 |cons {v:V}{x:PV}{vs:List V}{xs:List PV}:aH K M H v x->bb K M H vs xs->bb K M H (v::vs) (x::xs)
end
def A9:HO->Bool
 |.et _ _=>true
 |_=>false
def IK:HO->Bool
 |.et _ u=>A9 u
 |.ins _ _ _=>true
 |.ext _=>true
 |_=>false
structure iL (M M':ax->Prop)(H H':Hp):Prop where
 lst:∀a us,M a->H a=some (.lst us)->M' a/\H' a=some (.lst us)
 dK:∀a bf,M a->H a=some (.dK bf)->M' a/\H' a=some (.dK bf)
 dT:∀a bf,M a->H a=some (.dT bf)->M' a/\H' a=some (.dT bf)
 tup:∀a us,H a=some (.tup us)->H' a=some (.tup us)
 et:∀a o u,H a=some (.et o u)->A9 u=false->H' a=some (.et o u)
def lT.keep {K:ad}{H H':Hp}{a:ax}{ns:af}(k:∀a o u,H a=some (.et o u)->A9 u=false->H' a=some (.et o u))(h:lT K H a ns):lT K H' a ns:=
 h.elim (λ⟨o,e⟩=>.inl ⟨o,k _ _ _ e rfl⟩) .inr
mutual
def aH.keep {K:ad}{M M':ax->Prop}{H H':Hp}(k:iL M M' H H'):∀{v:V}{x:PV},aH K M H v x->aH K M' H' v x
 |_,_,.bw=>.bw
 |_,_,.bl b=>.bl b
 |_,_,.int i=>.int i
 |_,_,.str x=>.str x
 |_,_,.tup h r=>.tup (k.tup _ _ h) (bb.keep k r)
 |_,_,.lst m h r=>.lst (k.lst _ _ m h).1 (k.lst _ _ m h).2 (bb.keep k r)
 |_,_,.dK m h e r=>.dK (k.dK _ _ m h).1 (k.dK _ _ m h).2 e (bb.keep k r)
 |_,_,.dT m h e r=>.dT (k.dT _ _ m h).1 (k.dT _ _ m h).2 e (bb.keep k r)
 |_,_,.jo h=>.jo (h.keep k.et)
 |_,_,.kt h r=>.kt h (bb.keep k r)
 |_,_,.exc h e c=>.exc (k.et _ _ _ h rfl) e c
 |_,_,.fK h e r=>.fK (k.et _ _ _ h rfl) e (bb.keep k r)
 |_,_,.fT h e r=>.fT (k.et _ _ _ h rfl) e (bb.keep k r)
 |_,_,.fL h r=>.fL (k.et _ _ _ h rfl) (bb.keep k r)
 |_,_,.fn h=>.fn h
 |_,_,.ob=>.ob
def bb.keep {K:ad}{M M':ax->Prop}{H H':Hp}(k:iL M M' H H'):∀{vs:List V}{xs:List PV},bb K M H vs xs->bb K M' H' vs xs
 |_,_,.nil=>.nil
 |_,_,.cons r t=>.cons (aH.keep k r) (bb.keep k t)
end
mutual
def aH.flat {K:ad}{M M':ax->Prop}{H:Hp}{v:V}{x:PV}(f:flat x=true)(r:aH K M H v x):aH K M' H v x:=by
 cases r with
 |bw=>exact .bw
 |bl b=>exact .bl b
 |int i=>exact .int i
 |str x=>exact .str x
 |tup h r=>exact .tup h (bb.flat (by unfold PP.flat at f;exact f) r)
 |lst m h r=>unfold PP.flat at f;cases f
 |dK m h e r=>unfold PP.flat at f;cases f
 |dT m h e r=>unfold PP.flat at f;cases f
 |jo h=>exact .jo h
 |kt h r=>exact .kt h (bb.flat (by unfold PP.flat at f;exact f) r)
 |exc h e c=>exact .exc h e c
 |fK h e r=>unfold PP.flat at f;cases f
 |fT h e r=>unfold PP.flat at f;cases f
 |fL h r=>exact .fL h (bb.flat (by unfold PP.flat at f;exact f) r)
 |fn h=>exact .fn h
 |ob=>exact .ob
def bb.flat {K:ad}{M M':ax->Prop}{H:Hp}{vs:List V}{xs:List PV}(f:flats xs=true)(r:bb K M H vs xs):bb K M' H vs xs:=by
 cases r with
 |nil=>exact .nil
 |cons r t=>
  unfold PP.flats at f;rw[mv]at f;exact .cons (aH.flat f.1 r) (bb.flat f.2 t)
end
def iL.same {M M':ax->Prop}{H H':Hp}(s:aE H H')(m:∀a,M a->M' a):iL M M' H H':=
 ⟨λa _ h e=>⟨m a h,s _ _ e⟩,λa _ h e=>⟨m a h,s _ _ e⟩,λa _ h e=>⟨m a h,s _ _ e⟩,λ_ _ e=>s _ _ e,λ_ _ _ e _=>s _ _ e⟩
def aH.same {K:ad}{M M':ax->Prop}{H H':Hp}{v:V}{x:PV}(r:aH K M H v x)(s:aE H H')(m:∀a,M a->M' a):aH K M' H' v x:=r.keep (.same s m)
def bb.same {K:ad}{M M':ax->Prop}{H H':Hp}{v:List V}{x:List PV}(r:bb K M H v x)(s:aE H H')(m:∀a,M a->M' a):bb K M' H' v x:=r.keep (.same s m)
def i5:HO->Bool
 |.lst _=>true
 |.dK _=>true
 |.dT _=>true
 |_=>false
def iL.upd {M M':ax->Prop}{H:Hp}{a:ax}{o o':HO}(h:H a=some o')(mu:i5 o'=true)(m:∀b,M b->b≠a/\M' b):iL M M' H (upd H a o):=
 ⟨λb _ hb e=>⟨(m b hb).2,by rw[aK (m b hb).1];exact e⟩,λb _ hb e=>⟨(m b hb).2,by rw[aK (m b hb).1];exact e⟩,λb _ hb e=>⟨(m b hb).2,by rw[aK (m b hb).1];exact e⟩,
  λb _ e=>by rw[aK (λz=>by rw[z,h]at e;cases e;cases mu)];exact e,
  λb _ _ e _=>by rw[aK (λz=>by rw[z,h]at e;cases e;cases mu)];exact e⟩
def bb.length {K:ad}{M:ax->Prop}{H:Hp}:∀{vs:List V}{xs:List PV},bb K M H vs xs->vs.length=xs.length
 |_,_,.nil=>rfl
 |_,_,.cons _ t=>congrArg (·+1) t.length
def bb.get {K:ad}{M:ax->Prop}{H:Hp}:∀{vs:List V}{xs:List PV}{i:Nat}{v:V},bb K M H vs xs->vs[i]? = some v->∃x,xs[i]? = some x/\aH K M H v x
 |_,_,_,_,.nil,e=>by simp at e
 |_,_,0,_,.cons r _,e=>by simp at e;subst e;exact⟨_,rfl,r⟩
 |_,_,i+1,v,.cons _ t,e=>by
  rw[BI]at e
  obtain⟨x,h1,h2⟩:=t.get e
  exact⟨x,by rw[BI];exact h1,h2⟩
def bb.at {K:ad}{M:ax->Prop}{H:Hp}:∀{vs:List V}{xs:List PV}{i:Nat}{x:PV},bb K M H vs xs->xs[i]? = some x->∃v,vs[i]? = some v/\aH K M H v x
 |_,_,_,_,.nil,e=>by simp at e
 |_,_,0,_,.cons r _,e=>by simp at e;subst e;exact⟨_,rfl,r⟩
 |_,_,i+1,v,.cons _ t,e=>by
  rw[BI]at e
  obtain⟨x,h1,h2⟩:=t.at e
  exact⟨x,by rw[BI];exact h1,h2⟩
def bb.append {K:ad}{M:ax->Prop}{H:Hp}:∀{vs:List V}{xs:List PV}{us:List V}{ys:List PV},bb K M H vs xs->bb K M H us ys->bb K M H (vs++us) (xs++ys)
 |_,_,_,_,.nil,s=>s
 |_,_,_,_,.cons r t,s=>.cons r (t.append s)
def bb.set {K:ad}{M:ax->Prop}{H:Hp}{v:V}{x:PV}(q:aH K M H v x):∀(i:Nat) {vs:List V}{xs:List PV},bb K M H vs xs->bb K M H (vs.set i v) (xs.set i x)
 |_,_,_,.nil=>.nil
 |0,_,_,.cons r t=>.cons q t
 |i+1,_,_,.cons r t=>.cons r (bb.set q i t)
def bb.take {K:ad}{M:ax->Prop}{H:Hp}:∀(n:Nat) {vs:List V}{xs:List PV},bb K M H vs xs->bb K M H (vs.take n) (xs.take n)
 |0,_,_,_=>by simp;exact .nil
 |_+1,_,_,.nil=>.nil
 |n+1,_,_,.cons r t=>.cons r (bb.take n t)
def bb.drop {K:ad}{M:ax->Prop}{H:Hp}:∀(n:Nat) {vs:List V}{xs:List PV},bb K M H vs xs->bb K M H (vs.drop n) (xs.drop n)
 |0,_,_,r=>r
 |_+1,_,_,.nil=>.nil
 |n+1,_,_,.cons _ t=>bb.drop n t
abbrev ao (ns:af):List PV:=ns.map PV.int
def bb.ao {K:ad}{M:ax->Prop}{H:Hp}:∀(ns:af),bb K M H (ns.map V.int) (ao ns)
 |[]=>.nil
 |n::r=>.cons (.int n) (bb.ao r)
def bb.ofInts {K:ad}{M:ax->Prop}{H:Hp}:∀{ns:af}{us:List V},bb K M H us (PP.ao ns)->us=ns.map V.int
 |[],_,.nil=>rfl
 |n::r,_,.cons q t=>by
  cases q;rw[bb.ofInts t];rfl
def cS:∀(ns:af),flats (ao ns)=true
 |[]=>rfl
 |n::r=>by show (flat (.int n)&&flats (ao r))=true;rw[cS r];rfl
inductive Tg|rd|sh|nw|fr
inductive Slot|sh (g:Bool) (x:PV)|own (x:PV)|kp (g:Bool) (x:PV) (ks:List (ax×List PV×List PV))
def Slot.val:Slot->PV
 |.sh _ x=>x
 |.own x=>x
 |.kp _ x _=>x
def Slot.tag:Slot->Tg
 |.sh true _=>.nw
 |.sh false _=>.sh
 |.own _=>.rd
 |.kp _ _ _=>.nw
abbrev bT:=List (Option Slot)
def Ms (H0:Hp)(W:ax->Prop):Bool->ax->Prop
 |false,a=>¬W a
 |true,a=>¬W a/\H0 a=none
def Mg (H0:Hp)(W:ax->Prop)(Hs:Hp):Tg->ax->Prop
 |.rd,_=>True
 |.sh,a=>¬W a
 |.nw,a=>¬W a/\H0 a=none
 |.fr,a=>Hs a=none
def k8 (K:ad)(M:ax->Prop)(H:Hp)(a:ax):PV->Prop
 |.lst xs=>∃us,H a=some (.lst us)/\bb K M H us xs
 |.dK ps=>∃bf,H a=some (.dK bf)/\bf.map (·.1)=ps.map (·.1)/\bb K M H (bf.map (·.2)) (ps.map (·.2))
 |.dT ps=>∃bf,H a=some (.dT bf)/\bf.map (·.1)=ps.map (·.1)/\bb K M H (bf.map (·.2)) (ps.map (·.2))
 |_=>False
def kL (l:ax)(us:List V):HO:=.ext λh=>us.length<=sizeLine/\∃(bh:List av) (n:Nat),aQ us bh/\h.get? l=some { cls:=.type "list",data:=.seq bh.toArray n }
def o0 (K:ad)(H0 H:Hp)(a:ax)(st un:List PV):Prop:=∃(C dx l1 l2:ax) (yj Aq:List V),PySem.W.nsIn K mainGlobals "Keeper" = some (some (.ref C))/\(H0 a=none/\H0 dx=none/\H0 l1=none/\H0 l2=none)/\l1≠l2/\H dx=some (.own a)/\
 H a=some (.ins C dx [("standing",.ref l1),("undone",.ref l2)])/\H l1=some (kL l1 yj)/\H l2=some (kL l2 Aq)/\bb K (λ_=>False) H yj st/\bb K (λ_=>False) H Aq un
def o0.keep {K:ad}{H0 H H':Hp}{a:ax}{st un:List PV}(k:iL (λ_=>False) (λ_=>False) H H')(f:∀b o,H b=some o->i5 o=false->H' b=some o)(h:o0 K H0 H a st un):o0 K H0 H' a st un:=by
 obtain⟨C,dx,l1,l2,yj,Aq,h1,h2,h3,h4,h5,h6,h7,r1,r2⟩:=h
 exact⟨C,dx,l1,l2,yj,Aq,h1,h2,h3,f _ _ h4 rfl,f _ _ h5 rfl,f _ _ h6 rfl,f _ _ h7 rfl,r1.keep k,r2.keep k⟩
def Ap2 (H:Hp)(a b:ax):Prop:=a≠b/\∀C D dx dy l1 l2 m1 m2,H a=some (.ins C dx [("standing",.ref l1),("undone",.ref l2)])->H b=some (.ins D dy [("standing",.ref m1),("undone",.ref m2)])->l1≠m1/\l1≠m2/\l2≠m1/\l2≠m2
def iV (K:ad)(H0 H:Hp)(ks:List (ax×List PV×List PV)):Prop:=(∀k∈ks,o0 K H0 H k.1 k.2.1 k.2.2)/\ks.Pairwise λk m=>Ap2 H k.1 m.1
def iV.keep {K:ad}{H0 H H':Hp}{ks:List (ax×List PV×List PV)}(k:iL (λ_=>False) (λ_=>False) H H')(f:∀b o,H b=some o->i5 o=false->H' b=some o)(h:iV K H0 H ks):iV K H0 H' ks:=by
 refine⟨λx hx=>(h.1 x hx).keep k f,h.2.imp_of_mem λ{x y} hx hy r=>⟨r.1,λC D dx dy l1 l2 m1 m2 e1 e2=>?_⟩⟩
 obtain⟨C',dx',l1',l2',yj,Aq,_,_,_,_,h5,_⟩:=h.1 x hx
 obtain⟨D',dy',m1',m2',ws1,ws2,_,_,_,_,g5,_⟩:=h.1 y hy
 have z1:=f _ _ h5 rfl;have z2:=f _ _ g5 rfl;rw[e1]at z1;rw[e2]at z2;cases z1;cases z2;exact r.2 _ _ _ _ _ _ _ _ h5 g5
def iV.same {K:ad}{H0 H H':Hp}{ks:List (ax×List PV×List PV)}(s:aE H H')(h:iV K H0 H ks):iV K H0 H' ks:=h.keep (.same s λ_ z=>z) λ_ _ e _=>s _ _ e
def iV.upd {K:ad}{H0 H:Hp}{c:ax}{o o':HO}{ks:List (ax×List PV×List PV)}(e:H c=some o')(mu:i5 o'=true)(h:iV K H0 H ks):iV K H0 (upd H c o) ks:=
 h.keep (.upd e mu λ_ z=>z.elim) λb u e2 m2=>by rw[aK (λz=>by rw[z,e]at e2;cases e2;rw[mu]at m2;cases m2)];exact e2
def pH (K:ad)(H0:Hp)(W:ax->Prop)(H:Hp)(v:V):Slot->Prop
 |.sh g x=>aH K (Ms H0 W g) H v x
 |.own x=>∃a,v = .ref a/\W a/\k8 K (Ms H0 W true) H a x
 |.kp g x ks=>(aH K (λ_=>False) H v x/\flat x=true)/\iV K (cond g H0 λ_=>none) H ks
structure PX (K:ad)(H0:Hp)(W:ax->Prop)(σ:St)(ρ:bT)(H:Hp):Prop where
 len:ρ.length=σ.length
 same:aE H0 H
 wm:∀a,W a->H0 a=none/\∃o,H a=some o/\i5 o=true
 sl:∀(i:Nat) (m:Slot),ρ[i]? = some (some m)->∃v,σ[i]? = some (some v)/\pH K H0 W H v m
 vw:∀(i j:Nat) (x y:PV) (a:ax),ρ[i]? = some (some (.own x))->ρ[j]? = some (some (.own y))->σ[i]? = some (some (.ref a))->σ[j]? = some (some (.ref a))->i=j
def k8.keep {K:ad}{M M':ax->Prop}{H H':Hp}{a:ax}(k:iL M M' H H')(ha:∀o,H a=some o->H' a=some o):∀{x:PV},k8 K M H a x->k8 K M' H' a x
 |.lst _,⟨us,e,r⟩=>⟨us,ha _ e,r.keep k⟩
 |.dK _,⟨us,e,q,r⟩=>⟨us,ha _ e,q,r.keep k⟩
 |.dT _,⟨us,e,q,r⟩=>⟨us,ha _ e,q,r.keep k⟩
def k8.at {K:ad}{M:ax->Prop}{H:Hp}{a:ax}:∀{x:PV},k8 K M H a x->∃o,H a=some o/\i5 o=true
 |.lst _,⟨us,e,r⟩=>⟨_,e,rfl⟩
 |.dK _,⟨us,e,q,r⟩=>⟨_,e,rfl⟩
 |.dT _,⟨us,e,q,r⟩=>⟨_,e,rfl⟩
def k8.rep {K:ad}{M M':ax->Prop}{H:Hp}{a:ax}(m:∀b,M b->M' b)(ha:M' a):∀{x:PV},k8 K M H a x->aH K M' H (.ref a) x
 |.lst _,⟨us,e,r⟩=>.lst ha e (r.same (aE.refl _) m)
 |.dK _,⟨us,e,q,r⟩=>.dK ha e q (r.same (aE.refl _) m)
 |.dT _,⟨us,e,q,r⟩=>.dT ha e q (r.same (aE.refl _) m)
section
variable {K:ad}{H0:Hp}{W W':ax→Prop}{σ:St}{ρ:bT}{H H':Hp}
def PX.mono (p:PX K H0 W σ ρ H)(s:aE H H'):PX K H0 W σ ρ H':=by
 refine⟨p.len,p.same.trans s,λa h=>⟨(p.wm a h).1,let ⟨o,e,m⟩:=(p.wm a h).2;⟨o,s _ _ e,m⟩⟩,λi m h=>?_,p.vw⟩
 obtain⟨v,e,r⟩:=p.sl i m h
 refine⟨v,e,?_⟩;cases m with
 |sh g x=>exact aH.same r s λ_ z=>z
 |own x=>
  obtain⟨a,e1,e2,r⟩:=r
  exact⟨a,e1,e2,r.keep (.same s λ_ z=>z) λ_ z=>s _ _ z⟩
 |kp g x ks=>exact⟨⟨r.1.1.same s λ_ z=>z,r.1.2⟩,r.2.same s⟩
def PX.new (p:PX K H0 W σ ρ H){a:ax}(h:H a=none):¬W a/\H0 a=none:=
 ⟨λz=>(by obtain⟨_,o,e,_⟩:=p.wm a z;rw[h]at e;cases e),p.same.free h⟩
def Mg.back {g:Tg}{H1:Hp}(s:aE H H1){a:ax}(h:Mg H0 W H1 g a):Mg H0 W H g a:=by
 cases g with
 |fr=>exact s.free h
 |rd=>exact h
 |sh=>exact h
 |nw=>exact h
end
abbrev PK:=PV->Tg->Prop
abbrev aG:=bT->PK->Prop
abbrev dA:=bT->(Bool->Prop)->Prop
abbrev dI:=bT->(List (PV×Tg)->Prop)->Prop
inductive jM (K:ad)(H0:Hp)(W:ax->Prop)(Hs H:Hp):List V->List (PV×Tg)->Prop
 |nil:jM K H0 W Hs H [] []
 |cons {v:V}{x:PV}{g:Tg}{vs:List V}{xs:List (PV×Tg)}:aH K (Mg H0 W Hs g) H v x->jM K H0 W Hs H vs xs->jM K H0 W Hs H (v::vs) ((x,g)::xs)
def uP (K:ad)(H0:Hp)(W:ax->Prop)(H:Hp)(Q:PK)(Q':VK):Prop:=∀v H' x g,aE H H'->aH K (Mg H0 W H g) H' v x->Q x g->Q' v H'
def LE (X:Cx)(t:aG):TE:=λσ H Q'=>∃(W:ax->Prop) (ρ:bT) (Q:PK),PX X.K X.bu W σ ρ H/\t ρ Q/\uP X.K X.bu W H Q Q'
def LT (X:Cx)(t:dA):TT:=λσ H Q'=>∃(W:ax->Prop) (ρ:bT) (Q:Bool->Prop),PX X.K X.bu W σ ρ H/\t ρ Q/\∀b H',aE H H'->Q b->Q' b H'
def LA (X:Cx)(t:dI):TA:=λσ H Q'=>∃(W:ax->Prop) (ρ:bT) (Q:List (PV×Tg)->Prop),PX X.K X.bu W σ ρ H/\t ρ Q/\∀vs H' xs,aE H H'->jM X.K X.bu W H H' vs xs->Q xs->Q' vs H'
def jM.same {K:ad}{H0:Hp}{W:ax->Prop}{Hs Ph H H':Hp}(s:aE H H')(b:aE Ph Hs):∀{vs:List V}{xs:List (PV×Tg)},jM K H0 W Hs H vs xs->jM K H0 W Ph H' vs xs
 |_,_,.nil=>.nil
 |_,_,.cons r t=>.cons (r.same s λ_ z=>Mg.back b z) (t.same s b)
def jM.any {K:ad}{H0:Hp}{W:ax->Prop}{Hs H:Hp}:∀{vs:List V}{xs:List (PV×Tg)},jM K H0 W Hs H vs xs->bb K (λ_=>True) H vs (xs.map (·.1))
 |_,_,.nil=>.nil
 |_,_,.cons r t=>.cons (r.same (aE.refl _) λ_ _=>trivial) t.any
def Nw:Tg->PV->Prop
 |.fr,_=>True
 |.nw,_=>True
 |_,x=>flat x=true
def pI (xs:List (PV×Tg)):Prop:=∀p∈xs,Nw p.2 p.1
section
variable {K:ad}{H0 Hs H:Hp}{W:ax→Prop}{σ:St}{ρ:bT}
def Nw.rep {g:Tg}{x:PV}{v:V}(px:PX K H0 W σ ρ Hs)(n:Nw g x)(r:aH K (Mg H0 W Hs g) H v x):aH K (Ms H0 W true) H v x:=by
 cases g with
 |fr=>exact r.same (aE.refl _) λa z=>px.new z
 |nw=>exact r.same (aE.refl _) λa z=>z
 |sh=>exact r.flat n
 |rd=>exact r.flat n
def pI.El {vs:List V}:∀{xs:List (PV×Tg)}{vs:List V},PX K H0 W σ ρ Hs->pI xs->jM K H0 W Hs H vs xs->bb K (Ms H0 W true) H vs (xs.map (·.1))
 |_,_,px,n,.nil=>.nil
 |_,_,px,n,.cons r t=>.cons (Nw.rep px (n _ dh) r) (pI.El (vs:=vs) px (λp hp=>n p (fu _ hp)) t)
def OJ {v:V}{m:Slot}(r:pH K H0 W H v m):aH K (Mg H0 W Hs m.tag) H v m.val:=by
 cases m with
 |sh g x=>
  cases g with
  |true=>exact aH.same r (aE.refl _) λ_ z=>z
  |false=>exact aH.same r (aE.refl _) λ_ z=>z
 |own x=>
  obtain⟨a,rfl,_,r⟩:=r
  exact r.rep (λ_ _=>trivial) trivial
 |kp g x ks=>exact r.1.1.flat r.1.2
end
section
variable {X:Cx}{σ:St}{H:Hp}{Q':VK}{ta tb:aG}
def a5 (i:Nat):aG:=λρ Q=>∃m,ρ[i]? = some (some m)/\Q m.val m.tag
def qC (x:PV):aG:=λ_ Q=>Q x .fr
def aP5 {i:Nat}(h:LE X (a5 i) σ H Q'):gA i σ H Q':=by
 obtain⟨W,ρ,Q,px,⟨m,e,q⟩,k⟩:=h
 obtain⟨v,ev,r⟩:=px.sl i m e
 exact⟨v,ev,k v H _ _ (aE.refl _) (OJ r) q⟩
def rV {x:PV}{v:V}(hr:∀M,aH X.K M H v x)(h:LE X (qC x) σ H Q'):tC v σ H Q':=by
 obtain⟨W,ρ,Q,px,q,k⟩:=h
 exact k v H _ _ (aE.refl _) (hr _) q
def fN (X:Cx)(R:PV->Tg->PV->Tg->PK->Prop)(r:R2):Prop:=∀(W:ax->Prop) (Hs H:Hp) (u v:V) (x y:PV) (g g':Tg) (Q:PK) (Q':VK),aE Hs H->
 (∀a,Hs a=none->¬W a/\X.bu a=none)->aH X.K (Mg X.bu W Hs g) H u x->aH X.K (Mg X.bu W Hs g') H v y->R x g y g' Q->(∀w H' z gz,aE H H'->aH X.K (Mg X.bu W Hs gz) H' w z->Q z gz->Q' w H')->r u v H Q'
def q2 (R:PV->Tg->PV->Tg->PK->Prop)(ta tb:aG):aG:=λρ Q=>ta ρ λx g=>tb ρ λy g'=>R x g y g' Q
def uQ {R:PV->Tg->PV->Tg->PK->Prop}{r:R2}(c:fN X R r)(h:LE X (q2 R ta tb) σ H Q'):rF r (LE X ta) (LE X tb) σ H Q':=by
 obtain⟨W,ρ,Q,px,q,k⟩:=h
 refine⟨W,ρ,_,px,q,λu H1 x g s1 r1 q1=>⟨W,ρ,_,px.mono s1,q1,λv H2 y g' s2 r2 q2=>?_⟩⟩;exact c W H H2 u v x y g g' Q Q' (s1.trans s2) (λa z=>px.new z) (r1.same s2 λ_ z=>z) (r2.same (aE.refl _) λ_ z=>Mg.back s1 z) q2 λw H' z gz s3 r3 q3=>k w H' z gz ((s1.trans s2).trans s3) r3 q3
def RI (C:Int->Int->Prop)(f:Int->Int->PV):PV->Tg->PV->Tg->PK->Prop:=λx _ y _ Q=>∃i j,x = .int i/\y = .int j/\C i j/\Q (f i j) .fr
def gK (f:Int->Int->PV):PV->Tg->PV->Tg->PK->Prop:=λx _ y _ Q=>∃i j,x = .int i/\y = .int j/\Q (f i j) .fr
def uR {C:Int->Int->Prop}{f:Int->Int->Int}:fN X (RI C λi j=>.int (f i j)) (rI C λi j=>.int (f i j)):=by
 rintro W Hs H u v x y g g' Q Q' s n r1 r2 ⟨i,j,rfl,rfl,c,q⟩ k;cases r1;cases r2
 exact⟨i,j,rfl,rfl,c,k _ _ _ _ (aE.refl _) (.int _) q⟩
def OI {f:Int->Int->Int}:fN X (gK λi j=>.int (f i j)) (kO λi j=>.int (f i j)):=by
 rintro W Hs H u v x y g g' Q Q' s n r1 r2 ⟨i,j,rfl,rfl,q⟩ k;cases r1;cases r2
 exact⟨i,j,rfl,rfl,k _ _ _ _ (aE.refl _) (.int _) q⟩
def pJ {f:Int->Int->Bool}:fN X (gK λi j=>.bl (f i j)) (kO λi j=>.bl (f i j)):=by
 rintro W Hs H u v x y g g' Q Q' s n r1 r2 ⟨i,j,rfl,rfl,q⟩ k;cases r1;cases r2
 exact⟨i,j,rfl,rfl,k _ _ _ _ (aE.refl _) (.bl _) q⟩
def o4 (neg:Bool):PV->Tg->PV->Tg->PK->Prop:=λx _ y _ Q=>(∃i j,x = .int i/\y = .int j/\Q (.bl (if neg=true then !decide (i=j) else decide (i=j))) .fr)∨(∃i j,x = .bl i/\y = .bl j/\Q (.bl (if neg=true then !decide (i=j) else decide (i=j))) .fr)
def OH (i j:Int):decide (V.int i=V.int j)=decide (i=j):=by
 rw[xf,lx,lx];exact⟨λz=>V.int.inj z,λz=>congrArg V.int z⟩
def OG (i j:Bool):decide (V.bl i=V.bl j)=decide (i=j):=by
 rw[xf,lx,lx];exact⟨λz=>V.bl.inj z,λz=>congrArg V.bl z⟩
def OF:fN X (o4 false) Q6:=by
 rintro W Hs H u v x y g g' Q Q' s n r1 r2 (⟨i,j,rfl,rfl,q⟩|⟨i,j,rfl,rfl,q⟩) k
 ·cases r1;cases r2
  exact⟨rfl,by rw[OH];exact k _ _ _ _ (aE.refl _) (.bl _) q⟩
 ·cases r1;cases r2
  exact⟨rfl,by rw[OG];exact k _ _ _ _ (aE.refl _) (.bl _) q⟩
def aP6:fN X (o4 true) yK:=by
 rintro W Hs H u v x y g g' Q Q' s n r1 r2 (⟨i,j,rfl,rfl,q⟩|⟨i,j,rfl,rfl,q⟩) k
 ·cases r1;cases r2
  exact⟨rfl,by rw[OH];exact k _ _ _ _ (aE.refl _) (.bl _) q⟩
 ·cases r1;cases r2
  exact⟨rfl,by rw[OG];exact k _ _ _ _ (aE.refl _) (.bl _) q⟩
def bH (t:aG):dA:=λρ Q=>t ρ λx _=>∃b,x = .bl b/\Q b
def uS {t:aG}{Q':Bool->Hp->Prop}(h:LT X (bH t) σ H Q'):LE X t σ H λx H'=>∃k,x = .bl k/\Q' k H':=by
 obtain⟨W,ρ,Q,px,q,k⟩:=h
 refine⟨W,ρ,_,px,q,?_⟩;rintro v H1 x g s r ⟨b,rfl,q⟩;cases r
 exact⟨b,rfl,k _ _ s q⟩
def o5 (t u:dA):dA:=λρ Q=>t ρ λc=>if c=true then u ρ Q else Q false
def rW (t u:dA):dA:=λρ Q=>t ρ λc=>if c=true then Q true else u ρ Q
def pK (t:dA):dA:=λρ Q=>t ρ λc=>Q (!c)
variable {t u:dA}{Qb:Bool→Hp→Prop}
def aP7 (h:LT X (o5 t u) σ H Qb):O4 (LT X t) (LT X u) σ H Qb:=by
 obtain⟨W,ρ,Q,px,q,k⟩:=h
 refine⟨W,ρ,_,px,q,λb H1 s1 q1=>?_⟩;cases b with
 |true=>exact bP ⟨W,ρ,Q,px.mono s1,by simpa using q1,λb H2 s2 q2=>k _ _ (s1.trans s2) q2⟩
 |false=>exact bK (k _ _ s1 (by simpa using q1))
def aP8 (h:LT X (rW t u) σ H Qb):O5 (LT X t) (LT X u) σ H Qb:=by
 obtain⟨W,ρ,Q,px,q,k⟩:=h
 refine⟨W,ρ,_,px,q,λb H1 s1 q1=>?_⟩;cases b with
 |false=>exact bK ⟨W,ρ,Q,px.mono s1,by simpa using q1,λb H2 s2 q2=>k _ _ (s1.trans s2) q2⟩
 |true=>exact bP (k _ _ s1 (by simpa using q1))
def aP9 (h:LT X (pK t) σ H Qb):O6 (LT X t) σ H Qb:=by
 obtain⟨W,ρ,Q,px,q,k⟩:=h
 exact⟨W,ρ,_,px,q,λb H1 s1 q1=>k _ _ s1 q1⟩
def rX (ta tb:aG):aG:=λρ Q=>ta ρ λx _=>∃c,x = .bl c/\if c=true then tb ρ Q else Q (.bl false) .fr
def B0 (ta tb:aG):aG:=λρ Q=>ta ρ λx _=>∃c,x = .bl c/\if c=true then Q (.bl true) .fr else tb ρ Q
def uP.back {K:ad}{H0:Hp}{W:ax->Prop}{H H1:Hp}{Q:PK}(k:uP K H0 W H Q Q')(s:aE H H1):uP K H0 W H1 Q Q':=λv H' x g s' r q=>k v H' x g (s.trans s') (r.same (aE.refl _) λ_ z=>Mg.back s z) q
def aQ0 (h:LE X (rX ta tb) σ H Q'):O7 (LE X ta) (LE X tb) σ H Q':=by
 obtain⟨W,ρ,Q,px,q,k⟩:=h
 refine⟨W,ρ,_,px,q,?_⟩;rintro v H1 x g s1 r ⟨c,rfl,q⟩;cases r;refine⟨c,rfl,?_⟩;cases c with
 |true=>exact bP ⟨W,ρ,Q,px.mono s1,by simpa using q,k.back s1⟩
 |false=>exact bK (k _ _ _ _ s1 (.bl _) (by simpa using q))
def aQ1 (h:LE X (B0 ta tb) σ H Q'):O8 (LE X ta) (LE X tb) σ H Q':=by
 obtain⟨W,ρ,Q,px,q,k⟩:=h
 refine⟨W,ρ,_,px,q,?_⟩;rintro v H1 x g s1 r ⟨c,rfl,q⟩;cases r;refine⟨c,rfl,?_⟩;cases c with
 |false=>exact bK ⟨W,ρ,Q,px.mono s1,by simpa using q,k.back s1⟩
 |true=>exact bP (k _ _ _ _ s1 (.bl _) (by simpa using q))
def a9:dI:=λ_ Q=>Q []
def a6 (te:aG)(tr:dI):dI:=λρ Q=>te ρ λx g=>tr ρ λxs=>Q ((x,g)::xs)
variable {Qa:List V→Hp→Prop}{tr:dI}
def aQ2 (h:LA X a9 σ H Qa):kQ σ H Qa:=by
 obtain⟨W,ρ,Q,px,q,k⟩:=h
 exact k _ _ _ (aE.refl _) .nil q
def aQ3 (h:LA X (a6 ta tr) σ H Qa):iG (LE X ta) (LA X tr) σ H Qa:=by
 obtain⟨W,ρ,Q,px,q,k⟩:=h
 refine⟨W,ρ,_,px,q,λv H1 x g s1 r1 q1=>⟨W,ρ,_,px.mono s1,q1,λvs H2 xs s2 r2 q2=>?_⟩⟩;exact k _ _ _ (s1.trans s2) (.cons (r1.same s2 λ_ z=>z) (r2.same (aE.refl _) s1)) q2
def B1 (t:dI):aG:=λρ Q=>t ρ λxs=>xs.length<=1000/\pI xs/\Q (.tup (xs.map (·.1))) .nw
def gL (t:dI):aG:=λρ Q=>t ρ λxs=>xs.length<=1000/\flats (xs.map (·.1))=true/\Q (.tup (xs.map (·.1))) .fr
def fA (t:dI):aG:=λρ Q=>t ρ λxs=>xs.length<=1000/\flats (xs.map (·.1))=true/\Q (.lst (xs.map (·.1))) .fr
def jM.length {K:ad}{H0:Hp}{W:ax->Prop}{Hs H:Hp}:∀{vs:List V}{xs:List (PV×Tg)},jM K H0 W Hs H vs xs->vs.length=xs.length
 |_,_,.nil=>rfl
 |_,_,.cons _ t=>congrArg (·+1) t.length
def uT {n:Nat}(h:n<=1000):n<=sizeLine:=uv (rO h)
def aQ4 (h:LE X (B1 tr) σ H Q'):yO (LA X tr) σ H Q':=by
 obtain⟨W,ρ,Q,px,q,k⟩:=h
 refine⟨W,ρ,_,px,q,?_⟩;rintro vs H1 xs s1 r ⟨hl,n,q⟩;refine⟨by rw[r.length];exact uT hl,λp hp=>k _ _ _ .nw (s1.trans (bL hp _)) (.tup bA ?_) q⟩;exact (pI.El (vs:=vs) px n r).same (bL hp _) λ_ z=>z
def aQ5 (h:LE X (gL tr) σ H Q'):yO (LA X tr) σ H Q':=by
 obtain⟨W,ρ,Q,px,q,k⟩:=h
 refine⟨W,ρ,_,px,q,?_⟩;rintro vs H1 xs s1 r ⟨hl,n,q⟩;refine⟨by rw[r.length];exact uT hl,λp hp=>k _ _ _ .fr (s1.trans (bL hp _)) (.tup bA ?_) q⟩;exact (r.any.flat n).same (bL hp _) λ_ z=>z
def aQ6 (h:LE X (fA tr) σ H Q'):R9 (LA X tr) σ H Q':=by
 obtain⟨W,ρ,Q,px,q,k⟩:=h
 refine⟨W,ρ,_,px,q,?_⟩;rintro vs H1 xs s1 r ⟨hl,n,q⟩;refine⟨by rw[r.length];exact uT hl,λp hp=>k _ _ _ .fr (s1.trans (bL hp _)) (.lst (s1.free hp) bA ?_) q⟩;exact (r.any.flat n).same (bL hp _) λ_ z=>z
def gU (X:Cx)(R:List PV->(PV->Prop)->Prop)(r:List V->Hp->VK->Prop):Prop:=∀(H:Hp) (vs:List V) (xs:List PV) (Q:PV->Prop) (Q':VK),bb X.K (λ_=>True) H vs xs->R xs Q->
 (∀w H' z,aE H H'->aH X.K (λa=>H a=none) H' w z->Q z->Q' w H')->r vs H Q'
def aB (R:List PV->(PV->Prop)->Prop)(t:dI):aG:=λρ Q=>t ρ λxs=>R (xs.map (·.1)) λz=>Q z .fr
def OE {R:List PV->(PV->Prop)->Prop}{r:List V->Hp->VK->Prop}(c:gU X R r)(h:LE X (aB R tr) σ H Q'):yR r (LA X tr) σ H Q':=by
 obtain⟨W,ρ,Q,px,q,k⟩:=h
 refine⟨W,ρ,_,px,q,λvs H1 xs s1 r1 q1=>c H1 vs _ _ Q' r1.any q1 λw H' z s2 r2 q2=>k w H' z .fr (s1.trans s2) (r2.same (aE.refl _) λ_ z=>s1.free z) q2⟩
end
structure k9 where
 nx:bT->Prop
 rt:PV->Prop
 bk:bT->Prop:=λ_=>False
 ct:bT->Prop:=λ_=>False
abbrev aO:=k9->bT->Prop
def Ev (W:ax->Prop)(H:Hp)(W':ax->Prop)(H':Hp):Prop:=∀b o,H b=some o->¬W b->IK o=false->H' b=some o/\¬W' b
def Ev.trans {W W1 W2:ax->Prop}{H H1 H2:Hp}(a:Ev W H W1 H1)(b:Ev W1 H1 W2 H2):Ev W H W2 H2:=λc o h n z=>let ⟨h1,n1⟩:=a c o h n z;b c o h1 n1 z
def Ev.same {W:ax->Prop}{H H':Hp}(s:aE H H'):Ev W H W H':=λc o h n _=>⟨s _ _ h,n⟩
def Ev.refl (W:ax->Prop)(H:Hp):Ev W H W H:=Ev.same (aE.refl _)
structure uU (X:Cx)(W:ax->Prop)(H:Hp)(D':k9)(D:dS):Prop where
 nx:∀W' cj H' gi,Ev W H W' H'->PX X.K X.bu W' cj gi H'->D'.nx gi->D.nx cj H'
 rt:∀v H' x,aE X.bu H'->aH X.K (λa=>X.bu a=none) H' v x->D'.rt x->D.rt v H'
 bk:∀W' cj H' gi,Ev W H W' H'->PX X.K X.bu W' cj gi H'->D'.bk gi->D.bk cj H'
 ct:∀W' cj H' gi,Ev W H W' H'->PX X.K X.bu W' cj gi H'->D'.ct gi->D.ct cj H'
def uU.step {X:Cx}{W W1:ax->Prop}{H H1:Hp}{D':k9}{D:dS}(k:uU X W H D' D)(e:Ev W H W1 H1):uU X W1 H1 D' D:=
 ⟨λW' cj H' gi e'=>k.nx W' cj H' gi (e.trans e'),k.rt,λW' cj H' gi e'=>k.bk W' cj H' gi (e.trans e'),λW' cj H' gi e'=>k.ct W' cj H' gi (e.trans e')⟩
def LS (X:Cx)(t:aO):TS:=λD σ H=>∃(W:ax->Prop) (ρ:bT) (D':k9),PX X.K X.bu W σ ρ H/\t D' ρ/\uU X W H D' D
def gV {α:Type}{l:List α}{i j:Nat}{a b:α}(h:(l.set i a)[j]? = some b):(j=i/\i<l.length/\b=a)∨(j≠i/\l[j]? = some b):=by
 by_cases e:j=i
 ·subst e
  have hl:j<(l.set j a).length:=(gv.mp h).1;rw[va]at hl;rw[BH hl]at h;exact .inl ⟨rfl,hl,(jr h).symm⟩
 ·rw[xo (Ne.symm e)]at h
  exact .inr ⟨e,h⟩
section
variable {K:ad}{H0:Hp}{W W':ax→Prop}{σ:St}{ρ:bT}{H H' Hs:Hp}
def PX.vg {i:Nat}{v:V}{g:Bool}{x:PV}(p:PX K H0 W σ ρ H)(r:aH K (Ms H0 W g) H v x):PX K H0 W (σ.set i (some v)) (ρ.set i (some (.sh g x))) H:=by
 refine⟨by rw[va,va];exact p.len,p.same,p.wm,λj m h=>?_,λj k y z a h1 h2 h3 h4=>?_⟩
 ·rcases gV h with⟨rfl,hl,e⟩|⟨tu,h⟩
  ·cases e
   rw[p.len]at hl
   exact⟨v,BH hl,r⟩
  ·obtain⟨u,e,q⟩:=p.sl j m h
   exact⟨u,by rw[xo (Ne.symm tu)];exact e,q⟩
 ·rcases gV h1 with⟨_,_,e⟩|⟨n1,h1⟩
  ·cases e
  ·rcases gV h2 with⟨_,_,e⟩|⟨n2,h2⟩
   ·cases e
   ·rw[xo (Ne.symm n1)]at h3
    rw[xo (Ne.symm n2)]at h4;exact p.vw j k y z a h1 h2 h3 h4
def pL (W:ax->Prop)(a:ax):ax->Prop:=λb=>W b∨b=a
def B2 {g:Bool}{a b:ax}(n:b≠a)(h:Ms H0 W g b):Ms H0 (pL W a) g b:=by
 cases g with
 |true=>exact⟨λz=>z.elim h.1 n,h.2⟩
 |false=>exact λz=>z.elim h n
def PX.Ct {i:Nat}{a:ax}{x:PV}(p:PX K H0 W σ ρ Hs)(s:aE Hs H)(ha:Hs a=none)(r:k8 K (Ms H0 (pL W a) true) H a x):PX K H0 (pL W a) (σ.set i (some (.ref a))) (ρ.set i (some (.own x))) H:=by
 have old:∀b o,Hs b=some o->b≠a:=λb o e z=>by rw[z,ha]at e;cases e
 have kp:∀g,iL (Ms H0 W g) (Ms H0 (pL W a) g) Hs H:=λg=>⟨λb _ m e=>⟨B2 (old _ _ e) m,s _ _ e⟩,λb _ m e=>⟨B2 (old _ _ e) m,s _ _ e⟩,λb _ m e=>⟨B2 (old _ _ e) m,s _ _ e⟩,λ_ _ e=>s _ _ e,λ_ _ _ e _=>s _ _ e⟩
 have wa:¬W a:=(p.new ha).1;refine⟨by rw[va,va];exact p.len,p.same.trans s,λb z=>?_,λj m h=>?_,λj k y z b h1 h2 h3 h4=>?_⟩
 ·rcases z with z|rfl
  ·obtain⟨h1,o,h2,h3⟩:=p.wm b z
   exact⟨h1,o,s _ _ h2,h3⟩
  ·exact⟨(p.new ha).2,r.at⟩
 ·rcases gV h with⟨rfl,hl,e⟩|⟨tu,h⟩
  ·cases e
   rw[p.len]at hl
   exact⟨_,BH hl,a,rfl,.inr rfl,r⟩
  ·obtain⟨u,e,q⟩:=p.sl j m h
   refine⟨u,by rw[xo (Ne.symm tu)];exact e,?_⟩;cases m with
   |sh g y=>exact aH.keep (kp g) q
   |own y=>
    obtain⟨b,e1,e2,q⟩:=q
    exact⟨b,e1,.inl e2,q.keep (kp true) λo z=>s _ _ z⟩
   |kp g c ks=>exact⟨⟨q.1.1.same s λ_ z=>z,q.1.2⟩,q.2.same s⟩
 ·have ne:∀{j:Nat}{y:PV},ρ[j]? = some (some (.own y))->σ[j]?≠some (some (.ref a)):=λ{j y} h1 h2=>by
   obtain⟨u,e,c,e1,e2,_⟩:=p.sl j _ h1
   rw[h2]at e;cases e;cases e1;exact wa e2
  rcases gV h1 with⟨e1,l1,_⟩|⟨n1,h1⟩
  ·rcases gV h2 with⟨e2,_,_⟩|⟨n2,h2⟩
   ·rw[e1,e2]
   ·rw[e1,BH (by rw[<- p.len];exact l1)]at h3
    rw[xo (Ne.symm n2)]at h4;cases h3;exact absurd h4 (ne h2)
  ·rw[xo (Ne.symm n1)]at h3
   rcases gV h2 with⟨e2,l2,_⟩|⟨n2,h2⟩
   ·rw[e2,BH (by rw[<- p.len];exact l2)]at h4
    cases h4;exact absurd h3 (ne h1)
   ·rw[xo (Ne.symm n2)]at h4
    exact p.vw j k y z b h1 h2 h3 h4
def Ev.own {a:ax}(s:aE Hs H)(ha:Hs a=none):Ev W Hs (pL W a) H:=λb o e n _=>⟨s _ _ e,λz=>z.elim n λz=>by rw[z,ha]at e;cases e⟩
def mQ {g:Bool}{a b:ax}(wa:W a)(h:Ms H0 W g b):b≠a:=by
 cases g with
 |true=>exact λz=>h.1 (by rw[z];exact wa)
 |false=>exact λz=>h (by rw[z];exact wa)
def PX.xt {i:Nat}{a:ax}{x y:PV}{o:HO}(p:PX K H0 W σ ρ H)(hi:ρ[i]? = some (some (.own x)))(ha:σ[i]? = some (some (.ref a)))(wa:W a)(mu:i5 o=true)(r:k8 K (Ms H0 W true) (upd H a o) a y) :
  PX K H0 W σ (ρ.set i (some (.own y))) (upd H a o):=by
 obtain⟨w0,o',e',Gq⟩:=p.wm a wa
 have kp:∀g,iL (Ms H0 W g) (Ms H0 W g) H (upd H a o):=λg=>.upd e' Gq λb m=>⟨mQ wa m,m⟩
 refine⟨by rw[va];exact p.len,λb u e=>by rw[aK (λz=>by rw[z,w0]at e;cases e)];exact p.same _ _ e,λb z=>?_,λj m h=>?_,λj k y' z b h1 h2 h3 h4=>?_⟩
 ·by_cases e:b=a
  ·subst e;exact⟨w0,o,bA,mu⟩
  ·obtain⟨h1,o2,h2,h3⟩:=p.wm b z
   exact⟨h1,o2,by rw[aK e];exact h2,h3⟩
 ·rcases gV h with⟨rfl,hl,e⟩|⟨tu,h⟩
  ·cases e
   exact⟨_,ha,a,rfl,wa,r⟩
  ·obtain⟨u,e,q⟩:=p.sl j m h
   refine⟨u,e,?_⟩;cases m with
   |sh g y=>exact aH.keep (kp g) q
   |own y=>
    obtain⟨b,e1,e2,q⟩:=q
    have hb:b≠a:=λz=>by
     subst e1;rw[z]at e;exact tu (p.vw j i _ _ a h hi e ha)
    exact⟨b,e1,e2,q.keep (kp true) λo z=>by rw[aK hb];exact z⟩
   |kp g c ks=>exact⟨⟨q.1.1.keep (.upd e' Gq λ_ z=>z.elim),q.1.2⟩,q.2.upd e' Gq⟩
 ·have g1:∃y,ρ[j]? = some (some (.own y)):=by
   rcases gV h1 with⟨e,_,_⟩|⟨_,h⟩
   ·exact⟨x,by rw[e];exact hi⟩
   ·exact⟨_,h⟩
  have g2:∃y,ρ[k]? = some (some (.own y)):=by
   rcases gV h2 with⟨e,_,_⟩|⟨_,h⟩
   ·exact⟨x,by rw[e];exact hi⟩
   ·exact⟨_,h⟩
  obtain⟨y1,g1⟩:=g1
  obtain⟨y2,g2⟩:=g2
  exact p.vw j k y1 y2 b g1 g2 h3 h4
def Ev.upd {a:ax}{o:HO}(wa:W a):Ev W H W (upd H a o):=λb u e n _=>⟨by rw[aK (λz=>n (by rw[z];exact wa))];exact e,n⟩
def rY (W:ax->Prop)(a:ax):ax->Prop:=λb=>W b/\b≠a
def B3 {g:Bool}{a b:ax}(h:Ms H0 W g b):Ms H0 (rY W a) g b:=by
 cases g with
 |true=>exact⟨λz=>h.1 z.1,h.2⟩
 |false=>exact λz=>h z.1
def PX.freeze {i:Nat}{a:ax}{x:PV}(p:PX K H0 W σ ρ H)(hi:ρ[i]? = some (some (.own x)))(ha:σ[i]? = some (some (.ref a))):PX K H0 (rY W a) σ (ρ.set i (some (.sh true x))) H:=by
 obtain⟨v,ev,a',e1,wa,r⟩:=p.sl i _ hi
 rw[ha]at ev;cases ev;cases e1;refine⟨by rw[va];exact p.len,p.same,λb z=>p.wm b z.1,λj m h=>?_,λj k y' z b h1 h2 h3 h4=>?_⟩
 ·rcases gV h with⟨rfl,hl,e⟩|⟨tu,h⟩
  ·cases e
   exact⟨_,ha,r.rep (M':=Ms H0 (rY W a) true) (λb m=>B3 (g:=true) m) (show Ms H0 (rY W a) true a from ⟨λz=>z.2 rfl,(p.wm a wa).1⟩)⟩
  ·obtain⟨u,e,q⟩:=p.sl j m h
   refine⟨u,e,?_⟩;cases m with
   |sh g y=>exact aH.same q (aE.refl _) λ_ m=>B3 m
   |own y=>
    obtain⟨b,e1,e2,q⟩:=q
    have hb:b≠a:=λz=>by
     subst e1;rw[z]at e;exact tu (p.vw j i _ _ a h hi e ha)
    exact⟨b,e1,⟨e2,hb⟩,q.keep (.same (aE.refl _) λ_ m=>B3 m) λ_ z=>z⟩
   |kp g c ks=>exact q
 ·rcases gV h1 with⟨_,_,e⟩|⟨_,h1⟩
  ·cases e
  ·rcases gV h2 with⟨_,_,e⟩|⟨_,h2⟩
   ·cases e
   ·exact p.vw j k _ _ b h1 h2 h3 h4
def Ev.off {a:ax}:Ev W H (rY W a) H:=λb u e n _=>⟨e,λz=>n z.1⟩
end
section
variable {X:Cx}{σ:St}{H:Hp}{D:dS}{te:aG}{t u:aO}
def dZ:aO:=λD ρ=>D.nx ρ
def aI (t u:aO):aO:=λD ρ=>t { D with nx:=u D } ρ
def aQ7 (h:LS X dZ D σ H):yA D σ H:=by
 obtain⟨W,ρ,D',px,q,k⟩:=h
 exact k.nx W σ H ρ (Ev.refl _ _) px q
def aQ8 (h:LS X (aI t u) D σ H):O9 (LS X t) (LS X u) D σ H:=by
 obtain⟨W,ρ,D',px,q,k⟩:=h
 exact⟨W,ρ,_,px,q,λW' cj H' gi e Qj q'=>⟨W',gi,D',Qj,q',k.step e⟩,k.rt,k.bk,k.ct⟩
def Io:Tg->PV->Bool
 |.fr,_=>true
 |.nw,_=>true
 |_,x=>flat x
def Pe:Tg->PV->Prop
 |.rd,x=>flat x=true
 |_,_=>True
def aQ9 {K:ad}{H0 Hs H:Hp}{W:ax->Prop}{σ:St}{ρ:bT}{g:Tg}{x:PV}{v:V}(px:PX K H0 W σ ρ Hs)(n:Pe g x)(r:aH K (Mg H0 W Hs g) H v x):aH K (Ms H0 W (Io g x)) H v x:=by
 cases g with
 |fr=>exact Nw.rep (g:=.fr) px trivial r
 |nw=>exact Nw.rep (g:=.nw) px trivial r
 |sh=>
  show aH K (Ms H0 W (flat x)) H v x;cases e:flat x with
  |true=>exact r.flat e
  |false=>exact r.same (aE.refl _) λ_ z=>z
 |rd=>exact r.flat n
def b8 (i:Nat)(te:aG):aO:=λD ρ=>te ρ λx g=>Pe g x/\D.nx (ρ.set i (some (.sh (Io g x) x)))
def uV {i:Nat}(h:LS X (b8 i te) D σ H):mG (LE X te) (cZ i) D σ H:=by
 obtain⟨W,ρ,D',px,q,k⟩:=h
 refine⟨W,ρ,_,px,q,?_⟩;rintro v H1 x g s r ⟨n,q⟩;exact k.nx W _ H1 _ (Ev.same s) ((px.mono s).vg (aQ9 px n r)) q
def OD:PV->Bool
 |.lst xs=>flats xs
 |.dK ps=>flats (ps.map (·.2))
 |.dT ps=>flats (ps.map (·.2))
 |_=>false
def aR0 {K:ad}{M:ax->Prop}{H:Hp}{v:V}{x:PV}(r:aH K M H v x)(o:OD x=true):∃a,v = .ref a/\M a/\∀M',k8 K M' H a x:=by
 cases r with
 |lst m e r=>exact⟨_,rfl,m,λ_=>⟨_,e,r.flat o⟩⟩
 |dK m e q r=>exact⟨_,rfl,m,λ_=>⟨_,e,q,r.flat o⟩⟩
 |dT m e q r=>exact⟨_,rfl,m,λ_=>⟨_,e,q,r.flat o⟩⟩
 |_=>cases o
def e6 (i:Nat)(te:aG):aO:=λD ρ=>te ρ λx g=>g = .fr/\OD x=true/\D.nx (ρ.set i (some (.own x)))
def OC {i:Nat}(h:LS X (e6 i te) D σ H):mG (LE X te) (cZ i) D σ H:=by
 obtain⟨W,ρ,D',px,q,k⟩:=h
 refine⟨W,ρ,_,px,q,?_⟩;rintro v H1 x g s r ⟨rfl,o,q⟩
 obtain⟨a,rfl,m,w⟩:=aR0 r o
 exact k.nx _ _ H1 _ (Ev.own s m) (px.Ct s m (w _)) q
def pM (i:Nat)(t:aO):aO:=λD ρ=>∃x,ρ[i]? = some (some (.own x))/\t D (ρ.set i (some (.sh true x)))
def aR1 {i:Nat}(h:LS X (pM i t) D σ H):LS X t D σ H:=by
 obtain⟨W,ρ,D',px,⟨x,hi,q⟩,k⟩:=h
 obtain⟨v,ev,a,rfl,wa,r⟩:=px.sl i _ hi
 exact⟨_,_,D',px.freeze hi ev,q,k.step Ev.off⟩
def bY (te:aG):aO:=λD ρ=>te ρ λx g=>Nw g x/\D.rt x
def aR2 (h:LS X (bY te) D σ H):yC (LE X te) D σ H:=by
 obtain⟨W,ρ,D',px,q,k⟩:=h
 refine⟨W,ρ,_,px,q,?_⟩;rintro v H1 x g s r ⟨n,q⟩;exact k.rt v H1 x (px.same.trans s) ((Nw.rep px n r).same (aE.refl _) λ_ z=>z.2) q
def Slot.nw:Slot->Prop
 |.own _=>True
 |.kp _ _ _=>True
 |.sh true _=>True
 |.sh false x=>flat x=true
def lU (i:Nat):aO:=λD ρ=>∃m,ρ[i]? = some (some m)/\m.nw/\D.rt m.val
def aR3 {i:Nat}(h:LS X (lU i) D σ H):yC (gA i) D σ H:=by
 obtain⟨W,ρ,D',px,⟨m,hi,n,q⟩,k⟩:=h
 obtain⟨v,ev,r⟩:=px.sl i _ hi
 refine⟨v,ev,k.rt v H _ px.same ?_ q⟩;cases m with
 |own x=>
  obtain⟨a,rfl,wa,r⟩:=r
  exact r.rep (λ_ z=>z.2) (px.wm a wa).1
 |sh g x=>
  cases g with
  |true=>exact aH.same r (aE.refl _) λ_ z=>z.2
  |false=>exact aH.flat n r
 |kp g x ks=>exact r.1.1.flat r.1.2
def dO (c:dA)(t u:aO):aO:=λD ρ=>c ρ λb=>if b=true then t D ρ else u D ρ
def aR4 {c:dA}(h:LS X (dO c t u) D σ H):yD (LT X c) (LS X t) (LS X u) D σ H:=by
 obtain⟨W,ρ,D',px,q,k⟩:=h
 refine⟨W,ρ,_,px,q,λb H1 s q1=>?_⟩;cases b with
 |true=>exact bP ⟨W,ρ,D',px.mono s,by simpa using q1,k.step (Ev.same s)⟩
 |false=>exact bK ⟨W,ρ,D',px.mono s,by simpa using q1,k.step (Ev.same s)⟩
def pN (c:dA)(tb:aO):aO:=λD ρ=>∃I:Nat->bT->Prop,(∃m,I m ρ)/\∀m gi,I m gi->c gi λb=>if b=true then tb { D with nx:=λkf=>∃m',m'<m/\I m' kf,ct:=λkf=>∃m',m'<m/\I m' kf,bk:=D.nx } gi else D.nx gi
def aR5 {c:dA}{tb:aO}(h:LS X (pN c tb) D σ H):P6 (LT X c) (LS X tb) D σ H:=by
 obtain⟨W,ρ,D',px,⟨I,⟨m0,i0⟩,turn⟩,k⟩:=h
 refine⟨λm kb H2=>∃W2 kf,PX X.K X.bu W2 kb kf H2/\Ev W H W2 H2/\I m kf,⟨m0,W,ρ,px,Ev.refl _ _,i0⟩,?_⟩;rintro m kb H2 ⟨W2,kf,yo,e2,i2⟩;refine⟨W2,kf,_,yo,turn m kf i2,λb H3 s3 q3=>?_⟩;cases b with
 |true=>
  refine bP ⟨λFi H4=>∃W4 BM,PX X.K X.bu W4 Fi BM H4/\Ev W H W4 H4/\∃m',m'<m/\I m' BM,λFi H4 ⟨W4,BM,a,b,m',c,d⟩=>⟨m',c,W4,BM,a,b,d⟩,W2,kf,_,yo.mono s3,by simpa using q3,?_⟩;have e3:Ev W H W2 H3:=e2.trans (Ev.same s3)
  exact⟨λW' cj H' gi e p q=>⟨W',gi,p,e3.trans e,q⟩,k.rt,λW' cj H' gi e p q=>k.nx W' cj H' gi (e3.trans e) p q,λW' cj H' gi e p q=>⟨W',gi,p,e3.trans e,q⟩⟩
 |false=>exact bK (k.nx W2 kb H3 kf (e2.trans (Ev.same s3)) (yo.mono s3) (by simpa using q3))
end
def lim {n:Nat}(h:n<=16000000):n<=sizeLine:=uv (iS h)
def aH.qj {K:ad}{M:ax->Prop}{H:Hp}{v:V}{xs:List PV}(r:aH K M H v (.tup xs)):∃a us,v = .ref a/\H a=some (.tup us)/\bb K M H us xs:=by
 cases r with
 |tup e r=>exact⟨_,_,rfl,e,r⟩
def aH.oo {K:ad}{M:ax->Prop}{H:Hp}{v:V}{xs:List PV}(r:aH K M H v (.lst xs)):∃a us,v = .ref a/\M a/\H a=some (.lst us)/\bb K M H us xs:=by
 cases r with
 |lst m e r=>exact⟨_,_,rfl,m,e,r⟩
def lT.oo {K:ad}{H:Hp}{a:ax}{ns:af}(h:lT K H a ns):aM K H a (ns.map V.int):=h.elim (λz=>.inl (.inr z)) .inr
def mR:PV->Option (List PV)
 |.tup xs=>some xs
 |.lst xs=>some xs
 |.jo ns=>some (ao ns)
 |.kt xs=>some xs
 |.fL xs=>some xs
 |_=>none
def aH.seq {K:ad}{M:ax->Prop}{H:Hp}{v:V}{x:PV}{xs:List PV}(r:aH K M H v x)(e:mR x=some xs):∃a us,v = .ref a/\(aM K H a us∨aW K H a us)/\bb K M H us xs:=by
 cases r with
 |tup h r=>cases e;exact⟨_,_,rfl,.inr (aW.of h),r⟩
 |lst m h r=>cases e;exact⟨_,_,rfl,.inl (aM.of h),r⟩
 |jo h=>cases e;exact⟨_,_,rfl,.inl h.oo,bb.ao _⟩
 |kt h r=>cases e;exact⟨_,_,rfl,.inr (.inr h),r⟩
 |fL h r=>cases e;exact⟨_,_,rfl,.inl (.inl (.inr ⟨_,h⟩)),r⟩
 |_=>cases e
section
variable {X:Cx}{σ:St}{H:Hp}{D:dS}{te ti to:aG}{t u:aO}{Q':VK}
def _root_.PP.PX.Ar {K:ad}{H0:Hp}{W:ax->Prop}{σ:St}{ρ:bT}{H:Hp}{i:Nat}{a:ax}{x:PV}{us:List V}{ys:List PV}(p:PX K H0 W σ ρ H)(hi:ρ[i]? = some (some (.own x)))(ha:σ[i]? = some (some (.ref a)))(wa:W a)(r:bb K (Ms H0 W true) (upd H a (.lst us)) us ys) :
  PX K H0 W σ (ρ.set i (some (.own (.lst ys)))) (upd H a (.lst us)):=p.xt hi ha wa rfl (y:=.lst ys) ⟨us,bA,r⟩
def iW (i:Nat)(te:aG):aO:=λD ρ=>∃xs,ρ[i]? = some (some (.own (.lst xs)))/\te ρ λx g=>Nw g x/\xs.length<16000000/\D.nx (ρ.set i (some (.own (.lst (xs++[x])))))
def aR6 {i:Nat}(h:LS X (iW i te) D σ H):rB (u0 X.K "list" U7 (gA i) (iG (LE X te) kQ)) D σ H:=by
 obtain⟨W,ρ,D',px,⟨xs,hi,q⟩,k⟩:=h
 obtain⟨v,ev,a,rfl,wa,us,ea,r⟩:=px.sl i _ hi
 refine⟨_,ev,mO (aM.of ea),W,ρ,_,px,q,?_⟩;rintro w H1 x g s rx ⟨n,hl,q⟩;have DP:=s _ _ ea;refine⟨a,us,w,rfl,rfl,DP,iS (by rw[r.length];omega),?_⟩;refine k.nx W σ _ _ ((Ev.same s).trans (Ev.upd wa)) ((px.mono s).Ar hi ev wa ?_) q;exact ((r.same s λ_ z=>z).append (.cons (Nw.rep px n rx) .nil)).keep (.upd DP rfl λb m=>⟨mQ wa m,m⟩)
def OB (K:ad):V->List V->Hp->VK->Prop:=λx vs H Q=>U8 x vs H Q∨OL K x vs H Q
def uW (i:Nat)(te:aG):aO:=λD ρ=>∃xs,ρ[i]? = some (some (.own (.lst xs)))/\te ρ λy g=>∃ys,(y = .tup ys∨y = .lst ys)/\(Nw g y∨flats ys=true)/\xs.length+ys.length<=16000000/\D.nx (ρ.set i (some (.own (.lst (xs++ys)))))
def aR7 {i:Nat}(h:LS X (uW i te) D σ H):rB (u0 X.K "list" (OB X.K) (gA i) (iG (LE X te) kQ)) D σ H:=by
 obtain⟨W,ρ,D',px,⟨xs,hi,q⟩,k⟩:=h
 obtain⟨v,ev,a,rfl,wa,us,ea,r⟩:=px.sl i _ hi
 refine⟨_,ev,mO (aM.of ea),W,ρ,_,px,q,?_⟩;rintro w H1 y g s ry ⟨ys,hy,n,hl,q⟩;have DP:=s _ _ ea;have key:∀(zs:List V),bb X.K (Ms X.bu W true) H1 zs ys->D.nx σ (upd H1 a (.lst (us++zs))):=λzs rz=>by
  refine k.nx W σ _ _ ((Ev.same s).trans (Ev.upd wa)) ((px.mono s).Ar hi ev wa ?_) q;exact ((r.same s λ_ z=>z).append rz).keep (.upd DP rfl λb m=>⟨mQ wa m,m⟩)
 have lr:=r.length;rcases hy with rfl|rfl
 ·obtain⟨b,zs,rfl,eb,rz⟩:=ry.qj
  have lz:=rz.length;refine .inr ⟨a,b,us,zs,rfl,rfl,DP,aW.of eb,lim (by omega),key zs ?_⟩;rcases n with n|n
  ·obtain⟨b',Pw,e1,e2,Ga⟩:=(Nw.rep px n ry).qj
   cases e1;rw[eb]at e2;cases e2;exact Ga
  ·exact rz.flat n
 ·obtain⟨b,zs,rfl,_,eb,rz⟩:=ry.oo
  have lz:=rz.length;refine .inl ⟨a,b,us,zs,rfl,rfl,DP,eb,lim (by omega),key zs ?_⟩;rcases n with n|n
  ·obtain⟨b',Pw,e1,_,e2,Ga⟩:=(Nw.rep px n ry).oo
   cases e1;rw[eb]at e2;cases e2;exact Ga
  ·exact rz.flat n
def o6 (i:Nat)(tk te:aG):aO:=λD ρ=>te ρ λx g=>∃xs,ρ[i]? = some (some (.own (.lst xs)))/\tk ρ λy _=>∃n j,y = .int n/\iH xs.length n=some j/\Nw g x/\D.nx (ρ.set i (some (.own (.lst (xs.set j x)))))
def aR8 {i:Nat}{tk:aG}(h:LS X (o6 i tk te) D σ H):mG (LE X te) (yF (gA i) (LE X tk) yZ) D σ H:=by
 obtain⟨W,ρ,D',px,q,k⟩:=h
 refine⟨W,ρ,_,px,q,?_⟩;rintro w H1 x g s rx ⟨xs,hi,q1⟩
 obtain⟨v,ev,a,rfl,wa,us,ea,r⟩:=(px.mono s).sl i _ hi
 refine⟨_,ev,W,ρ,_,px.mono s,q1,?_⟩;rintro kv H2 y gy s2 ry ⟨n,j,rfl,hj,nw,q2⟩;cases ry;have AL:=s2 _ _ ea;refine⟨a,us,n,j,rfl,rfl,AL,by rw[r.length];exact hj,?_⟩;refine k.nx W σ _ _ ((Ev.same (s.trans s2)).trans (Ev.upd wa)) ((px.mono (s.trans s2)).Ar hi ev wa ?_) q2;exact (bb.set ((Nw.rep px nw rx).same s2 λ_ z=>z) j (r.same s2 λ_ z=>z)).keep (.upd AL rfl λb m=>⟨mQ wa m,m⟩)
def B4 (i j:Nat):aO:=λD ρ=>∃xs y,ρ[i]? = some (some (.own (.lst (xs++[y]))))/\D.nx ((ρ.set i (some (.own (.lst xs)))).set j (some (.sh true y)))
def bb.snoc_inv {K:ad}{M:ax->Prop}{H:Hp}{us:List V}{xs:List PV}{y:PV}(r:bb K M H us (xs++[y])):∃vs v,us=vs++[v]/\bb K M H vs xs/\aH K M H v y:=by
 have l:=r.length;have h1:=r.take xs.length;have h2:=r.drop xs.length;rw[List.take_left]at h1;rw[List.drop_left]at h2;generalize hd:us.drop xs.length=ds at h2;cases h2 with
 |cons q t=>
  cases t
  exact⟨_,_,by rw[<- hd,List.take_append_drop],h1,q⟩
def aR9 {i j:Nat}(h:LS X (B4 i j) D σ H):mG (U5 X.K "list" U9 (gA i)) (cZ j) D σ H:=by
 obtain⟨W,ρ,D',px,⟨xs,y,hi,q⟩,k⟩:=h
 obtain⟨v,ev,a,rfl,wa,us,ea,r⟩:=px.sl i _ hi
 obtain⟨vs,w,rfl,r1,ry⟩:=r.snoc_inv
 refine⟨_,ev,mO (aM.of ea),a,_,w,rfl,rfl,ea,by simp,?_⟩;rw[List.dropLast_concat];have kp:iL (Ms X.bu W true) (Ms X.bu W true) H (upd H a (.lst vs)):=.upd ea rfl λb m=>⟨mQ wa m,m⟩
 exact k.nx W _ _ _ (Ev.upd wa) ((px.Ar hi ev wa (r1.keep kp)).vg (ry.keep kp)) q
end
def bb.ma {K:ad}{M:ax->Prop}{H:Hp}{us:List V}{xs:List PV}{i:Int}{z:PV}(r:bb K M H us xs)(h:L2.ma xs i=some z):∃v,L2.ma us i=some v/\aH K M H v z:=by
 unfold L2.ma at h ⊢;rw[r.length];cases e:iH xs.length i with
 |none=>rw[e]at h;cases h
 |some j=>rw[e]at h;exact r.at h
section
variable {X:Cx}{σ:St}{H:Hp}{Q':VK}{ta tb te:aG}{tr:dI}
def B5:PV->Tg->PV->Tg->PK->Prop:=λx g y _ Q=>∃xs i z,mR x=some xs/\y = .int i/\L2.ma xs i=some z/\Q z g
def aS0:fN X B5 (U0 X.K):=by
 rintro W Hs H u v x y g g' Q Q' s n r1 r2 ⟨xs,i,z,e,rfl,hz,q⟩ k;cases r2
 obtain⟨a,us,rfl,hs,r⟩:=r1.seq e
 obtain⟨v,hv,rv⟩:=r.ma hz
 rcases hs with hs|hs
 ·exact .inl ⟨a,us,i,v,rfl,rfl,hs,hv,k v H z g (aE.refl _) rv q⟩
 ·exact .inr (.inl ⟨a,us,i,v,rfl,rfl,hs,hv,k v H z g (aE.refl _) rv q⟩)
def B6:PV->Option Nat
 |.tup xs=>some xs.length
 |.lst xs=>some xs.length
 |.jo ns=>some ns.length
 |.dK ps=>some ps.length
 |.kt xs=>some xs.length
 |.fL xs=>some xs.length
 |_=>none
def cC:List PV->(PV->Prop)->Prop:=λxs Q=>∃x n,xs = [x]/\B6 x=some n/\Q (.int n)
def bb.one {K:ad}{M:ax->Prop}{H:Hp}{vs:List V}{x:PV}(r:bb K M H vs [x]):∃v,vs = [v]/\aH K M H v x:=by
 cases r with
 |cons r t=>cases t;exact⟨_,rfl,r⟩
def bb.two {K:ad}{M:ax->Prop}{H:Hp}{vs:List V}{x y:PV}(r:bb K M H vs [x,y]):∃v w,vs = [v,w]/\aH K M H v x/\aH K M H w y:=by
 cases r with
 |cons r t=>
  obtain⟨w,rfl,q⟩:=t.one
  exact⟨_,_,rfl,r,q⟩
def aS1:gU X cC (λxs H Q=>(∃p ys,xs = [.ref p]/\(aM X.K H p ys∨aW X.K H p ys)/\Q (.int ys.length) H)∨∃a bf,xs = [V.ref a]/\H a=some (.dK bf)/\Q (.int bf.length) H):=by
 rintro H vs xs Q Q' r ⟨x,n,rfl,e,q⟩ k
 obtain⟨v,rfl,r1⟩:=r.one
 have fin:∀{m:Nat},m=n->Q' (.int m) H:=λ{m} z=>by rw[z];exact k _ _ _ (aE.refl _) (.int _) q
 cases r1 with
 |tup h r2=>cases e;exact .inl ⟨_,_,rfl,.inr (aW.of h),fin r2.length⟩
 |lst m h r2=>cases e;exact .inl ⟨_,_,rfl,.inl (aM.of h),fin r2.length⟩
 |jo h=>cases e;exact .inl ⟨_,_,rfl,.inl h.oo,fin (by rw[df])⟩
 |kt h r2=>cases e;exact .inl ⟨_,_,rfl,.inr (.inr h),fin r2.length⟩
 |fL h r2=>cases e;exact .inl ⟨_,_,rfl,.inl (.inl (.inr ⟨_,h⟩)),fin r2.length⟩
 |dK m h e' r=>
  cases e;refine .inr ⟨_,_,rfl,h,fin ?_⟩
  have:=congrArg List.length e'
  rw[df,df]at this;exact this
 |_=>cases e
def zi:PV->Option (List PV)
 |.kt _=>none
 |x=>mR x
def OA:List PV->(PV->Prop)->Prop:=λxs Q=>∃x ys,xs = [x]/\zi x=some ys/\flats ys=true/\Q (.tup ys)
def aS2:gU X (λxs Q=>OA xs Q/\∀ns,xs≠[.jo ns]) (λxs H Q=>∃p ys,xs = [.ref p]/\((aM X.K H p ys/\∀l,H l=none->Q (.ref l) (upd H l (.tup ys)))∨(aW X.K H p ys/\Q (.ref p) H))):=by
 rintro H vs xs Q Q' r ⟨⟨x,ys,rfl,e,f,q⟩,Qo⟩ k
 obtain⟨v,rfl,r1⟩:=r.one
 cases r1 with
 |tup h r2=>cases e;exact⟨_,_,rfl,.inr ⟨aW.of h,k _ _ _ (aE.refl _) (.tup h (r2.flat f)) q⟩⟩
 |lst m h r2=>cases e;exact⟨_,_,rfl,.inl ⟨aM.of h,λl hl=>k _ _ _ (bL hl _) (.tup bA ((r2.flat f).same (bL hl _) λ_ z=>z)) q⟩⟩
 |jo h=>exact absurd rfl (Qo _)
 |fL h r2=>cases e;exact⟨_,_,rfl,.inl ⟨.inl (.inr ⟨_,h⟩),λl hl=>k _ _ _ (bL hl _) (.tup bA ((r2.flat f).same (bL hl _) λ_ z=>z)) q⟩⟩
 |_=>cases e
def pO:List PV->(PV->Prop)->Prop:=λxs Q=>∃ns,xs = [.lst (ao ns)]/\ns.length<64/\∀ms:af,ms.Perm ns->ms.Pairwise (· <= ·)->Q (.lst (ao ms))
def aS3:gU X pO (Z5 X.K):=by
 rintro H vs xs Q Q' r ⟨ns,rfl,hl,q⟩ k
 obtain⟨v,rfl,r1⟩:=r.one
 obtain⟨a,us,rfl,_,h,r2⟩:=r1.oo
 obtain rfl:=r2.ofInts
 exact⟨a,ns,rfl,aM.of h,hl,λl ms mq p o=>k _ _ _ (bL mq _) (.lst mq bA (bb.ao ms)) (q ms p o)⟩
def B7:List PV->(PV->Prop)->Prop:=λxs Q=>∃bs:List Bool,xs = [.lst (bs.map PV.bl)]/\Q (.bl (bs.all id))
def bb.Ay {K:ad}{M:ax->Prop}{H:Hp}:∀{ns:List Bool}{us:List V},bb K M H us (ns.map PV.bl)->us=ns.map V.bl
 |[],_,.nil=>rfl
 |n::r,_,.cons q t=>by
  cases q;rw[bb.Ay t];rfl
def aS4:gU X B7 (λxs H Q=>∃(a:ax) (bs:List Bool),xs = [.ref a]/\aM X.K H a (bs.map V.bl)/\Q (.bl (bs.all id)) H):=by
 rintro H vs xs Q Q' r ⟨bs,rfl,q⟩ k
 obtain⟨v,rfl,r1⟩:=r.one
 obtain⟨a,us,rfl,_,h,r2⟩:=r1.oo
 obtain rfl:=r2.Ay
 exact⟨a,bs,rfl,aM.of h,k _ _ _ (aE.refl _) (.bl _) q⟩
def pP:List PV->(PV->Prop)->Prop:=λxs Q=>∃i j,xs = [.int i,.int j]/\Q (.int (if j<i then j else i))
def pQ:List PV->(PV->Prop)->Prop:=λxs Q=>∃i j,xs = [.int i,.int j]/\Q (.int (if j>i then j else i))
def aS5:gU X pP (λxs H Q=>∃i j,xs = [.int i,.int j]/\Q (.int (if j<i then j else i)) H):=by
 rintro H vs xs Q Q' r ⟨i,j,rfl,q⟩ k
 obtain⟨v,w,rfl,r1,r2⟩:=r.two
 cases r1;cases r2
 exact⟨i,j,rfl,k _ _ _ (aE.refl _) (.int _) q⟩
def aS6:gU X pQ (λxs H Q=>∃i j,xs = [.int i,.int j]/\Q (.int (if j>i then j else i)) H):=by
 rintro H vs xs Q Q' r ⟨i,j,rfl,q⟩ k
 obtain⟨v,w,rfl,r1,r2⟩:=r.two
 cases r1;cases r2
 exact⟨i,j,rfl,k _ _ _ (aE.refl _) (.int _) q⟩
abbrev bV:=List PV->(PV->Prop)->Prop
def rZ (K:ad)(p:bV):Sp:=λvs H Q _=>∃xs Qp,bb K (λ_=>True) H vs xs/\p xs Qp/\∀v H' x,aE H H'->aH K (λa=>H a=none) H' v x->Qp x->Q v H'
def aS7 {p:bV}{E:XK}(h:LE X (aB p tr) σ H Q'):tY (rZ X.K p) [] E (LA X tr) σ H Q':=by
 obtain⟨W,ρ,Q,px,q,k⟩:=h
 refine⟨W,ρ,_,px,q,λvs H1 xs s1 r1 q1=>⟨_,_,by rw[vb];exact r1.any,q1,λv H' x s2 r2 q2=>k v H' x .fr (s1.trans s2) (r2.same (aE.refl _) λ_ z=>s1.free z) q2⟩⟩
def aS8:PV->Option Bool
 |.bw=>some false
 |.bl b=>some b
 |.int i=>some (i != 0)
 |.tup xs=>some (!xs.isEmpty)
 |.lst xs=>some (!xs.isEmpty)
 |.dK ps=>some (!ps.isEmpty)
 |_=>none
def mS (t:aG):dA:=λρ Q=>t ρ λx _=>∃b,aS8 x=some b/\Q b
def B8 {α β:Type}:∀{l:List α}{m:List β},l.length=m.length->l.isEmpty=m.isEmpty
 |[],[],_=>rfl
 |_::_,_::_,_=>rfl
def aS9 {t:aG}{Qb:Bool->Hp->Prop}(h:LT X (mS t) σ H Qb):LE X t σ H λx H'=>∃k,yN X.K x H' k/\Qb k H':=by
 obtain⟨W,ρ,Q,px,q,k⟩:=h
 refine⟨W,ρ,_,px,q,?_⟩;rintro v H1 x g s r ⟨b,e,q⟩;refine⟨b,?_,k _ _ s q⟩;cases r with
 |bw=>cases e;rfl
 |bl b=>cases e;rfl
 |int i=>cases e;rfl
 |str x=>cases e
 |tup h r=>cases e;exact .inr (.inl ⟨_,aW.of h,by rw[B8 r.length]⟩)
 |lst m h r=>cases e;exact .inl ⟨_,aM.of h,by rw[B8 r.length]⟩
 |dK m h e' r=>
  cases e;refine .inr (.inr ⟨_,h,?_⟩)
  have:=congrArg List.length e'
  rw[df,df]at this;rw[B8 this]
 |dT m h e' r=>cases e
 |jo h=>cases e
 |kt h r=>cases e
 |exc h e' c=>cases e
 |fK h e' r=>cases e
 |fT h e' r=>cases e
 |fL h r=>cases e
 |fn h=>cases e
 |ob=>cases e
def B9:PV->Bool
 |.bw=>true
 |_=>false
def pR (neg:Bool):PV->Tg->PV->Tg->PK->Prop:=λx _ y _ Q=>y = .bw/\Q (.bl (if neg=true then !B9 x else B9 x)) .fr
def Oz {K:ad}{M:ax->Prop}{H:Hp}{v:V}{x:PV}(r:aH K M H v x):decide (v = .bw)=B9 x:=by
 cases r<;>rfl
def aT0:fN X (pR false) (λx y H Q=>y = .bw/\Q (.bl (decide (x = .bw))) H):=by
 rintro W Hs H u v x y g g' Q Q' s n r1 r2 ⟨rfl,q⟩ k;cases r2
 exact⟨rfl,by rw[Oz r1];exact k _ _ _ _ (aE.refl _) (.bl _) q⟩
def aT1:fN X (pR true) (λx y H Q=>y = .bw/\Q (.bl (!decide (x = .bw))) H):=by
 rintro W Hs H u v x y g g' Q Q' s n r1 r2 ⟨rfl,q⟩ k;cases r2
 exact⟨rfl,by rw[Oz r1];exact k _ _ _ _ (aE.refl _) (.bl _) q⟩
end
structure sA (K:ad)(H0:Hp)(W:ax->Prop)(g:Bool)(H1:Hp)(J:It)(xs:List PV):Prop where
 go:∀W' H' i,Ev W H1 W' H'->i<xs.length->J.go i H'
 xq:∀W' H' i v H2,Ev W H1 W' H'->J.xq i H' v H2->i<xs.length->aE H' H2/\∃x,xs[i]? = some x/\aH K (Ms H0 W' g) H2 v x
 stop:∀W' H',Ev W H1 W' H'->J.stop xs.length H'
abbrev gW:=bT->(List PV->Bool->Prop)->Prop
def LI (X:Cx)(t:gW):TI:=λσ H R=>∃(W:ax->Prop) (ρ:bT) (Q:List PV->Bool->Prop),PX X.K X.bu W σ ρ H/\t ρ Q/\∀J H1 xs g,aE H H1->sA X.K X.bu W g H1 J xs->Q xs g->R J H1
def Ev.keep {H0:Hp}{W W':ax->Prop}{H H':Hp}{g:Bool}(e:Ev W H W' H')(tw:∀a,W a->∃o,H a=some o/\i5 o=true):iL (Ms H0 W g) (Ms H0 W' g) H H':=by
 have m:∀{a:ax}{o:HO},Ms H0 W g a->H a=some o->IK o=false->Ms H0 W' g a/\H' a=some o:=λ{a o} z h hk=>by
  cases g with
  |true=>
   obtain⟨h1,h2⟩:=e a _ h z.1 hk
   exact⟨⟨h2,z.2⟩,h1⟩
  |false=>
   obtain⟨h1,h2⟩:=e a _ h z hk
   exact⟨h2,h1⟩
 refine⟨λa _ z h=>m z h rfl,λa _ z h=>m z h rfl,λa _ z h=>m z h rfl,λa _ h=>(e a _ h (λz=>?_) rfl).1,λa _ _ h f=>(e a _ h (λz=>?_) f).1⟩
 ·obtain⟨o,h',mu⟩:=tw a z;rw[h]at h';cases h';cases mu
 ·obtain⟨o,h',mu⟩:=tw a z;rw[h]at h';cases h';cases mu
section
variable {X:Cx}{σ:St}{H:Hp}{te:aG}{tr:dI}{R:It→Hp→Prop}
def Oy (K:ad)(tl:TE):TI:=λσ H R=>tl σ H λx H1=>∃a,x = .ref a/\((∃xs,aM K H1 a xs/\R (p7 K a) H1)∨(∃xs,aW K H1 a xs/\R (mH K a) H1))
def uX:Tg->List PV->Bool
 |.fr,_=>true
 |.nw,_=>true
 |_,xs=>flats xs
def cD (te:aG):gW:=λρ Q=>te ρ λx g=>∃xs,mR x=some xs/\(g = .rd->flat x=true)/\Q xs (uX g xs)
def C0 {K:ad}{H0:Hp}{W:ax->Prop}{g:Bool}{H1:Hp}{a:ax}{us:List V}{xs:List PV}(tw:∀a,W a->∃o,H1 a=some o/\i5 o=true)(ha:∀W' H',Ev W H1 W' H'->aM K H' a us)(r:bb K (Ms H0 W g) H1 us xs):sA K H0 W g H1 (p7 K a) xs:=by
 have lr:=r.length;refine⟨λW' H' i e hi=>⟨us,us[i]'(by omega),ha W' H' e,by simp⟩,λW' H' i v H2 e y hi=>?_,λW' H' e=>⟨us,ha W' H' e,by omega⟩⟩
 obtain⟨rfl,y⟩:=y
 obtain⟨x,hx,rx⟩:=r.get (y us (ha W' _ e))
 exact⟨aE.refl _,x,hx,rx.keep (e.keep tw)⟩
def Ox {K:ad}{H0:Hp}{W:ax->Prop}{g:Bool}{H1:Hp}{a:ax}{us:List V}{xs:List PV}(tw:∀a,W a->∃o,H1 a=some o/\i5 o=true)(ha:∀W' H',Ev W H1 W' H'->aW K H' a us)(r:bb K (Ms H0 W g) H1 us xs):sA K H0 W g H1 (mH K a) xs:=by
 have lr:=r.length;refine⟨λW' H' i e hi=>⟨us,us[i]'(by omega),ha W' H' e,by simp⟩,λW' H' i v H2 e y hi=>?_,λW' H' e=>⟨us,ha W' H' e,by omega⟩⟩
 obtain⟨rfl,y⟩:=y
 obtain⟨x,hx,rx⟩:=r.get (y us (ha W' _ e))
 exact⟨aE.refl _,x,hx,rx.keep (e.keep tw)⟩
def o7 {K:ad}{H0 Hs H:Hp}{W:ax->Prop}{σ:St}{ρ:bT}{g:Tg}{us:List V}{xs:List PV}(px:PX K H0 W σ ρ Hs)(hg:g = .rd->flats xs=true)(r:bb K (Mg H0 W Hs g) H us xs):bb K (Ms H0 W (uX g xs)) H us xs:=by
 cases g with
 |fr=>exact r.same (aE.refl _) λ_ z=>px.new z
 |nw=>exact r.same (aE.refl _) λ_ z=>z
 |sh=>
  show bb K (Ms H0 W (flats xs)) H us xs;cases e:flats xs with
  |true=>exact r.flat e
  |false=>exact r.same (aE.refl _) λ_ z=>z
 |rd=>exact r.flat (hg rfl)
def ZZ (h:LI X (cD te) σ H R):Oy X.K (LE X te) σ H R:=by
 obtain⟨W,ρ,Q,px,q,k⟩:=h
 refine⟨W,ρ,_,px,q,?_⟩;rintro v H1 x g s r ⟨xs,e,hg,q⟩;have Cv:=px.mono s;have tw:∀a,W a->∃o,H1 a=some o/\i5 o=true:=λa z=>(Cv.wm a z).2
 cases r with
 |tup h r=>
  cases e;refine⟨_,rfl,.inr ⟨_,aW.of h,k _ _ _ _ s (Ox tw (λW' H' e=>aW.of (e _ _ h (λz=>?_) rfl).1) (o7 px (λz=>by have:=hg z;unfold flat at this;exact this) r)) q⟩⟩
  obtain⟨o,h',mu⟩:=tw _ z;rw[h]at h';cases h';cases mu
 |@lst a us Fj m h r=>
  cases e;have wa:¬W a:=by
   cases g with
   |fr=>exact (px.new m).1
   |nw=>exact m.1
   |sh=>exact m
   |rd=>have:=hg rfl;unfold flat at this;cases this
  exact⟨_,rfl,.inl ⟨_,aM.of h,k _ _ _ _ s (C0 tw (λW' H' e=>aM.of (e _ _ h wa rfl).1) (o7 px (λz=>by have:=hg z;unfold flat at this;cases this) r)) q⟩⟩
 |jo h=>
  cases e;refine⟨_,rfl,.inl ⟨_,h.oo,k _ _ _ _ s (C0 tw (λW' H' e=>(lT.keep (λa o u hz f=>(e _ _ hz (λz=>?_) f).1) h).oo) (o7 (g:=g) px (λz=>cS _) (bb.ao _))) q⟩⟩
  obtain⟨o,h',mu⟩:=tw _ z;rw[hz]at h';cases h';cases mu
 |kt h r=>
  cases e
  exact⟨_,rfl,.inr ⟨_,.inr h,k _ _ _ _ s (Ox tw (λW' H' e=>.inr h) (o7 px (λz=>by have:=hg z;unfold flat at this;exact this) r)) q⟩⟩
 |fL h r=>
  cases e;refine⟨_,rfl,.inl ⟨_,.inl (.inr ⟨_,h⟩),k _ _ _ _ s (C0 tw (λW' H' e=>.inl (.inr ⟨_,(e _ _ h (λz=>?_) rfl).1⟩)) (o7 px (λz=>by have:=hg z;unfold flat at this;exact this) r)) q⟩⟩
  obtain⟨o,h',mu⟩:=tw _ z;rw[h]at h';cases h';cases mu
 |_=>cases e
def eR (lo:Int)(n:Nat):List PV:=(List.range n).map λ(i:Nat)=>PV.int (lo+(i:Int))
def jN (lo:Int)(n:Nat):(eR lo n).length=n:=by unfold eR;rw[df,Dm]
def C1 {lo:Int}{n i:Nat}(h:i<n):(eR lo n)[i]? = some (.int (lo+i)):=by unfold eR;rw[gf,List.getElem?_range h];rfl
def o8 (te:aG):gW:=λρ Q=>te ρ λx _=>∃j:Int,x = .int j/\-1000000<=j/\j<=1000000/\Q (eR 0 j.toNat) true
def sC (ta tb:aG):gW:=λρ Q=>ta ρ λx _=>tb ρ λy _=>∃i j:Int,x = .int i/\y = .int j/\(-1000000<=i/\i<=1000000/\-1000000<=j/\j<=1000000)/\Q (eR i (j-i).toNat) true
def Ow {K:ad}{H0:Hp}{W:ax->Prop}{H1:Hp}(lo:Int)(n:Nat):sA K H0 W true H1 (rD lo n) (eR lo n):=by
 refine⟨λW' H' i e hi=>by rw[jN]at hi;exact hi,λW' H' i v H2 e y hi=>?_,λW' H' e=>by show n<=(eR lo n).length;rw[jN];exact de _⟩;rw[jN]at hi
 obtain⟨rfl,rfl⟩:=y
 exact⟨aE.refl _,_,C1 hi,.int _⟩
def ZY (h:LI X (o8 te) σ H R):Q0 (iG (LE X te) kQ) σ H R:=by
 obtain⟨W,ρ,Q,px,q,k⟩:=h
 refine⟨W,ρ,_,px,q,?_⟩;rintro v H1 x g s r ⟨j,rfl,h1,h2,q⟩;cases r
 exact⟨j,rfl,by omega,by omega,k _ _ _ _ s (Ow 0 j.toNat) q⟩
def ZX {ta tb:aG}(h:LI X (sC ta tb) σ H R):Q2 (iG (LE X ta) (iG (LE X tb) kQ)) σ H R:=by
 obtain⟨W,ρ,Q,px,q,k⟩:=h
 refine⟨W,ρ,_,px,q,λv H1 x g s r q=>⟨W,ρ,_,px.mono s,q,?_⟩⟩;rintro w H2 y g' s2 r2 ⟨i,j,rfl,rfl,h,q⟩;cases r;cases r2
 exact⟨i,j,rfl,by omega,k _ _ _ _ (s.trans s2) (Ow i (j-i).toNat) q⟩
end
abbrev kA:=PV->Bool->bT->(bT->Prop)->Prop
def o9 (K:ad)(own:Nat->Prop)(p:kA)(t:TG):Prop:=∀(H0:Hp) (W:ax->Prop) (σ:St) (ρ:bT) (H:Hp) (v:V) (x:PV) (g:Bool) (Q:bT->Prop) (Q':St->Hp->Prop),
 PX K H0 W σ ρ H->aH K (Ms H0 W g) H v x->p x g ρ Q->(∀cj gi,PX K H0 W cj gi H->(∀i,¬own i->cj[i]? = σ[i]?)->cj.length=σ.length->Q gi->Q' cj H)->t v σ H Q'
def bW (i:Nat):kA:=λx g ρ Q=>Q (ρ.set i (some (.sh (g||flat x) x)))
def uY {K:ad}{H0 H:Hp}{W:ax->Prop}{v:V}{x:PV}{g:Bool}(r:aH K (Ms H0 W g) H v x):aH K (Ms H0 W (g||flat x)) H v x:=by
 cases g with
 |true=>exact r
 |false=>
  show aH K (Ms H0 W (flat x)) H v x;cases e:flat x with
  |true=>exact r.flat e
  |false=>exact r
def pS (K:ad)(i:Nat):o9 K (· = i) (bW i) (cZ i):=by
 intro H0 W σ ρ H v x g Q Q' px r q k;exact k _ _ (px.vg (uY r)) (λj hj=>by rw[xo (Ne.symm hj)]) (va ..) q
def fO (i j:Nat):kA:=λx g ρ Q=>∃y z,x = .tup [y,z]/\Q ((ρ.set i (some (.sh (g||flat y) y))).set j (some (.sh (g||flat z) z)))
def sE (K:ad)(i j:Nat):o9 K (λk=>k=i∨k=j) (fO i j) (lK K 2 (gG (cZ i) (gG (cZ j) lJ))):=by
 intro H0 W σ ρ H v x g Q Q' px r q k
 obtain⟨y,z,rfl,q⟩:=q
 obtain⟨a,us,rfl,h,r⟩:=r.qj
 obtain⟨u1,u2,rfl,r1,r2⟩:=r.two
 refine⟨a,_,rfl,aW.of h,rfl,u1,_,rfl,u2,_,rfl,rfl,k _ _ ((px.vg (uY r1)).vg (uY r2)) (λk hk=>?_) (by rw[va,va]) q⟩;rw[xo (λe=>hk (.inr e.symm)),xo (λe=>hk (.inl e.symm))]
section
variable {X:Cx}{σ:St}{H:Hp}{D:dS}
def fB (ti:gW)(p:kA)(tb:aO):aO:=λD ρ=>ti ρ λxs g=>∃I:Nat->bT->Prop,I 0 ρ/\(∀i x gi,xs[i]? = some x->I i gi->p x g gi λkf=>tb { D with nx:=I (i+1),ct:=I (i+1),bk:=D.nx } kf)/\∀gi,I xs.length gi->D.nx gi
def ZW {ti:gW}{p:kA}{g:TG}{tb:aO}{own:Nat->Prop}(hg:o9 X.K own p g)(h:LS X (fB ti p tb) D σ H):tR (LI X ti) g (LS X tb) D σ H:=by
 obtain⟨W,ρ,D',px,q,k⟩:=h
 refine⟨W,ρ,_,px,q,?_⟩;rintro J H1 xs gb s it ⟨I,i0,turn,fin⟩;refine⟨λi m kb H2=>m=xs.length-i/\i<=xs.length/\∃W2 kf,PX X.K X.bu W2 kb kf H2/\Ev W H1 W2 H2/\I i kf,⟨xs.length,by omega,ng _,W,ρ,px.mono s,Ev.refl _ _,i0⟩,?_⟩;rintro i m kb H2 ⟨rfl,hi,W2,kf,yo,e2,i2⟩;have e0:Ev W H W2 H2:=(Ev.same s).trans e2;by_cases jw:i<xs.length
 ·refine .inr ⟨it.go W2 H2 i e2 jw,λvc H3=>∃W3 ue,PX X.K X.bu W3 vc ue H3/\Ev W H1 W3 H3/\I (i+1) ue,λvc H3 ⟨W3,ue,a,b,c⟩=>⟨xs.length-(i+1),by omega,rfl,jw,W3,ue,a,b,c⟩,λv H3 y=>?_⟩
  obtain⟨s3,x,hx,rx⟩:=it.xq W2 H2 i v H3 e2 y jw
  refine hg X.bu W2 kb kf H3 v x gb _ _ (yo.mono s3) rx (turn i x kf hx i2) λFi BM Gg _ _ q4=>?_
  have e3:Ev W H1 W2 H3:=e2.trans (Ev.same s3);have RJ:Ev W H W2 H3:=e0.trans (Ev.same s3)
  exact⟨W2,BM,_,Gg,q4,λW' cj H' gi e p q=>⟨W',gi,p,e3.trans e,q⟩,k.rt,λW' cj H' gi e p q=>k.nx W' cj H' gi (RJ.trans e) p q,λW' cj H' gi e p q=>⟨W',gi,p,e3.trans e,q⟩⟩
 ·have e:i=xs.length:=by omega
  subst e;exact .inl ⟨it.stop W2 H2 e2,k.nx W2 kb H2 kf e0 yo (fin kf i2)⟩
end
def Slot.EY:Slot->Slot
 |.kp _ x ks=>.kp false x ks
 |.sh _ x=>.sh false x
 |.own x=>.sh false x
def pT (fr:List (Option Nat))(ρ:bT):bT:=fr.map λo=>o.bind λj=>(ρ[j]?).join.map Slot.EY
def o0.any {K:ad}{H0 H:Hp}{a:ax}{st un:List PV}(h:o0 K H0 H a st un):o0 K (λ_=>none) H a st un:=by
 obtain⟨C,dx,l1,l2,yj,Aq,h1,h2,h⟩:=h
 exact⟨C,dx,l1,l2,yj,Aq,h1,⟨rfl,rfl,rfl,rfl⟩,h⟩
def iV.any {K:ad}{H0 H:Hp}{ks:List (ax×List PV×List PV)}(h:iV K H0 H ks):iV K (λ_=>none) H ks:=⟨λk hk=>(h.1 k hk).any,h.2⟩
def Slot.Bw {m:Slot}{x:PV}(h:m.EY = .own x):False:=by
 cases m<;>cases h
def ZV {K:ad}{H0 H1 H1' H':Hp}{W W':ax->Prop}{v:V}{m:Slot}(r:pH K H0 W H1 v m)(k:iL (λ_=>False) (λ_=>False) H1 H')(f:∀b o,H1 b=some o->i5 o=false->H' b=some o)(rv:aH K (λa=>¬W' a) H' v m.val):pH K H1' W' H' v m.EY:=by
 cases m with
 |sh g x=>exact rv
 |own x=>exact rv
 |kp g x ks=>exact⟨⟨r.1.1.keep k,r.1.2⟩,r.2.any.keep k f⟩
def oA (D:ax):ax->Prop:=λa=>a=D
def ZU {K:ad}{H0:Hp}{W:ax->Prop}{σ:St}{ρ:bT}{H1 H':Hp}{D:ax}{acc:List V}{fr:List (Option Nat)}(px:PX K H0 W σ ρ H1)(hD:H1 D=none)(s:aE H1 H')(ha:H' D=some (.lst acc)) :
  PX K H1 (oA D) (iI fr σ) (pT fr ρ) H':=by
 have old:∀{a:ax}{o:HO},H1 a=some o->a≠D:=λ{a o} e z=>by rw[z,hD]at e;cases e
 refine⟨by unfold iI pT;rw[df,df],s,λa z=>by cases z;exact⟨hD,_,ha,rfl⟩,λi m h=>?_,λi j x y a h1=>?_⟩
 ·unfold pT at h
  rw[gf]at h;cases ef:fr[i]? with
  |none=>rw[ef]at h;cases h
  |some o=>
   rw[ef]at h;cases o with
   |none=>cases h
   |some j=>
    have h:some ((ρ[j]?).join.map Slot.EY)=some (some m):=h;cases er:ρ[j]? with
    |none=>rw[er]at h;cases h
    |some o=>
     rw[er]at h;cases o with
     |none=>cases h
     |some m0=>
      cases h
      obtain⟨v,ev,r⟩:=px.sl j m0 er
      refine⟨v,?_,?_⟩
      ·unfold iI
       rw[gf,ef];show some ((σ[j]?).join)=_;rw[ev];rfl
      ·have r':aH K (λ_=>True) H1 v m0.val:=(OJ (Hs:=H1) r).same (aE.refl _) λ_ _=>trivial
       refine ZV r (.same s λ_ z=>z) (λ_ _ e _=>s _ _ e) ?_;exact r'.keep ⟨λa _ _ e=>⟨old e,s _ _ e⟩,λa _ _ e=>⟨old e,s _ _ e⟩,λa _ _ e=>⟨old e,s _ _ e⟩,λ_ _ e=>s _ _ e,λ_ _ _ e _=>s _ _ e⟩
 ·unfold pT at h1
  rw[gf]at h1;cases ef:fr[i]? with
  |none=>rw[ef]at h1;cases h1
  |some o=>
   rw[ef]at h1;cases o with
   |none=>cases h1
   |some j=>
    have h1:some ((ρ[j]?).join.map Slot.EY)=some (some (Slot.own x)):=h1;cases er:ρ[j]? with
    |none=>rw[er]at h1;cases h1
    |some o=>
     rw[er]at h1;cases o with
     |none=>cases h1
     |some m0=>exact (Slot.Bw (jr (jr h1))).elim
section
variable {X:Cx}{σ:St}{H:Hp}{Q':VK}
abbrev _root_.L2.Cx.qm (X:Cx)(H1:Hp):Cx:={ X with bu:=H1 }
def c9 (ti:gW)(fr:List (Option Nat))(p:kA)(tc:dA)(te:aG):aG:=λρ Q=>ti ρ λxs g=>xs.length<=16000000/\∃I:Nat->List PV->Prop,I 0 []/\
 (∀i x acc,xs[i]? = some x->I i acc->p x false (pT fr ρ) λkf=>tc kf λb=>if b=true then te kf λy gy=>Nw gy y/\I (i+1) (acc++[y]) else I (i+1) acc)/\∀acc,I xs.length acc->Q (.lst acc) .fr
def mT {ti:gW}{fr:List (Option Nat)}{p:kA}{g:TG}{tc:dA}{te:aG}{own:Nat->Prop}(hg:o9 X.K own p g)(ho:∀i,own i->fr[i]? = some none)(h:LE X (c9 ti fr p tc te) σ H Q') :
  zQ (LI X ti) fr (λ_=>g) (λH1=>LT (X.qm H1) tc) (λH1=>LE (X.qm H1) te) σ H Q':=by
 obtain⟨W,ρ,Q,px,q,k⟩:=h
 refine⟨W,ρ,_,px,q,?_⟩;rintro J H1 xs gb s it ⟨hl,I,i0,turn,fin⟩ D hD;have Cv:=px.mono s;refine⟨λi m acc H'=>m=xs.length-i/\i<=xs.length/\aE H1 H'/\H' D=some (.lst acc)/\∃ys,bb X.K (Ms H1 (oA D) true) H' acc ys/\ys.length<=i/\I i ys,⟨xs.length,by omega,ng _,bL hD _,bA,[],.nil,de _,i0⟩,?_⟩;rintro i m acc H' ⟨rfl,hi,sm,ha,ys,ry,hy,iy⟩;refine⟨ha,?_⟩;have ev:Ev W H1 (pL W D) H':=Ev.own sm hD;by_cases jw:i<xs.length
 ·refine .inr ⟨it.go _ H' i ev jw,λv H2 y=>?_⟩
  obtain⟨s2,x,hx,rx⟩:=it.xq _ H' i v H2 ev y jw
  have EK:=s2 _ _ ha;have Qi:PX X.K H1 (oA D) (iI fr σ) (pT fr ρ) H2:=ZU Cv hD (sm.trans s2) EK;have Qf:aH X.K (Ms H1 (oA D) false) H2 v x:=rx.same (aE.refl _) λa z=>by
   cases gb with
   |true=>exact λe=>z.1 (.inr e)
   |false=>exact λe=>z (.inr e)
  refine hg H1 (oA D) _ _ H2 v x false _ _ Qi Qf (turn i x ys hx iy) λkb kf yo GV aj q2=>⟨⟨aj.symm,λj w e=>?_⟩,?_⟩
  ·by_cases oj:own j
   ·have:=ho j oj
    unfold iI at e;rw[gf,this]at e;cases e
   ·rw[GV j oj];exact e
  ·refine⟨oA D,kf,_,yo,q2,λb H4 s4 q4=>?_⟩
   have Jd:=s4 _ _ EK;have Iu:=(sm.trans s2).trans s4;cases b with
   |false=>
    refine bK ⟨xs.length-(i+1),by omega,rfl,jw,Iu,Jd,ys,ry.same (s2.trans s4) λ_ z=>z,by omega,by simpa using q4⟩
   |true=>
    refine bP ⟨oA D,kf,_,yo.mono s4,by simpa using q4,?_⟩;rintro w H5 y gy s5 Qe ⟨nw,q5⟩;have Jc:=s5 _ _ Jd;have lr:=ry.length;refine⟨Jc,iS (by omega),xs.length-(i+1),by omega,rfl,jw,λb o e=>?_,bA,ys++[y],?_,by rw[jg,uy];omega,q5⟩
    ·rw[aK (λz=>by rw[z,hD]at e;cases e)]
     exact s5 _ _ (Iu _ _ e)
    ·exact ((ry.same ((s2.trans s4).trans s5) λ_ z=>z).append (.cons (Nw.rep (yo.mono s4) nw Qe) .nil)).keep (.upd Jc rfl λb m=>⟨m.1,m⟩)
 ·have e:i=xs.length:=by omega
  subst e;refine .inl ⟨it.stop _ H' ev,k _ H' _ .fr (s.trans sm) (.lst (s.free hD) ha (ry.same (aE.refl _) λ_ z=>s.free z.2)) (fin ys iy)⟩
def dB:dA:=λ_ Q=>Q true
def ZT {Qb:Bool->Hp->Prop}(h:LT X dB σ H Qb):zN σ H Qb:=by
 obtain⟨W,ρ,Q,px,q,k⟩:=h
 exact k _ _ (aE.refl _) q
end
section
variable {κ:Type}[DecidableEq κ]
def bX (ps:List (κ×PV))(k:κ):Option PV:=(ps.find? λp=>decide (p.1=k)).map (·.2)
def dF (ps:List (κ×PV))(k:κ)(x:PV):List (κ×PV):=if (ps.any λp=>decide (p.1=k))=true then ps.map (λp=>if p.1=k then (p.1,x) else p) else ps++[(k,x)]
variable {K:ad}{M:ax→Prop}{H:Hp}
def lV (k:κ):∀{bf:List (κ×V)}{ps:List (κ×PV)},bf.map (·.1)=ps.map (·.1)->bb K M H (bf.map (·.2)) (ps.map (·.2))->(bX ps k=none->i4 bf k=none)/\∀x,bX ps k=some x->∃v,i4 bf k=some v/\aH K M H v x
 |[],[],_,_=>⟨λ_=>rfl,λx h=>by cases h⟩
 |[],_::_,e,_=>by cases e
 |_::_,[],e,_=>by cases e
 |(k1,v)::bf,(k2,x)::ps,e,r=>by
  injection e with e1 e2
  have e1:k1=k2:=e1;subst e1;cases r with
  |cons r t=>
   obtain⟨h1,h2⟩:=lV k e2 t
   unfold bX i4 at h1 h2 ⊢;by_cases e:k1=k
   ·simp only[AN,e,decide_true,Option.map_some]
    exact⟨λz=>(by cases z),λy z=>(by cases z;exact⟨v,rfl,r⟩)⟩
   ·simp only[AN,e,decide_false]
    exact⟨h1,h2⟩
def ZS (k:κ){bf:List (κ×V)}{ps:List (κ×PV)}(e:bf.map (·.1)=ps.map (·.1)):(bf.any λp=>decide (p.1=k))=ps.any λp=>decide (p.1=k):=by
 have h1:(bf.any λp=>decide (p.1=k))=(bf.map (·.1)).any λz=>decide (z=k):=by rw[List.any_map];rfl
 have h2:(ps.any λp=>decide (p.1=k))=(ps.map (·.1)).any λz=>decide (z=k):=by rw[List.any_map];rfl
 rw[h1,h2,e]
def Ov (k:κ){w:V}{y:PV}(q:aH K M H w y):∀{bf:List (κ×V)}{ps:List (κ×PV)},bf.map (·.1)=ps.map (·.1)->bb K M H (bf.map (·.2)) (ps.map (·.2))->
  (bf.map λkv=>if kv.1=k then (kv.1,w) else kv).map (·.1)=(ps.map λkv=>if kv.1=k then (kv.1,y) else kv).map (·.1)/\bb K M H ((bf.map λkv=>if kv.1=k then (kv.1,w) else kv).map (·.2)) ((ps.map λkv=>if kv.1=k then (kv.1,y) else kv).map (·.2))
 |[],[],_,_=>⟨rfl,.nil⟩
 |[],_::_,e,_=>by cases e
 |_::_,[],e,_=>by cases e
 |(k1,v)::bf,(k2,x)::ps,e,r=>by
  injection e with e1 e2
  have e1:k1=k2:=e1;subst e1;cases r with
  |cons r t=>
   obtain⟨h1,h2⟩:=Ov k q e2 t
   by_cases e:k1=k
   ·simp only[ib,e,if_true]
    exact⟨by rw[h1],.cons q h2⟩
   ·simp only[ib,e,me]
    exact⟨by rw[h1],.cons r h2⟩
def Ou (k:κ){w:V}{y:PV}(q:aH K M H w y){bf:List (κ×V)}{ps:List (κ×PV)}(e:bf.map (·.1)=ps.map (·.1))(r:bb K M H (bf.map (·.2)) (ps.map (·.2))) :
  (fJ bf k w).map (·.1)=(dF ps k y).map (·.1)/\bb K M H ((fJ bf k w).map (·.2)) ((dF ps k y).map (·.2)):=by
 unfold fJ dF;rw[ZS k e];split
 ·exact Ov k q e r
 ·rw[gu,gu,gu,gu,e]
  exact⟨rfl,r.append (.cons q .nil)⟩
end
def kP:aC->PV
 |.inl i=>.int i
 |.inr x=>.str x
def C2 {K:ad}{M:ax->Prop}{H:Hp}{v:V}{k:aC}(r:aH K M H v (kP k)):v=kV k:=by
 cases k with
 |inl i=>cases r;rfl
 |inr x=>cases r;rfl
def uZ {K:ad}{M:ax->Prop}{H:Hp}:∀{ks:List aC}{us:List V},bb K M H us (ks.map kP)->us=ks.map kV
 |[],_,.nil=>rfl
 |k::r,_,.cons q t=>by rw[C2 q,uZ t];rfl
def Ij:PV->PV
 |.fK ps=>.dK ps
 |.fT ps=>.dT ps
 |x=>x
def v0 (x y:PV)(o:Option PV):Prop:=(∃ps k,Ij x = .dK ps/\y=kP k/\o=bX ps k)∨(∃ps k,Ij x = .dT ps/\y = .tup (k.map kP)/\o=bX ps k)
def v3 {K:ad}{M M2:ax->Prop}{H:Hp}{v w:V}{x y:PV}{o:Option PV}(h:v0 x y o)(rx:aH K M H v x)(ry:aH K M2 H w y):∃a o',v = .ref a/\gT H a w o'/\(o=none->o'=none)/\∀z,o=some z->∃u,o'=some u/\aH K M H u z:=by
 rcases h with⟨ps,k,ex,rfl,rfl⟩|⟨ps,k,ex,rfl,rfl⟩
 ·obtain rfl:=C2 ry
  cases rx with
  |dK m h e r=>cases ex;exact⟨_,_,rfl,gT.k h,(lV k e r).1,(lV k e r).2⟩
  |fK h e r=>cases ex;exact⟨_,_,rfl,.inl ⟨_,k,.inr ⟨_,h⟩,rfl,rfl⟩,(lV k e r).1,(lV k e r).2⟩
  |_=>cases ex
 ·obtain⟨b,us,rfl,hb,rb⟩:=ry.qj
  obtain rfl:=uZ rb;cases rx with
  |dT m h e r=>cases ex;exact⟨_,_,rfl,gT.t h hb,(lV k e r).1,(lV k e r).2⟩
  |fT h e r=>cases ex;exact⟨_,_,rfl,.inr ⟨_,k,b,.inr ⟨_,h⟩,rfl,hb,rfl⟩,(lV k e r).1,(lV k e r).2⟩
  |_=>cases ex
section
variable {X:Cx}{σ:St}{H:Hp}{D:dS}{tk td te:aG}{Q':VK}
def kB (neg:Bool)(tk td:aG):aG:=λρ Q=>tk ρ λy _=>td ρ λx _=>∃o,v0 x y o/\Q (.bl (if neg=true then !o.isSome else o.isSome)) .fr
def Ot {α β:Type}{o:Option α}{o':Option β}{P:β->α->Prop}(h1:o=none->o'=none)(h2:∀z,o=some z->∃u,o'=some u/\P u z):o'.isSome=o.isSome:=by
 cases o with
 |none=>rw[h1 rfl];rfl
 |some z=>obtain⟨u,e,_⟩:=h2 z rfl;rw[e];rfl
def ZR (h:LE X (kB false tk td) σ H Q'):V8 (LE X tk) (LE X td) σ H Q':=by
 obtain⟨W,ρ,Q,px,q,k⟩:=h
 refine⟨W,ρ,_,px,q,λw H1 y g s r q=>⟨W,ρ,_,px.mono s,q,?_⟩⟩;rintro v H2 x g' s2 r2 ⟨o,ak,q⟩
 obtain⟨a,o',rfl,dg,h1,h2⟩:=v3 ak r2 (r.same s2 λ_ z=>z)
 refine⟨a,o',rfl,dg,?_⟩;rw[Ot h1 h2];exact k _ _ _ .fr (s.trans s2) (.bl _) q
def ZQ (h:LE X (kB true tk td) σ H Q'):V9 (LE X tk) (LE X td) σ H Q':=by
 obtain⟨W,ρ,Q,px,q,k⟩:=h
 refine⟨W,ρ,_,px,q,λw H1 y g s r q=>⟨W,ρ,_,px.mono s,q,?_⟩⟩;rintro v H2 x g' s2 r2 ⟨o,ak,q⟩
 obtain⟨a,o',rfl,dg,h1,h2⟩:=v3 ak r2 (r.same s2 λ_ z=>z)
 refine⟨a,o',rfl,dg,?_⟩;rw[Ot h1 h2];exact k _ _ _ .fr (s.trans s2) (.bl _) q
def pU (td tk:aG):aG:=λρ Q=>td ρ λx g=>tk ρ λy _=>∃z,v0 x y (some z)/\Q z g
def ZP (h:LE X (pU td tk) σ H Q'):V7 (LE X td) (LE X tk) σ H Q':=by
 obtain⟨W,ρ,Q,px,q,k⟩:=h
 refine⟨W,ρ,_,px,q,λv H1 x g s r q=>⟨W,ρ,_,px.mono s,q,?_⟩⟩;rintro w H2 y g' s2 r2 ⟨z,ak,q⟩
 obtain⟨a,o',rfl,dg,h1,h2⟩:=v3 ak (r.same s2 λ_ z=>z) r2
 obtain⟨u,rfl,ru⟩:=h2 z rfl
 exact⟨a,u,rfl,dg,k _ _ _ g (s.trans s2) ru q⟩
def PX.FQ {K:ad}{H0:Hp}{W:ax->Prop}{σ:St}{ρ:bT}{H:Hp}{i:Nat}{a:ax}{x:PV}{bf:List (aC×V)}{ps:List (aC×PV)}(p:PX K H0 W σ ρ H)(hi:ρ[i]? = some (some (.own x)))(ha:σ[i]? = some (some (.ref a)))(wa:W a)(r:bf.map (·.1)=ps.map (·.1)/\bb K (Ms H0 W true) (upd H a (.dK bf)) (bf.map (·.2)) (ps.map (·.2))):PX K H0 W σ (ρ.set i (some (.own (.dK ps)))) (upd H a (.dK bf)):=p.xt hi ha wa rfl (y:=.dK ps) ⟨bf,bA,r⟩
def PX.FP {K:ad}{H0:Hp}{W:ax->Prop}{σ:St}{ρ:bT}{H:Hp}{i:Nat}{a:ax}{x:PV}{bf:List (List aC×V)}{ps:List (List aC×PV)}(p:PX K H0 W σ ρ H)(hi:ρ[i]? = some (some (.own x)))(ha:σ[i]? = some (some (.ref a)))(wa:W a)(r:bf.map (·.1)=ps.map (·.1)/\bb K (Ms H0 W true) (upd H a (.dT bf)) (bf.map (·.2)) (ps.map (·.2))):PX K H0 W σ (ρ.set i (some (.own (.dT ps)))) (upd H a (.dT bf)):=p.xt hi ha wa rfl (y:=.dT ps) ⟨bf,bA,r⟩
def v4 {κ α β:Type}{l:List (κ×α)}{m:List (κ×β)}(e:l.map (·.1)=m.map (·.1)):l.length=m.length:=by
 have:=congrArg List.length e
 rw[df,df]at this;exact this
def pV (i:Nat)(tk te:aG):aO:=λD ρ=>te ρ λz g=>∃ps,ρ[i]? = some (some (.own (.dK ps)))/\tk ρ λy _=>∃k,y=kP k/\Nw g z/\ps.length<16000000/\D.nx (ρ.set i (some (.own (.dK (dF ps k z)))))
def ZO {i:Nat}(h:LS X (pV i tk te) D σ H):zI (gA i) (LE X tk) (LE X te) D σ H:=by
 obtain⟨W,ρ,D',px,q,k⟩:=h
 refine⟨W,ρ,_,px,q,?_⟩;rintro w H1 z g s rz ⟨ps,hi,q⟩
 obtain⟨v,ev,a,rfl,wa,bf,ea,e1,r⟩:=(px.mono s).sl i _ hi
 refine⟨_,ev,W,ρ,_,px.mono s,q,?_⟩;rintro kv H2 y g' s2 ry ⟨kk,rfl,nw,hl,q⟩;obtain rfl:=C2 ry;have AL:=s2 _ _ ea;refine⟨a,_,rfl,mK.k AL (iS (by rw[v4 e1];omega)),?_⟩;refine k.nx W σ _ _ ((Ev.same (s.trans s2)).trans (Ev.upd wa)) ((px.mono (s.trans s2)).FQ hi ev wa ?_) q
 obtain⟨h1,h2⟩:=Ou kk ((Nw.rep px nw rz).same s2 λ_ z=>z) e1 (r.same s2 λ_ z=>z)
 exact⟨h1,h2.keep (.upd AL rfl λb m=>⟨mQ wa m,m⟩)⟩
def ZN (h:LE X (qC (.dK [])) σ H Q'):W7 σ H Q':=by
 obtain⟨W,ρ,Q,px,q,k⟩:=h
 exact λp hp=>k _ _ _ .fr (bL hp _) (.dK hp bA rfl .nil) q
def ZM (h:LE X (qC (.dT [])) σ H Q'):W8 σ H Q':=by
 obtain⟨W,ρ,Q,px,q,k⟩:=h
 exact λp hp=>k _ _ _ .fr (bL hp _) (.dT hp bA rfl .nil) q
end
def e7:Nat->PV->PV->Bool
 |_,.bw,.bw=>true
 |_,.bl a,.bl b=>a==b
 |_,.int a,.int b=>a==b
 |_,.str a,.str b=>a==b
 |n+1,.tup xs,.tup ys=>(xs.zip ys).all (λp=>e7 n p.1 p.2)&&xs.length==ys.length
 |n+1,.lst xs,.lst ys=>(xs.zip ys).all (λp=>e7 n p.1 p.2)&&xs.length==ys.length
 |n+1,.kt xs,.kt ys=>(xs.zip ys).all (λp=>e7 n p.1 p.2)&&xs.length==ys.length
 |_,_,_=>false
def gX:Nat->PV->PV->Bool
 |_,.bw,.bw=>true
 |_,.bl _,.bl _=>true
 |_,.int _,.int _=>true
 |_,.str _,.str _=>true
 |_,.bw,.int _=>true
 |_,.int _,.bw=>true
 |n+1,.tup xs,.tup ys=>(xs.zip ys).all (λp=>gX n p.1 p.2)
 |n+1,.lst xs,.lst ys=>(xs.zip ys).all (λp=>gX n p.1 p.2)
 |n+1,.kt xs,.kt ys=>(xs.zip ys).all (λp=>gX n p.1 p.2)
 |_+1,.bw,.tup _=>true
 |_+1,.tup _,.bw=>true
 |_,_,_=>false
def ZL (n:Nat)(a b:Int):e7 n (.int a) (.int b)=(a==b):=by cases n<;>rfl
def Oq (n:Nat):∀(a b:af),((((ao a).zip (ao b)).all λp=>e7 n p.1 p.2)&&(ao a).length==(ao b).length)=decide (a=b)
 |[],[]=>rfl
 |[],_::_=>by simp
 |_::_,[]=>by simp
 |x::a,y::b=>by
  have ih:=Oq n a b;simp only[ib,List.zip_cons_cons,BB,ie,ZL]at ih ⊢;by_cases e:x=y
  ·subst e
   have:((ao a).length+1==(ao b).length+1)=((ao a).length==(ao b).length):=by simp
   rw[this,Bd,Bool.true_and,ih];simp
  ·have:(x==y)=false:=beq_eq_false_iff_ne.mpr e
   rw[this,Bool.false_and,Bool.false_and];simp[e]
def Oo (n:Nat)(a b:af):e7 (n+1) (.tup (ao a)) (.tup (ao b))=decide (a=b):=Oq n a b
def Om (n:Nat):∀(a b:af),(((ao a).zip (ao b)).all λp=>gX n p.1 p.2)=true
 |[],_=>by simp
 |_::_,[]=>by simp
 |x::a,y::b=>by
  simp only[ib,List.zip_cons_cons,BB,Om n a b,Ak];cases n<;>rfl
def Ol (n:Nat)(a b:af):gX (n+1) (.tup (ao a)) (.tup (ao b))=true:=Om n a b
def v5 (neg:Bool):PV->Tg->PV->Tg->PK->Prop:=λx _ y _ Q=>∃i ns,x = .int i/\mR y=some (ao ns)/\Q (.bl (if neg=true then !decide (i∈ns) else decide (i∈ns))) .fr
def C3 (n:Nat)(neg:Bool):PV->Tg->PV->Tg->PK->Prop:=λx _ y _ Q=>((∃xs ys,x = .tup xs/\y = .tup ys)∨(∃xs ys,x = .lst xs/\y = .lst ys))/\gX (n+1) x y=true/\Q (.bl (if neg=true then !e7 (n+1) x y else e7 (n+1) x y)) .fr
abbrev pW:=bT->(Option Int->Prop)->Prop
def iX (xs:List PV)(lo hi:Option Int):List PV:=(xs.drop (HT.bB xs.length 0 lo)).take (HT.bB xs.length xs.length hi-HT.bB xs.length 0 lo)
def ZK:PV->List PV->PV
 |.tup _,ys=>.tup ys
 |.kt _,ys=>.tup ys
 |_,ys=>.lst ys
def v6:pW:=λ_ Q=>Q none
def pX (te:aG):pW:=λρ Q=>te ρ λx _=>∃i,x = .int i/\Q (some i)
def sF (te:aG)(tl th:pW):aG:=λρ Q=>te ρ λx _=>tl ρ λlo=>th ρ λhi=>∃xs,zi x=some xs/\flats xs=true/\Q (ZK x (iX xs lo hi)) .fr
def iM (N:List Str)(xs:List PV):bT:=xs.map (λx=>some (.sh (flat x) x))++List.replicate (N.length-xs.length) none
abbrev fX (ta tb:aG):aG:=q2 (gK λi j=>.int (i+j)) ta tb
abbrev iY (ta tb:aG):aG:=q2 (gK λi j=>.int (i-j)) ta tb
abbrev sG (ta tb:aG):aG:=q2 (RI rG λi j=>.int (i*j)) ta tb
abbrev mU (ta tb:aG):aG:=q2 (RI yI λi j=>.int (i/j)) ta tb
abbrev gM (ta tb:aG):aG:=q2 (RI (λ_ j=>0<j) λi j=>.int (i%j)) ta tb
abbrev ZJ (ta tb:aG):aG:=q2 (RI yJ λi j=>.int (i*2^j.toNat)) ta tb
abbrev pY (ta tb:aG):aG:=q2 (gK λi j=>.bl (decide (i<j))) ta tb
abbrev Qh (ta tb:aG):aG:=q2 (gK λi j=>.bl (decide (i<=j))) ta tb
abbrev v7 (ta tb:aG):aG:=q2 (gK λi j=>.bl (decide (j<i))) ta tb
abbrev C4 (ta tb:aG):aG:=q2 (gK λi j=>.bl (decide (j<=i))) ta tb
abbrev jO (ta tb:aG):aG:=q2 (o4 false) ta tb
abbrev C5 (ta tb:aG):aG:=q2 (o4 true) ta tb
abbrev ZI (ta tb:aG):aG:=q2 (pR false) ta tb
abbrev Oj (ta tb:aG):aG:=q2 (pR true) ta tb
abbrev bI (ta tb:aG):aG:=q2 B5 ta tb
def iN:List PV->(PV->Prop)->Prop:=λxs Q=>OA xs Q/\∀ns,xs≠[.jo ns]
def QE (X:Cx)(e:Expr)(t:aG):Prop:=PE X e (LE X t)
def QT (X:Cx)(e:Expr)(t:dA):Prop:=PT X e (LT X t)
def QW (X:Cx)(e:Expr)(t:dA):Prop:=PW X e (LT X t)
def QA (X:Cx)(es:List Expr)(t:dI):Prop:=PA X es (LA X t)
def QS (X:Cx)(st:Stmt)(t:aO):Prop:=PS X st (LS X t)
def gN (X:Cx)(st:List Stmt)(t:aO):Prop:=fI X st (LS X t)
def QI (X:Cx)(tg iter:Expr)(t:gW):Prop:=PI X tg iter (LI X t)
section
variable {X:Cx}
def cG {e:Expr}{t t':TE}(h:PE X e t)(m:∀σ H Q,t' σ H Q->t σ H Q):PE X e t':=λag s σ H Q I q=>h ag s σ H Q I (m σ H Q q)
def pZ {e:Expr}{t t':TT}(h:PT X e t)(m:∀σ H Q,t' σ H Q->t σ H Q):PT X e t':=λag s σ H Q I q=>h ag s σ H Q I (m σ H Q q)
def Iv {e:Expr}{t t':TT}(h:PW X e t)(m:∀σ H Q,t' σ H Q->t σ H Q):PW X e t':=λwh ag s σ H Q I q=>h wh ag s σ H Q I (m σ H Q q)
def Iy {e:List Expr}{t t':TA}(h:PA X e t)(m:∀σ H Q,t' σ H Q->t σ H Q):PA X e t':=λpos ag s σ H Q I q=>h pos ag s σ H Q I (m σ H Q q)
def fC {e:Stmt}{t t':TS}(h:PS X e t)(m:∀D σ H,t' D σ H->t D σ H):PS X e t':=λag s σ H D I q=>h ag s σ H D I (m D σ H q)
def Oi {e:List Stmt}{t t':TS}(h:fI X e t)(m:∀D σ H,t' D σ H->t D σ H):fI X e t':=λag s σ H D I q=>h ag s σ H D I (m D σ H q)
def sH {tg e:Expr}{t t':TI}(h:PI X tg e t)(m:∀σ H R,t' σ H R->t σ H R):PI X tg e t':=λag s σ H R I q=>h ag s σ H R I (m σ H R q)
variable {a b c e o:Expr}{es dN:List Expr}{ta tb te to tk:aG}{tr:dI}{tA Av tc:dA}{pos p2 px:Pos}{st:Stmt}{Fn:List Stmt}{t u:aO}
def qv (i:Nat){x:Str}{pos:Pos}(hN:X.N[i]? = some x:=by rfl)(hv:iR X.env.scope x:=by first|exact Or.inl rfl|exact Or.inr (Or.inl rfl)|exact Or.inr (Or.inr rfl))(hd:(x==("__debug__":Str))=false:=by decide)(ko:(x==("__classdict__":Str))=false:=by decide):QE X (.Name x pos) (a5 i):=cG (kN hN hv hd ko) λ_ _ _=>aP5
def aT {i j}:QE X (.Constant (.int i) j pos) (qC (.int i)):=cG nN λ_ _ _=>rV λ_=>.int i
def sI {i j}:QE X (.Constant (.bool i) j pos) (qC (.bl i)):=cG O1 λ_ _ _=>rV λ_=>.bl i
def sJ {j}:QE X (.Constant .none j pos) (qC .bw):=cG aC4 λ_ _ _=>rV λ_=>.bw
def sK {i j}:QE X (.Constant (.str i) j pos) (qC (.str i)):=cG aC5 λ_ _ _=>rV λ_=>.str i
def kS {op:Operator}{R:PV->Tg->PV->Tg->PK->Prop}{r:R2}(ho:cQ X (binaryOp op) r)(cv:fN X R r)(ha:QE X a ta)(hb:QE X b tb):QE X (.BinOp a op b pos) (q2 R ta tb):=cG (aE7 ho ha hb) λ_ _ _=>uQ cv
def gP (ha:QE X a ta)(hb:QE X b tb):QE X (.BinOp a .Add b pos) (q2 (gK λi j=>.int (i+j)) ta tb):=kS aE8 OI ha hb
def iZ (ha:QE X a ta)(hb:QE X b tb):QE X (.BinOp a .Sub b pos) (q2 (gK λi j=>.int (i-j)) ta tb):=kS aE9 OI ha hb
def sL (ha:QE X a ta)(hb:QE X b tb):QE X (.BinOp a .Mult b pos) (q2 (RI rG λi j=>.int (i*j)) ta tb):=kS aF0 uR ha hb
def mV (ha:QE X a ta)(hb:QE X b tb):QE X (.BinOp a .FloorDiv b pos) (q2 (RI yI λi j=>.int (i/j)) ta tb):=kS aF1 uR ha hb
def gY (ha:QE X a ta)(hb:QE X b tb):QE X (.BinOp a .Mod b pos) (q2 (RI (λ_ j=>0<j) λi j=>.int (i%j)) ta tb):=kS aF2 uR ha hb
def ZH (ha:QE X a ta)(hb:QE X b tb):QE X (.BinOp a .LShift b pos) (q2 (RI yJ λi j=>.int (i*2^j.toNat)) ta tb):=kS aF3 uR ha hb
def v8 {op:CmpOp}{R:PV->Tg->PV->Tg->PK->Prop}{r:R2}(ho:cQ X (compareOp op) r)(cv:fN X R r)(ha:QE X a ta)(hb:QE X b tb)(hm:behindInMarks op b=false):QE X (.Compare a [op] [b] pos) (q2 R ta tb):=cG (yM ho ha hb hm) λ_ _ _=>uQ cv
def kC {op:CmpOp}{R:PV->Tg->PV->Tg->PK->Prop}{r:R2}(ho:cQ X (compareOp op) r)(cv:fN X R r)(ha:QE X a ta)(hb:QE X b tb)(hm:behindInMarks op b=false):QT X (.Compare a [op] [b] pos) (bH (q2 R ta tb)):=pZ (aF9 ho ha hb hm) λ_ _ _ h=>uQ cv (uS h)
def Oh (ha:QE X a ta)(hb:QE X b tb):QE X (.Compare a [.Lt] [b] pos) (q2 (gK λi j=>.bl (decide (i<j))) ta tb):=v8 tW pJ ha hb (i3 _)
def ZG (ha:QE X a ta)(hb:QE X b tb):QE X (.Compare a [.GtE] [b] pos) (q2 (gK λi j=>.bl (decide (j<=i))) ta tb):=v8 R6 pJ ha hb (i3 _)
def v9 (ha:QE X a ta)(hb:QE X b tb):QE X (.Compare a [.Eq] [b] pos) (q2 (o4 false) ta tb):=v8 R4 OF ha hb (i3 _)
def vA (ha:QE X a ta)(hb:QE X b tb):QT X (.Compare a [.Lt] [b] pos) (bH (q2 (gK λi j=>.bl (decide (i<j))) ta tb)):=kC tW pJ ha hb (i3 _)
def ZF (ha:QE X a ta)(hb:QE X b tb):QT X (.Compare a [.LtE] [b] pos) (bH (q2 (gK λi j=>.bl (decide (i<=j))) ta tb)):=kC aF4 pJ ha hb (i3 _)
def vB (ha:QE X a ta)(hb:QE X b tb):QT X (.Compare a [.Gt] [b] pos) (bH (q2 (gK λi j=>.bl (decide (j<i))) ta tb)):=kC aF5 pJ ha hb (i3 _)
def Og (ha:QE X a ta)(hb:QE X b tb):QT X (.Compare a [.GtE] [b] pos) (bH (q2 (gK λi j=>.bl (decide (j<=i))) ta tb)):=kC R6 pJ ha hb (i3 _)
def mW (ha:QE X a ta)(hb:QE X b tb):QT X (.Compare a [.Eq] [b] pos) (bH (q2 (o4 false) ta tb)):=kC R4 OF ha hb (i3 _)
def C6 (ha:QE X a ta)(hb:QE X b tb):QT X (.Compare a [.NotEq] [b] pos) (bH (q2 (o4 true) ta tb)):=kC R5 aP6 ha hb (i3 _)
def ZE (ha:QE X a ta)(hb:QE X b tb):QT X (.Compare a [.Is] [b] pos) (bH (q2 (pR false) ta tb)):=kC aF6 aT0 ha hb (i3 _)
def Of (ha:QE X a ta)(hb:QE X b tb):QT X (.Compare a [.IsNot] [b] pos) (bH (q2 (pR true) ta tb)):=kC aF7 aT1 ha hb (i3 _)
def Oe (hu:X.A.units+1<cLine)(hk:QE X a tk)(hd:QE X b te)(hm:behindInMarks .In b=false:=by rfl):QT X (.Compare a [.In] [b] pos) (bH (kB false tk te)):=pZ (O3 (aK7 hu hk hd) hm) λ_ _ _ h=>ZR (uS h)
def sM (hu:X.A.units+1<cLine)(hk:QE X a tk)(hd:QE X b te)(hm:behindInMarks .NotIn b=false:=by rfl):QT X (.Compare a [.NotIn] [b] pos) (bH (kB true tk te)):=pZ (O3 (aK8 hu hk hd) hm) λ_ _ _ h=>ZQ (uS h)
def vC (h:QE X e te)(he:∀whole,isTrue e X.env whole=(do let v <- whole;standAt e.pos;holding [v] (truthy v)):=by intro _;rfl):QT X e (bH te):=pZ (aC7 h he) λ_ _ _ h=>uS h
def qA (h:QE X e te)(he:∀whole,isTrue e X.env whole=(do let v <- whole;standAt e.pos;holding [v] (truthy v)):=by intro _;rfl):QT X e (mS te):=pZ (aG2 h he) λ_ _ _ h=>aS9 h
def sN (ha:QT X a tA):QW X (.BoolOp .And [a] pos) tA:=aC8 ha
def Od (ha:QT X a tA):QW X (.BoolOp .Or [a] pos) tA:=aC9 ha
def sO (ha:QT X a tA)(hb:QW X (.BoolOp .And (b::dN) pos) Av):QW X (.BoolOp .And (a::b::dN) pos) (o5 tA Av):=Iv (aD0 ha hb) λ_ _ _=>aP7
def C7 (ha:QT X a tA)(hb:QW X (.BoolOp .Or (b::dN) pos) Av):QW X (.BoolOp .Or (a::b::dN) pos) (rW tA Av):=Iv (aD1 ha hb) λ_ _ _=>aP8
def oB (h:QW X e tA):QT X e tA:=PW.pt h
def vD (ha:QT X a tA):QT X (.UnaryOp .Not a pos) (pK tA):=pZ (aD2 ha) λ_ _ _=>aP9
def vE {op}(h:QE X a ta):QE X (.BoolOp op [a] pos) ta:=aD3 h
def C8 (ha:QE X a ta)(hb:QE X (.BoolOp .And (b::dN) pos) tb):QE X (.BoolOp .And (a::b::dN) pos) (rX ta tb):=cG (aD4 ha hb) λ_ _ _=>aQ0
def ZD (ha:QE X a ta)(hb:QE X (.BoolOp .Or (b::dN) pos) tb):QE X (.BoolOp .Or (a::b::dN) pos) (B0 ta tb):=cG (aD5 ha hb) λ_ _ _=>aQ1
def aA:QA X [] a9:=Iy eG λ_ _ _=>aQ2
def a7 (ha:QE X e te)(hr:QA X es tr)(hs:starEach (e::es) X.env=(false,eval e X.env)::starEach es X.env:=by rfl):QA X (e::es) (a6 te tr):=Iy (dH ha hr hs) λ_ _ _=>aQ3
def iO {x1}(h:QA X es tr):QE X (.Tuple es x1 pos) (gL tr):=cG (S2 h) λ_ _ _=>aQ5
def ZC {x1}(h:QA X es tr):QE X (.Tuple es x1 pos) (B1 tr):=cG (S2 h) λ_ _ _=>aQ4
def fY (h:QA X es tr):QE X (.List es pos) (fA tr):=cG (yQ h) λ_ _ _=>aQ6
def bJ (ha:QE X a ta)(hb:QE X b tb)(hs:T4 b:=by exact λ_ _=>rfl):QE X (.Subscript a b pos) (q2 B5 ta tb):=cG (lN aI2 ha hb hs) λ_ _ _=>uQ aS0
def vG (hu:X.A.units+1<cLine)(ha:QE X a ta)(hb:QE X b tb)(hs:zH b:=by exact λ_ _=>rfl):QE X (.Subscript a b pos) (pU ta tb):=cG (aK6 hu ha hb hs) λ_ _ _=>ZP
def C9:QE X (.Dict [] [] pos) (qC (.dK [])):=cG aK9 λ_ _ _=>ZN
def ZA:QE X (.Dict [] [] pos) (qC (.dT [])):=cG aL0 λ_ _ _=>ZM
def jP {x:Str}{id:String}{R:List PV->(PV->Prop)->Prop}{r:List V->Hp->VK->Prop}(hc:dU X (.builtin id) r)(cv:gU X R r)(hg:Gl X x)(hm:X.mg x=none)(hv:bootBuiltins x=some (.builtin id))(ha:QA X (e::es) tr)(hn:x≠"__name__":=by decide)(vp:(x==("__debug__":Str))=false:=by decide)(he:starEach (e::es) X.env=(false,eval e X.env)::starEach es X.env:=by rfl)(hpl:(backTo pos (starEach es X.env)).any (·.1)=false:=by rfl):QE X (.Call (.Name x p2) (e::es) [] pos) (aB R tr):=cG (yT hc hg hm hv ha hn vp he hpl) λ_ _ _=>OE cv
def Zz {x:Str}{T:String}{R:List PV->(PV->Prop)->Prop}{r:List V->Hp->VK->Prop}(hc:dU X (.type T) r)(cv:gU X R r)(hg:Gl X x)(hm:X.mg x=none)(hv:bootBuiltins x=some (.type T))(ha:QA X (e::es) tr)(hn:x≠"__name__":=by decide)(vp:(x==("__debug__":Str))=false:=by decide)(he:starEach (e::es) X.env=(false,eval e X.env)::starEach es X.env:=by rfl)(hpl:(backTo pos (starEach es X.env)).any (·.1)=false:=by rfl):QE X (.Call (.Name x p2) (e::es) [] pos) (aB R tr):=cG (yU hc hg hm hv ha hn vp he hpl) λ_ _ _=>OE cv
def fD:gN X [] dZ:=Oi P3 λ_ _ _=>aQ7
def aJ (h1:QS X st t)(h2:gN X Fn u):gN X (st::Fn) (aI t u):=Oi (nO h1 h2) λ_ _ _=>aQ8
def aX (h1:QS X st t):gN X [st] t:=lI h1
def bD {i:Nat}{x:Str}(hN:X.N.Nodup)(he:QE X e te)(hi:X.N[i]? = some x:=by rfl)(hx:jX X.env.scope x:=by first|exact Or.inl rfl|exact Or.inr rfl)(hs:swapsWith e (some (.Name x p2)) pos.line X.env=pure false:=by rfl)(hf:X.fn x=true∨X.env.scope.names.lookup x=some .local:=by first|exact .inl rfl|exact .inr rfl) :
  QS X (.Assign [.Name x p2] e pos) (b8 i te):=fC (yG hN hi hx he hs hf) λ_ _ _=>uV
def fP {i:Nat}{x:Str}(hN:X.N.Nodup)(he:QE X e te)(hi:X.N[i]? = some x:=by rfl)(hx:jX X.env.scope x:=by first|exact Or.inl rfl|exact Or.inr rfl)(hs:swapsWith e (some (.Name x p2)) pos.line X.env=pure false:=by rfl)(hf:X.fn x=true∨X.env.scope.names.lookup x=some .local:=by first|exact .inl rfl|exact .inr rfl) :
  QS X (.Assign [.Name x p2] e pos) (e6 i te):=fC (yG hN hi hx he hs hf) λ_ _ _=>OC
def vH (i:Nat)(h:QS X st t):QS X st (pM i t):=fC h λ_ _ _=>aR1
def c6 (he:QE X e te):QS X (.Return (some e) pos) (bY te):=fC (oZ he) λ_ _ _=>aR2
def oC (i:Nat){x:Str}(hN:X.N[i]? = some x:=by rfl)(hv:iR X.env.scope x:=by first|exact Or.inl rfl|exact Or.inr (Or.inl rfl)|exact Or.inr (Or.inr rfl))(hd:(x==("__debug__":Str))=false:=by decide)(ko:(x==("__classdict__":Str))=false:=by decide) :
  QS X (.Return (some (.Name x p2)) pos) (lU i):=fC (oZ (kN hN hv hd ko)) λ_ _ _=>aR3
def eM {sa sb:List Stmt}(hc:QT X c tc)(ha:gN X sa t)(hb:gN X sb u):QS X (.If c sa sb pos) (dO tc t u):=fC (P4 hc ha hb) λ_ _ _=>aR4
def vI {body:List Stmt}(hp:PassesOwn (model X.prog X.w) X.A X.env X.xe)(hc:QT X c tc)(hb:gN X body t):QS X (.While c body [] pos) (pN tc t):=fC (aD9 hp hc hb) λ_ _ _=>aR5
def lW (i:Nat){x:Str}{ah ai fq:Pos}(he:QE X e te)(hN:X.N[i]? = some x:=by rfl)(hv:iR X.env.scope x:=by first|exact Or.inl rfl|exact Or.inr (Or.inl rfl)|exact Or.inr (Or.inr rfl))(hd:(x==("__debug__":Str))=false:=by decide)(ko:(x==("__classdict__":Str))=false:=by decide)(ki:attributeBase (.Name x fq) "append" X.env (eval (.Name x fq) X.env)=eval (.Name x fq) X.env:=by rfl)(yb:((backTo ai (starEach [e] X.env)).all (λx=>!x.1)&&(backToKw ai (keywordEach [] X.env)).all (λx=>x.1.isSome)&&decide (([e]:List Expr).length+([]:List Keyword).length+(if ([]:List Keyword).isEmpty then 0 else 1)<30))=true:=by rfl)(kh:(ah.endLine==ai.line)=true:=by rfl)(hs:starEach [e] X.env=(false,eval e X.env)::starEach [] X.env:=by rfl)(ar:(backTo ai (starEach [] X.env)).any (·.1)=false:=by rfl)(vn:swapsWith (.Call (.Attribute (.Name x fq) "append" ah) [e] [] ai) none pos.line X.env=pure false:=by rfl) :
  QS X (.Expr (.Call (.Attribute (.Name x fq) "append" ah) [e] [] ai) pos) (iW i te):=
 fC (mF (nQ Cj Ff Fe pC (kN hN hv hd ko) (dH he eG hs) ki yb kh hs ar) vn) λ_ _ _=>aR6
def vJ {i:Nat}{x:Str}{fq vd:Pos}(hu:X.A.units+1<cLine)(hk:QE X a tk)(he:QE X e te)(hN:X.N[i]? = some x:=by rfl)(hv:iR X.env.scope x:=by first|exact Or.inl rfl|exact Or.inr (Or.inl rfl)|exact Or.inr (Or.inr rfl))(hd:(x==("__debug__":Str))=false:=by decide)(ko:(x==("__classdict__":Str))=false:=by decide)(hs:swapsWith e (some (.Subscript (.Name x fq) a vd)) pos.line X.env=pure false:=by rfl):QS X (.Assign [.Subscript (.Name x fq) a vd] e pos) (pV i tk te):=fC (W0 hu (kN hN hv hd ko) hk he hs) λ_ _ _=>ZO
def Zy {tg l:Expr}{tl:TE}(hl:PE X l tl):PI X tg l (Oy X.K tl):=by
 intro ag s σ H R I h;refine aR (hl ag s σ H _ I h) λv s1 ⟨x,H1,I1,r1,q1⟩=>?_
 obtain⟨a,e,q⟩:=q1
 subst e;cases r1;rcases q with⟨xs,hq,q⟩|⟨xs,hq,q⟩
 ·obtain⟨bh,rv,p,hz⟩:=I1.list hq
  refine wpAny_pyIter_list p.isList ?_;refine⟨s1.heap.objs.size,[s1.heap.objs.size],_,_,H1,rfl,I1.kept (t':=s1.toks) λb o e=>ic _ e,aE0 a _,⟨_,my _ rfl,rfl,rfl⟩,λb hb=>?_,q⟩;have e:b=s1.heap.objs.size:=by simpa using hb
  subst e;exact I1.jx (de _) (I1.cf.fresh (de _))
 ·obtain⟨bh,rv,p,hz⟩:=I1.tuple hq
  refine wpAny_pyIter_tuple (show s1.heap.IsTuple a bh.toArray from p) ?_;refine⟨s1.heap.objs.size,[s1.heap.objs.size],_,_,H1,rfl,I1.kept (t':=s1.toks) λb o e=>ic _ e,P8 a _,⟨_,my _ rfl,rfl,rfl⟩,λb hb=>?_,q⟩;have e:b=s1.heap.objs.size:=by simpa using hb
  subst e;exact I1.jx (de _) (I1.cf.fresh (de _))
def cT {tg l:Expr}(hl:QE X l te):QI X tg l (cD te):=sH (Zy hl) λ_ _ _=>ZZ
def sP {tg:Expr}(hg:Gl X "range")(hm:X.mg "range" = none)(ha:QE X a ta)(hs:starEach [a] X.env = [(false,eval a X.env)]:=by rfl):QI X tg (.Call (.Name "range" p2) [a] [] pos) (o8 ta):=sH (aE3 hg hm (dH ha eG hs) hs) λ_ _ _=>ZY
def E1 {tg:Expr}(hg:Gl X "range")(hm:X.mg "range" = none)(ha:QE X a ta)(hb:QE X b tb)(hs:starEach [a,b] X.env = [(false,eval a X.env),(false,eval b X.env)]:=by rfl)(yv:starEach [b] X.env = [(false,eval b X.env)]:=by rfl) :
  QI X tg (.Call (.Name "range" p2) [a,b] [] pos) (sC ta tb):=sH (aE4 hg hm (dH ha (dH hb eG yv) (by rw[hs,yv])) hs yv) λ_ _ _=>ZX
def Oc {tg:Expr}{body:List Stmt}{ti:gW}{p:kA}{g:TG}{own:Nat->Prop}(hp:PassesOwn (model X.prog X.w) X.A X.env X.xe)(hc:X.calm=true)(hi:QI X tg e ti)(hg:PG X tg g)(ht:o9 X.K own p g)(hb:gN X body t)(hs:∀x,foldedSetIterable e X.env x=pure x:=by intro _;rfl):QS X (.For tg e body [] pos) (fB ti p t):=fC (tT hp hc hi hg hb hs) λ_ _ _=>ZW ht
end
section
variable {X:Cx}{ag:List (ax×Obj)}{σ:St}{H:Hp}{s:aw}{K:ad}{M M':ax→Prop}
def pG.inj {a:ax}{us ws:List V}(h:pG K a us)(h':pG K a ws):us=ws:=by
 obtain⟨o,bh,n,e1,_,e2,_,v⟩:=h
 obtain⟨o',its',n',Jm,_,Jl,_,v'⟩:=h'
 rw[e1]at Jm;cases Jm;rw[e2]at Jl;cases Jl;exact v.inj v'
def bb.mh {n:Nat}(ih:∀{v:V}{x y:PV},aH K M H v x->aH K M' H v y->gX n x y=true->e7 n x y=true):∀{vs:List V}{xs ys:List PV},bb K M H vs xs->bb K M' H vs ys->((xs.zip ys).all λp=>gX n p.1 p.2)=true->(((xs.zip ys).all λp=>e7 n p.1 p.2)&&xs.length==ys.length)=true
 |_,_,_,.nil,.nil,_=>rfl
 |_,_,_,.cons r t,.cons r' t',o=>by
  simp only[List.zip_cons_cons,BB,mv]at o;have h1:=ih r r' o.1;have h2:=bb.mh ih t t' o.2;simp only[List.zip_cons_cons,BB,h1,Bool.true_and,ie]at h2 ⊢;rw[<- h2];congr 1;simp
def aH.self:∀(n:Nat) {v:V}{x y:PV},aH K M H v x->aH K M' H v y->gX n x y=true->e7 n x y=true:=by
 intro n
 induction n with
 |zero=>
  intro v x y r r' o;cases r with
  |bw=>cases r';rfl
  |bl b=>cases r';exact Bd b
  |int i=>cases r';exact Bd i
  |str z=>cases r';exact Bd z
  |_=>cases o
 |succ n ih=>
  intro v x y r r' o;cases r with
  |bw=>cases r';rfl
  |bl b=>cases r';exact Bd b
  |int i=>cases r';exact Bd i
  |str z=>cases r';exact Bd z
  |tup h rr=>
   cases r' with
   |tup h' Ek=>rw[h]at h';cases h';exact bb.mh ih rr Ek o
   |_=>cases o
  |lst _ h rr=>
   cases r' with
   |lst _ h' Ek=>rw[h]at h';cases h';exact bb.mh ih rr Ek o
   |_=>cases o
  |kt h rr=>
   cases r' with
   |kt h' Ek=>cases pG.inj h h';exact bb.mh ih rr Ek o
   |_=>cases o
  |_=>cases o
def bb.self (n:Nat){vs:List V}{xs ys:List PV}(r:bb K M H vs xs)(r':bb K M' H vs ys)(o:((xs.zip ys).all λp=>gX n p.1 p.2)=true):(((xs.zip ys).all λp=>e7 n p.1 p.2)&&xs.length==ys.length)=true:=bb.mh (aH.self n) r r' o
def qB (n:Nat)(xs ys:List PV):(List.range (min xs.length ys.length)).all (λj=>e7 n (xs.getD j .bw) (ys.getD j .bw))=(xs.zip ys).all λp=>e7 n p.1 p.2:=by
 rw[xf];simp only[AO,BC];constructor
 ·intro h p hp
  obtain⟨j,hj,e⟩:=List.getElem_of_mem hp
  have qz:j<min xs.length ys.length:=by simpa using hj
  have:=h j qz
  rw[List.getElem_zip]at e;subst e;have h1:j<xs.length:=by omega
  have h2:j<ys.length:=by omega
  simpa[ju,h1,h2] using this
 ·intro h j hj
  have h1:j<xs.length:=by omega
  have h2:j<ys.length:=by omega
  have hz:j<(xs.zip ys).length:=by simp;omega
  have:=h _ (BD hz)
  rw[List.getElem_zip]at this;simpa[ju,h1,h2] using this
def Ob (I:a8 X ag σ H s):∀(n:Nat) {A:az}{v w:V}{x y:PV}{a b:av},A.units+n<cLine->aH X.K M H v x->aH X.K M' H w y->b5 v a->b5 w b->gX n x y=true->SeqAt.EqAt A s a b (e7 n x y):=by
 intro n
 induction n with
 |zero=>
  intro A v w x y a b hu rx ry ra rb o;cases rx with
  |bw=>
   cases ra;cases ry with
   |bw=>cases rb;exact SeqAt.EqAt.same _
   |int i=>obtain⟨t',rfl⟩:=rb;exact SeqAt.EqAt.none_int _ _
   |_=>cases o
  |bl i=>
   cases ra;cases ry with
   |bl j=>cases rb;exact SeqAt.EqAt.bool_bool _ _
   |_=>cases o
  |int i=>
   obtain⟨t,rfl⟩:=ra
   cases ry with
   |int j=>obtain⟨t',rfl⟩:=rb;exact SeqAt.EqAt.int_int _ _ _ _
   |bw=>cases rb;exact SeqAt.EqAt.int_none _ _
   |_=>cases o
  |str i=>
   obtain⟨t,rfl⟩:=ra
   cases ry with
   |str j=>obtain⟨t',rfl⟩:=rb;exact SeqAt.EqAt.str_str _ _ _ _
   |_=>cases o
  |_=>cases o
 |succ n ih=>
  intro A v w x y a b hu rx ry ra rb o;have items:∀{us ws:List V}{xs ys:List PV}{bh aq:List av},bb X.K M H us xs->bb X.K M' H ws ys->aQ us bh->aQ ws aq->((xs.zip ys).all λp=>gX n p.1 p.2)=true->
    ∀j (h1:j<bh.toArray.size) (h2:j<aq.toArray.size),SeqAt.EqAt A.in1 s bh.toArray[j] aq.toArray[j] (e7 n (xs.getD j .bw) (ys.getD j .bw)):=λ{us ws xs ys bh aq} r1 r2 v1 v2 ok j h1 h2=>by
   have l1:=v1.length;have l2:=v2.length;have m1:=r1.length;have m2:=r2.length;have k1:j<bh.length:=by simpa using h1
   have k2:j<aq.length:=by simpa using h2
   have j1:j<us.length:=by omega
   have j2:j<ws.length:=by omega
   have i1:j<xs.length:=by omega
   have i2:j<ys.length:=by omega
   obtain⟨u,Ey,ru⟩:=v1.get (gs j1)
   obtain⟨u2,AE,Ge⟩:=v2.get (gs j2)
   obtain⟨x,hx,rx⟩:=r1.get (gs j1)
   obtain⟨y,hy,ry⟩:=r2.get (gs j2)
   have e1:bh.toArray[j]=u:=by
    rw[gs k1]at Ey;simpa using Ey
   have e2:aq.toArray[j]=u2:=by
    rw[gs k2]at AE;simpa using AE
   have Gk:gX n x y=true:=by
    rw[AO]at ok;have hz:j<(xs.zip ys).length:=by simp;omega
    have:=ok _ (BD hz)
    rw[List.getElem_zip]at this;rw[gs i1]at hx;rw[gs i2]at hy;cases hx;cases hy;exact this
   rw[e1,e2];have g1:xs.getD j .bw=x:=by rw[ju,hx];rfl
   have g2:ys.getD j .bw=y:=by rw[ju,hy];rfl
   rw[g1,g2];exact ih (by show A.units+1+n<cLine;omega) rx ry ru Ge Gk
  have DH:A.units<cLine:=by omega
  cases rx with
  |@kt p us xs h1 r1=>
   obtain⟨bh,v1,p1,_⟩:=I.tuple (.inr h1)
   cases (show a=Value.ref p from ra);cases ry with
   |@kt p2 ws ys h2 r2=>
    obtain⟨aq,v2,xw,_⟩:=I.tuple (.inr h2)
    cases (show b=Value.ref p2 from rb);by_cases e:p=p2
    ·subst e
     have:=aH.self (K:=X.K) (M:=M) (M':=M') (n+1) (.kt h1 r1) (.kt h2 r2) o
     rw[this];exact SeqAt.EqAt.same _
    ·have:=SeqAt.RcAt.tuples p1 xw DH (items r1 r2 v1 v2 o)
     refine .of_refs e ?_;have l1:=v1.length;have l2:=v2.length;have m1:=r1.length;have m2:=r2.length;rw[gg,gg,<- l1,<- l2,m1,m2,qB]at this;exact this
   |_=>cases o
  |@tup p us xs h1 r1=>
   obtain⟨bh,v1,p1,_⟩:=I.tuple (aW.of (K:=X.K) h1)
   cases (show a=Value.ref p from ra);cases ry with
   |@tup p2 ws ys h2 r2=>
    obtain⟨aq,v2,xw,_⟩:=I.tuple (aW.of (K:=X.K) h2)
    cases (show b=Value.ref p2 from rb);by_cases e:p=p2
    ·subst e
     have:=aH.self (K:=X.K) (M:=M) (M':=M') (n+1) (.tup h1 r1) (.tup h2 r2) o
     rw[this];exact SeqAt.EqAt.same _
    ·have:=SeqAt.RcAt.tuples p1 xw DH (items r1 r2 v1 v2 o)
     refine .of_refs e ?_;have l1:=v1.length;have l2:=v2.length;have m1:=r1.length;have m2:=r2.length;rw[gg,gg,<- l1,<- l2,m1,m2,qB]at this;exact this
   |bw=>cases rb;exact SeqAt.EqAt.tuple_none p1 DH
   |_=>cases o
  |@lst p us xs _ h1 r1=>
   obtain⟨bh,v1,p1,_⟩:=I.list (aM.of (K:=X.K) h1)
   cases (show a=Value.ref p from ra);cases ry with
   |@lst p2 ws ys _ h2 r2=>
    obtain⟨aq,v2,xw,_⟩:=I.list (aM.of (K:=X.K) h2)
    cases (show b=Value.ref p2 from rb);have l1:=v1.length;have l2:=v2.length;have m1:=r1.length;have m2:=r2.length;by_cases e:p=p2
    ·subst e
     rw[h1]at h2;cases h2
     have:=bb.self n r1 r2 o
     show SeqAt.EqAt A s _ _ ((xs.zip ys).all (λp=>e7 n p.1 p.2)&&xs.length==ys.length);rw[this];exact SeqAt.EqAt.same _
    ·refine .of_refs e ?_
     by_cases hl:xs.length=ys.length
     ·have:=SeqAt.RcAt.lists p1.isList xw.isList (by rw[gg,gg];omega) DH (items r1 r2 v1 v2 o)
      have hm:min xs.length ys.length=bh.length:=by omega
      rw[gg,<- hm,qB]at this;show SeqAt.RcAt A s _ _ ((xs.zip ys).all (λp=>e7 n p.1 p.2)&&xs.length==ys.length);rw[show (xs.length==ys.length)=true by simpa using hl,Ak];exact this
     ·have:=SeqAt.RcAt.lists_lengths (A:=A) p1.isList xw.isList (by rw[gg,gg];simp;omega) DH
      show SeqAt.RcAt A s _ _ ((xs.zip ys).all (λp=>e7 n p.1 p.2)&&xs.length==ys.length);rw[show (xs.length==ys.length)=false by simpa using hl,Cc];exact this
   |_=>cases o
  |bw=>
   cases ra;cases ry with
   |bw=>cases rb;exact SeqAt.EqAt.same _
   |int i=>obtain⟨t',rfl⟩:=rb;exact SeqAt.EqAt.none_int _ _
   |@tup p2 ws ys h2 r2=>
    obtain⟨aq,v2,xw,_⟩:=I.tuple (aW.of (K:=X.K) h2)
    cases (show b=Value.ref p2 from rb);exact SeqAt.EqAt.none_tuple xw DH
   |_=>cases o
  |bl i=>
   cases ra;cases ry with
   |bl j=>cases rb;exact SeqAt.EqAt.bool_bool _ _
   |_=>cases o
  |int i=>
   obtain⟨t,rfl⟩:=ra
   cases ry with
   |int j=>obtain⟨t',rfl⟩:=rb;exact SeqAt.EqAt.int_int _ _ _ _
   |bw=>cases rb;exact SeqAt.EqAt.int_none _ _
   |_=>cases o
  |str i=>
   obtain⟨t,rfl⟩:=ra
   cases ry with
   |str j=>obtain⟨t',rfl⟩:=rb;exact SeqAt.EqAt.str_str _ _ _ _
   |_=>cases o
  |_=>cases o
end
structure Bt (mg:Str->Option av):Prop where
 len:mg "len" = none
 range:mg "range" = none
 tuple:mg "tuple" = none
 list:mg "list" = none
 sorted:mg "sorted" = none
 all:mg "all" = none
 any:mg "any" = none
 zip:mg "zip" = none
 min:mg "min" = none
 max:mg "max" = none
 sum:mg "sum" = none
 GC:mg "isinstance" = none
 int:mg "int" = none
 bool:mg "bool" = none
 enum:mg "enumerate" = none
section
variable {X:Cx}{a b c e o:Expr}{es dN:List Expr}{ta tb te to tk:aG}{tr:dI}{tA Av tc:dA}{pos p2 px:Pos}{st:Stmt}{Fn:List Stmt}{t u:aO}
def cL (B:Bt X.mg)(ha:QA X [e] tr)(hg:Gl X "len":=by rfl)(he:starEach [e] X.env=(false,eval e X.env)::starEach [] X.env:=by rfl)(hpl:(backTo pos (starEach [] X.env)).any (·.1)=false:=by rfl):QE X (.Call (.Name "len" p2) [e] [] pos) (aB cC tr):=
 jP (aJ0.or aM0) aS1 hg B.len PySem.boot_len ha (he:=he) (hpl:=hpl)
def jQ (B:Bt X.mg)(ha:QA X [e] tr)(hg:Gl X "tuple":=by rfl)(he:starEach [e] X.env=(false,eval e X.env)::starEach [] X.env:=by rfl)(hpl:(backTo pos (starEach [] X.env)).any (·.1)=false:=by rfl):QE X (.Call (.Name "tuple" p2) [e] [] pos) (aB iN tr):=
 Zz aJ1 aS2 hg B.tuple PyProof.Rows.boot_tuple ha (he:=he) (hpl:=hpl)
def E2 (B:Bt X.mg)(ha:QA X [e] tr)(hg:Gl X "sorted":=by rfl)(he:starEach [e] X.env=(false,eval e X.env)::starEach [] X.env:=by rfl)(hpl:(backTo pos (starEach [] X.env)).any (·.1)=false:=by rfl):QE X (.Call (.Name "sorted" p2) [e] [] pos) (aB pO tr):=
 jP aN0 aS3 hg B.sorted Fd ha (he:=he) (hpl:=hpl)
def Zx (B:Bt X.mg)(hc:X.calm=true)(ha:QA X [e] tr)(hg:Gl X "all":=by rfl)(he:starEach [e] X.env=(false,eval e X.env)::starEach [] X.env:=by rfl)(hpl:(backTo pos (starEach [] X.env)).any (·.1)=false:=by rfl):QE X (.Call (.Name "all" p2) [e] [] pos) (aB B7 tr):=
 jP (A4 hc) aS4 hg B.all PyProof.Rows.boot_all ha (he:=he) (hpl:=hpl)
def vK (B:Bt X.mg)(hc:X.calm=true)(ha:QA X [a,b] tr)(hg:Gl X "min":=by rfl)(he:starEach [a,b] X.env=(false,eval a X.env)::starEach [b] X.env:=by rfl)(hpl:(backTo pos (starEach [b] X.env)).any (·.1)=false:=by rfl):QE X (.Call (.Name "min" p2) [a,b] [] pos) (aB pP tr):=
 jP (aG4 hc) aS5 hg B.min PyProof.Rows.boot_min ha (he:=he) (hpl:=hpl)
def vL (B:Bt X.mg)(hc:X.calm=true)(ha:QA X [a,b] tr)(hg:Gl X "max":=by rfl)(he:starEach [a,b] X.env=(false,eval a X.env)::starEach [b] X.env:=by rfl)(hpl:(backTo pos (starEach [b] X.env)).any (·.1)=false:=by rfl):QE X (.Call (.Name "max" p2) [a,b] [] pos) (aB pQ tr):=
 jP (aG3 hc) aS6 hg B.max PyProof.Rows.boot_max ha (he:=he) (hpl:=hpl)
def Oa (x:Int):∀(xs:af),rM (.int x) (xs.map V.int)=decide (x∈xs)
 |[]=>by simp[rM]
 |y::r=>by
  have ih:=Oa x r;unfold rM at ih ⊢;rw[ib,BA,ih];by_cases e:y=x
  ·subst e;simp[k6]
  ·have:k6 (.int y) (.int x)=false:=by simpa[k6] using e
   rw[this,Bool.false_or,xf];simp[Ne.symm e]
def NZ:∀(xs:af),(xs.map V.int).all lO=true
 |[]=>rfl
 |_::r=>by rw[ib,BB,NZ r];rfl
def Zw (neg:Bool):fN X (v5 neg) (U3 X.K neg):=by
 rintro W Hs H u v x y g g' Q Q' s n r1 r2 ⟨i,ns,rfl,e,q⟩ k;cases r1
 obtain⟨a,us,rfl,hs,r⟩:=r2.seq e
 obtain rfl:=r.ofInts;refine⟨a,_,rfl,hs,rfl,NZ ns,?_⟩
 have:=k _ _ _ .fr (aE.refl _) (.bl _) q
 rw[Oa];cases neg<;>exact this
def NY (ha:QE X a ta)(hb:QE X b tb)(hm:behindInMarks .NotIn b=false:=by rfl):QT X (.Compare a [.NotIn] [b] pos) (bH (q2 (v5 true) ta tb)):=kC aI9 (Zw true) ha hb hm
def aH.II {K:ad}{M:ax->Prop}{H:Hp}{v:V}{xs:List PV}(r:aH K M H v (.kt xs)):∃a us,v = .ref a/\pG K a us/\bb K M H us xs:=by
 cases r with
 |kt h r=>exact⟨_,_,rfl,h,r⟩
def NX (K:ad)(n:Nat)(neg:Bool):R2:=λv w H Q=>∃x y,aH K (λ_=>True) H v x/\aH K (λ_=>True) H w y/\((∃xs ys,x = .tup xs/\y = .tup ys)∨(∃xs ys,x = .lst xs/\y = .lst ys)∨(∃xs ys,x = .kt xs/\y = .kt ys))/\gX (n+1) x y=true/\Q (.bl (if neg=true then !e7 (n+1) x y else e7 (n+1) x y)) H
def E3 {ag:List (ax×Obj)}{σ:St}{H:Hp}{s:aw}{M M':ax->Prop}(I:a8 X ag σ H s){n:Nat}{A:az}(hu:A.units+(n+1)<cLine){us ws:List V}{xs ys:List PV}{bh aq:List av}(r1:bb X.K M H us xs)(r2:bb X.K M' H ws ys)(v1:aQ us bh)(v2:aQ ws aq)(ok:((xs.zip ys).all λp=>gX n p.1 p.2)=true):∀j (h1:j<bh.toArray.size) (h2:j<aq.toArray.size),SeqAt.EqAt A.in1 s bh.toArray[j] aq.toArray[j] (e7 n (xs.getD j .bw) (ys.getD j .bw)):=by
 intro j h1 h2;have l1:=v1.length;have l2:=v2.length;have m1:=r1.length;have m2:=r2.length;have k1:j<bh.length:=by simpa using h1
 have k2:j<aq.length:=by simpa using h2
 have j1:j<us.length:=by omega
 have j2:j<ws.length:=by omega
 have i1:j<xs.length:=by omega
 have i2:j<ys.length:=by omega
 obtain⟨u,Ey,ru⟩:=v1.get (gs j1)
 obtain⟨u2,AE,Ge⟩:=v2.get (gs j2)
 obtain⟨x,hx,rx⟩:=r1.get (gs j1)
 obtain⟨y,hy,ry⟩:=r2.get (gs j2)
 have e1:bh.toArray[j]=u:=by
  rw[gs k1]at Ey;simpa using Ey
 have e2:aq.toArray[j]=u2:=by
  rw[gs k2]at AE;simpa using AE
 have Gk:gX n x y=true:=by
  rw[AO]at ok;have hz:j<(xs.zip ys).length:=by simp;omega
  have:=ok _ (BD hz)
  rw[List.getElem_zip]at this;rw[gs i1]at hx;rw[gs i2]at hy;cases hx;cases hy;exact this
 rw[e1,e2];have g1:xs.getD j .bw=x:=by rw[ju,hx];rfl
 have g2:ys.getD j .bw=y:=by rw[ju,hy];rfl
 rw[g1,g2];exact Ob I n (by show A.units+1+n<cLine;omega) rx ry ru Ge Gk
def Zv (n:Nat)(hu:X.A.units+(n+1)<cLine):cQ X (compareOp .Eq) (NX X.K n false):=by
 intro ag s σ H v w a b Q I ra rb h
 obtain⟨x,y,rx,ry,kd,o,q⟩:=h
 have Fy:X.A.units<cLine:=by omega
 rcases kd with⟨xs,ys,rfl,rfl⟩|⟨xs,ys,rfl,rfl⟩|⟨xs,ys,rfl,rfl⟩
 ·obtain⟨p,us,rfl,h1,r1⟩:=rx.qj
  obtain⟨p2,ws,rfl,h2,r2⟩:=ry.qj
  cases ra;cases rb
  obtain⟨bh,v1,p1,_⟩:=I.tuple (aW.of (K:=X.K) h1)
  obtain⟨aq,v2,xw,_⟩:=I.tuple (aW.of (K:=X.K) h2)
  have l1:=v1.length;have l2:=v2.length;have m1:=r1.length;have m2:=r2.length
  have:=SeqAt.RcAt.tuples p1 xw Fy (E3 I hu r1 r2 v1 v2 o)
  rw[gg,gg,<- l1,<- l2,m1,m2,qB]at this;exact this _ _ _ _ ⟨.bl _,H,I,rfl,q⟩
 ·obtain⟨p,us,rfl,_,h1,r1⟩:=rx.oo
  obtain⟨p2,ws,rfl,_,h2,r2⟩:=ry.oo
  cases ra;cases rb
  obtain⟨bh,v1,p1,_⟩:=I.list (aM.of (K:=X.K) h1)
  obtain⟨aq,v2,xw,_⟩:=I.list (aM.of (K:=X.K) h2)
  have l1:=v1.length;have l2:=v2.length;have m1:=r1.length;have m2:=r2.length;have q:Q (.bl ((xs.zip ys).all (λp=>e7 n p.1 p.2)&&xs.length==ys.length)) H:=q;by_cases hl:xs.length=ys.length
  ·have:=SeqAt.RcAt.lists p1.isList xw.isList (by rw[gg,gg];omega) Fy (E3 I hu r1 r2 v1 v2 o)
   have hm:min xs.length ys.length=bh.length:=by omega
   rw[gg,<- hm,qB]at this;rw[show (xs.length==ys.length)=true by simpa using hl,Ak]at q;exact this _ _ _ _ ⟨.bl _,H,I,rfl,q⟩
  ·have:=SeqAt.RcAt.lists_lengths (A:=X.A) p1.isList xw.isList (by rw[gg,gg];simp;omega) Fy
   rw[show (xs.length==ys.length)=false by simpa using hl,Cc]at q;exact this _ _ _ _ ⟨.bl _,H,I,rfl,q⟩
 ·obtain⟨p,us,rfl,h1,r1⟩:=rx.II
  obtain⟨p2,ws,rfl,h2,r2⟩:=ry.II
  cases ra;cases rb
  obtain⟨bh,v1,p1,_⟩:=I.tuple (.inr h1)
  obtain⟨aq,v2,xw,_⟩:=I.tuple (.inr h2)
  have l1:=v1.length;have l2:=v2.length;have m1:=r1.length;have m2:=r2.length
  have:=SeqAt.RcAt.tuples p1 xw Fy (E3 I hu r1 r2 v1 v2 o)
  rw[gg,gg,<- l1,<- l2,m1,m2,qB]at this;exact this _ _ _ _ ⟨.bl _,H,I,rfl,q⟩
def Zu {n:Nat}{neg:Bool}:fN X (C3 n neg) (NX X.K n neg):=by
 rintro W Hs H u v x y g g' Q Q' s n r1 r2 ⟨kd,o,q⟩ k
 exact⟨x,y,r1.same (aE.refl _) λ_ _=>trivial,r2.same (aE.refl _) λ_ _=>trivial,kd.elim .inl λz=>.inr (.inl z),o,k _ _ _ .fr (aE.refl _) (.bl _) q⟩
def Zt (hu:X.A.units+3<cLine)(ha:QE X a ta)(hb:QE X b tb):QE X (.Compare a [.Eq] [b] pos) (q2 (C3 2 false) ta tb):=v8 (Zv 2 hu) Zu ha hb (i3 _)
end
end PP
namespace PP
open PySem L2 PyProof.Rows
def LO (X:Cx)(t:pW):TO:=λσ H Q'=>∃(W:ax->Prop) (ρ:bT) (Q:Option Int->Prop),PX X.K X.bu W σ ρ H/\t ρ Q/\∀o H',aE H H'->Q o->Q' o H'
def QO (X:Cx)(e:Option Expr)(t:pW):Prop:=PO X e (LO X t)
def bb.cut {K:ad}{M:ax->Prop}{H:Hp}{us:List V}{xs:List PV}(r:bb K M H us xs)(lo hi:Option Int):bb K M H (gH us lo hi) (iX xs lo hi):=by
 unfold gH iX;rw[r.length];exact (r.drop _).take _
section
variable {X:Cx}{a b c e o:Expr}{es dN:List Expr}{ta tb te to tk:aG}{tr:dI}{tA Av tc:dA}{pos p2 px:Pos}{st:Stmt}{Fn:List Stmt}{t u:aO}
def E4:QO X none v6:=λag s σ H Q I h=>yV ag s σ H Q I (by
 obtain⟨W,ρ,Q1,px,q,k⟩:=h
 exact k _ _ (aE.refl _) q)
def sQ (h:QE X e te):QO X (some e) (pX te):=λag s σ H Q I hq=>yW h ag s σ H Q I (by
 obtain⟨W,ρ,Q1,px,q,k⟩:=hq
 refine⟨W,ρ,_,px,q,?_⟩;rintro v H1 x g s r ⟨i,rfl,q⟩;cases r
 exact⟨i,rfl,k _ _ s q⟩)
def vM {lo hi:Option Expr}{tl th:pW}{sp:Pos}(he:QE X e te)(hl:QO X lo tl)(hh:QO X hi th):QE X (.Subscript e (.Slice lo hi none sp) pos) (sF te tl th):=cG (yX (U1.or OM) he hl hh) λσ H Q' h=>by
 obtain⟨W,ρ,Q,px,q,k⟩:=h
 refine⟨W,ρ,_,px,q,λv H1 x g s1 r1 q1=>⟨W,ρ,_,px.mono s1,q1,λlo H2 s2 q2=>⟨W,ρ,_,px.mono (s1.trans s2),q2,?_⟩⟩⟩;rintro hi H3 s3 ⟨xs,e,f,q3⟩;have S:=(s1.trans s2).trans s3;have r3:=r1.same (M':=Mg X.bu W H g) (s2.trans s3) λ_ z=>z
 cases r3 with
 |tup h r=>
  cases e;refine .inr ⟨_,_,rfl,aW.of h,λp hp=>k _ _ _ .fr (S.trans (bL hp _)) (.tup bA (((r.flat f).cut lo hi).same (bL hp _) λ_ z=>z)) q3,λec=>k _ _ _ .fr S (.tup h ?_) q3⟩
  have:=(r.flat (M':=Mg X.bu W H .fr) f).cut lo hi
  rw[ec]at this;exact this
 |lst m h r=>
  cases e;exact .inl ⟨_,_,rfl,aM.of h,λp hp=>k _ _ _ .fr (S.trans (bL hp _)) (.lst (S.free hp) bA (((r.flat f).cut lo hi).same (bL hp _) λ_ z=>z)) q3⟩
 |jo h=>
  cases e;exact .inl ⟨_,_,rfl,h.oo,λp hp=>k _ _ _ .fr (S.trans (bL hp _)) (.lst (S.free hp) bA (((bb.ao _).cut lo hi).same (bL hp _) λ_ z=>z)) q3⟩
 |fL h r=>
  cases e;exact .inl ⟨_,_,rfl,.inl (.inr ⟨_,h⟩),λp hp=>k _ _ _ .fr (S.trans (bL hp _)) (.lst (S.free hp) bA (((r.flat f).cut lo hi).same (bL hp _) λ_ z=>z)) q3⟩
 |_=>cases e
structure Df (P:ay)(w:ba)(K:ad)(mg:Str->Option av)(base:Heap)(k:Nat)(x:Str)(ps:List Str)(p:bV):Prop where
 ex:∃f fd,dW P w K mg base eJ k f fd ps (rZ K p)/\jZ K fd ps []/\PySem.W.keepIn K (.ref f)=true/\mg x=some (.ref f)
def bC {k j:Nat}{x:Str}{ps:List Str}{p:bV}(d:Df X.prog X.w X.K X.mg X.base k x ps p)(hr:cW j X.A)(ha:QA X (e::es) tr)(CM:k<=j:=by decide)(hg:Gl X x:=by rfl)(vp:(x==("__debug__":Str))=false:=by decide)(he:starEach (e::es) X.env=(false,eval e X.env)::starEach es X.env:=by rfl)(hpl:(backTo pos (starEach es X.env)).any (·.1)=false:=by rfl):QE X (.Call (.Name x p2) (e::es) [] pos) (aB p tr):=by
 obtain⟨f,fd,F,b,kp,m⟩:=d.ex
 exact cG (tZ F (hr.mono CM) hg m kp b .nil X8 ha vp he hpl) λ_ _ _=>aS7
def vN {K:ad}{H:Hp}{N:List Str}{vs:List V}{xs:List PV}(r:bb K (λ_=>True) H vs xs):PX K H (λ_=>False) (L2.start N vs) (iM N xs) H:=by
 have lr:=r.length;have own:∀{i:Nat}{m:Slot},(iM N xs)[i]? = some (some m)->∃x,xs[i]? = some x/\m = .sh (flat x) x:=λ{i m} h=>by
  unfold iM at h;by_cases hi:i<xs.length
  ·rw[tf (by simpa using hi),gf]at h
   rw[gs hi]at h ⊢;cases h
   exact⟨_,rfl,rfl⟩
  ·rw[AS (by simpa using hi),Fc]at h
   split at h<;>cases h
 refine⟨by unfold L2.start iM;simp[lr],aE.refl _,λa z=>z.elim,λi m h=>?_,λi j x y a h1=>?_⟩
 ·obtain⟨x,hx,rfl⟩:=own h
  obtain⟨v,hv,rx⟩:=r.at hx
  refine⟨v,?_,uY (g:=false) (rx.same (aE.refl _) λ_ _ z=>z)⟩;have hi:i<vs.length:=(gv.mp hv).1;unfold L2.start;rw[tf (by simpa using hi),gf,hv];rfl
 ·obtain⟨x,_,e⟩:=own h1
  cases e
def Df.of {P:ay}{w:ba}{K:ad}{mg:Str->Option av}{base:Heap}{k:Nat}{x:Str}{ps N:List Str}{p:bV}{st:Stmt}{f:ax}{fd:FuncData}(F:gI K x x st f fd)(m:mg x=some (.ref f))(S:bg N ps (aZ st))(hb:∀(kV doc pm:av) (an:Option ax) (cy ct:av) (us:List av),us.length=ps.length->bindArgs (PySem.W.fnOf x x (kR st) (gC st) (aZ st) .none kV doc pm an cy ct) ⟨us,[]⟩=pure (ps.zip us))(len:∀xs Q,p xs Q->xs.length=ps.length)(body:∀(cy:av) (A:az) (outer:List Env) (s:aw) (H:Hp) (E:XK),cW k (A.deeper (envOfC x (aZ st) s.heap.objs.size f cy))->
   ∃t,gN (eI eJ P w K mg base N x (aZ st) f cy A outer s H E).Bo (gC st) t/\∀xs Q,p xs Q->t { nx:=λ_=>Q .bw,rt:=Q } (iM N xs)):Df P w K mg base (k+1) x ps p:=by
 refine⟨f,fd,F.ok S (λvs H Q E h=>?_) (λcy A outer s H vs Q E hr h=>?_),F.binds hb,F.kp,m⟩
 ·obtain⟨xs,Qp,r,q,_⟩:=h
  rw[r.length];exact len xs Qp q
 ·obtain⟨xs,Qp,r,q,k⟩:=h
  obtain⟨t,ht,hq⟩:=body cy A outer s H E hr
  refine⟨_,ht,λ_=>False,iM N xs,_,vN r,hq xs Qp q,?_,?_,?_,?_⟩
  ·exact λW' cj H' gi e px q=>k _ _ _ px.same .bw q
  ·exact λv H' x s r q=>k _ _ _ s r q
  ·exact λW' cj H' gi e px q=>q
  ·exact λW' cj H' gi e px q=>q
def j3 (i:Nat){x:Str}{tp:Pos}{body:List Stmt}{ti:gW}(hN:X.N.Nodup)(hi:QI X (.Name x tp) e ti)(hb:gN X body t)(hx:X.N[i]? = some x:=by rfl)(hl:jX X.env.scope x:=by first|exact Or.inl rfl|exact Or.inr rfl)(hf:X.fn x=true∨X.env.scope.names.lookup x=some .local:=by first|exact .inl rfl|exact .inr rfl)(hp:PassesOwn (model X.prog X.w) X.A X.env X.xe:=by exact Di)(hc:X.calm=true:=by rfl)(hs:∀x,foldedSetIterable e X.env x=pure x:=by intro _;rfl):QS X (.For (.Name x tp) e body [] pos) (fB ti (bW i) t):=
 Oc hp hc hi (gF hN hx hl hf) (pS _ i) hb hs
def vO (i j:Nat){x y:Str}{tp xp yp:Pos}{kt:Nat}{body:List Stmt}{ti:gW}(hN:X.N.Nodup)(hi:QI X (.Tuple [.Name x xp,.Name y yp] kt tp) e ti)(hb:gN X body t)(hx:X.N[i]? = some x:=by rfl)(hy:X.N[j]? = some y:=by rfl)(Ha:jX X.env.scope x:=by first|exact Or.inl rfl|exact Or.inr rfl)(Rh:jX X.env.scope y:=by first|exact Or.inl rfl|exact Or.inr rfl)(Ro:X.fn x=true∨X.env.scope.names.lookup x=some .local:=by first|exact .inl rfl|exact .inr rfl)(Rn:X.fn y=true∨X.env.scope.names.lookup y=some .local:=by first|exact .inl rfl|exact .inr rfl)(hp:PassesOwn (model X.prog X.w) X.A X.env X.xe:=by exact Di)(hc:X.calm=true:=by rfl)(hs:∀x,foldedSetIterable e X.env x=pure x:=by intro _;rfl):QS X (.For (.Tuple [.Name x xp,.Name y yp] kt tp) e body [] pos) (fB ti (fO i j) t):=
 Oc hp hc hi (p6 hc (jG (gF hN hx Ha Ro) (jG (gF hN hy Rh Rn) p5))) (sE _ i j) hb hs
abbrev cE:av->aw->Prop:=λ_ _=>False
section
variable {scope:Scope}{N:List Str}{fr:List (Option Nat)}{x y:Str}{tp xp yp:Pos}{kt:Nat}{iter elt:Expr}{ti:gW}
def vP {ifs:List Expr}{ve:dA}(he:∀(s:aw) (H:Hp) (C:ax) (fp:List ax),QE (bQ X scope N s H C fp cE) elt te)(hi:∀(s:aw) (H:Hp) (C:ax) (fp:List ax),mL (bQ X scope N s H C fp cE) ifs (LT (bQ X scope N s H C fp cE) ve))(hN:N.Nodup)(h0:N[0]? = some x)(hl:∀(s:aw) (H:Hp) (C:ax) (fp:List ax),(bQ X scope N s H C fp cE).env.scope.names.lookup x=some .local)(s:aw)(H:Hp) :
  pE X scope N (.Name x tp) ifs elt s H (cZ 0) (LT (X.qm H) ve) (LE (X.qm H) te):=
 ⟨λC fp=>gF (X:=bQ X scope N s H C fp cE) hN h0 (.inl (hl s H C fp)) (.inr (hl s H C fp)),λC fp=>hi s H C fp,λC fp=>he s H C fp⟩
def sR {Y:Cx}:mL Y [] (LT Y dB):=λag s σ H Q I h=>rP ag s σ H Q I (ZT h)
def mX (hi:QI X (.Name x tp) iter ti)(he:∀(s:aw) (H:Hp) (C:ax) (fp:List ax),QE (bQ X scope N s H C fp cE) elt te)(hc:X.calm=true:=by rfl)(S:cX X scope N fr:=by exact cX.of rfl rfl)(hN:N.Nodup:=by decide +kernel)(h0:N[0]? = some x:=by rfl)(hl:∀(s:aw) (H:Hp) (C:ax) (fp:List ax),(bQ X scope N s H C fp cE).env.scope.names.lookup x=some .local:=by intro _ _ _ _;rfl)(hf:fr[0]? = some none:=by rfl)(hs:∀x,foldedSetIterable iter X.env x=pure x:=by intro _;rfl):QE X (.ListComp elt [⟨.Name x tp,iter,[],0⟩] scope pos) (c9 ti fr (bW 0) dB te):=
 cG (uF (gh:=λ_=>cZ 0) (tch:=λH=>LT (X.qm H) dB) (teh:=λH=>LE (X.qm H) te) hc S hi (vP he (λ_ _ _ _=>sR) hN h0 hl) hs) λ_ _ _=>mT (pS _ 0) (λi e=>by subst e;exact hf)
def mY {c:Expr}{ve:dA}(hi:QI X (.Name x tp) iter ti)(ht:∀(s:aw) (H:Hp) (C:ax) (fp:List ax),QT (bQ X scope N s H C fp cE) c ve)(he:∀(s:aw) (H:Hp) (C:ax) (fp:List ax),QE (bQ X scope N s H C fp cE) elt te)(hc:X.calm=true:=by rfl)(S:cX X scope N fr:=by exact cX.of rfl rfl)(hN:N.Nodup:=by decide +kernel)(h0:N[0]? = some x:=by rfl)(hl:∀(s:aw) (H:Hp) (C:ax) (fp:List ax),(bQ X scope N s H C fp cE).env.scope.names.lookup x=some .local:=by intro _ _ _ _;rfl)(hf:fr[0]? = some none:=by rfl)(hs:∀x,foldedSetIterable iter X.env x=pure x:=by intro _;rfl):QE X (.ListComp elt [⟨.Name x tp,iter,[c],0⟩] scope pos) (c9 ti fr (bW 0) ve te):=
 cG (uF (gh:=λ_=>cZ 0) (tch:=λH=>LT (X.qm H) ve) (teh:=λH=>LE (X.qm H) te) hc S hi (vP he (λs H C fp=>zO (ht s H C fp)) hN h0 hl) hs) λ_ _ _=>mT (pS _ 0) (λi e=>by subst e;exact hf)
def Zs {i:Nat}{z:Str}{zp:Pos}(nd:X.N.Nodup)(hi:QI X (.Name x tp) iter ti)(he:∀(s:aw) (H:Hp) (C:ax) (fp:List ax),QE (bQ X scope N s H C fp cE) elt te)(hz:X.N[i]? = some z:=by rfl)(AD:X.env.scope.names.lookup z=some .local:=by rfl)(vn:swapsWith (.ListComp elt [⟨.Name x tp,iter,[],0⟩] scope p2) (some (.Name z zp)) pos.line X.env=pure true:=by rfl)(hc:X.calm=true:=by rfl)(S:cX X scope N fr:=by exact cX.of rfl rfl)(hN:N.Nodup:=by decide +kernel)(h0:N[0]? = some x:=by rfl)(hl:∀(s:aw) (H:Hp) (C:ax) (fp:List ax),(bQ X scope N s H C fp cE).env.scope.names.lookup x=some .local:=by intro _ _ _ _;rfl)(hf:fr[0]? = some none:=by rfl)(hs:∀x,foldedSetIterable iter X.env x=pure x:=by intro _;rfl):QS X (.Assign [.Name z zp] (.ListComp elt [⟨.Name x tp,iter,[],0⟩] scope p2) pos) (b8 i (c9 ti fr (bW 0) dB te)):=
 fC (uG (gh:=λ_=>cZ 0) (tch:=λH=>LT (X.qm H) dB) (teh:=λH=>LE (X.qm H) te) hc S hi (vP he (λ_ _ _ _=>sR) hN h0 hl) nd hz AD vn hs) λD σ H h=>mT (pS _ 0) (λi e=>by subst e;exact hf) (uV h)
def Zr {i:Nat}{z:Str}{zp:Pos}(nd:X.N.Nodup)(hi:QI X (.Name x tp) iter ti)(he:∀(s:aw) (H:Hp) (C:ax) (fp:List ax),QE (bQ X scope N s H C fp cE) elt te)(hz:X.N[i]? = some z:=by rfl)(AD:X.env.scope.names.lookup z=some .local:=by rfl)(vn:swapsWith (.ListComp elt [⟨.Name x tp,iter,[],0⟩] scope p2) (some (.Name z zp)) pos.line X.env=pure true:=by rfl)(hc:X.calm=true:=by rfl)(S:cX X scope N fr:=by exact cX.of rfl rfl)(hN:N.Nodup:=by decide +kernel)(h0:N[0]? = some x:=by rfl)(hl:∀(s:aw) (H:Hp) (C:ax) (fp:List ax),(bQ X scope N s H C fp cE).env.scope.names.lookup x=some .local:=by intro _ _ _ _;rfl)(hf:fr[0]? = some none:=by rfl)(hs:∀x,foldedSetIterable iter X.env x=pure x:=by intro _;rfl):QS X (.Assign [.Name z zp] (.ListComp elt [⟨.Name x tp,iter,[],0⟩] scope p2) pos) (e6 i (c9 ti fr (bW 0) dB te)):=
 fC (uG (gh:=λ_=>cZ 0) (tch:=λH=>LT (X.qm H) dB) (teh:=λH=>LE (X.qm H) te) hc S hi (vP he (λ_ _ _ _=>sR) hN h0 hl) nd hz AD vn hs) λD σ H h=>mT (pS _ 0) (λi e=>by subst e;exact hf) (OC h)
end
def Zq:pB X "list.extend" (OB X.K):=λag s σ H x xs v us Q I rx rs h=>h.elim (aJ4 ag s σ H x xs v us Q I rx rs) (aP4 ag s σ H x xs v us Q I rx rs)
def NW (i:Nat){x:Str}{ah ai fq:Pos}(he:QE X e te)(hN:X.N[i]? = some x:=by rfl)(hv:iR X.env.scope x:=by first|exact Or.inl rfl|exact Or.inr (Or.inl rfl)|exact Or.inr (Or.inr rfl))(hd:(x==("__debug__":Str))=false:=by decide)(ko:(x==("__classdict__":Str))=false:=by decide)(ki:attributeBase (.Name x fq) "extend" X.env (eval (.Name x fq) X.env)=eval (.Name x fq) X.env:=by rfl)(yb:((backTo ai (starEach [e] X.env)).all (λx=>!x.1)&&(backToKw ai (keywordEach [] X.env)).all (λx=>x.1.isSome)&&decide (([e]:List Expr).length+([]:List Keyword).length+(if ([]:List Keyword).isEmpty then 0 else 1)<30))=true:=by rfl)(kh:(ah.endLine==ai.line)=true:=by rfl)(hs:starEach [e] X.env=(false,eval e X.env)::starEach [] X.env:=by rfl)(ar:(backTo ai (starEach [] X.env)).any (·.1)=false:=by rfl)(vn:swapsWith (.Call (.Attribute (.Name x fq) "extend" ah) [e] [] ai) none pos.line X.env=pure false:=by rfl) :
  QS X (.Expr (.Call (.Attribute (.Name x fq) "extend" ah) [e] [] ai) pos) (uW i te):=
 fC (mF (nQ Cj PySem.F.slot_list_extend PySem.F.type_list_extend Zq (kN hN hv hd ko) (dH he eG hs) ki yb kh hs ar) vn) λ_ _ _=>aR7
def sT {i:Nat}{x:Str}{fq vd:Pos}(hk:QE X a tk)(he:QE X e te)(hN:X.N[i]? = some x:=by rfl)(hv:iR X.env.scope x:=by first|exact Or.inl rfl|exact Or.inr (Or.inl rfl)|exact Or.inr (Or.inr rfl))(hd:(x==("__debug__":Str))=false:=by decide)(ko:(x==("__classdict__":Str))=false:=by decide)(hp:∀(tx:TE) (tg:TE),PE X (.Name x fq) tx->PE X a tg->PG X (.Subscript (.Name x fq) a vd) (yF tx tg yZ):=by intro _ _ h1 h2;exact aD7 h1 h2 aI4)(hs:swapsWithSole [.Subscript (.Name x fq) a vd] e pos.line X.env=pure false:=by rfl)(hw:swappedStores [.Subscript (.Name x fq) a vd] e X.env=pure none:=by rfl) :
  QS X (.Assign [.Subscript (.Name x fq) a vd] e pos) (o6 i tk te):=fC (aD8 he (hp _ _ (kN hN hv hd ko) hk) hs hw) λ_ _ _=>aR8
end
end PP
namespace SO
open PySem PyProof.Rows
variable {rk:Keyed→Int}
section
variable {κ:SortKind}{a0:Array Keyed}{pd:Array (Nat×Nat×Nat)}{st:SortSt}{prog:ay}{w:ba}{A:az}{E:av→aw→Prop}{s:aw}{Ok:Keyed→Prop}
abbrev DS:=Option (Option Nat)×Nat×Nat
end
abbrev LS:=Option (Array Keyed)×Array Keyed×Nat×Nat×Nat×Nat×Nat
abbrev LO:=Option (Array Keyed)×Array Keyed×Nat×Nat×Nat
variable {rk:Keyed→Int}{xs ys o:List Keyed}{i j:Nat}
variable {rk:Keyed→Int}{xs ys o:List Keyed}{i j:Nat}
variable {rk:Keyed→Int}
def Ch:Nat->List (Nat×Nat)->Nat->Prop
 |a,[],b=>a=b
 |a,(p,n)::r,b=>p=a/\0<n/\Ch (a+n) r b
variable {rk:Keyed→Int}{κ:SortKind}{a0:Array Keyed}{pd:Array (Nat×Nat×Nat)}{st:SortSt}{prog:ay}{w:ba}{A:az}{E:av→aw→Prop}{s:aw}{Ok:Keyed→Prop}
end SO
namespace L2
open PySem PySem.Spec PyProof.Rows
def cB.at {P:ay}{w:ba}{H:Hp}{h:Heap}{a:ax}{o:HO}(x:cB P w H h a o):∃ob,h.get? a=some ob:=by
 cases o with
 |lst xs=>obtain⟨_,_,_,_,e⟩:=x;exact⟨_,e⟩
 |tup xs=>obtain⟨_,_,_,⟨_,e,_⟩,_⟩:=x;exact⟨_,e⟩
 |dK bf=>obtain⟨_,_,_,_,_,_,_,e,_⟩:=x;exact⟨_,e⟩
 |dT bf=>obtain⟨_,_,_,_,_,_,_,e,_⟩:=x;exact⟨_,e⟩
 |set S n=>obtain⟨_,_,_,_,e,_⟩:=x;exact⟨_,e⟩
 |ins C dx fs=>obtain⟨_,_,_,e,_⟩:=x;exact⟨_,e⟩
 |own y=>exact x
 |xd fs=>obtain⟨_,⟨_,_,_,e,_⟩,_⟩:=x;exact⟨_,e⟩
 |bj lo hi=>obtain⟨_,_,_,e⟩:=x;exact⟨_,e⟩
 |et ob u=>obtain⟨e,_⟩:=x;exact⟨_,e⟩
 |yk ps=>exact⟨_,x⟩
 |met f y=>exact⟨_,x⟩
 |ext φ=>exact x.2.1
structure E5 (P:ay)(w:ba)(outer:List Env)(H:Hp)(s:aw)(H':Hp)(B:Heap)(a C:ax)(s':aw):Prop where
 os:s'.os=s.os
 bare:AllBare s'.gens
 un:Un (cV outer) [] H H' s.heap s'.heap
 cf:cJ P w H' s'.heap
 Bb:∃a0,Heap.FlyingW B outer a (.ref C) a0 s'.heap
 b0:∀b o,s.heap.get? b=some o->b∉cV outer->∃o',B.get? b=some o'
 b1:∀b o,s.heap.get? b=some o->H b=none->b∉cV outer->B.get? b=some o
 b2:∀b u o,H' b=some u->s'.heap.get? b=some o->B.get? b=some o
def gZ (P:ay)(w:ba):jI:=λouter H s E e s'=>∃(H':Hp) (B:Heap) (a C:ax),e = .ref a/\E5 P w outer H s H' B a C s'/\E (.ref C) none H'
section
variable {P:ay}{w:ba}{outer:List Env}{H H':Hp}{s s':aw}{B h2:Heap}{a C:ax}
def E5.GW (f:E5 P w outer H s H' B a C s')(k:B.StaysIn h2):cJ P w H' h2:=λb u e=>
 (f.cf b u e).cq (λc v hc q=>by
  rcases hc with z|z
  ·subst z;exact k _ _ (f.b2 _ _ _ e q)
  ·exact k _ _ (f.b2 _ _ _ z q)) (λ_ q=>q) λ_ _ q=>q
end
section
variable {P:ay}{w:ba}{K:ad}{mg:Str→Option av}{base:Heap}{N:List Str}{qual:Str}{scope:Scope}{f:ax}{cd:av}{A:az}{outer:List Env}{cx:aw}{bu:Hp}{qi AV:XK}
def vQ {ag:List (ax×Obj)}{σ:St}{H:Hp}{s:aw}(I:a8 (eI (gZ P w) P w K mg base N qual scope f cd A outer cx bu qi) ag σ H s){b:ax}{o:Obj}(e:cx.heap.get? b=some o)(n:b∉cV outer) :
  b∉cV (envOfC qual scope cx.heap.objs.size f cd::outer):=λz=>by
 rcases ff.mp (I.pf b z) with y|y
 ·have l:=jb e
  have y:b=cx.heap.objs.size:=y;exact absurd l (by rw[y];exact uc _)
 ·exact n y
def Zo (hE:∀c d H',AV c d H'->qi c d H'):rH (gZ P w) (eI (gZ P w) P w K mg base N qual scope f cd A outer cx bu qi) AV:=by
 intro ag σ H s e s' I hx
 obtain⟨H',B,a,C,e1,fl,q⟩:=hx
 subst e1;have I':=I.Ca fl.os fl.un fl.cf fl.bare (ch:=[]) (λb z=>absurd z (by simp))
 obtain⟨a0,Bb⟩:=fl.Bb
 refine wpAny_leaves_onW I.ok.frames rfl Bb λh' AK up=>?_
 have slot:∀b o,cx.heap.get? b=some o->b∈cV outer->∃sl,h'.get? b=some { o with slots:=sl }:=λb o e hb=>by
  obtain⟨sl,e1⟩:=I'.base.slot b o e (I.ok.AJ b hb) hb (λz=>nomatch z)
  obtain⟨_,o2,e2,nf⟩:=I.ok.lg.mem hb
  rw[show (eI (gZ P w) P w K mg base N qual scope f cd A outer cx bu qi).cx=cx from rfl,e]at e2;cases e2
  obtain⟨Ef,e3⟩:=up b _ e1 nf
  exact⟨Ef,e3⟩
 have old:∀b o,cx.heap.get? b=some o->bu b=none->b∉cV outer->B.get? b=some o:=λb o e n hb=>
  fl.b1 b o (I.base.keep b o e n hb (λz=>nomatch z)) (I.base.free b o e n (λz=>nomatch z)) (vQ I e hb)
 have Ax:∀b o,cx.heap.get? b=some o->b∉cV outer->∃o',B.get? b=some o':=λb o e hb=>by
  obtain⟨o1,e1⟩:=I.base.there b o e (λz=>nomatch z)
  exact fl.b0 b o1 e1 (vQ I e hb)
 refine⟨H',B,a,C,rfl,⟨I'.os,I'.bare,⟨λb o e n hb _=>AK.1 _ _ (old b o e n hb),λb o e n hb _=>slot b o e hb,λb o e n hx=>I'.base.free b o e n hx,λb o e _=>?_,I'.base.bp,I'.base.kr,I'.base.ny⟩,fl.GW AK.1,⟨a0,AK⟩,Ax,old,λb u o e h=>?_⟩,hE _ _ _ q⟩
 ·by_cases hb:b∈cV outer
  ·obtain⟨sl,e1⟩:=slot b o e hb
   exact⟨_,e1⟩
  ·obtain⟨o',e1⟩:=Ax b o e hb
   exact⟨o',AK.1 _ _ e1⟩
 ·obtain⟨ob,e1⟩:=(fl.cf b u e).at
  have e2:=fl.b2 b u ob e e1;have e3:=AK.1 _ _ e2;have h:h'.get? b=some o:=h;rw[h]at e3;cases e3;exact e2
def Zn {ag:List (ax×Obj)}{σ:St}{H:Hp}{s:aw}{h':Heap}{e C:ax}{args:List av}(I:a8 (eI (gZ P w) P w K mg base N qual scope f cd A outer cx bu qi) ag σ H s)(mx:Heap.MadeExcOf s.heap h' e (.ref C) args)(q:qi (.ref C) none H) :
  (eI (gZ P w) P w K mg base N qual scope f cd A outer cx bu qi).xe (.ref e) { s with heap:=h' }:=by
 have tr:∀b u,H b=some u->b∉cV (envOfC qual scope cx.heap.objs.size f cd::outer):=λb u z n=>by
  rw[I.ug b n]at z;cases z
 have qk:∀b o,s.heap.get? b=some o->b∉cV (envOfC qual scope cx.heap.objs.size f cd::outer)->(PySem.W.hideAll s.heap (cV (envOfC qual scope cx.heap.objs.size f cd::outer))).get? b=some o:=λb o z n=>PySem.W.hideAll_get _ z n
 refine wpAny_leaves_madeW (base:=PySem.W.hideAll s.heap (cV (envOfC qual scope cx.heap.objs.size f cd::outer))) I.ok.frames rfl (λb o z=>PySem.W.of_hideAll _ z) (PySem.W.funFrames_hide I.stack λenv he b hb=>DT.mpr ⟨env,he,hb⟩) mx λJh t Bb _ _ up=>?_
 have slot:∀b o,cx.heap.get? b=some o->b∈cV outer->∃sl,Jh.get? b=some { o with slots:=sl }:=λb o e hb=>by
  obtain⟨sl,e1⟩:=I.base.slot b o e (I.ok.AJ b hb) hb (λz=>nomatch z)
  obtain⟨_,o2,e2,nf⟩:=I.ok.lg.mem hb
  rw[show (eI (gZ P w) P w K mg base N qual scope f cd A outer cx bu qi).cx=cx from rfl,e]at e2;cases e2
  obtain⟨Ef,e3⟩:=up b _ (mx.keeps _ _ e1) nf
  exact⟨Ef,e3⟩
 have old:∀b o,cx.heap.get? b=some o->bu b=none->b∉cV outer->(PySem.W.hideAll s.heap (cV (envOfC qual scope cx.heap.objs.size f cd::outer))).get? b=some o:=λb o e n hb=>
  qk b o (I.base.keep b o e n hb (λz=>nomatch z)) (vQ I e hb)
 have Ax:∀b o,cx.heap.get? b=some o->b∉cV outer->∃o',(PySem.W.hideAll s.heap (cV (envOfC qual scope cx.heap.objs.size f cd::outer))).get? b=some o':=λb o e hb=>by
  obtain⟨o1,e1⟩:=I.base.there b o e (λz=>nomatch z)
  exact⟨o1,qk b o1 e1 (vQ I e hb)⟩
 refine⟨H,_,e,C,rfl,⟨I.os,I.bare,⟨λb o e n hb _=>Bb.1 _ _ (old b o e n hb),λb o e n hb _=>slot b o e hb,λb o e n hx=>I.base.free b o e n hx,λb o e _=>?_,I.base.bp,I.base.kr,I.base.ny⟩,λb u z=>?_,⟨_,Bb⟩,Ax,old,λb u o z h=>?_⟩,q⟩
 ·by_cases hb:b∈cV outer
  ·obtain⟨sl,e1⟩:=slot b o e hb
   exact⟨_,e1⟩
  ·obtain⟨o',e1⟩:=Ax b o e hb
   exact⟨o',Bb.1 _ _ e1⟩
 ·refine (I.cf b u z).cq (λc v hc y=>?_) (λ_ y=>y) λ_ _ y=>y
  rcases hc with z'|z'
  ·subst z';exact Bb.1 _ _ (qk _ _ y (tr _ _ z))
  ·exact Bb.1 _ _ (qk _ _ y (tr _ _ z'))
 ·obtain⟨ob,e1⟩:=(I.cf b u z).at
  have e2:=qk b ob e1 (tr b u z);have e3:=Bb.1 _ _ e2;have h:Jh.get? b=some o:=h;rw[h]at e3;cases e3;exact e2
end
structure qD (X:Cx)(E:XK):Prop where
 pass:rH (gZ X.prog X.w) X E
 made:∀(ag:List (ax×Obj)) (σ:St) (H:Hp) (s:aw) (h':Heap) (e C:ax) (args:List av),a8 X ag σ H s->Heap.MadeExcOf s.heap h' e (.ref C) args->E (.ref C) none H->X.xe (.ref e) { s with heap:=h' }
 own:PassesOwn (model X.prog X.w) X.A X.env X.xe
def Zm {P:ay}{w:ba}{K:ad}{mg:Str->Option av}{base:Heap}{N:List Str}{qual:Str}{scope:Scope}{f:ax}{cd:av}{A:az}{outer:List Env}{cx:aw}{bu:Hp}{qi AV:XK}(hE:∀c d H',AV c d H'->qi c d H') :
  qD (eI (gZ P w) P w K mg base N qual scope f cd A outer cx bu qi) AV:=
 ⟨Zo hE,λ_ _ _ _ _ _ _ _ I mx q=>Zn I mx (hE _ _ _ q),PassesOwn.leaving⟩
def NV (E:XK)(C:ax)(t:TA):TS:=λ_ σ H=>t σ H λvs H1=>vs.length<=sizeLine/\E (.ref C) none H1
def Zl {X:Cx}{E:XK}{x:Str}{C:ax}{bm:List av}{B newId uk:String}{np ai pos:Pos}{e:Expr}{es:List Expr}{t:TA}(hX:qD X E)(hc:X.calm=true)(O:OwnCls x C bm newId X.mg X.base)(FB:ExcBaseFacts B newId uk bm)(ha:PA X (e::es) t)(hg:Gl X x)(hd:(x==("__debug__":Str))=false:=by decide)(he:starEach (e::es) X.env=(false,eval e X.env)::starEach es X.env:=by rfl)(hpl:(backTo ai (starEach es X.env)).any (·.1)=false:=by rfl) :
  PS X (.Raise (some (.Call (.Name x np) (e::es) [] ai)) none pos) (NV E C t):=by
 intro ag s σ H D I h
 obtain⟨tl,Na,nm,qn,bs,hx,sn,sub,ab,col,dd,k0,k1,k2,k3,k5,mN,hC,hN,FE,T⟩:=O.obj
 refine wpAny_Raise_call_subT (nm:=nm) (q:=qn) (N:=Na) (bs:=bs) (bm:=tl) (hdct:=hx) (sn:=sn) (sub:=sub) (ab:=ab) (col:=col) (dd:=dd) (k0:=k0) (k1:=k1) (k2:=k2) (k3:=k3) (k5:=k5) FB (C:=C) (mN:=mN) (T.hasType FB.hasBase) (I.ok.hd hc) (by rw[he];show (false||(backTo ai (starEach es X.env)).any (·.1))=false;rw[hpl];rfl) FE (xZ I hg O.bound ⟨rfl,?_⟩ hd);have h1:=ha ai ag s σ H _ I h;rw[he]at h1 ⊢;refine Calls.evalArgs_plain (qp h1 (λus s2 h2=>?_) λ_ _ y=>y)
 obtain⟨vs,H2,I2,r,hl,q⟩:=h2
 have r:aQ vs us:=r
 exact⟨rfl,by show us.length<=sizeLine;rw[<- r.length];exact hl,I2.bk _ _ hC,hN.keeps I2.bk,T.keeps I2.bk,λh' e' mx=>hX.made ag σ H2 s2 h' e' C _ I2 mx q⟩
def gI.Iz {P:ay}{w:ba}{K:ad}{mg:Str->Option av}{base:Heap}{x qual:Str}{st:Stmt}{f:ax}{fd:FuncData}{N ps:List Str}{k:Nat}{sp:Sp}(F:gI K x qual st f fd)(S:bg N ps (aZ st))(len:∀vs H Q E,sp vs H Q E->vs.length=ps.length)(vq:∀(cy:av) (A:az) (outer:List Env) (s:aw) (H:Hp) (vs:List V) (Q:VK) (E:XK),cW k (A.deeper (envOfC qual (aZ st) s.heap.objs.size f cy))->sp vs H Q E->
   ∃t,fI (eI (gZ P w) P w K mg base N qual (aZ st) f cy A outer s H E) (gC st) t/\t { nx:=λ_ H'=>Q .bw H',rt:=Q } (start N vs) H):dW P w K mg base (gZ P w) (k+1) f fd ps sp:=by
 obtain⟨oc,od,kV,doc,pm,an,cy,ct,Bl,rfl,lk,ko⟩:=F.ex
 exact S8 lk ko S len λA outer s H vs Q E hr AZ=>vq cy A outer s H vs Q E hr AZ
section
variable {X:Cx}{ag:List (ax×Obj)}{σ:St}{H H1 H':Hp}{s s1 s':aw}{B h2:Heap}{a C:ax}
abbrev Cx.Im (X:Cx)(a:ax):Cx:={ X with A:=X.A.mark (some (.ref a)),calm:=false,xe:=λ_ _=>False }
end
abbrev TB:=dS->XK->St->Hp->Prop
section
variable {X:Cx}{ag:List (ax×Obj)}{σ:St}{H H':Hp}{s:aw}{a:ax}
def a8.Gf (I:a8 X ag σ H s)(d:∀b,b≠a->H' b=H b)(ha:∃x,H a=some x)(tup:∀xs,H a≠some (.tup xs))(et:∀o v,X.bu a≠some (.et o v))(yk:∀ps,H a≠some (.yk ps))(cf:cJ X.prog X.w H' s.heap):a8 X ag σ H' s:=by
 have none:∀b,H b=none->H' b=none:=λb e=>by
  rw[d b λz=>?_];exact e
  obtain⟨x,hx⟩:=ha
  rw[z,hx]at e;cases e
 refine⟨I.ok,I.os,I.bare,⟨I.base.keep,I.base.slot,λb o e n hx=>none b (I.base.free b o e n hx),I.base.there,λb xs q=>?_,λb o u q=>?_,λb ps q=>?_⟩,I.loc,I.cell,none _ I.free,λx c e=>none c (I.jm x c e),λp hp=>?_,cf,I.len⟩
 ·have e:=I.base.bp b xs q
  rw[d b λz=>tup xs (by rw[<- z];exact e)];exact e
 ·rw[d b λz=>et o u (by rw[<- z];exact q)];exact I.base.kr b o u q
 ·obtain⟨more,e⟩:=I.base.ny b ps q
  exact⟨more,by rw[d b λz=>yk _ (by rw[<- z];exact e)];exact e⟩
 ·obtain⟨e,n,r⟩:=I.pin p hp
  exact⟨e,none _ n,r⟩
def a8.Cq {o:Obj}{u:HO}(I:a8 X ag σ H s)(h:H a=some (.et o u))(n:∀o v,X.bu a≠some (.et o v)):a8 X ag σ (upd H a u) s:=by
 have own:∀{c:ax}{y:ax},H c=some (.own y)->c≠a:=λ{c y} q z=>by rw[z,h]at q;cases q
 have tp:∀{c:ax}{xs:List V},H c=some (.tup xs)->c≠a:=λ{c xs} q z=>by rw[z,h]at q;cases q
 refine I.Gf (a:=a) (λb n=>aK n) ⟨_,h⟩ (λxs q=>by rw[h]at q;cases q) n (λps q=>by rw[h]at q;cases q) λb v q=>?_
 by_cases hb:b=a
 ·subst hb
  rw[bA]at q;cases q;exact cB.cq (I.cf b _ h).2 (λ_ _ _ q=>q) (λc q=>by rw[aK (own q)];exact q) λc xs q=>by rw[aK (tp q)];exact q
 ·rw[aK hb]at q
  exact (I.cf b v q).cq (λ_ _ _ q=>q) (λc q=>by rw[aK (own q)];exact q) λc xs q=>by rw[aK (tp q)];exact q
end
def Pg (a:ax)(o:Obj)(ys:List V):It:=
 ⟨λi H=>(∃u,H a=some (.et o u))/\i<ys.length,λi H v H'=>H'=H/\ys[i]? = some v,λi H=>(∃u,H a=some (.et o u))/\i=ys.length⟩
def Zk {P:ay}{w:ba}{K:ad}{tg:Expr}{o:Obj}{es:Array DictEntry}{ep:Nat}{ys:List V}(a it:ax)(od:o.ExactDict/\o.data = .dict es ep)(vl:aQ ys (es.toList.map (·.key))) :
  jY P w K tg (Pg a o ys) [it] it (λi h=>h.IsKeyIter it a i es.size ep):=by
 have hs:es.size=ys.length:=by
  have:=vl.length
  rw[df,Dr]at this;exact this.symm
 refine⟨by simp,λi h st b hb=>?_,λi h h' st k=>st.at λo e=>k it (by simp) o e,?_,?_,λ_ _ _ _ _ st q=>wpAny_pyIter_keyiter st q⟩
 ·obtain rfl:b=it:=by simpa using hb
  obtain⟨o,e,c,d⟩:=st
  exact⟨o,e,λv z=>by rw[d]at z;cases z⟩
 ·intro X hP hw hK hc i ag s σ H E I hf st hg
  subst hP hw hK
  obtain⟨⟨u,hu⟩,hi⟩:=hg
  obtain⟨f0,f1,f2,f3,f4,f5⟩:=hf it (by simp)
  refine Raw.turn (I.ok.hd hc) st ⟨o,(I.cf a _ hu).1,od.1,od.2⟩ (λlt h' again sb=>?_) (λge=>absurd ge (by omega));have I1:a8 X ag σ H { s with heap:=h' }:=I.turned (t':=s.toks) (λb o hb e=>(sb.2 b hb).trans e) f0 f1 f3 f4 f5;have hv:=gs hi
  obtain⟨key,hk,rv⟩:=vl.get hv
  obtain rfl:key=es[i].key:=by
   rw[gf]at hk;simp[lt]at hk;exact hk.symm
  obtain⟨o',e,c,d⟩:=id again
  exact⟨es[i].key,rfl,rC (s:={ s with heap:=h' }) e c d (by decide) ⟨_,H,I1,rv,⟨rfl,hv⟩,again,λb hb=>(hf b hb).1⟩⟩
 ·intro X hP hw hK hc i ag s σ H E I hf st hg
  subst hP hw hK
  obtain⟨⟨u,hu⟩,hi⟩:=hg
  obtain⟨f0,f1,f2,f3,f4,f5⟩:=hf it (by simp)
  exact Raw.turn (I.ok.hd hc) st ⟨o,(I.cf a _ hu).1,od.1,od.2⟩ (λlt=>absurd lt (by omega)) λ_ h' eb=>⟨rfl,I.turned (t':=s.toks) (λb o hb e=>eb b o hb e) f0 f1 f3 f4 f5⟩
section
variable {X:Cx}
def NU:V->List V->Hp->VK->Prop:=λx vs H Q=>∃l xs y,∃k:Nat,x = .ref l/\vs = [.int k,y]/\H l=some (.lst xs)/\k<=xs.length/\xs.length<sizeLine/\Q .bw (upd H l (.lst (xs.take k++y::xs.drop k)))
def Zj:pB X "list.insert" NU:=by
 intro ag s σ H x vs v us Q I rx rv h
 obtain⟨l,xs,y,k,rfl,rfl,hH,hk,hz,q⟩:=h
 obtain⟨u1,u2,rfl,⟨t,rfl⟩,r2⟩:=rv.two
 obtain rfl:v=Value.ref l:=rx
 obtain⟨z,bh,n,r,hl,e⟩:=I.uj hH
 have hs:sizeLine=16777216:=sizeLine_eq
 obtain⟨x,hx⟩:∃x:Int,x=(k:Int):=⟨_,rfl⟩
 rw[<- hx];have hf:¬(!Builtin.List.listFitsIndex x)=true:=by
  have h1:Builtin.List.listFitsIndex x=true:=by
   unfold Builtin.List.listFitsIndex;rw[mv]
   exact⟨di (by omega),di (by omega)⟩
  rw[h1];exact om
 have QN:bh.toArray.size<=sizeLine:=by rw[gg];omega
 refine call_meets PySem.F.slot_list_insert ⟨_,e,rfl⟩ PySem.F.entry_list_insert (PySem.F.args_list_insert_3 _ _ _) (AutoSeq1.list_insert_list_int_val_1 l bh.toArray n x t u2 hf QN) ⟨e,.bw,_,?_,rfl,q⟩;refine I.pg (its':=bh.take k++u2::bh.drop k) hH e ?_ ((r.take k).append (.cons r2 (r.drop k))) ?_
 ·have e1:(if x<0 then (x+(bh.toArray.size:Int)).toNat else min x.toNat bh.toArray.size)=k:=by
   rw[if_neg (by omega),gg];omega
  dsimp only;rw[e1];apply Array.toList_inj.mp;simp only[Array.toList_append,Array.toList_push,Array.toList_extract,List.extract_eq_drop_take];simp;rw[qu (by rw[BE];omega)]
 ·rw[jg,ie,xi,BE]
  omega
end
end L2
namespace Core
open PySem L2 PP
def kD (ns:af):Bool:=((ns.zip (ns.drop 1)).map λp=>decide (p.1<p.2)).all id
def vR {α β:Type}{l:List α}{f:α->β}{i:Nat}{x:α}(h:l[i]? = some x):(l.take (i+1)).map f=(l.take i).map f++[f x]:=by
 rw[nq,h];simp
def gQ:∀{ns:af},kD ns=true->ns.Pairwise (·<·)
 |[],_=>.nil
 |[x],_=>ot _ _
 |x::y::r,h=>by
  have e:kD (x::y::r)=(decide (x<y)&&kD (y::r)):=rfl;rw[e,mv]at h;have ih:=gQ h.2;refine wt.mpr ⟨λz hz=>?_,ih⟩;rcases ff.mp hz with rfl|hz
  ·exact mw h.1
  ·exact Int.lt_trans (mw h.1) (List.rel_of_pairwise_cons ih hz)
def vS:∀{ns:af},ns.Pairwise (·<·)->kD ns=true
 |[],_=>rfl
 |[x],_=>rfl
 |x::y::r,h=>by
  have e:kD (x::y::r)=(decide (x<y)&&kD (y::r)):=rfl;have h':=wt.mp h;rw[e,vS h'.2,Ak];exact di (h'.1 y dh)
def kz (ws:af)(ls:aa)(S:af)(h:Int):Bool:=!decide (h∈S)&&decide (ws.getD h.toNat 0<=(((aF ls h).filter λx=>decide (x∈S)).length:Int))
def nextOf (ws:af)(ls:aa)(S:af):af:=((List.range ws.length).map λ(i:Nat)=>(i:Int)).filter (kz ws ls S)
def bR (ws:af)(ls:aa)(S:af):Nat->af
 |0=>S
 |k+1=>bR ws ls S k++nextOf ws ls (bR ws ls S k)
def jz (ws:af)(S:af):Nat:=(((List.range ws.length).map λ(i:Nat)=>(i:Int)).filter λx=>!decide (x∈S)).length
def E6 {α:Type}(p q:α->Bool)(h:∀x,q x=true->p x=false):∀L:List α,(L.filter λx=>!p x&&!q x).length+(L.filter q).length=(L.filter λx=>!p x).length
 |[]=>rfl
 |x::r=>by
  have ih:=E6 p q h r;cases e1:p x with
  |true=>
   have e2:q x=false:=by
    cases e:q x with
    |false=>rfl
    |true=>have:=h x e;rw[e1]at this;cases this
   simp only[qg,e1,e2,Bool.not_true,Bool.false_and,oz,me];exact ih
  |false=>
   cases e2:q x with
   |true=>
    simp only[qg,e1,e2,Bool.not_true,Bool.not_false,Cc,oz,me,if_true,ie];omega
   |false=>
    simp only[qg,e1,e2,Bool.not_false,Ak,oz,me,if_true,ie];omega
def E7 {ws:af}{ls:aa}{S:af}{x:Int}(h:kz ws ls S x=true):decide (x∈S)=false:=by
 unfold kz at h;cases e:decide (x∈S) with
 |false=>rfl
 |true=>rw[e]at h;cases h
def Zi (ws:af)(ls:aa)(S:af):jz ws (S++nextOf ws ls S)+(nextOf ws ls S).length=jz ws S:=by
 have e:=E6 (λx=>decide (x∈S)) (kz ws ls S) (λx h=>E7 h) ((List.range ws.length).map λ(i:Nat)=>(i:Int));unfold jz;rw[<- e];congr 2;refine AQ λx hx=>?_
 have:decide (x∈S++nextOf ws ls S)=(decide (x∈S)||kz ws ls S x):=by
  rw[xf];unfold nextOf;simp only[lx,fi,cz,Bool.or_eq_true]
  exact⟨λz=>z.elim .inl λz=>.inr z.2,λz=>z.elim .inl λz=>.inr ⟨hx,z⟩⟩
 rw[this];cases decide (x∈S)<;>cases kz ws ls S x<;>rfl
def after (ws:af)(ls:aa)(S:af)(m:Nat):ae:=(List.range m).map λk=>nextOf ws ls (bR ws ls S k)
def E8 (ws:af)(ls:aa)(ns:af):∀k,(bR ws ls ns k).length+jz ws (bR ws ls ns k)=ns.length+jz ws ns
 |0=>rfl
 |k+1=>by
  have ih:=E8 ws ls ns k;have cs:=Zi ws ls (bR ws ls ns k);show (bR ws ls ns k++nextOf ws ls (bR ws ls ns k)).length+jz ws (bR ws ls ns k++nextOf ws ls (bR ws ls ns k))=_;rw[jg];omega
def NT {ws ns:af}(hu:ns.Pairwise (·<·))(yw:∀x∈ns,0<=x/\x<(ws.length:Int)):ns.length+jz ws ns<=ws.length:=by
 have nd:ns.Nodup:=hu.imp λh=>yf h
 have sub:ns ⊆ ((List.range ws.length).map λ(i:Nat)=>(i:Int)).filter λx=>decide (x∈ns):=λx hx=>by
  refine cz.mpr ⟨dr.mpr ⟨x.toNat,BC.mpr ?_,?_⟩,di hx⟩
  ·have:=yw x hx;omega
  ·have:=yw x hx;omega
 have h1:=nd.length_le_of_subset sub;have h2:=E6 (λ_=>false) (λx=>decide (x∈ns)) (λ_ _=>rfl) ((List.range ws.length).map λ(i:Nat)=>(i:Int));have h3:(((List.range ws.length).map λ(i:Nat)=>(i:Int)).filter λx=>!false&&!decide (x∈ns)).length=jz ws ns:=rfl;have h4:(((List.range ws.length).map λ(i:Nat)=>(i:Int)).filter λx=>!false).length<=ws.length:=by
  refine og (yg _ _) ?_;rw[df,Dm];exact de _
 rw[h3]at h2;omega
def dS (ws:af)(ls:aa)(ns:af)(m:Nat):Prop:=(∀k<m,nextOf ws ls (bR ws ls ns k)≠[])/\nextOf ws ls (bR ws ls ns m) = []
def hG {ns:af}{i:Nat}{x:PV}(h:(ao ns)[i]? = some x):∃n,x = .int n/\ns[i]? = some n:=by
 rw[gf]at h;cases e:ns[i]? with
 |none=>rw[e]at h;cases h
 |some n=>rw[e]at h;exact⟨n,(jr h).symm,rfl⟩
def mZ {lo:Int}{n i:Nat}{x:PV}(h:(eR lo n)[i]? = some x):x = .int (lo+i)/\i<n:=by
 have hi:i<n:=by
  have:=(gv.mp h).1
  rwa [jN]at this
 rw[C1 hi]at h
 exact⟨(jr h).symm,hi⟩
def bj (n:Nat):af:=(List.range n).map λ(i:Nat)=>(i:Int)
def cH (n:Nat):(bj n).length=n:=by unfold bj;rw[df,Dm]
def NS {n i:Nat}(h:i<n):(bj n)[i]? = some (i:Int):=by unfold bj;rw[gf,List.getElem?_range h];rfl
def bO {n:Nat}{x:Int}:x∈bj n↔0<=x/\x<(n:Int):=by
 unfold bj;rw[dr];constructor
 ·rintro⟨i,hi,rfl⟩
  have:=BC.mp hi
  omega
 ·intro h
  exact⟨x.toNat,BC.mpr (by omega),by omega⟩
def nA {α:Type}{l:List α}{p:α->Bool}{i:Nat}{x:α}(h:l[i]? = some x):(l.take (i+1)).filter p=(l.take i).filter p++(if p x=true then [x] else []):=by
 rw[nq,h,Dn];congr 1;cases e:p x<;>simp[e]
def fE (a b:af):ao (a++b)=ao a++ao b:=gu
def bE (a:af):(ao a).length=a.length:=df _
def bG (ws:af)(ls:aa):PV:=.tup [.tup (ao ws),.tup (ls.map λl=>.tup [.int l.1,.int l.2])]
structure Wb (ws:af)(ls:aa):Prop where
 eu:ws.length<=40
 most:ls.length<=1700
 links:∀l∈ls,(0<=l.1/\l.1<ws.length)/\0<=l.2/\l.2<ws.length
def dG (x:PV)(ns:af):Prop:=x = .tup (ao ns)∨x = .lst (ao ns)
def dG.seq {x:PV}{ns:af}(h:dG x ns):mR x=some (ao ns):=by rcases h with rfl|rfl<;>rfl
def dG.zi {x:PV}{ns:af}(h:dG x ns):zi x=some (ao ns):=by rcases h with rfl|rfl<;>rfl
def oD:∀(ls:aa),flats (ls.map λl=>PV.tup [.int l.1,.int l.2])=true
 |[]=>rfl
 |l::r=>by
  show (flat (.tup [.int l.1,.int l.2])&&flats (r.map λl=>PV.tup [.int l.1,.int l.2]))=true;rw[oD r];rfl
def E9 (ws:af)(ls:aa):flat (bG ws ls)=true:=by
 show flats [.tup (ao ws),.tup (ls.map λl=>PV.tup [.int l.1,.int l.2])]=true;show (flat (.tup (ao ws))&&(flat (.tup (ls.map λl=>PV.tup [.int l.1,.int l.2]))&&true))=true;show (flats (ao ws)&&(flats (ls.map λl=>PV.tup [.int l.1,.int l.2])&&true))=true;rw[cS,oD];rfl
def sV (ns:af):flat (.tup (ao ns))=true:=cS ns
def gR:bV:=λxs Q=>∃ws ls,xs = [bG ws ls]/\Q (.int ws.length)
def NR:aO:=(bY (aB cC (a6 (bI (a5 0) (qC (.int 0))) a9)))
abbrev dC (t:aO)(N:List Str)(p:bV):Prop:=∀xs Q,p xs Q->t { nx:=λ_=>Q .bw,rt:=Q } (iM N xs)
def Zh:dC NR ["web"] gR:=by
 rintro xs Q ⟨ws,ls,rfl,q⟩;refine⟨_,rfl,_,_,_,rfl,rfl,rfl,_,_,rfl,rfl,trivial,?_⟩;rw[bE];exact q
def F0:bV:=λxs Q=>∃x ns,xs = [x]/\dG x ns/\ns.length<=1000/\Q (.bl (kD ns))
def qk (n:Nat)(x:Int):Bool:=decide (0<=x)&&decide (x<(n:Int))
def vT:bV:=λxs Q=>∃ws ls n,xs = [bG ws ls,.int n]/\Q (.bl (qk ws.length n))
def NQ:aO:=(bY (rX (C4 (a5 1) (qC (.int 0))) (pY (a5 1) (aB gR (a6 (a5 0) a9)))))
def Zg:dC NQ ["web","number"] vT:=by
 rintro xs Q ⟨ws,ls,n,rfl,q⟩;refine⟨_,rfl,_,_,rfl,rfl,_,rfl,?_⟩;unfold qk at q;by_cases h:(0:Int)<=n
 ·rw[di h]at q ⊢
  refine bP ⟨_,rfl,_,rfl,ws,ls,rfl,_,_,rfl,rfl,trivial,?_⟩;simpa using q
 ·rw[fk h]at q ⊢
  exact bK ⟨trivial,by simpa using q⟩
def aY (n:Nat)(ns:af):Bool:=kD ns&&(ns.map (qk n)).all id
def vU:bV:=λxs Q=>∃ws ls x ns,xs = [bG ws ls,x]/\dG x ns/\ns.length<=1000/\Q (.bl (aY ws.length ns))
def NP:aO:=(bY (rX (aB F0 (a6 (a5 1) a9)) (aB B7 (a6 (c9 (cD (a5 1)) [none,some 0] (bW 0) dB (aB vT (a6 (a5 1) (a6 (a5 0) a9)))) a9))))
def oE {x:PV}{ns:af}(h:dG x ns):(Slot.sh (flat x) x).tag = .rd->flat x=true:=by
 cases flat x<;>intro z<;>cases z
def Zf:dC NP ["web","numbers"] vU:=by
 rintro xs Q ⟨ws,ls,x,ns,rfl,hx,hl,q⟩;refine⟨_,rfl,x,ns,rfl,hx,hl,_,rfl,?_⟩;unfold aY at q;cases h:kD ns with
 |false=>rw[h]at q;exact bK ⟨trivial,q⟩
 |true=>
  rw[h]at q;refine bP ⟨_,rfl,_,hx.seq,oE hx,by rw[bE];omega,λi acc=>acc=(((ns.take i).map (qk ws.length)).map PV.bl),rfl,?_,?_⟩
  ·rintro i y acc hy rfl
   obtain⟨n,rfl,hn⟩:=hG hy
   have tk:((ns.take (i+1)).map (qk ws.length)).map PV.bl=((ns.take i).map (qk ws.length)).map PV.bl++[PV.bl (qk ws.length n)]:=by rw[vR hn,gu];rfl
   exact⟨_,rfl,_,rfl,ws,ls,n,rfl,trivial,tk.symm⟩
  ·rintro acc rfl
   rw[bE,qr]
   exact⟨_,rfl,trivial,by simpa using q⟩
def dG.BQ {x:PV}{ns:af}(h:dG x ns):∀ms,([x]:List PV)≠[.jo ms]:=by
 rcases h with rfl|rfl<;>intro ms z<;>cases z
structure DS (ps:List (aC×PV))(S:af):Prop where
 has:∀i:Int,(bX ps (Sum.inl i:aC)).isSome=decide (i∈S)
 len:ps.length<=S.length
 fl:flats (ps.map (·.2))=true
def DS.nil:DS [] []:=⟨λi=>rfl,de _,rfl⟩
section
variable {κ:Type}[DecidableEq κ]
def kT {p:κ×PV}{r:List (κ×PV)}{k:κ}(e:p.1=k):bX (p::r) k=some p.2:=by simp[bX,AN,e]
def kE {p:κ×PV}{r:List (κ×PV)}{k:κ}(e:¬p.1=k):bX (p::r) k=bX r k:=by simp[bX,AN,e]
def vV (k:κ):∀bf:List (κ×PV),(bf.any λkv=>decide (kv.1=k))=(bX bf k).isSome
 |[]=>rfl
 |p::r=>by
  rw[BA];by_cases e:p.1=k
  ·simp only[kT e,di e,Bool.true_or,Option.isSome_some]
  ·rw[kE e,fk e,Bool.false_or];exact vV k r
def NO (k j:κ)(y:PV):∀bf:List (κ×PV),bX (bf.map λkv=>if kv.1=k then (kv.1,y) else kv) j=(bX bf j).map λx=>if j=k then y else x
 |[]=>rfl
 |p::r=>by
  have ih:=NO k j y r;rw[ib];by_cases h:p.1=k
  ·rw[if_pos h]
   by_cases e:p.1=j
   ·rw[kT (p:=(p.1,y)) e,kT e,Option.map_some,if_pos (e.symm.trans h)]
   ·rw[kE (p:=(p.1,y)) e,kE e,ih]
  ·rw[if_neg h]
   by_cases e:p.1=j
   ·rw[kT (p:=p) e,kT e,Option.map_some,if_neg (λz=>h (e.trans z))]
   ·rw[kE (p:=p) e,kE e,ih]
def NM (k j:κ)(y:PV):∀bf:List (κ×PV),bX bf k=none->bX (bf++[(k,y)]) j=if j=k then some y else bX bf j
 |[],_=>by
  by_cases e:k=j
  ·rw[if_pos e.symm];exact kT (p:=(k,y)) e
  ·rw[if_neg (λz=>e z.symm)];exact kE (p:=(k,y)) e
 |p::r,hn=>by
  rw[List.cons_append];have hk:¬p.1=k:=λz=>by rw[kT z]at hn;cases hn
  rw[kE hk]at hn;have ih:=NM k j y r hn;by_cases e:p.1=j
  ·rw[kT e,kT e,if_neg (λz=>hk (e.trans z))]
  ·rw[kE e,kE e,ih]
def Ze (bf:List (κ×PV))(k j:κ)(y:PV):bX (dF bf k y) j=if j=k then some y else bX bf j:=by
 unfold dF;by_cases a:(bf.any λkv=>decide (kv.1=k))=true
 ·rw[if_pos a,NO]
  rw[vV]at a;by_cases e:j=k
  ·obtain⟨x,hx⟩:=Option.isSome_iff_exists.mp a
   rw[if_pos e,e,hx,Option.map_some,if_pos rfl]
  ·rw[if_neg e]
   cases bX bf j with
   |none=>rfl
   |some x=>rw[Option.map_some,if_neg e]
 ·rw[if_neg a]
  refine NM k j y bf ?_;rw[vV]at a;cases q:bX bf k with
  |none=>rfl
  |some x=>rw[q]at a;exact (a rfl).elim
def Zd (bf:List (κ×PV))(k:κ)(v:PV):(dF bf k v).length<=bf.length+1:=by
 unfold dF;split
 ·rw[df];omega
 ·rw[jg,ie,List.length_nil];omega
end
def NL:∀(xs:List PV),flats xs=true↔∀x∈xs,flat x=true
 |[]=>by simp[flats]
 |x::r=>by
  unfold flats;rw[mv,NL r];simp
def Zc {κ:Type}[DecidableEq κ]{ps:List (κ×PV)}{k:κ}{v:PV}{p:κ×PV}(h:p∈dF ps k v):p.2=v∨p∈ps:=by
 unfold dF at h;split at h
 ·obtain⟨q,hq,e⟩:=dr.mp h
  split at e
  ·subst e;exact .inl rfl
  ·subst e;exact .inr hq
 ·rcases fi.mp h with h|h
  ·exact .inr h
  ·rw[dt.mp h];exact .inl rfl
def Zb {κ:Type}[DecidableEq κ]{ps:List (κ×PV)}{k:κ}{v:PV}(h:flats (ps.map (·.2))=true)(hv:flat v=true):flats ((dF ps k v).map (·.2))=true:=by
 rw[NL]at h ⊢;intro x hx
 obtain⟨p,hp,rfl⟩:=dr.mp hx
 rcases Zc hp with e|e
 ·rw[e];exact hv
 ·exact h _ (dr.mpr ⟨p,e,rfl⟩)
def DS.put {ps:List (aC×PV)}{S:af}(h:DS ps S)(x:Int)(v:PV)(hv:flat v=true):DS (dF ps (Sum.inl x:aC) v) (S++[x]):=by
 refine⟨λi=>?_,?_,Zb h.fl hv⟩
 ·rw[Ze]
  by_cases e:i=x
  ·subst e;rw[if_pos rfl];simp
  ·rw[if_neg (λz=>e (Sum.inl.inj z)),h.has]
   simp[e]
 ·have:=Zd ps (Sum.inl x:aC) v
  have:=h.len
  rw[jg,uy];omega
def kU:bV:=λxs Q=>∃x ns,xs = [x]/\dG x ns/\ns.length<=1000/\∀ps,DS ps ns->Q (.dK ps)
def NK:aO:=(aI (e6 1 (qC (.dK [])))
 (aI (fB (cD (a5 0)) (bW 2)
  (pV 1 (a5 2) (qC (.bl true))))
 (lU 1)))
def Za:dC NK ["hearths","inside","hearth"] kU:=by
 rintro xs Q ⟨x,ns,rfl,hx,hl,q⟩;refine⟨rfl,rfl,_,rfl,_,hx.seq,oE hx,λi ρ=>∃y ps,ρ = [some (.sh (flat x) x),some (.own (.dK ps)),y]/\DS ps (ns.take i),⟨none,[],rfl,DS.nil⟩,?_,?_⟩
 ·rintro i y ρ hy ⟨y0,ps,rfl,d⟩
  obtain⟨n,rfl,hn⟩:=hG hy
  have aj:=d.len;rw[xi]at aj;refine⟨_,rfl,_,rfl,Sum.inl n,rfl,trivial,by omega,_,_,rfl,?_⟩;rw[nq,hn];exact d.put n _ rfl
 ·rintro ρ ⟨y,ps,rfl,d⟩
  rw[bE,qr]at d
  exact⟨_,rfl,trivial,q ps d⟩
def vW:bV:=λxs Q=>∃x ns ps S,xs = [x,.dK ps]/\dG x ns/\DS ps S/\ns.length<=10000/\Q (.int ((ns.filter λx=>decide (x∈S)).length:Nat))
def NJ:aO:=(bY (aB cC (a6 (c9 (cD (a5 0)) [none,some 1] (bW 0) (bH (kB false (a5 0) (a5 1))) (a5 0)) a9)))
def YZ:dC NJ ["hearths","inside"] vW:=by
 rintro xs Q ⟨x,ns,ps,S,rfl,hx,d,hl,q⟩;refine⟨_,rfl,_,hx.seq,oE hx,by rw[bE];omega,λi acc=>acc=ao ((ns.take i).filter λx=>decide (x∈S)),rfl,?_,?_⟩
 ·rintro i y acc hy rfl
  obtain⟨n,rfl,hn⟩:=hG hy
  have tk:=nA (p:=λx=>decide (x∈S)) hn;refine⟨_,rfl,_,rfl,_,.inl ⟨ps,Sum.inl n,rfl,rfl,rfl⟩,_,rfl,?_⟩;show if (bX ps (Sum.inl n:aC)).isSome=true then _ else _
  rw[d.has n];by_cases h:n∈S
  ·rw[di h]at tk ⊢
   refine bP ⟨_,rfl,trivial,?_⟩;rw[if_pos rfl]at tk;show _=ao (List.filter _ (List.take (i+1) ns));rw[tk,fE];rfl
  ·rw[fk h]at tk ⊢
   refine bK ?_;rw[if_neg (by decide),vb]at tk;show _=ao (List.filter _ (List.take (i+1) ns));rw[tk]
 ·rintro acc rfl
  rw[bE,qr];refine⟨_,_,rfl,rfl,trivial,?_⟩;rw[bE];exact q
def cA (n:Nat)(ls:aa):List PV:=(List.range n).map λ(k:Nat)=>PV.lst (ao (aF ls k))
def i6:bV:=λxs Q=>∃ws ls,xs = [bG ws ls]/\Wb ws ls/\Q (.lst (cA ws.length ls))
def vX {n:Nat}{ls:aa}{h:Int}(h0:0<=h)(h1:h<(n:Int)):ma (cA n ls) h=some (.lst (ao (aF ls h))):=by
 refine nZ h0 ?_;unfold cA;rw[gf,List.getElem?_range (by omega)];show some (PV.lst (ao (aF ls ((h.toNat:Nat):Int))))=_;rw[show ((h.toNat:Nat):Int)=h by omega]
def NI {ws:af}{h:Int}(h0:0<=h)(h1:h<(ws.length:Int)):ma (ao ws) h=some (.int (ws.getD h.toNat 0)):=by
 refine nZ h0 ?_
 have:h.toNat<ws.length:=by omega
 rw[gf,ju,gs this];rfl
def bp (rs:ae):List PV:=rs.map λr=>PV.tup (ao r)
def oF {rs:ae}{i:Nat}{x:PV}(h:(bp rs)[i]? = some x):∃r,x = .tup (ao r)/\rs[i]? = some r:=by
 unfold bp at h;rw[gf]at h;cases e:rs[i]? with
 |none=>rw[e]at h;cases h
 |some n=>rw[e]at h;exact⟨n,(jr h).symm,rfl⟩
def cM (rs:ae):(bp rs).length=rs.length:=df _
def jR:∀(rs:ae),flats (bp rs)=true
 |[]=>rfl
 |r::t=>by
  show (flat (.tup (ao r))&&flats (bp t))=true;rw[sV,jR t];rfl
def dD {n:Nat}{ns:af}(h:aY n ns=true):kD ns=true/\∀x∈ns,0<=x/\x<(n:Int):=by
 unfold aY at h;rw[mv,AO]at h;refine⟨h.1,λx hx=>?_⟩
 have:=h.2 _ (dr.mpr ⟨x,hx,rfl⟩)
 unfold qk at this;simpa using this
def oG {n:Nat}{ns:af}(h:aY n ns=true):ns.length<=n:=by
 obtain⟨h1,h2⟩:=dD h
 have:=NT (ws:=List.replicate n (0:Int)) (gQ h1) (by rw[Cg];exact h2)
 rw[Cg]at this;omega
end Core
namespace PP
open PySem L2
def vY (te:aG):aG:=λρ Q=>te ρ λx _=>∃n:Int,x = .int n/\0<=n/\n<=1000000/\Q (.lst (eR 0 n.toNat)) .fr
def oH:List PV->(PV->Prop)->Prop:=λxs Q=>∃ys:ae,xs = [.lst (ys.map λr=>PV.tup (ao r))]/\ys.length<64/\(∀y∈ys,y≠[])/\∀zs:ae,zs.Perm ys->zs.Pairwise (λu v=>HT.gB v u=false)->Q (.lst (zs.map λr=>PV.tup (ao r)))
end PP
namespace Core
open PySem L2 PP
def YY (g:Tg)(n:Int):Nw g (.int n):=by cases g<;>first|exact trivial|rfl
def sW (x:PV)(ns:af):Prop:=x = .jo ns∨x = .lst (ao ns)
def sW.seq {x:PV}{ns:af}(h:sW x ns):mR x=some (ao ns):=by rcases h with rfl|rfl<;>rfl
def sW.len {x:PV}{ns:af}(h:sW x ns):B6 x=some ns.length:=by
 rcases h with rfl|rfl
 ·rfl
 ·show some (ao ns).length=_
  rw[bE]
def jS:bV:=λxs Q=>∃x ns k,xs = [x,.int k]/\sW x ns/\0<=k/\Q (.int (ns.getD k.toNat 0))
def NH:aO:=(aI (dO (bH (pY (a5 1) (aB cC (a6 (a5 0) a9)))) (bY (bI (a5 0) (a5 1))) dZ)
 (bY (qC (.int 0))))
def YX:dC NH ["script","k"] jS:=by
 rintro xs Q ⟨x,ns,k,rfl,hx,h0,q⟩;refine⟨_,rfl,_,rfl,_,_,rfl,hx.len,_,_,rfl,rfl,_,rfl,?_⟩;by_cases h:k<(ns.length:Int)
 ·rw[di h]
  exact bP ⟨_,rfl,_,rfl,_,_,_,hx.seq,rfl,NI h0 h,YY _ _,q⟩
 ·rw[fk h]
  rw[ju,EZ (by omega)]at q;exact bK ⟨trivial,q⟩
def b6 (ls:aa):List PV:=ls.map λl=>PV.tup [.int l.1,.int l.2]
def lX (ls:aa):(b6 ls).length=ls.length:=df _
def lY (l m:Int×Int):Prop:=l.1<m.1∨(l.1=m.1/\l.2<m.2)
abbrev si (n:Int):Option Slot:=some (.sh true (.int n))
def dG.len {x:PV}{ns:af}(h:dG x ns):B6 x=some ns.length:=by
 rcases h with rfl|rfl<;>(show some (ao ns).length=_;rw[bE])
def vZ {ls:aa}{i:Nat}{x:PV}(h:(b6 ls)[i]? = some x):∃l,x = .tup [.int l.1,.int l.2]/\ls[i]? = some l:=by
 unfold b6 at h;rw[gf]at h;cases e:ls[i]? with
 |none=>rw[e]at h;cases h
 |some n=>rw[e]at h;exact⟨n,(jr h).symm,rfl⟩
end Core
namespace PP
open PySem L2 PyProof.Rows
def bb.rep {K:ad}{M:ax->Prop}{H:Hp}{us:List V}{xs:List PV}(r:bb K M H us xs):∀k:Nat,bb K M H (List.replicate k us).flatten (List.replicate k xs).flatten
 |0=>.nil
 |k+1=>by rw[Ag,Ag,BF,BF];exact r.append (bb.rep r k)
section
variable {X:Cx}{a b e:Expr}{ta tb te:aG}{tr:dI}{pos p2 p3 qy:Pos}
def NG {tA:TA}(hg:Gl X "range")(hm:X.mg "range" = none)(ha:PA X [a] tA)(hs:starEach [a] X.env = [(false,eval a X.env)]:=by rfl) :
  PE X (.Call (.Name "range" p2) [a] [] pos) (λσ H Q=>tA σ H λvs H1=>∃j:Int,vs = [.int j]/\∀r,H1 r=none->Q (.ref r) (upd H1 r (.bj 0 j))):=by
 intro ag s σ H Q I h;refine Call_ (lH I hg hm boot_range (Cm (aR (ha pos ag s σ H _ I h) λus s1 ⟨vs,H1,I1,r1,q1⟩=>?_) hs rfl))
 obtain⟨j,e,q⟩:=q1
 subst e;cases r1 with
 |cons r rr=>
  cases rr
  obtain⟨t,rfl⟩:=r
  refine call_range_1 ?_
  exact⟨.ref s1.heap.objs.size,_,I1.laid (o:=.bj 0 j) (λb ob q=>ic _ q) (de _) ⟨_,_,_,my _ rfl⟩,rfl,q _ (I1.cf.fresh (de _))⟩
def NF:∀{xs:List V}{us:List av},xs.length=us.length->(∀(i:Nat) x u,xs[i]? = some x->us[i]? = some u->b5 x u)->aQ xs us
 |[],[],_,_=>.nil
 |x::xs,u::us,hl,h=>.cons (h 0 x u rfl rfl) (NF (by simpa using hl) λi y w h1 h2=>h (i+1) y w (by rw[BI];exact h1) (by rw[BI];exact h2))
def ND {n:Nat}{acc:Array av}(h:ItemsOf (λi v=>∃t,v = .int (0+(i:Int)*1) t) acc n):aQ (jL 0 n) acc.toList:=by
 obtain⟨h1,h2⟩:=h
 refine NF (by rw[uH];simp[h1]) λi x u hx hu=>?_
 have hi:i<n:=by
  have:=(gv.mp hx).1
  rwa [uH]at this
 unfold jL at hx;rw[gf,List.getElem?_range hi]at hx;cases hx
 obtain⟨t,rfl⟩:=h2 i u (by rw[<- Array.getElem?_toList];exact hu)
 exact⟨t,by congr 1;omega⟩
def YW (hc:X.calm=true):dU X (.type "list") (λxs H Q=>∃r j,xs = [.ref r]/\H r=some (.bj 0 j)/\0<=j/\j<=1000000/\∀l,H l=none->Q (.ref l) (upd H l (.lst (jL 0 j.toNat)))):=by
 intro ag s σ H xs us Q I r h
 obtain⟨p,j,rfl,hq,h0,h1,q⟩:=h
 obtain⟨u,rfl,rx⟩:=iF r
 cases rx
 obtain⟨t,u,v,ho⟩:=(show cB X.prog X.w H s.heap p (.bj 0 j) from I.cf p _ hq)
 refine PySem.call_list_range (a:=0) (b:=j) (c:=1) (n:=j.toNat) (I.ok.hd hc) ho (small_one (by decide) (by decide) (by omega) (by omega)) (by rw[rangeSize_one];split<;>omega) (by omega) λh' tk yh c' kp e it=>?_
 have vv:=ND it;have eq:yh.toList.toArray=yh:=by simp
 exact⟨.ref s.heap.objs.size,_,I.laid (t':=tk) (o:=.lst (jL 0 j.toNat)) kp (de _) ⟨by rw[uH];exact lim (by omega),yh.toList,c',vv,by rw[eq];exact e⟩,rfl,q _ (I.cf.fresh (de _))⟩
def NC {K:ad}{M:ax->Prop}{H:Hp}(lo:Int)(n:Nat):bb K M H (jL lo n) (eR lo n):=by
 unfold jL eR;generalize List.range n=l
 induction l with
 |nil=>exact .nil
 |cons a r ih=>exact .cons (.int _) ih
def F1 (B:Bt X.mg)(ha:QE X a ta)(hc:X.calm=true:=by rfl)(hg:Gl X "list":=by rfl)(Hh:Gl X "range":=by rfl)(hs:starEach [a] X.env = [(false,eval a X.env)]:=by rfl)(he:starEach [.Call (.Name "range" p3) [a] [] qy] X.env=(false,eval (.Call (.Name "range" p3) [a] [] qy) X.env)::starEach [] X.env:=by rfl)(hpl:(backTo pos (starEach [] X.env)).any (·.1)=false:=by rfl) :
  QE X (.Call (.Name "list" p2) [.Call (.Name "range" p3) [a] [] qy] [] pos) (vY ta):=
 cG (yU (YW hc) hg B.list PyProof.Rows.boot_list (dH (NG Hh B.range (dH ha eG hs) hs) eG he) (he:=he) (hpl:=hpl)) λσ H Q' h=>by
  obtain⟨W,ρ,Q,px,q,k⟩:=h
  refine⟨W,ρ,_,px,q,?_⟩;rintro v H1 x g s r ⟨n,rfl,h0,h1,q⟩;cases r;refine⟨n,rfl,λr hr=>⟨r,n,rfl,bA,h0,h1,λl hl=>?_⟩⟩;have S:aE H (upd (upd H1 r (.bj 0 n)) l (.lst (jL 0 n.toNat))):=(s.trans (bL hr _)).trans (bL hl _);exact k _ _ _ .fr S (.lst (((s.trans (bL hr _))).free hl) bA (NC 0 n.toNat)) q
def F3:V->Int
 |.int i=>i
 |_=>0
def oI (H:Hp):V->af
 |.ref a=>match H a with
  |some (.tup us)=>us.map F3
  |_=>[]
 |_=>[]
def YV {H:Hp}{a:ax}{ns:af}(h:H a=some (.tup (ns.map V.int))):oI H (.ref a)=ns:=by
 show (match H a with|some (.tup us)=>us.map F3|_=>[])=ns;rw[h];show (ns.map V.int).map F3=ns;rw[kq];exact List.map_id _
def NB {K:ad}{M:ax->Prop}{H:Hp}:∀{us:List V}{ys:ae},bb K M H us (ys.map λr=>PV.tup (ao r))->us.map (oI H)=ys/\∀u∈us,∃b,u = .ref b/\H b=some (.tup ((oI H u).map V.int))
 |_,[],.nil=>⟨rfl,λu h=>nomatch h⟩
 |_,y::ys,.cons r t=>by
  obtain⟨a,us,rfl,h,r1⟩:=r.qj
  obtain rfl:=r1.ofInts
  obtain⟨h1,h2⟩:=NB t
  have hk:=YV h;refine⟨by rw[ib,h1,hk],λu hu=>?_⟩;rcases ff.mp hu with rfl|hu
  ·exact⟨a,rfl,by rw[hk];exact h⟩
  ·exact h2 u hu
def NA {K:ad}{M:ax->Prop}{H:Hp}:∀{us:List V},(∀u∈us,∃b,u = .ref b/\H b=some (.tup ((oI H u).map V.int)))->bb K M H us ((us.map (oI H)).map λr=>PV.tup (ao r))
 |[],_=>.nil
 |u::us,h=>by
  obtain⟨b,rfl,hb⟩:=h u dh
  exact .cons (.tup hb (bb.ao _)) (NA λv hv=>h v (fu _ hv))
def Nz:gU X oH (uO X.K):=by
 rintro H vs xs Q Q' r ⟨ys,rfl,hl,tu,q⟩ k
 obtain⟨v,rfl,r1⟩:=r.one
 obtain⟨a,us,rfl,_,h,r2⟩:=r1.oo
 obtain⟨h1,h2⟩:=NB r2
 have lr:=r2.length;rw[df]at lr;refine⟨a,us,oI H,rfl,aM.of h,by omega,λy hy=>?_,λl zs mq pm so=>?_⟩
 ·obtain⟨b,rfl,hb⟩:=h2 y hy
  refine⟨b,rfl,aW.of hb,tu _ ?_⟩;rw[<- h1];exact dr.mpr ⟨_,hy,rfl⟩
 ·have hz:∀u∈zs,∃b,u = .ref b/\H b=some (.tup ((oI H u).map V.int)):=λu hu=>h2 u (pm.mem_iff.mp hu)
  refine k _ _ _ (bL mq _) (.lst mq bA ((NA hz).same (bL mq _) λ_ z=>z)) (q _ ?_ ?_)
  ·rw[<- h1];exact pm.map _
  ·rw[uw];exact so
def F4 (B:Bt X.mg)(ha:QA X [e] tr)(hg:Gl X "sorted":=by rfl)(he:starEach [e] X.env=(false,eval e X.env)::starEach [] X.env:=by rfl)(hpl:(backTo pos (starEach [] X.env)).any (·.1)=false:=by rfl):QE X (.Call (.Name "sorted" p2) [e] [] pos) (aB oH tr):=
 jP OT Nz hg B.sorted Fd ha (he:=he) (hpl:=hpl)
end
def Ny (K:ad):Sp:=λvs H Q _=>∃(a:ax) (ns:af),vs = [.ref a]/\(aW K H a (ns.map V.int)∨aM K H a (ns.map V.int))/\ns.length<=1000/\∀H',aE H H'->Q (.bl (Core.kD ns)) H'
def w4:Sp:=λvs H Q _=>∃v ws ls,vs = [v]/\OQ H v ws ls/\ws.length<=1000/\ls.length<=2000/\(∀l∈ls,(0<=l.1/\l.1<ws.length)/\0<=l.2/\l.2<ws.length)/\
 ∀(r:ax) (bs:List ax) (H':Hp),bs.length=ws.length->k7 H H' r bs (λk=>aF ls k)->Q (.ref r) H'
section
variable {P:ay}{w:ba}{K:ad}{mg:Str→Option av}{base:Heap}{f:ax}{fd:FuncData}{k:Nat}
def YU (F:dW P w K mg base eJ k f fd ["things"] (Ny K))(b:jZ K fd ["things"] [])(kp:PySem.W.keepIn K (.ref f)=true)(m:mg "rises" = some (.ref f)):Df P w K mg base k "rises" ["things"] Core.F0:=by
 refine⟨f,fd,F.imp λvs H Q E h=>?_,b,kp,m⟩
 obtain⟨xs,Qp,r,⟨x,ns,rfl,hx,hl,q⟩,k⟩:=h
 obtain⟨v,rfl,r1⟩:=r.one
 rcases hx with rfl|rfl
 ·obtain⟨a,us,rfl,h,r2⟩:=r1.qj
  obtain rfl:=r2.ofInts
  exact⟨a,ns,rfl,.inl (aW.of h),hl,λH' s=>k _ H' _ s (.bl _) q⟩
 ·obtain⟨a,us,rfl,_,h,r2⟩:=r1.oo
  obtain rfl:=r2.ofInts
  exact⟨a,ns,rfl,.inr (aM.of h),hl,λH' s=>k _ H' _ s (.bl _) q⟩
def Nx {M:ax->Prop}{H:Hp}:∀{us:List V}{ls:aa},bb K M H us (ls.map λl=>PV.tup [.int l.1,.int l.2])->rS H us ls
 |_,[],.nil=>.nil
 |_,l::ls,.cons r t=>by
  obtain⟨a,us,rfl,h,r1⟩:=r.qj
  obtain⟨u1,u2,rfl,q1,q2⟩:=r1.two
  cases q1;cases q2;exact .cons ⟨a,rfl,h⟩ (Nx t)
def Nv {M:ax->Prop}{H:Hp}{v:V}{ws:af}{ls:aa}(r:aH K M H v (Core.bG ws ls)):OQ H v ws ls:=by
 obtain⟨a,us,rfl,h,r1⟩:=aH.qj r
 obtain⟨u1,u2,rfl,q1,q2⟩:=r1.two
 obtain⟨p,up,rfl,hp,rp⟩:=q1.qj
 obtain⟨q,uq,rfl,hq,rq⟩:=q2.qj
 obtain rfl:=rp.ofInts
 exact⟨a,p,q,uq,rfl,h,hp,hq,Nx rq⟩
def F5 {M:ax->Prop}{H:Hp}:∀{bs:List ax}{ls:aa} (off:Nat),(∀b∈bs,M b)->(∀(k:Nat) b,bs[k]? = some b->H b=some (.lst ((aF ls ((off+k:Nat):Int)).map V.int)))->bb K M H (bs.map V.ref) ((List.range' off bs.length).map λ(k:Nat)=>PV.lst (ao (aF ls k)))
 |[],_,_,_,_=>.nil
 |b::bs,ls,off,hm,h=>by
  refine .cons (.lst (hm b dh) (h 0 b rfl) (bb.ao _)) (F5 (off+1) (λc hc=>hm c (fu _ hc)) λk c hk=>?_)
  have:=h (k+1) c (by rw[BI];exact hk)
  rw[show off+1+k=off+(k+1) by omega];exact this
def YT (F:dW P w K mg base eJ k f fd ["web"] w4)(b:jZ K fd ["web"] [])(kp:PySem.W.keepIn K (.ref f)=true)(m:mg "near_lists" = some (.ref f)):Df P w K mg base k "near_lists" ["web"] Core.i6:=by
 refine⟨f,fd,F.imp λvs H Q E h=>?_,b,kp,m⟩
 obtain⟨xs,Qp,r,⟨ws,ls,rfl,wb,q⟩,k⟩:=h
 obtain⟨v,rfl,r1⟩:=r.one
 have:=wb.eu
 have:=wb.most
 refine⟨v,ws,ls,rfl,Nv r1,by omega,by omega,wb.links,λt bs H' hb R=>k _ H' _ R.same (.lst R.new R.row ?_) q⟩
 have:=F5 (K:=K) (M:=λa=>H a=none) (H:=H') (bs:=bs) (ls:=ls) 0 (λb hb=>(R.news b hb).1) λk b hk=>by rw[Nat.zero_add];exact R.rows k b hk
 rw[hb,<- List.range_eq_range']at this;exact this
end
end PP
namespace Core
open PySem L2 PP
def F6 (n:Nat):eR 0 n=ao (bj n):=by
 unfold eR bj;show _=List.map PV.int (List.map (λ(i:Nat)=>(i:Int)) (List.range n));rw[kq];refine zf λi _=>?_
 show PV.int (0+(i:Int))=PV.int (i:Int);rw[Bz]
def F7 (n:Nat):(bj n).Nodup:=by
 unfold bj;rw[List.nodup_iff_pairwise_ne,uw];exact (List.nodup_range (n:=n)).imp λh e=>h (by omega)
def two (l:Int×Int):af:=[l.1,l.2]
def sX (r:af):Int×Int:=(r.getD 0 0,r.getD 1 0)
def w5 (ls:aa):b6 ls=(ls.map two).map λr=>PV.tup (ao r):=by
 unfold b6;rw[kq];rfl
def Nu {zs:ae}{ls:aa}(h:zs.Perm (ls.map two)):∃wz:aa,zs=wz.map two/\wz.Perm ls:=by
 refine⟨zs.map sX,?_,?_⟩
 ·rw[kq]
  have:∀z∈zs,(two ∘ sX) z=z:=λz hz=>by
   obtain⟨l,_,rfl⟩:=dr.mp (h.mem_iff.mp hz)
   rfl
  rw[zf this,List.map_id']
 ·have:=h.map sX
  rw[kq]at this;have e:ls.map (sX ∘ two)=ls:=by
   have:∀l∈ls,(sX ∘ two) l=id l:=λl _=>rfl
   rw[zf this,List.map_id]
  rw[e]at this;exact this
def YS {ls:aa}(so:(ls.map two).Pairwise λu v=>HT.gB v u=false)(nd:ls.Nodup):ls.Pairwise lY:=by
 rw[uw]at so;refine (List.pairwise_and_iff.mpr ⟨so,nd⟩).imp λ{a b} h=>?_
 obtain⟨h1,h2⟩:=h
 unfold two at h1;rw[HT.pA]at h1;unfold lY;by_cases e:b.1=a.1
 ·rw[if_pos e,HT.pA]at h1
  by_cases e2:b.2=a.2
  ·exact absurd (Prod.ext e.symm e2.symm) h2
  ·rw[if_neg e2]at h1
   have:=BG h1
   omega
 ·rw[if_neg e]at h1
  have:=BG h1
  omega
structure oJ (i:Int)(ms:af):Prop where
 up:ms.Pairwise (·<·)
 fe:∀x∈ms,0<=x/\x<i
 len:(ms.length:Int)<=i
def oJ.set {n:Nat}{ms:af}(h:oJ (n:Int) ms):aY n ms=true:=by
 unfold aY;rw[vS h.up,Bool.true_and,AO];intro b hb
 obtain⟨x,hx,rfl⟩:=dr.mp hb
 have:=h.fe x hx
 unfold qk;simp[this]
def YR {ls:aa}{n:Int}(yw:∀l∈ls,0<=l.1/\l.1<l.2/\l.2<n){h x:Int}(hx:x∈aF ls h):0<=x/\x<n:=by
 unfold aF at hx
 obtain⟨l,hl,hx⟩:=List.mem_flatMap.mp hx
 have:=yw l hl
 rcases fi.mp hx with hx|hx
 ·split at hx
  ·rw[dt.mp hx];omega
  ·cases hx
 ·split at hx
  ·rw[dt.mp hx];omega
  ·cases hx
def F8:∀{a b:af},a.Perm b->a.Pairwise (· <= ·)->b.Pairwise (· <= ·)->a=b:=by
 intro a b h ha hb;exact h.eq_of_pairwise (λx y _ _ h1 h2=>Int.le_antisymm h1 h2) ha hb
def Nt:bV:=λxs Q=>∃ns:af,xs = [.jo ns]/\ns.length<=63/\Q (.bl true)
end Core
namespace PP
open PySem L2 PyProof.Rows
def YQ {P:ay}{w:ba}{K:ad}{mg:Str->Option av}{base:Heap}{k:Nat}{x:Str}{ps N:List Str}{p:bV}{st:Stmt}{f:ax}{fd:FuncData}(F:gI K x x st f fd)(S:bg N ps (aZ st))(len:∀xs Q,p xs Q->xs.length=ps.length)(body:∀(cy:av) (A:az) (outer:List Env) (s:aw) (H:Hp) (E:XK),cW k (A.deeper (envOfC x (aZ st) s.heap.objs.size f cy))->
   ∃t,gN (eI eJ P w K mg base N x (aZ st) f cy A outer s H E).Bo (gC st) t/\∀xs Q,p xs Q->t { nx:=λ_=>Q .bw,rt:=Q } (iM N xs)):dW P w K mg base eJ (k+1) f fd ps (rZ K p):=by
 refine F.ok S (λvs H Q E h=>?_) (λcy A outer s H vs Q E hr h=>?_)
 ·obtain⟨xs,Qp,r,q,_⟩:=h
  rw[r.length];exact len xs Qp q
 ·obtain⟨xs,Qp,r,q,k⟩:=h
  obtain⟨t,ht,hq⟩:=body cy A outer s H E hr
  refine⟨_,ht,λ_=>False,iM N xs,_,vN r,hq xs Qp q,?_,?_,?_,?_⟩
  ·exact λW' cj H' gi e px q=>k _ _ _ px.same .bw q
  ·exact λv H' x s r q=>k _ _ _ s r q
  ·exact λW' cj H' gi e px q=>q
  ·exact λW' cj H' gi e px q=>q
def w6 (K:ad):Sp:=λvs H Q _=>∃(a:ax) (ns:af),vs = [.ref a]/\lT K H a ns/\ns.length<=63/\∀H',Q (.bl true) H'
def YO {P:ay}{w:ba}{K:ad}{mg:Str->Option av}{base:Heap}{k:Nat}{f:ax}{fd:FuncData}(F:dW P w K mg base eJ k f fd ["script"] (rZ K Core.Nt)):dW P w K mg base eJ k f fd ["script"] (w6 K):=
 F.imp λvs H Q E h=>by
  obtain⟨a,ns,rfl,hs,hl,q⟩:=h
  refine⟨[.jo ns],λz=>z = .bl true,.cons (.jo hs) .nil,⟨ns,rfl,hl,rfl⟩,?_⟩;rintro v H' x _ r rfl;cases r;exact q H'
def YN {K:ad}{H:Hp}{a:ax}{ns:af}(hO:u7 H)(h:aM K H a (ns.map V.int)):lT K H a ns:=by
 rcases h with (h|⟨o,h⟩)|h
 ·rcases hO a with e|⟨o,xs,e⟩<;>(rw[h]at e;cases e)
 ·exact .inl ⟨o,h⟩
 ·exact .inr h
end PP
namespace PyProof.Rows
open PySem
end PyProof.Rows
namespace PP
open PySem L2 PyProof.Rows
section
variable {X:Cx}{a b e:Expr}{ta tb te:aG}{tr:dI}{pos p2:Pos}
def Nr:PV->Tg->PV->Tg->PK->Prop:=λx _ y _ Q=>∃xs ys,x = .lst xs/\y = .lst ys/\flats xs=true/\flats ys=true/\xs.length+ys.length<=16000000/\Q (.lst (xs++ys)) .fr
abbrev Nq (ta tb:aG):aG:=q2 Nr ta tb
def YM:fN X Nr V0:=by
 rintro W Hs H u v x y g g' Q Q' s n r1 r2 ⟨xs,ys,rfl,rfl,f1,f2,hl,q⟩ k
 obtain⟨a,us,rfl,_,h1,q1⟩:=r1.oo
 obtain⟨b,ws,rfl,_,h2,q2⟩:=r2.oo
 have l1:=q1.length;have l2:=q2.length;refine⟨a,b,us,ws,rfl,rfl,h1,h2,lim (by omega),λp hp=>k _ _ _ .fr (bL hp _) (.lst (s.free hp) bA (((q1.flat f1).append (q2.flat f2)).same (bL hp _) λ_ z=>z)) q⟩
def YL (ha:QE X a ta)(hb:QE X b tb):QE X (.BinOp a .Add b pos) (Nq ta tb):=kS aJ6 YM ha hb
end
end PP
namespace L2
open PySem PySem.Spec PyProof.Rows
def F9 (K:ad)(a:ax):It:=
  ⟨λi H=>∃xs x,aM K H a xs/\xs[i]? = some x,
   λi H v H'=>∃T x,H T=none/\v = .ref T/\H'=upd H T (.tup [.int i,x])/\∀xs,aM K H a xs->xs[i]? = some x,
   λi H=>∃xs,aM K H a xs/\xs.length<=i⟩
structure YK (e it a:ax)(i:Nat)(h:Heap):Prop where
 ee:∃old,IsEnum h e it i old
 s1:h.IsListIter it a i
def YJ {P:ay}{w:ba}{K:ad}{elts:List Expr}{k:Nat}{pos:Pos}(a e it:ax)(d:e≠it) :
  jY P w K (.Tuple elts k pos) (F9 K a) [e,it] e (YK e it a):=by
 refine⟨by simp,λi h st c hc=>?_,λi h h' st kp=>?_,?_,?_,λA i s Q E st q=>?_⟩
 ·simp only[ff,nh,mz]at hc
  obtain⟨old,ee⟩:=st.ee
  obtain⟨o1,f1,g1,d1⟩:=st.s1
  rcases hc with rfl|rfl
  ·exact⟨_,ee,λv q=>by cases q⟩
  ·exact⟨_,f1,λv q=>by rw[d1]at q;cases q⟩
 ·obtain⟨old,ee⟩:=st.ee
  exact⟨⟨old,kp e (by simp) _ ee⟩,st.s1.at λo z=>kp it (by simp) o z⟩
 ·intro X hP hw hK hc i ag s σ H E I hf st hg
  subst hP hw hK
  obtain⟨xs,x,ha,hx⟩:=hg
  obtain⟨us,ru,pu,lu⟩:=I.list ha
  obtain⟨ux,FI,Gd⟩:=ru.get hx
  obtain⟨old,ee⟩:=st.ee
  refine wpAny_pyNext_enum_item ee st.s1 pu.isList (by simpa using FI) d λh' eo QH pr sz kp=>⟨_,rfl,?_⟩
  refine wpAny_letOwnedTupleGo_enum (s:={ s with heap:=h',toks:=s.toks+1 }) eo λg zz sb=>?_
  have AD:e<s.heap.objs.size:=jb ee;have up:∀c o,c≠e->c≠it->s.heap.get? c=some o->g.get? c=some o:=λc o c1 c2 z=>sb.extBut c o c1 (kp c o c1 c2 z)
  have hT:H s.heap.objs.size=none:=I.cf.fresh (de _);have Em:g.get? s.heap.objs.size=some { cls:=.type "tuple",data:=.seq #[.int i s.toks,ux] }:=sb.extBut _ _ (yy AD) pr;have De:∀c u,H c=some u->c∉[e,it]:=λc u z hm=>by rw[(hf c hm).1]at z;cases z
  have As:∀c o u,H c=some u->s.heap.get? c=some o->g.get? c=some o:=λc o u q z=>by
   have:=De c u q
   simp only[ff,nh,mz,not_or]at this;exact up c o this.1 this.2 z
  have ns:∀m,s.heap.Ns X.env.locals m->g.Ns X.env.locals m:=λm hm=>by
   obtain⟨o,es,ep,e1,e2⟩:=hm
   exact⟨o,es,ep,up _ o (Ne.symm (hf e (by simp)).2.1) (Ne.symm (hf it (by simp)).2.1) e1,e2⟩
  have I2:a8 X ag σ (upd H s.heap.objs.size (.tup [.int i,x])) { s with heap:=g,toks:=s.toks+1 }:=by
   refine I.step (g':=s.gens) (d':=s.drawn) (ch:=[e,it]) (λc dq=>?_) (λc o _ _ dq z _=>?_) (λc o _ _ dq z _=>⟨o.slots,?_⟩) (λc o _ z n=>?_) (λc o dq z=>⟨o,?_⟩)
    (λc zs z=>by rw[aK (dR z hT)];exact z) (λc u zs z=>by rw[aK (dR z hT)];exact z) (λc ps z=>⟨#[],by rw[aK (dR z hT),z];simp⟩) ns (λc u z=>?_) I.bare
   ·exact⟨(hf c dq).2.2.2.1,(hf c dq).2.1,(hf c dq).2.2.2.2.1,(hf c dq).2.2.2.2.2⟩
   ·simp only[ff,nh,mz,not_or]at dq
    exact up c o dq.1 dq.2 z
   ·simp only[ff,nh,mz,not_or]at dq
    exact up c o dq.1 dq.2 z
   ·rw[aK (mr (jb z))];exact n
   ·simp only[ff,nh,mz,not_or]at dq
    exact up c o dq.1 dq.2 z
   ·by_cases EG:c=s.heap.objs.size
    ·subst EG
     rw[bA]at z;cases z
     exact⟨by show 2<=sizeLine;decide,[.int i s.toks,ux],.cons ⟨_,rfl⟩ (.cons Gd .nil),⟨_,Em,rfl,_,rfl⟩,λu e=>by rw[Em]at e;cases e;rfl⟩
    ·rw[aK EG]at z
     refine (I.cf c u z).cq (λc' o' hc2 q'=>?_) (λc' q'=>by rw[aK (dR q' hT)];exact q') λc' zs q'=>by rw[aK (dR q' hT)];exact q'
     rcases hc2 with rfl|hc2
     ·exact As _ _ _ z q'
     ·exact As _ _ _ hc2 q'
  refine⟨.ref s.heap.objs.size,_,I2,rfl,⟨_,x,hT,rfl,rfl,λFj Hw=>?_⟩,⟨⟨ux,by push_cast;exact zz⟩,QH.at λo z=>sb.extBut _ o (Ne.symm d) z⟩,λc dq=>?_⟩
  ·rw[I.mj Hw ha];exact hx
  ·obtain⟨o,z⟩:∃o,s.heap.get? c=some o:=by
    simp only[ff,nh,mz]at dq
    obtain⟨o1,f1,_⟩:=st.s1
    rcases dq with rfl|rfl
    ·exact⟨_,ee⟩
    ·exact⟨_,f1⟩
   rw[aK (mr (jb z))];exact (hf c dq).1
 ·intro X hP hw hK hc i ag s σ H E I hf st hg
  subst hP hw hK
  obtain⟨xs,ha,hi⟩:=hg
  obtain⟨us,ru,pu,lu⟩:=I.list ha
  obtain⟨old,ee⟩:=st.ee
  have hh:X.A.handled=none:=I.ok.hd hc;have e1:=ru.length;refine wpAny_pyNext_enum_end hh ee st.s1 pu.isList (by rw[Array.getElem?_eq_none];simp only[gg];omega) λg kp=>⟨rfl,?_⟩
  have De:∀c u,H c=some u->c∉[e,it]:=λc u z hm=>by rw[(hf c hm).1]at z;cases z
  have As:∀c o u,H c=some u->s.heap.get? c=some o->g.get? c=some o:=λc o u q z=>by
   have:=De c u q
   simp only[ff,nh,mz,not_or]at this;exact kp c o this.2 z
  have ns:∀m,s.heap.Ns X.env.locals m->g.Ns X.env.locals m:=λm hm=>by
   obtain⟨o,es,ep,e1,e2⟩:=hm
   exact⟨o,es,ep,kp _ o (Ne.symm (hf it (by simp)).2.1) e1,e2⟩
  refine I.step (g':=s.gens) (d':=s.drawn) (ch:=[it]) (λc dq=>?_) (λc o _ _ dq z _=>?_) (λc o _ _ dq z _=>⟨o.slots,?_⟩) (λc o _ z n=>n) (λc o dq z=>⟨o,?_⟩)
   (λc zs z=>z) (λc u zs z=>z) (λc ps z=>⟨#[],by rw[z];simp⟩) ns (λc u z=>?_) I.bare
  ·have hm:c∈[e,it]:=fu _ dq
   exact⟨(hf c hm).2.2.2.1,(hf c hm).2.1,(hf c hm).2.2.2.2.1,(hf c hm).2.2.2.2.2⟩
  ·exact kp c o (λy=>dq (by rw[y];simp)) z
  ·exact kp c o (λy=>dq (by rw[y];simp)) z
  ·exact kp c o (λy=>dq (by rw[y];simp)) z
  ·refine (I.cf c u z).cq (λc' o' hc2 q'=>?_) (λ_ q'=>q') λ_ _ q'=>q'
   rcases hc2 with rfl|hc2
   ·exact As _ _ _ z q'
   ·exact As _ _ _ hc2 q'
 ·obtain⟨old,ee⟩:=st.ee
  exact wpAny_pyIter_enum ee q
structure bF7 (e it a:ax)(i:Nat)(h:Heap):Prop where
 ee:∃old,IsEnum h e it i old
 s1:h.IsTupleIter it a i
section
variable {X:Cx}
def Np (K:ad)(ta:TA):TI:=λσ H R=>ta σ H λvs H1=>∃a xs,vs = [.ref a]/\aM K H1 a xs/\R (F9 K a) H1
def YI {elts:List Expr}{kt:Nat}{pt:Pos}{a:Expr}{ta:TA}{p pos:Pos}(hg:Gl X "enumerate")(hm:X.mg "enumerate" = none)(ha:PA X [a] ta)(hs:starEach [a] X.env = [(false,eval a X.env)]:=by rfl) :
  PI X (.Tuple elts kt pt) (.Call (.Name "enumerate" p) [a] [] pos) (Np X.K ta):=by
 intro ag s σ H R I h;refine Call_ (lH I hg hm PyProof.Rows.boot_enumerate (Cm (aR (ha pos ag s σ H _ I h) λus s1 ⟨vs,H1,I1,r1,q1⟩=>?_) (by rw[hs];rfl) (by rfl)))
 obtain⟨a',xs,e,h1,q⟩:=q1
 subst e;cases r1 with
 |cons r rr=>
  cases rr;cases r
  obtain⟨us,_,p1,_⟩:=I1.list h1
  refine call_enumerate_list p1.isList λh' z Ei sz kp=>wpAny_pyIter_enum z ?_
  have fresh:∀k,H1 (s1.heap.objs.size+k)=none:=λk=>I1.cf.fresh (Ad _ _)
  refine⟨s1.heap.objs.size+1,[s1.heap.objs.size+1,s1.heap.objs.size],_,_,H1,rfl,I1.kept (t':=s1.toks) kp,
   YJ a' _ _ (Nat.succ_ne_self _),⟨⟨_,z⟩,Ei⟩,λc hc=>?_,q⟩
  simp only[ff,nh,mz]at hc;rcases hc with rfl|rfl
  ·exact I1.jx (Ad _ _) (fresh 1)
  ·exact I1.jx (de _) (fresh 0)
end
end L2
namespace Zp
open PySem PyProof.Rows
def YH (t b:ax)(xs ys:Array av)(n n2:Nat)(dd DQ:Option ax)(sl DC:Array (Option av))(hx:xs.isEmpty=true):Meets (Builtin.«tuple.__add__» ⟨[.ref t,.ref b],[]⟩)
  (λ_ R s=>s.heap.get? t=some { cls:=.type "tuple",dict:=dd,data:=.seq xs n,slots:=sl }/\s.heap.get? b=some { cls:=.type "tuple",dict:=DQ,data:=.seq ys n2,slots:=DC }/\R (.ok (.ret (.ref b))) s):=
 .of_wp λprog w A R s h=>by
  obtain⟨h1,h2,h⟩:=h
  have sub:isSubtype (Value.type "tuple") (Value.type "tuple")=pure true:=rfl
  wp_walk
  exact⟨_,rfl,h⟩
end Zp
namespace L2
open PySem PySem.Spec PyProof.Rows
section
variable {X:Cx}
def Nn (K:ad):R2:=λx y H Q=>∃a b xs ys,x = .ref a/\y = .ref b/\aW K H a xs/\aW K H b ys/\xs.length+ys.length<=sizeLine/\
 (xs = []->Q (.ref b) H)/\(xs≠[]->ys = []->Q (.ref a) H)/\(xs≠[]->ys≠[]->∀p,H p=none->Q (.ref p) (upd H p (.tup (xs++ys))))
def XA:cQ X (binaryOp .Add) (Nn X.K):=by
 intro ag s σ H x y v u Q I rx ry h
 obtain⟨a,b,xs,ys,ex,ey,ha,hb,hz,q0,q1,q2⟩:=h
 by_cases hx:xs = []
 ·subst ex ey
  cases rx;cases ry
  obtain⟨bh,r1,p1,_⟩:=I.tuple ha
  obtain⟨aq,r2,p2,_⟩:=I.tuple hb
  have hi:bh = []:=r1.ou.mpr hx
  obtain⟨⟨cls,dd,data,sl⟩,ho,hc,n,hd⟩:=id p1
  obtain⟨⟨HU,DQ,data2,DC⟩,CK,hc2,n2,hd2⟩:=id p2
  simp only at hc hd hc2 hd2;subst hc hd hc2 hd2;exact concat_meets ⟨_,ho,rfl⟩ ⟨_,CK,rfl⟩ noFill_tuple_add seq_tuple_add PySem.F.slot_tuple_add PySem.F.entry_tuple_add (PySem.F.args_tuple_add_2 _ _)
   (Zp.YH a b bh.toArray aq.toArray n n2 dd DQ sl DC (by simp[hi])) ⟨ho,CK,⟨.ref b,H,I,rfl,q0 hx⟩⟩
 ·exact aI0 ag s σ H x y v u Q I rx ry ⟨a,b,xs,ys,ex,ey,ha,hb,hx,hz,q1 hx,q2 hx⟩
end
end L2
namespace PP
open PySem L2 PyProof.Rows
def nC (xs:List PV):List PV:=xs.mapIdx λi x=>PV.tup [.int (i:Int),x]
def sY (xs:List PV):(nC xs).length=xs.length:=by unfold nC;rw[List.length_mapIdx]
def Xz {xs:List PV}{i:Nat}{x:PV}(h:xs[i]? = some x):(nC xs)[i]? = some (.tup [.int (i:Int),x]):=by
 unfold nC;rw[List.getElem?_mapIdx,h];rfl
def Nm {xs:List PV}{i:Nat}{z:PV}(h:(nC xs)[i]? = some z):∃x,xs[i]? = some x/\z = .tup [.int (i:Int),x]:=by
 unfold nC at h;rw[List.getElem?_mapIdx]at h;cases e:xs[i]? with
 |none=>rw[e]at h;cases h
 |some x=>rw[e]at h;exact⟨x,rfl,(jr h).symm⟩
def w9 (te:aG):gW:=λρ Q=>te ρ λx g=>∃xs,(x = .lst xs∨x = .lst xs)/\(g = .rd->flat x=true)/\Q (nC xs) (uX g xs)
def Xy {K:ad}{H0:Hp}{W:ax->Prop}{g:Bool}{H1:Hp}{a:ax}{us:List V}{xs:List PV}(tw:∀a,W a->∃o,H1 a=some o/\i5 o=true)(ha:∀W' H',Ev W H1 W' H'->aM K H' a us)(r:bb K (Ms H0 W g) H1 us xs):sA K H0 W g H1 (F9 K a) (nC xs):=by
 have lr:=r.length;have ll:=sY xs;refine⟨λW' H' i e hi=>⟨us,us[i]'(by omega),ha W' H' e,by simp⟩,λW' H' i v H2 e y hi=>?_,λW' H' e=>⟨us,ha W' H' e,by omega⟩⟩
 obtain⟨T,x,hT,rfl,rfl,y⟩:=y
 obtain⟨z,hz,rz⟩:=r.get (y us (ha W' _ e))
 have sm:=bL hT (HO.tup [.int (i:Int),x])
 exact⟨sm,_,Xz hz,.tup bA (.cons (.int _) (.cons ((rz.keep (e.keep tw)).same sm λ_ q=>q) .nil))⟩
section
variable {X:Cx}{σ:L2.St}{H:Hp}{te:aG}{R:It→Hp→Prop}
def Xx (h:LI X (w9 te) σ H R):Np X.K (iG (LE X te) kQ) σ H R:=by
 obtain⟨W,ρ,Q,px,q,k⟩:=h
 refine⟨W,ρ,_,px,q,?_⟩;rintro v H1 x g s r ⟨xs,hx,hg,q⟩;have Cv:=px.mono s;have tw:∀a,W a->∃o,H1 a=some o/\i5 o=true:=λa z=>(Cv.wm a z).2
 obtain rfl:=hx.elim id id
 obtain⟨a,us,rfl,m,h,r⟩:=r.oo
 have wa:¬W a:=by
  cases g with
  |fr=>exact (px.new m).1
  |nw=>exact m.1
  |sh=>exact m
  |rd=>have:=hg rfl;unfold flat at this;cases this
 exact⟨a,us,rfl,aM.of h,k _ _ _ _ s (Xy tw (λW' H' e=>aM.of (e _ _ h wa rfl).1) (o7 px (λz=>by have:=hg z;unfold flat at this;cases this) r)) q⟩
def Nl {elts:List Expr}{kt:Nat}{pt p2 pos:Pos}{a:Expr}{ta:aG}(hg:Gl X "enumerate")(hm:X.mg "enumerate" = none)(ha:QE X a ta)(hs:starEach [a] X.env = [(false,eval a X.env)]:=by rfl):QI X (.Tuple elts kt pt) (.Call (.Name "enumerate" p2) [a] [] pos) (w9 ta):=
 sH (YI hg hm (dH ha eG hs) hs) λ_ _ _=>Xx
end
section
variable {X:Cx}{e:Expr}{te:aG}{pos p2:Pos}{scope:Scope}{N:List Str}{fr:List (Option Nat)}{x y:Str}{tp xp yp:Pos}{kt:Nat}{iter elt:Expr}{ti:gW}
abbrev kF (x y:Str)(xp yp:Pos)(kt:Nat)(tp:Pos):Expr:=.Tuple [.Name x xp,.Name y yp] kt tp
def wA {ifs:List Expr}{ve:dA}(hc:X.calm=true)(he:∀(s:aw) (H:Hp) (C:ax) (fp:List ax),QE (bQ X scope N s H C fp cE) elt te)(hi:∀(s:aw) (H:Hp) (C:ax) (fp:List ax),mL (bQ X scope N s H C fp cE) ifs (LT (bQ X scope N s H C fp cE) ve))(hN:N.Nodup)(h0:N[0]? = some x)(h1:N[1]? = some y)(hl:∀(s:aw) (H:Hp) (C:ax) (fp:List ax),(bQ X scope N s H C fp cE).env.scope.names.lookup x=some .local)(ya:∀(s:aw) (H:Hp) (C:ax) (fp:List ax),(bQ X scope N s H C fp cE).env.scope.names.lookup y=some .local)(s:aw)(H:Hp) :
  pE X scope N (kF x y xp yp kt tp) ifs elt s H (lK X.K 2 (gG (cZ 0) (gG (cZ 1) lJ))) (LT (X.qm H) ve) (LE (X.qm H) te):=
 ⟨λC fp=>p6 (X:=bQ X scope N s H C fp cE) hc (jG (gF hN h0 (.inl (hl s H C fp)) (.inr (hl s H C fp))) (jG (gF hN h1 (.inl (ya s H C fp)) (.inr (ya s H C fp))) p5)),λC fp=>hi s H C fp,λC fp=>he s H C fp⟩
def sZ (hi:QI X (kF x y xp yp kt tp) iter ti)(he:∀(s:aw) (H:Hp) (C:ax) (fp:List ax),QE (bQ X scope N s H C fp cE) elt te)(hc:X.calm=true:=by rfl)(S:cX X scope N fr:=by exact cX.of rfl rfl)(hN:N.Nodup:=by decide +kernel)(h0:N[0]? = some x:=by rfl)(h1:N[1]? = some y:=by rfl)(hl:∀(s:aw) (H:Hp) (C:ax) (fp:List ax),(bQ X scope N s H C fp cE).env.scope.names.lookup x=some .local:=by intro _ _ _ _;rfl)(ya:∀(s:aw) (H:Hp) (C:ax) (fp:List ax),(bQ X scope N s H C fp cE).env.scope.names.lookup y=some .local:=by intro _ _ _ _;rfl)(hf:fr[0]? = some none:=by rfl)(Hl:fr[1]? = some none:=by rfl)(hs:∀x,foldedSetIterable iter X.env x=pure x:=by intro _;rfl):QE X (.ListComp elt [⟨kF x y xp yp kt tp,iter,[],0⟩] scope pos) (c9 ti fr (fO 0 1) dB te):=
 cG (uF (gh:=λ_=>lK X.K 2 (gG (cZ 0) (gG (cZ 1) lJ))) (tch:=λH=>LT (X.qm H) dB) (teh:=λH=>LE (X.qm H) te) hc S hi (wA hc he (λ_ _ _ _=>sR) hN h0 h1 hl ya) hs) λ_ _ _=>mT (sE _ 0 1) (λi e=>by rcases e with e|e<;>(subst e;assumption))
def Xw {c:Expr}{ve:dA}(hi:QI X (kF x y xp yp kt tp) iter ti)(ht:∀(s:aw) (H:Hp) (C:ax) (fp:List ax),QT (bQ X scope N s H C fp cE) c ve)(he:∀(s:aw) (H:Hp) (C:ax) (fp:List ax),QE (bQ X scope N s H C fp cE) elt te)(hc:X.calm=true:=by rfl)(S:cX X scope N fr:=by exact cX.of rfl rfl)(hN:N.Nodup:=by decide +kernel)(h0:N[0]? = some x:=by rfl)(h1:N[1]? = some y:=by rfl)(hl:∀(s:aw) (H:Hp) (C:ax) (fp:List ax),(bQ X scope N s H C fp cE).env.scope.names.lookup x=some .local:=by intro _ _ _ _;rfl)(ya:∀(s:aw) (H:Hp) (C:ax) (fp:List ax),(bQ X scope N s H C fp cE).env.scope.names.lookup y=some .local:=by intro _ _ _ _;rfl)(hf:fr[0]? = some none:=by rfl)(Hl:fr[1]? = some none:=by rfl)(hs:∀x,foldedSetIterable iter X.env x=pure x:=by intro _;rfl):QE X (.ListComp elt [⟨kF x y xp yp kt tp,iter,[c],0⟩] scope pos) (c9 ti fr (fO 0 1) ve te):=
 cG (uF (gh:=λ_=>lK X.K 2 (gG (cZ 0) (gG (cZ 1) lJ))) (tch:=λH=>LT (X.qm H) ve) (teh:=λH=>LE (X.qm H) te) hc S hi (wA hc he (λs H C fp=>zO (ht s H C fp)) hN h0 h1 hl ya) hs) λ_ _ _=>mT (sE _ 0 1) (λi e=>by rcases e with e|e<;>(subst e;assumption))
def Xv {i:Nat}{z:Str}{zp:Pos}(nd:X.N.Nodup)(hi:QI X (kF x y xp yp kt tp) iter ti)(he:∀(s:aw) (H:Hp) (C:ax) (fp:List ax),QE (bQ X scope N s H C fp cE) elt te)(hz:X.N[i]? = some z:=by rfl)(AD:X.env.scope.names.lookup z=some .local:=by rfl)(vn:swapsWith (.ListComp elt [⟨kF x y xp yp kt tp,iter,[],0⟩] scope p2) (some (.Name z zp)) pos.line X.env=pure true:=by rfl)(hc:X.calm=true:=by rfl)(S:cX X scope N fr:=by exact cX.of rfl rfl)(hN:N.Nodup:=by decide +kernel)(h0:N[0]? = some x:=by rfl)(h1:N[1]? = some y:=by rfl)(hl:∀(s:aw) (H:Hp) (C:ax) (fp:List ax),(bQ X scope N s H C fp cE).env.scope.names.lookup x=some .local:=by intro _ _ _ _;rfl)(ya:∀(s:aw) (H:Hp) (C:ax) (fp:List ax),(bQ X scope N s H C fp cE).env.scope.names.lookup y=some .local:=by intro _ _ _ _;rfl)(hf:fr[0]? = some none:=by rfl)(Hl:fr[1]? = some none:=by rfl)(hs:∀x,foldedSetIterable iter X.env x=pure x:=by intro _;rfl):QS X (.Assign [.Name z zp] (.ListComp elt [⟨kF x y xp yp kt tp,iter,[],0⟩] scope p2) pos) (b8 i (c9 ti fr (fO 0 1) dB te)):=
 fC (uG (gh:=λ_=>lK X.K 2 (gG (cZ 0) (gG (cZ 1) lJ))) (tch:=λH=>LT (X.qm H) dB) (teh:=λH=>LE (X.qm H) te) hc S hi (wA hc he (λ_ _ _ _=>sR) hN h0 h1 hl ya) nd hz AD vn hs) λD σ H h=>mT (sE _ 0 1) (λi e=>by rcases e with e|e<;>(subst e;assumption)) (uV h)
def Xu {c:Expr}{ve:dA}{i:Nat}{z:Str}{zp:Pos}(nd:X.N.Nodup)(hi:QI X (kF x y xp yp kt tp) iter ti)(ht:∀(s:aw) (H:Hp) (C:ax) (fp:List ax),QT (bQ X scope N s H C fp cE) c ve)(he:∀(s:aw) (H:Hp) (C:ax) (fp:List ax),QE (bQ X scope N s H C fp cE) elt te)(hz:X.N[i]? = some z:=by rfl)(AD:X.env.scope.names.lookup z=some .local:=by rfl)(vn:swapsWith (.ListComp elt [⟨kF x y xp yp kt tp,iter,[c],0⟩] scope p2) (some (.Name z zp)) pos.line X.env=pure true:=by rfl)(hc:X.calm=true:=by rfl)(S:cX X scope N fr:=by exact cX.of rfl rfl)(hN:N.Nodup:=by decide +kernel)(h0:N[0]? = some x:=by rfl)(h1:N[1]? = some y:=by rfl)(hl:∀(s:aw) (H:Hp) (C:ax) (fp:List ax),(bQ X scope N s H C fp cE).env.scope.names.lookup x=some .local:=by intro _ _ _ _;rfl)(ya:∀(s:aw) (H:Hp) (C:ax) (fp:List ax),(bQ X scope N s H C fp cE).env.scope.names.lookup y=some .local:=by intro _ _ _ _;rfl)(hf:fr[0]? = some none:=by rfl)(Hl:fr[1]? = some none:=by rfl)(hs:∀x,foldedSetIterable iter X.env x=pure x:=by intro _;rfl):QS X (.Assign [.Name z zp] (.ListComp elt [⟨kF x y xp yp kt tp,iter,[c],0⟩] scope p2) pos) (b8 i (c9 ti fr (fO 0 1) ve te)):=
 fC (uG (gh:=λ_=>lK X.K 2 (gG (cZ 0) (gG (cZ 1) lJ))) (tch:=λH=>LT (X.qm H) ve) (teh:=λH=>LE (X.qm H) te) hc S hi (wA hc he (λs H C fp=>zO (ht s H C fp)) hN h0 h1 hl ya) nd hz AD vn hs) λD σ H h=>mT (sE _ 0 1) (λi e=>by rcases e with e|e<;>(subst e;assumption)) (uV h)
end
section
variable {X:Cx}{a b e o f:Expr}{ta tb te td tk tx:aG}{pos p2 ah ai:Pos}{σ:L2.St}{H:Hp}{Q':VK}
def Nk:PV->Tg->PV->Tg->PK->Prop:=λx _ y _ Q=>∃xs n,x = .lst xs/\y = .int n/\flats xs=true/\-1000000<=n/\n<=1000000/\xs.length<=10/\Q (.lst (List.replicate n.toNat xs).flatten) .fr
abbrev qE (ta tb:aG):aG:=q2 Nk ta tb
def Xt:fN X Nk V1:=by
 rintro W Hs H u v x y g g' Q Q' s n r1 r2 ⟨xs,m,rfl,rfl,f,h1,h2,hl,q⟩ k;cases r2
 obtain⟨a,us,rfl,mm,h,r⟩:=r1.oo
 have lr:=r.length;refine⟨a,m,us,rfl,rfl,h,by omega,by omega,lim ?_,λp hp=>k _ _ _ .fr (bL hp _) (.lst (s.free hp) bA (((r.flat f).rep m.toNat).same (bL hp _) λ_ z=>z)) q⟩;have h3:us.length<=10:=by omega
 have h4:m.toNat<=1000000:=by omega
 calc us.length*m.toNat<=10*1000000:=Nat.mul_le_mul h3 h4
  _<=16000000:=by decide
def t4 (ha:QE X a ta)(hb:QE X b tb):QE X (.BinOp a .Mult b pos) (qE ta tb):=kS aJ8 Xt ha hb
def Xs {x:Str}{n:Int}{t:Nat}(hg:Gl X x)(hm:X.mg x=some (.int n t))(hd:(x==("__debug__":Str))=false:=by decide):QE X (.Name x pos) (qC (.int n)):=
 cG (aC6 (v:=.int n) hg hm ⟨t,rfl⟩ hd) λ_ _ _=>rV λ_=>.int n
end
section
variable {X:Cx}{a b:Expr}{ta tb:aG}{pos:Pos}
def Nj:PV->Tg->PV->Tg->PK->Prop:=λx _ y _ Q=>∃xs ys,x = .tup xs/\y = .tup ys/\flats xs=true/\flats ys=true/\xs.length+ys.length<=16000000/\Q (.tup (xs++ys)) .fr
abbrev Ni (ta tb:aG):aG:=q2 Nj ta tb
def Xr:fN X Nj (Nn X.K):=by
 rintro W Hs H u v x y g g' Q Q' s n r1 r2 ⟨xs,ys,rfl,rfl,f1,f2,hl,q⟩ k
 obtain⟨a,us,rfl,h1,q1⟩:=r1.qj
 obtain⟨b,ws,rfl,h2,q2⟩:=r2.qj
 have l1:=q1.length;have l2:=q2.length;refine⟨a,b,us,ws,rfl,rfl,aW.of h1,aW.of h2,lim (by omega),λz=>?_,λ_ z=>?_,λ_ _ p hp=>k _ _ _ .fr (bL hp _) (.tup bA (((q1.flat f1).append (q2.flat f2)).same (bL hp _) λ_ z=>z)) q⟩
 ·obtain rfl:xs = []:=by cases xs with
   |nil=>rfl
   |cons _ _=>rw[z]at l1;cases l1
  exact k _ _ _ .fr (aE.refl _) (.tup h2 (q2.flat f2)) q
 ·obtain rfl:ys = []:=by cases ys with
   |nil=>rfl
   |cons _ _=>rw[z]at l2;cases l2
  rw[vb]at q;exact k _ _ _ .fr (aE.refl _) (.tup h1 (q1.flat f1)) q
def Xq (ha:QE X a ta)(hb:QE X b tb):QE X (.BinOp a .Add b pos) (Ni ta tb):=kS XA Xr ha hb
end
end PP
namespace Core
open PySem L2 PP
section
variable (ws:af)(ls:aa)(os ns:af)
def j4:Nat->af
 |0=>[]
 |k+1=>j4 k++(os.find? (kz ws ls (ns++j4 k))).toList
def t5 (k:Nat):Option Int:=os.find? (kz ws ls (ns++j4 ws ls os ns k))
end
section
variable {ws:af}{ls:aa}{os ns:af}
def Xp {k:Nat}{h:Int}(e:t5 ws ls os ns k=some h):j4 ws ls os ns (k+1)=j4 ws ls os ns k++[h]:=by
 show j4 ws ls os ns k++(t5 ws ls os ns k).toList=_;rw[e];rfl
def Xo {S T:af}{h:Int}(hk:kz ws ls S h=true)(st:∀x∈S,x∈T)(hn:h∉T):kz ws ls T h=true:=by
 unfold kz at hk ⊢;rw[mv]at hk ⊢;refine⟨by rw[fk hn];rfl,di ?_⟩;have h1:=mw hk.2;have h2:((aF ls h).filter λx=>decide (x∈S)).length<=((aF ls h).filter λx=>decide (x∈T)).length:=by
  rw[<- FN,<- FN];exact List.countP_mono_left λx _ hx=>di (st x (mw hx))
 omega
def lZ (ws:af)(ls:aa)(T:af):Prop:=∀h∈bj ws.length,kz ws ls T h=false
def Nh {T:af}(sh:lZ ws ls T)(st:∀x∈ns,x∈T):∀k,∀x∈bR ws ls ns k,x∈T
 |0,x,hx=>st x hx
 |k+1,x,hx=>by
  have ih:=Nh sh st k;rcases fi.mp (show x∈bR ws ls ns k++nextOf ws ls (bR ws ls ns k) from hx) with hx|hx
  ·exact ih x hx
  ·have hx:=cz.mp hx
   by_cases e:x∈T
   ·exact e
   ·have:=Xo hx.2 ih e
    rw[sh x hx.1]at this;cases this
def t6 (n:Nat):(bj n).Nodup:=F7 n
def Xn {k:Nat}{h:Int}(e:t5 ws ls os ns k=some h):h∈os/\h∉ns++j4 ws ls os ns k:=
 ⟨List.mem_of_find?_eq_some e,BG (E7 (List.find?_some e))⟩
def Xm (po:os.Perm (bj ws.length))(hs:aY ws.length ns=true):∀k,(ns++j4 ws ls os ns k).Nodup/\∀x∈ns++j4 ws ls os ns k,x∈bj ws.length
 |0=>by
  rw[show j4 ws ls os ns 0 = [] from rfl,vb]
  exact⟨(gQ (dD hs).1).imp λh=>yf h,λx hx=>bO.mpr ((dD hs).2 x hx)⟩
 |k+1=>by
  obtain⟨i1,i2⟩:=Xm po hs k
  cases e:t5 ws ls os ns k with
  |none=>
   have:j4 ws ls os ns (k+1)=j4 ws ls os ns k:=by
    show j4 ws ls os ns k++(t5 ws ls os ns k).toList=_;rw[e];exact vb _
   rw[this];exact⟨i1,i2⟩
  |some h=>
   obtain⟨n1,n2⟩:=Xn e
   rw[Xp e,<- List.append_assoc];refine⟨xj.mpr ⟨i1,ot _ _,λx hx y hy=>?_⟩,λx hx=>?_⟩
   ·rw[dt.mp hy];intro z;subst z;exact n2 hx
   ·rcases fi.mp hx with hx|hx
    ·exact i2 x hx
    ·rw[dt.mp hx];exact po.mem_iff.mp n1
def Ng (hs:aY ws.length ns=true):∀k,(bR ws ls ns k).Nodup
 |0=>(gQ (dD hs).1).imp λh=>yf h
 |k+1=>by
  show (bR ws ls ns k++nextOf ws ls (bR ws ls ns k)).Nodup;refine xj.mpr ⟨Ng hs k,(F7 ws.length).filter _,λx hx y hy=>?_⟩;intro z;subst z;exact BG (E7 (cz.mp hy).2) hx
end
def eN:Option Int->PV
 |none=>.bw
 |some h=>.int h
def kG {i:Nat}{h:Int}{g:Bool}{ρ:bT}{Q:bT->Prop}(q:Q (ρ.set i (some (.sh true (.int h))))):bW i (.int h) g ρ Q:=by
 show Q (ρ.set i (some (.sh (g||true) (.int h))));rw[Bool.or_true];exact q
def fG (ns S:af):Int:=(ns.length:Int)-(((ns.filter λx=>decide (x∈S)).length:Nat):Int)
def qF:bV:=λxs Q=>∃x ns ps S,xs = [x,.dK ps]/\dG x ns/\DS ps S/\ns.length<=10000/\Q (.int (fG ns S))
def Nf:aO:=(bY (iY (aB cC (a6 (a5 0) a9)) (aB vW (a6 (a5 0) (a6 (a5 1) a9)))))
def Xl:dC Nf ["hearths","inside"] qF:=by
 rintro xs Q ⟨x,ns,ps,S,rfl,hx,d,hl,q⟩
 exact⟨_,rfl,_,_,rfl,hx.len,_,rfl,_,rfl,x,ns,ps,S,rfl,hx,d,hl,_,_,rfl,rfl,trivial,q⟩
def m6:bV:=λxs Q=>∃x ns y ms,xs = [x,y]/\dG x ns/\dG y ms/\ns.length<=10000/\ms.length<=1000/\Q (.tup (ao (ns.filter λz=>!decide (z∈ms))))
def Nd:aO:=(aI (b8 2 (aB kU (a6 (a5 1) a9)))
 (bY (aB iN (a6 (c9 (cD (a5 0)) [none,some 2] (bW 0) (bH (kB true (a5 0) (a5 1))) (a5 0)) a9))))
def Xk:dC Nd ["hearths","some","gone"] m6:=by
 rintro xs Q ⟨x,ns,y,ms,rfl,hx,hy,hl,hm,q⟩;refine⟨_,rfl,y,ms,rfl,hy,hm,λps d=>⟨trivial,?_⟩⟩;refine⟨_,rfl,_,hx.seq,oE hx,by rw[bE];omega,λi acc=>acc=ao ((ns.take i).filter λz=>!decide (z∈ms)),rfl,?_,?_⟩
 ·rintro i z acc hz rfl
  obtain⟨n,rfl,hn⟩:=hG hz
  have tk:=nA (p:=λz=>!decide (z∈ms)) hn;refine⟨_,rfl,_,rfl,_,.inl ⟨ps,Sum.inl n,rfl,rfl,rfl⟩,_,rfl,?_⟩;show if (!(bX ps (Sum.inl n:aC)).isSome)=true then _ else _
  rw[d.has n];by_cases h:n∈ms
  ·rw[di h]at tk ⊢
   refine bK ?_;show _=ao (List.filter _ (List.take (i+1) ns));rw[tk];exact congrArg ao (vb _).symm
  ·rw[fk h]at tk ⊢
   refine bP ⟨_,rfl,trivial,?_⟩;show _=ao (List.filter _ (List.take (i+1) ns));rw[tk,fE];rfl
 ·rintro acc rfl
  rw[bE,qr]
  exact⟨⟨_,_,rfl,rfl,cS _,trivial,q⟩,λns z=>by cases z⟩
def fH (ws:af)(ls:aa)(S:af)(h:Int):Bool:=decide (fG (aF ls h) S<ws.getD h.toNat 0)
def cq (ws:af)(ls:aa)(S:af):af:=S.filter (fH ws ls S)
def qG {n:Nat}{S:af}(h:aY n S=true)(p:Int->Bool):aY n (S.filter p)=true:=by
 obtain⟨h1,h2⟩:=dD h
 have u:oJ (n:Int) (S.filter p):=⟨(gQ h1).filter p,λx hx=>h2 x (cz.mp hx).1,by
  have:=oG h
  have:=yg p S
  omega⟩
 exact u.set
def wB:bV:=λxs Q=>∃ws ls x S,xs = [bG ws ls,.lst (cA ws.length ls),x]/\Wb ws ls/\dG x S/\aY ws.length S=true/\Q (.tup (ao (cq ws ls S)))
def Nc:aO:=(aI (b8 3 (aB kU (a6 (a5 2) a9)))
 (bY (aB iN (a6 (c9 (cD (a5 2)) [none,some 3,some 1,some 0] (bW 0) (bH (pY (aB qF (a6 (bI (a5 2) (a5 0)) (a6 (a5 1) a9))) (bI (bI (a5 3) (qC (.int 0))) (a5 0)))) (a5 0)) a9))))
def Xj:dC Nc ["web","around","block","inside"] wB:=by
 rintro xs Q ⟨ws,ls,x,S,rfl,wb,hx,hs,q⟩;have eu:=wb.eu;have ln:=oG hs;have most:=wb.most;refine⟨_,rfl,x,S,rfl,hx,by omega,λps d=>⟨trivial,?_⟩⟩;refine⟨_,rfl,_,hx.seq,oE hx,by rw[bE];omega,λi acc=>acc=ao ((S.take i).filter (fH ws ls S)),rfl,?_,?_⟩
 ·rintro i z acc hz rfl
  obtain⟨h,rfl,hh⟩:=hG hz
  have hm:=(dD hs).2 h (fm hh);have nl:=rT ls h;have tk:=nA (p:=fH ws ls S) hh;refine⟨_,rfl,_,rfl,_,_,_,rfl,rfl,vX hm.1 hm.2,_,rfl,_,aF ls h,ps,S,rfl,.inr rfl,d,by omega,_,rfl,_,_,_,rfl,rfl,rfl,_,rfl,_,_,_,rfl,rfl,NI hm.1 hm.2,_,_,rfl,rfl,_,rfl,?_⟩;show if fH ws ls S h=true then _ else _
  cases hk:fH ws ls S h with
  |true=>
   rw[hk,if_pos rfl]at tk;refine bP ⟨_,rfl,trivial,?_⟩;show _=ao (List.filter _ (List.take (i+1) S));rw[tk,fE];rfl
  |false=>
   rw[hk,if_neg (by decide),vb]at tk;refine bK ?_;show _=ao (List.filter _ (List.take (i+1) S));rw[tk]
 ·rintro acc rfl
  rw[bE,qr]
  exact⟨⟨_,_,rfl,rfl,cS _,trivial,q⟩,λns z=>by cases z⟩
def fQ (ws:af)(ls:aa)(S:af):Nat->af
 |0=>S
 |k+1=>cq ws ls (fQ ws ls S k)
def Nb {ws:af}{ls:aa}{S:af}(hs:aY ws.length S=true):∀k,aY ws.length (fQ ws ls S k)=true
 |0=>hs
 |k+1=>qG (Nb hs k) _
def Xi {S:af}{p:Int->Bool}(h:S.filter p≠S):(S.filter p).length<S.length:=by
 rcases Nat.lt_or_ge (S.filter p).length S.length with z|z
 ·exact z
 ·exact absurd (List.filter_sublist.eq_of_length_le z) h
section
variable {ws:af}{ls:aa}{S T:af}
def Xh {ns:af}(st:∀x∈T,x∈S):fG ns S<=fG ns T:=by
 have h2:(ns.filter λx=>decide (x∈T)).length<=(ns.filter λx=>decide (x∈S)).length:=by
  rw[<- FN,<- FN];exact List.countP_mono_left λx _ hx=>di (st x (mw hx))
 unfold fG;omega
def MZ {h:Int}(st:∀x∈T,x∈S)(hs:fH ws ls T h=true):fH ws ls S h=true:=by
 unfold fH at hs ⊢;have h1:=mw hs;have h2:=Xh (ns:=aF ls h) st;exact di (by omega)
def Xg (hT:cq ws ls T=T)(st:∀x∈T,x∈S):∀x∈T,x∈cq ws ls S:=λx hx=>
 cz.mpr ⟨st x hx,MZ st (cz.mp (show x∈cq ws ls T by rw[hT];exact hx)).2⟩
def MY (hT:cq ws ls T=T)(st:∀x∈T,x∈S):∀k,∀x∈T,x∈fQ ws ls S k
 |0=>st
 |k+1=>Xg hT (MY hT st k)
def MX:∀k,∀x∈fQ ws ls S k,x∈S
 |0,x,hx=>hx
 |k+1,x,hx=>MX k x (cz.mp (show x∈cq ws ls (fQ ws ls S k) from hx)).1
structure qH (ws:af)(ls:aa)(S G:af):Prop where
 jz:cq ws ls G=G
 sub:∀x∈G,x∈S
 most:∀U,cq ws ls U=U->(∀x∈U,x∈S)->∀x∈U,x∈G
def Xf {k:Nat}(h:cq ws ls (fQ ws ls S k)=fQ ws ls S k):qH ws ls S (fQ ws ls S k):=⟨h,MX k,λU hU st=>MY hU st k⟩
def oK {n:Nat}{A B:af}(ha:aY n A=true)(hb:aY n B=true)(h:∀x,x∈A↔x∈B):A=B:=by
 have ua:=gQ (dD ha).1;have ub:=gQ (dD hb).1;have p:A.Perm B:=(Dv (ua.imp λz=>yf z) (ub.imp λz=>yf z)).mpr h;exact F8 p (ua.imp λz=>Int.le_of_lt z) (ub.imp λz=>Int.le_of_lt z)
def Xe {n:Nat}{A B:af}(ha:qH ws ls S A)(hb:qH ws ls S B)(na:aY n A=true)(nb:aY n B=true):A=B:=
 oK na nb λx=>⟨λh=>hb.most A ha.jz ha.sub x h,λh=>ha.most B hb.jz hb.sub x h⟩
def Xd {S T:af}{h:Int}(yw:h∉S)(ht:∀x,x∈aF ls h->(x∈T↔x∉S)):kz ws ls S h = !fH ws ls T h:=by
 have e:(((aF ls h).filter λx=>decide (x∈S)).length:Int)=fG (aF ls h) T:=by
  unfold fG
  have:∀L:af,(∀x,x∈L->(x∈T↔x∉S))->(L.filter λx=>decide (x∈S)).length+(L.filter λx=>decide (x∈T)).length=L.length:=λL hL=>by
   induction L with
   |nil=>rfl
   |cons a r ih=>
    have i:=ih λx hx=>hL x (fu _ hx)
    have ha:=hL a dh;by_cases h1:a∈S
    ·have h2:a∉T:=λz=>ha.mp z h1
     simp only[qg,di h1,fk h2,if_true,oz,me,ie];omega
    ·have h2:a∈T:=ha.mpr h1
     simp only[qg,di h2,fk h1,if_true,oz,me,ie];omega
  have:=this _ ht
  omega
 unfold kz fH;rw[e,fk yw];simp only[Bool.not_false,Bool.true_and];by_cases hc:ws.getD h.toNat 0<=fG (aF ls h) T
 ·rw[di hc,fk (by omega)];rfl
 ·rw[fk hc,di (by omega)];rfl
end
section
variable {ws:af}{ls:aa}{ns:af}
def Xb (wb:Wb ws ls){h x:Int}(hx:x∈aF ls h):x∈bj ws.length:=by
 unfold aF at hx
 obtain⟨l,hl,hx⟩:=List.mem_flatMap.mp hx
 have:=wb.links l hl
 rcases fi.mp hx with hx|hx
 ·split at hx
  ·rw[dt.mp hx];exact bO.mpr this.2
  ·cases hx
 ·split at hx
  ·rw[dt.mp hx];exact bO.mpr this.1
  ·cases hx
def cI (n:Nat)(S:af):af:=(bj n).filter λx=>!decide (x∈S)
def j6 {n:Nat}{S:af}{x:Int}:x∈cI n S↔x∈bj n/\x∉S:=by
 unfold cI;rw[cz];simp
def wC (n:Nat)(S:af):aY n (cI n S)=true:=by
 have u:oJ (n:Int) (cI n S):=⟨by
   refine List.Pairwise.filter _ ?_;unfold bj;rw[uw];exact List.pairwise_lt_range.imp λh=>by omega,λx hx=>bO.mp (j6.mp hx).1,by
   have:=yg (λx=>!decide (x∈S)) (bj n)
   rw[cH]at this;show ((List.filter (λx=>!decide (x∈S)) (bj n)).length:Int)<=_
   omega⟩
 exact u.set
def MW (wb:Wb ws ls){S:af}{h:Int}(yw:h∉S):kz ws ls S h = !fH ws ls (cI ws.length S) h:=
 Xd yw λx hx=>⟨λz=>(j6.mp z).2,λz=>j6.mpr ⟨Xb wb hx,z⟩⟩
def Xa (wb:Wb ws ls){m:Nat}(en:dS ws ls ns m):qH ws ls (cI ws.length ns) (cI ws.length (bR ws ls ns m)):=by
 have grow:∀k,∀x∈ns,x∈bR ws ls ns k:=λk x hx=>by
  induction k with
  |zero=>exact hx
  |succ k ih=>exact pb _ ih
 refine⟨xk.mpr λh hh=>?_,λx hx=>?_,λU hU us x hx=>?_⟩
 ·have hm:=j6.mp hh
  have h1:=DZ.mp (show (bj ws.length).filter (kz ws ls (bR ws ls ns m)) = [] from en.2) h hm.1;rw[MW wb hm.2]at h1;simpa using h1
 ·have hm:=j6.mp hx
  exact j6.mpr ⟨hm.1,λz=>hm.2 (grow m x z)⟩
 ·have key:∀k,∀y∈U,y∉bR ws ls ns k:=λk=>by
   induction k with
   |zero=>exact λy hy=>(j6.mp (us y hy)).2
   |succ k ih=>
    intro y hy z;rcases fi.mp (show y∈bR ws ls ns k++nextOf ws ls (bR ws ls ns k) from z) with z|z
    ·exact ih y hy z
    ·have hk:=(cz.mp z).2
     rw[MW wb (ih y hy)]at hk;have sy:fH ws ls U y=true:=(cz.mp (show y∈cq ws ls U by rw[hU];exact hy)).2
     have:=MZ (S:=cI ws.length (bR ws ls ns k)) (λv hv=>j6.mpr ⟨(j6.mp (us v hv)).1,ih v hv⟩) sy
     rw[this]at hk;cases hk
  exact j6.mpr ⟨(j6.mp (us x hx)).1,key m x hx⟩
end
end Core
namespace Raw
open PySem PySem.W PyProof.Rows
section
variable {prog:ay}{w:ba}{A:az}{E:av→aw→Prop}{s:aw}{T:String}{r d:ax}{n:Nat}{P:Nat→av→Prop}{OK:Heap→Prop}
def WZ {R:Result->aw->Prop}(K:KdlSrc prog w T r d n P OK)(hh:A.handled=none)(cf:OK s.heap)(hn:n<=sizeLine)(hR:∀h' tk acc c,(∀b o,b≠s.heap.objs.size->(s.heap.push { cls:=.type "list",data:=.seq ([]:List av).toArray }).get? b=some o->h'.get? b=some o)->h'.get? s.heap.objs.size=some { cls:=.type "list",dict:=none,data:=.seq acc c,slots:=#[] }->ItemsOf P acc n->R (.ok (.ret (.ref s.heap.objs.size))) { s with heap:=h',toks:=tk }) :
  codeAny (model prog w) A (.builtin "proto.collect" ⟨[.ref r],[]⟩) R s:=by
 have lt:=K.there _ cf;refine codeAny_builtin PySem.F.entry_proto_collect ?_;rw[Around.under_plainId PySem.F.plain_proto_collect _];show wpAny _ A.in1 (newList [] >>= λl=>again (.builtin "list.__iadd__" ⟨[l,.ref r],[]⟩)) _ _ s;refine bq (Af ?_);refine ei ⟨plainId_quiet PySem.F.plain_list_iadd _,codeAny_builtin PySem.F.entry_list_iadd ?_⟩;rw[Around.under_plainId PySem.F.plain_list_iadd _];show wpAny _ A.in1 (Builtin.List.listExtendWith (.ref s.heap.objs.size) (.ref r) (.ref s.heap.objs.size)) _ _ _;exact kdl_extend (s:={ s with heap:=s.heap.push { cls:=.type "list",data:=.seq ([]:List av).toArray } }) (R:=R) K hh (K.keep _ _ cf λb _ o e=>ic _ e) s.heap.objs.size (yy lt.1) (yy lt.2) _ 0 (my _ rfl) hR hn
def WY {Q:List av->aw->Prop}(K:KdlSrc prog w T r d n P OK)(hh:A.handled=none)(cf:OK s.heap)(hn:n<=sizeLine)(hQ:∀h' tk acc,(∀b o,s.heap.get? b=some o->h'.get? b=some o)->s.heap.objs.size<=h'.objs.size->ItemsOf P acc n->Q acc.toList { s with heap:=h',toks:=tk }) :
  wpAny (model prog w) A (collect (.ref r)) Q E s:=by
 unfold collect;refine bq (wpAny_runValue (WZ (s:=s) K hh cf hn λh' tk acc c kp Dw it=>?_));show wpAny _ A (load s.heap.objs.size >>= _) _ _ _;refine bq (wpAny_load Dw ?_);exact ei (hQ h' tk acc (λb o e=>kp b o (mr (jb e)) (ic _ e)) (uv (jb Dw)) it)
def WX {Q:av->aw->Prop}{G:af->Prop}(K:KdlSrc prog w T r d n P OK)(hh:A.handled=none)(cf:OK s.heap)(hn:n<64)(hI:∀acc,ItemsOf P acc n->∃ns,IntsAre acc.toList ns/\G ns)(h:∀h' tk a (out:Array av) (ns zj:af) e,(∀b o,s.heap.get? b=some o->h'.get? b=some o)->s.heap.objs.size<=a->h'.get? a=some (seqObj "list" out e)->IntsAre out.toList zj->G ns->zj.Perm ns->zj.Pairwise (· <= ·)->Q (.ref a) { s with heap:=h',toks:=tk }) :
  wpAny (model prog w) A (call (.builtin "sorted") [.ref r]) Q E s:=by
 have QV:n<=sizeLine:=og (uv hn) (by decide);refine Calls.call_function_entry kind_sorted plain_sorted entry_sorted (args_sorted1 _) ?_;unfold Builtin.«sorted»;refine bq (m:=checkCount "sorted" 1 1 _) (ei ?_);refine bq (WY (s:=s) K hh cf QV λh' tk acc kp hs it=>?_)
 obtain⟨ns,hi,g⟩:=hI acc it
 have hz:acc.toList.length<64:=by rw[Dr,it.1];exact hn
 refine bq (wpAny_newList ?_ (og (uv hz) (by decide)));have EA:(h'.push (seqObj "list" acc.toList.toArray 0)).get? h'.objs.size=some (seqObj "list" acc.toList.toArray 0):=my _ rfl;show wpAny _ _ _ _ _ { s with heap:=h'.push (seqObj "list" acc.toList.toArray 0),toks:=tk };refine bq (Al (Be slot_list_sort ⟨_,EA,rfl⟩ entry_list_sort (list_sort_tree EA hi hz λout zj a1 a2 a3=>⟨_,rfl,?_⟩) (args_list_sort _)))
 obtain⟨e,he⟩:=sortedHeap_at (vs:=acc.toList) (out:=out) EA
 refine ei ⟨_,rfl,h _ tk h'.objs.size out ns zj e (λb o hb=>?_) hs he a1 g a2 a3⟩;have lt:=jb (kp b o hb);rw[sortedHeap_old (mr lt) (by rw[size_push'];exact Nat.lt_succ_of_lt lt)];exact ic _ (kp b o hb)
end
end Raw
namespace L2
open PySem PySem.Spec PyProof.Rows
section
variable {X:Cx}
def WW (hc:X.calm=true):dU X (.builtin "sorted") (λxs H Q=>∃a bf ns,xs = [.ref a]/\H a=some (.dK bf)/\bf.map (·.1)=ns.map Sum.inl/\ns.length<64/\∀l (ms:af),H l=none->ms.Perm ns->ms.Pairwise (· <= ·)->Q (.ref l) (upd H l (.lst (ms.map V.int)))):=by
 intro ag s σ H xs us Q I r h
 obtain⟨a,bf,ns,rfl,ha,hk,HG,q⟩:=h
 obtain⟨u,rfl,ru⟩:=iF r
 cases ru
 obtain⟨es,ep,rd,vt,vk,z⟩:=OS I ha
 have hl:=vk.length;have ya:=congrArg List.length hk;rw[df,df]at hl ya;have hsz:es.toList.length=es.size:=Dr;have e1:(bf.map λp=>kV p.1)=ns.map V.int:=by
  have:(bf.map λp=>kV p.1)=(bf.map (·.1)).map kV:=by rw[kq];rfl
  rw[this,hk,kq];rfl
 rw[e1]at vk;refine Raw.WX (G:=λms=>ms=ns) (Raw.aN2 vt) (I.ok.hd hc) rd (by omega) (λacc it=>⟨ns,by rw[aN4 it];exact rJ vk,rfl⟩) λh' tk l out Qq zj e kp hn he a1 g a2 a3=>?_
 subst g;have aj:zj.length=Qq.length:=a2.length_eq;refine⟨.ref l,upd H l (.lst (zj.map V.int)),I.laid (t':=tk) kp hn ⟨?_,out.toList,e,u6 a1,by simpa using he⟩,rfl,q _ zj (I.cf.fresh hn) a2 a3⟩;rw[df,aj];exact uv (rO (by omega))
end
end L2
namespace PP
open PySem L2 PyProof.Rows
section
variable {X:Cx}{a b e:Expr}{ta tb te:aG}{tr:dI}{pos p2:Pos}
def G0:List PV->(PV->Prop)->Prop:=λxs Q=>∃(ps:List (aC×PV)) (ns:af),xs = [.dK ps]/\ps.map (·.1)=ns.map Sum.inl/\ns.length<64/\∀ms:af,ms.Perm ns->ms.Pairwise (· <= ·)->Q (.lst (ao ms))
def WV:gU X G0 (λxs H Q=>∃a bf ns,xs = [.ref a]/\H a=some (.dK bf)/\bf.map (·.1)=ns.map Sum.inl/\ns.length<64/\∀l (ms:af),H l=none->ms.Perm ns->ms.Pairwise (· <= ·)->Q (.ref l) (upd H l (.lst (ms.map V.int)))):=by
 rintro H vs xs Q Q' r ⟨ps,ns,rfl,e,hl,q⟩ k
 obtain⟨v,rfl,r1⟩:=r.one
 cases r1 with
 |@dK a bf _ m h e2 r2=>
  exact⟨a,bf,ns,rfl,h,e2.trans e,hl,λl ms mq p o=>k _ _ _ (bL mq _) (.lst mq bA (bb.ao ms)) (q ms p o)⟩
def WU (B:Bt X.mg)(hc:X.calm=true)(ha:QA X [e] tr)(hg:Gl X "sorted":=by rfl)(he:starEach [e] X.env=(false,eval e X.env)::starEach [] X.env:=by rfl)(hpl:(backTo pos (starEach [] X.env)).any (·.1)=false:=by rfl):QE X (.Call (.Name "sorted" p2) [e] [] pos) (aB G0 tr):=
 jP (WW hc) WV hg B.sorted Fd ha (he:=he) (hpl:=hpl)
end
end PP
namespace Core
open PySem L2 PP
def MV {ps:List (aC×PV)}{h:Int}{v:PV}{S:af}(e:ps.map (·.1)=S.map Sum.inl)(hn:h∉S):dF ps (Sum.inl h:aC) v=ps++[(Sum.inl h,v)]:=by
 unfold dF;rw[if_neg];intro z;rw[Dk]at z
 obtain⟨p,hp,hq⟩:=z
 have:p.1∈ps.map (·.1):=dr.mpr ⟨p,hp,rfl⟩
 rw[e,mw hq]at this
 obtain⟨y,hy,e2⟩:=dr.mp this
 exact hn (Sum.inl.inj e2▸hy)
def MU {xs:List PV}{w:Int}(h:0<=w):iX xs none (some w)=xs.take w.toNat:=by
 unfold iX;rw[HT.aG8,List.drop_zero,Nat.sub_zero]
 have:HT.bB xs.length xs.length (some w)=min w.toNat xs.length:=by
  show (if w<0 then (w+(xs.length:Int)).toNat else min w.toNat xs.length)=_;rw[if_neg (by omega)]
 rw[this,<- List.take_take,qr]
def eL {ls:aa}{h x:Int}:x∈aF ls h↔∃l∈ls,(l.1=h/\l.2=x)∨(l.2=h/\l.1=x):=by
 unfold aF;rw[List.mem_flatMap];constructor
 ·rintro⟨l,hl,hx⟩
  refine⟨l,hl,?_⟩;rcases fi.mp hx with hx|hx
  ·split at hx
   ·rename_i e;exact .inl ⟨e,(dt.mp hx).symm⟩
   ·cases hx
  ·split at hx
   ·rename_i e;exact .inr ⟨e,(dt.mp hx).symm⟩
   ·cases hx
 ·rintro⟨l,hl,⟨e1,e2⟩|⟨e1,e2⟩⟩
  ·exact⟨l,hl,pb _ (by rw[if_pos e1,e2];exact Fb _)⟩
  ·exact⟨l,hl,qt _ (by rw[if_pos e1,e2];exact Fb _)⟩
def MT {h:Int}:∀{ls:aa},(∀l∈ls,l.1<l.2)->ls.Pairwise lY->(aF ls h).Nodup
 |[],_,_=>.nil
 |l::r,hl,hp=>by
  have ih:=MT (h:=h) (ls:=r) (λm hm=>hl m (fu _ hm)) (wt.mp hp).2;have h0:=hl l dh;have e:aF (l::r) h=((if l.1=h then [l.2] else [])++(if l.2=h then [l.1] else []))++aF r h:=rfl;rw[e];refine xj.mpr ⟨?_,ih,λx hx y hy q=>?_⟩
  ·by_cases e1:l.1=h
   ·rw[if_pos e1,if_neg (by omega),vb];exact ot _ _
   ·rw[if_neg e1]
    split
    ·exact ot _ _
    ·exact .nil
  ·subst q
   obtain⟨m,hm,c⟩:=eL.mp hy
   have h1:=hl m (fu _ hm);have h2:=(wt.mp hp).1 m hm;have c':(l.1=h/\l.2=x)∨(l.2=h/\l.1=x):=by
    rcases fi.mp hx with hx|hx
    ·split at hx
     ·rename_i e;exact .inl ⟨e,(dt.mp hx).symm⟩
     ·cases hx
    ·split at hx
     ·rename_i e;exact .inr ⟨e,(dt.mp hx).symm⟩
     ·cases hx
   unfold lY at h2;omega
end Core
namespace L2
open PySem PySem.Spec PyProof.Rows
def MS:∀(n:Nat) (ns:af),n<=ns.length->preSum (λi=>ns.getD i 0) n=(ns.take n).sum
 |0,_,_=>by simp[preSum]
 |n+1,ns,h=>by
  show preSum (λi=>ns.getD i 0) n+ns.getD n 0=_;have h1:ns[n]? = some (ns[n]'(by omega)):=gs (by omega);have h2:ns.take (n+1)=ns.take n++[ns[n]'(by omega)]:=by rw[nq,h1];rfl
  have h3:ns.getD n 0=ns[n]'(by omega):=by rw[ju,h1];rfl
  rw[MS n ns (by omega),h2,h3,List.sum_append,ka,List.sum_nil];omega
section
variable {X:Cx}
def WT (hc:X.calm=true):dU X (.builtin "sum") (λxs H Q=>∃(a:ax) (ns:af),xs = [.ref a]/\(aM X.K H a (ns.map V.int)∨aW X.K H a (ns.map V.int))/\Q (.int ns.sum) H):=by
 intro ag s σ H xs us Q I r h
 obtain⟨a,ns,rfl,hq,q⟩:=h
 obtain⟨u,rfl,ru⟩:=iF r
 cases ru;have hh:X.A.in1.handled=none:=I.ok.hd hc;have fin:∀(bh:List av) (o:Obj) (wr:List ax) (hw:∀b∈wr,s.heap.objs.size<=b),aQ (ns.map V.int) bh->∀s' t',Moved wr (λa b=>b=a) { s with heap:=s.heap.push o } s'->
   ∃x H',a8 X ag σ H' s'/\b5 x (.int (preSum (λi=>ns.getD i 0) bh.toArray.size) t')/\Q x H':=λbh o wr hw rv s' t' hm=>by
  have hl:=rv.length;rw[df]at hl;have e:=Moved.eq_with hm;have e2:preSum (λi=>ns.getD i 0) bh.toArray.size=ns.sum:=by rw[gg,<- hl,MS _ _ (de _),qr]
  rw[e2,e];refine⟨.int ns.sum,H,I.kept (t':=s'.toks) (h':=s'.heap) λb o' eb=>hm.heap b o' (λz=>?_) (ic _ eb),⟨t',rfl⟩,q⟩;exact absurd (jb eb) (Nat.not_lt.mpr (hw b z))
 have val:∀(bh:List av),aQ (ns.map V.int) bh->∀(i:Nat) (v:av),bh.toArray[i]? = some v->∃t,v = .int (ns.getD i 0) t:=λbh rv i v hv=>by
  have hi:bh[i]? = some v:=by simpa using hv
  have hl:=rv.length;rw[df]at hl;have BV:i<ns.length:=by rw[hl];exact (gv.mp hi).1
  obtain⟨u,e1,e2⟩:=rv.get (i:=i) (x:=.int ns[i]) (by simp[BV])
  rw[hi]at e1;cases e1
  obtain⟨t,rfl⟩:=e2
  exact⟨t,by rw[ju,gs BV];rfl⟩
 rcases hq with hq|hq
 ·obtain⟨bh,rv,p,hz⟩:=I.list hq
  have jw:a<s.heap.objs.size:=by obtain⟨o,e,_⟩:=p.isList;exact jb e
  refine call_sum_walkAnyS (wpAny_pyIter_list p.isList ?_);refine⟨s.heap.objs.size,_,_,_,_,_,_,λi=>ns.getD i 0,rfl,(Walks.list hh s.heap.objs.size a (mr jw) bh.toArray).toS,⟨⟨_,my _ rfl,rfl,rfl⟩,p.isList.push _⟩,?_,val bh rv,λs' t' hm=>fin bh _ _ ?_ rv s' t' hm⟩
  ·intro b hb
   have hs:(s.heap.push { cls:=.type "list_iterator",data:=.fields #[.ref a,.int 0 0] }).objs.size=s.heap.objs.size+1:=size_push' _ _;show b<(s.heap.push _).objs.size;rw[size_push'];rcases ff.mp hb with rfl|hb
   ·exact Nat.lt_succ_self _
   ·rw[dt.mp hb];exact Nat.lt_succ_of_lt jw
  ·intro b hb
   rw[dt.mp hb];exact de _
 ·obtain⟨bh,rv,p,hz⟩:=I.tuple hq
  have jw:a<s.heap.objs.size:=by obtain⟨o,e,_⟩:=p;exact jb e
  refine call_sum_walkAnyS (wpAny_pyIter_tuple p ?_);refine⟨s.heap.objs.size,_,_,_,_,_,_,λi=>ns.getD i 0,rfl,(Walks.tuple hh s.heap.objs.size a (mr jw) bh.toArray).toS,⟨⟨_,my _ rfl,rfl,rfl⟩,?_⟩,?_,val bh rv,λs' t' hm=>fin bh _ _ ?_ rv s' t' hm⟩
  ·obtain⟨o,e,h⟩:=p
   exact⟨o,ic _ e,h⟩
  ·intro b hb
   show b<(s.heap.push _).objs.size;rw[size_push'];rcases ff.mp hb with rfl|hb
   ·exact Nat.lt_succ_self _
   ·rw[dt.mp hb];exact Nat.lt_succ_of_lt jw
  ·intro b hb
   rw[dt.mp hb];exact de _
def WS (hc:X.calm=true):dU X (.builtin "any") (λxs H Q=>∃(a:ax) (bs:List Bool),xs = [.ref a]/\aM X.K H a (bs.map V.bl)/\Q (.bl (bs.any id)) H):=by
 intro ag s σ H xs us Q I r h
 obtain⟨a,bs,rfl,hq,q⟩:=h
 obtain⟨u,rfl,ru⟩:=iF r
 cases ru
 obtain⟨bh,rv,p,hz⟩:=I.list hq
 have hl:=rv.length;rw[df]at hl;have jw:a<s.heap.objs.size:=by obtain⟨o,e,_⟩:=p.isList;exact jb e
 refine call_any_walk (wpAny_pyIter_list p.isList ?_);have hh:X.A.in1.handled=none:=I.ok.hd hc;refine⟨s.heap.objs.size,_,_,_,_,_,λi=>bs.getD i false,rfl,Walks.list hh s.heap.objs.size a (mr jw) bh.toArray,⟨⟨_,my _ rfl,rfl,rfl⟩,p.isList.push _⟩,?_,λh' tk kp=>?_⟩
 ·intro i v s' Q' E' hP Hy
  have hi:bh[i]? = some v:=by simpa using hP
  have BV:i<bs.length:=by rw[hl];exact (gv.mp hi).1
  obtain⟨u,e1,e2⟩:=rv.get (i:=i) (x:=.bl bs[i]) (by simp[BV])
  rw[hi]at e1;cases e1;cases e2
  have:bs.getD i false=bs[i]:=by rw[ju,gs BV];rfl
  have EM:Q' (bs.getD i false) s':=Hy;rw[this]at EM;exact Cf EM
 ·have any_eq:(List.range bh.toArray.size).any (λi=>bs.getD i false)=bs.any id:=by
   rw[gg,<- hl];clear q rv hz hl hq jw p hh kp
   induction bs with
   |nil=>rfl
   |cons b r ih=>
    rw[ie,List.range_succ_eq_map,BA,List.any_map,BA,<- ih];rfl
  rw[any_eq];refine⟨.bl (bs.any id),H,I.kept (t':=tk) (h':=h') λb o e=>kp b o (λz=>?_) (ic _ e),rfl,q⟩;rw[dt.mp z]at e;exact absurd (jb e) (uc _)
end
end L2
namespace PP
open PySem L2 PyProof.Rows
section
variable {X:Cx}{a b e:Expr}{ta tb te:aG}{tr:dI}{pos p2:Pos}
def oM:List PV->(PV->Prop)->Prop:=λxs Q=>∃x ns,xs = [x]/\mR x=some (ao ns)/\Q (.int ns.sum)
def WR:gU X oM (λxs H Q=>∃(a:ax) (ns:af),xs = [.ref a]/\(aM X.K H a (ns.map V.int)∨aW X.K H a (ns.map V.int))/\Q (.int ns.sum) H):=by
 rintro H vs xs Q Q' r ⟨x,ns,rfl,e,q⟩ k
 obtain⟨v,rfl,r1⟩:=r.one
 obtain⟨a,us,rfl,hs,r2⟩:=r1.seq e
 obtain rfl:=r2.ofInts
 exact⟨a,ns,rfl,hs,k _ _ _ (aE.refl _) (.int _) q⟩
def wE (B:Bt X.mg)(hc:X.calm=true)(ha:QA X [e] tr)(hg:Gl X "sum":=by rfl)(he:starEach [e] X.env=(false,eval e X.env)::starEach [] X.env:=by rfl)(hpl:(backTo pos (starEach [] X.env)).any (·.1)=false:=by rfl):QE X (.Call (.Name "sum" p2) [e] [] pos) (aB oM tr):=
 jP (WT hc) WR hg B.sum PyProof.Rows.boot_sum ha (he:=he) (hpl:=hpl)
def wF:List PV->(PV->Prop)->Prop:=λxs Q=>∃bs:List Bool,xs = [.lst (bs.map PV.bl)]/\Q (.bl (bs.any id))
def WQ:gU X wF (λxs H Q=>∃(a:ax) (bs:List Bool),xs = [.ref a]/\aM X.K H a (bs.map V.bl)/\Q (.bl (bs.any id)) H):=by
 rintro H vs xs Q Q' r ⟨bs,rfl,q⟩ k
 obtain⟨v,rfl,r1⟩:=r.one
 obtain⟨a,us,rfl,_,h,r2⟩:=r1.oo
 obtain rfl:=r2.Ay
 exact⟨a,bs,rfl,aM.of h,k _ _ _ (aE.refl _) (.bl _) q⟩
def MR (B:Bt X.mg)(hc:X.calm=true)(ha:QA X [e] tr)(hg:Gl X "any":=by rfl)(he:starEach [e] X.env=(false,eval e X.env)::starEach [] X.env:=by rfl)(hpl:(backTo pos (starEach [] X.env)).any (·.1)=false:=by rfl):QE X (.Call (.Name "any" p2) [e] [] pos) (aB wF tr):=
 jP (WS hc) WQ hg B.any PyProof.Rows.boot_any ha (he:=he) (hpl:=hpl)
end
end PP
namespace Core
open PySem L2 PP
def m7 {l l':af}(p:l.Perm l'):l.sum=l'.sum:=by
 induction p with
 |nil=>rfl
 |cons x _ ih=>rw[ka,ka,ih]
 |swap x y l=>simp only[ka];omega
 |trans _ _ h1 h2=>exact h1.trans h2
def G1:∀{l:af},(∀x∈l,0<=x)->0<=l.sum
 |[],_=>by simp
 |x::r,h=>by
  have h1:=h x dh;have h2:=G1 λy hy=>h y (fu _ hy)
  rw[ka];omega
def MQ {l:af}{i:Nat}(h:i<l.length):(l.take (i+1)).sum=(l.take i).sum+l[i]:=by
 rw[nq,gs h,List.sum_append];simp
def WO {zs t:af}(so:zs.Pairwise (· <= ·))(sub:t.Sublist zs):(zs.take t.length).sum<=t.sum:=by
 induction sub with
 |slnil=>simp
 |@cons t zs a sub ih=>
  have Ir:=(wt.mp so);have ih:=ih Ir.2;cases t with
  |nil=>simp
  |cons b t=>
   have hl:=sub.length_le;rw[ie]at hl ih ⊢;rw[List.take_succ_cons,ka];rw[MQ (by omega)]at ih
   have:=Ir.1 _ (BD (show t.length<zs.length by omega))
   omega
 |@cons_cons t zs a sub ih=>
  have ih:=ih (wt.mp so).2;rw[ie,List.take_succ_cons,ka,ka];omega
def MP {zs:af}(hp:∀x∈zs,0<=x){i j:Nat}(h:i<=j):(zs.take i).sum<=(zs.take j).sum:=by
 induction h with
 |refl=>exact wo _
 |@step k _ ih=>
  by_cases hk:k<zs.length
  ·rw[MQ hk]
   have:=hp _ (BD hk)
   omega
  ·have e1:zs.take (k+1)=zs:=qu (by omega)
   have e2:zs.take k=zs:=qu (by omega);rw[e1];rw[e2]at ih;exact ih
def WN {hs zs t:af}(p:zs.Perm hs)(so:zs.Pairwise (· <= ·))(sub:t.Sublist hs)(hp:∀x∈hs,0<=x){k:Nat}(hk:k<=t.length):(zs.take k).sum<=t.sum:=by
 obtain⟨t',p',FV⟩:=List.exists_perm_sublist sub p.symm
 have h1:=WO so FV;rw[m7 p']at h1;refine Int.le_trans (MP (λx hx=>hp x (p.mem_iff.mp hx)) ?_) h1;rw[p'.length_eq];exact hk
def MO (n:Nat):(bj n).Pairwise (·<·):=by
 unfold bj;rw[uw];exact (List.pairwise_lt_range (n:=n)).imp λh=>by omega
def WM (n:Nat)(p:Int->Bool):aY n ((bj n).filter p)=true:=by
 refine oJ.set ⟨(MO n).sublist Bf,λx hx=>?_,?_⟩
 ·have:=bO.mp (cz.mp hx).1
  exact this
 ·have:=yg p (bj n)
  rw[cH]at this;omega
section
variable {ws:af}{ls:aa}{ns Ie:af}{m:Nat}
def loose (ls:aa)(Ie ns:af):List ((Int×Int)×Int):=(ls.zip Ie).filter λz=>!(decide (z.1.1∈ns)&&decide (z.1.2∈ns))
end
end Core
namespace PP
open PySem L2 PyProof.Rows
abbrev dX:=(Str->Prop)->bV
def EX (K:ad)(H0:Hp)(Ep:Str->Prop):XK:=λc d H'=>d=none/\aE H0 H'/\∃n C,c = .ref C/\PySem.W.nsIn K mainGlobals n=some (some (.ref C))/\Ep n
def Ip (K:ad)(p:dX):Sp:=λvs H Q E=>∃xs Qp Ep,bb K (λ_=>True) H vs xs/\p Ep xs Qp/\(∀v H' x,aE H H'->aH K (λa=>H a=none) H' v x->Qp x->Q v H')/\
 ∀n C H',aE H H'->PySem.W.nsIn K mainGlobals n=some (some (.ref C))->Ep n->E (.ref C) none H'
structure bM (P:ay)(w:ba)(K:ad)(mg:Str->Option av)(base:Heap)(k:Nat)(x:Str)(ps:List Str)(p:dX):Prop where
 ex:∃f fd,dW P w K mg base (gZ P w) k f fd ps (Ip K p)/\jZ K fd ps []/\PySem.W.keepIn K (.ref f)=true/\mg x=some (.ref f)
section
variable {X:Cx}{σ:L2.St}{H:Hp}{D:dS}{tr:dI}{Q':VK}{a b c e:Expr}{es:List Expr}{pos p2 cp np hp:Pos}{t:aO}{te:aG}{tc:dA}
def i7 (Ep:Str->Prop)(p:dX)(t:dI):aG:=aB (p Ep) t
def MN {p:dX}{Ep:Str->Prop}(h:LE X (i7 Ep p tr) σ H Q'):tY (Ip X.K p) [] (EX X.K X.bu Ep) (LA X tr) σ H Q':=by
 obtain⟨W,ρ,Q,px,q,k⟩:=h
 refine⟨W,ρ,_,px,q,λvs H1 xs s1 r1 q1=>⟨_,_,Ep,by rw[vb];exact r1.any,q1,λv H' x s2 r2 q2=>k v H' x .fr (s1.trans s2) (r2.same (aE.refl _) λ_ z=>s1.free z) q2,λn C H' s2 z1 z2=>⟨rfl,(px.same.trans s1).trans s2,n,C,rfl,z1,z2⟩⟩⟩
def j7 {Ep:Str->Prop}{k j:Nat}{x:Str}{ps:List Str}{p:dX}(hX:qD X (EX X.K X.bu Ep))(d:bM X.prog X.w X.K X.mg X.base k x ps p)(hr:cW j X.A)(ha:QA X (e::es) tr)(CM:k<=j:=by decide)(hg:Gl X x:=by rfl)(vp:(x==("__debug__":Str))=false:=by decide)(he:starEach (e::es) X.env=(false,eval e X.env)::starEach es X.env:=by rfl)(hpl:(backTo pos (starEach es X.env)).any (·.1)=false:=by rfl):QE X (.Call (.Name x p2) (e::es) [] pos) (i7 Ep p tr):=by
 obtain⟨f,fd,F,b,kp,m⟩:=d.ex
 exact cG (tZ F (hr.mono CM) hg m kp b .nil hX.pass ha vp he hpl) λ_ _ _=>MN
def oN {k j:Nat}{x:Str}{ps:List Str}{p:dX}(d:bM X.prog X.w X.K X.mg X.base k x ps p)(hr:cW j X.A)(ha:QA X (e::es) tr)(CM:k<=j:=by decide)(hg:Gl X x:=by rfl)(vp:(x==("__debug__":Str))=false:=by decide)(he:starEach (e::es) X.env=(false,eval e X.env)::starEach es X.env:=by rfl)(hpl:(backTo pos (starEach es X.env)).any (·.1)=false:=by rfl):QE X (.Call (.Name x p2) (e::es) [] pos) (aB (p λ_=>False) tr):=by
 obtain⟨f,fd,F,b,kp,m⟩:=d.ex
 refine cG (tZ F (E:=EX X.K X.bu λ_=>False) (hr.mono CM) hg m kp b .nil (λ_ _ _ _ _ _ _ h=>?_) ha vp he hpl) λ_ _ _ h=>MN (Ep:=λ_=>False) h
 obtain⟨_,_,_,_,_,_,_,_,_,_,_,_,z⟩:=h
 exact z.elim
def oO (Ep:Str->Prop)(n:Str)(t:dI):aO:=λ_ ρ=>t ρ λxs=>xs.length<=1000/\Ep n
def WK {Ep:Str->Prop}{n:Str}{C:ax}(hn:PySem.W.nsIn X.K mainGlobals n=some (some (.ref C)))(h:LS X (oO Ep n tr) D σ H):NV (EX X.K X.bu Ep) C (LA X tr) D σ H:=by
 obtain⟨W,ρ,D',px,q,k⟩:=h
 exact⟨W,ρ,_,px,q,λvs H1 xs s1 r z=>⟨by rw[r.length];exact uT z.1,rfl,px.same.trans s1,n,C,rfl,hn,z.2⟩⟩
structure Xc (K:ad)(mg:Str->Option av)(base:Heap)(n:Str):Prop where
 ex:∃C B newId uk bm,OwnCls n C bm newId mg base/\ExcBaseFacts B newId uk bm/\PySem.W.nsIn K mainGlobals n=some (some (.ref C))
def t7 {Ep:Str->Prop}{n:Str}(hX:qD X (EX X.K X.bu Ep))(x:Xc X.K X.mg X.base n)(ha:QA X (e::es) tr)(hc:X.calm=true:=by rfl)(hg:Gl X n:=by rfl)(hd:(n==("__debug__":Str))=false:=by decide)(he:starEach (e::es) X.env=(false,eval e X.env)::starEach es X.env:=by rfl)(hpl:(backTo cp (starEach es X.env)).any (·.1)=false:=by rfl):QS X (.Raise (some (.Call (.Name n np) (e::es) [] cp)) none pos) (oO Ep n tr):=by
 obtain⟨C,B,newId,uk,bm,O,FB,hn⟩:=x.ex
 exact fC (Zl hX hc O FB ha hg hd he hpl) λ_ _ _=>WK hn
def rN:V->av
 |.ref a=>.ref a
 |.ty n=>.type n
 |_=>.none
end
structure t8 (K:ad)(C:ax):Prop where
 cls:PySem.W.isClsIn K C=true
 ty:PySem.W.typeIn K (.ref C)=some (.type "type")
 ga:PySem.W.findIn K (.ref C) "__getattribute__" = some (some (.builtin "BaseException.__getattribute__"))
 gt:PySem.W.findIn K (.ref C) "__getattr__" = some none
 fc:PySem.W.findIn K (.ref C) "__class__" = some (some (.builtin "object.__class__"))
 fg:PySem.W.specialIn K (.builtin "object.__class__") "__get__" = some (some (.builtin "getset_descriptor.__get__"))
 ft:PySem.W.takesIn K (.builtin "object.__class__")=some true
 ob:PySem.W.mroIn K C (.type "object")=some true
 be:PySem.W.mroIn K C (.type "BaseException")=some true
def wG {K:ad}{h₀:Heap}{mg:Str->Option av}{x:Str}{C:ax}{Jo:List av}{newId:String}(X:K.In h₀)(m:mg x=some (.ref C))(q:PySem.W.excIn K C Jo newId=true):OwnCls x C Jo newId mg h₀:=by
 refine⟨m,?_⟩;unfold PySem.W.excIn at q;split at q
 case h_2=>cases q
 rename_i dd cd sl ho
 split at q
 case h_2=>cases q
 rename_i C' bm k0 k1 k2 k3 n k5 hm hs
 simp only[mv,beq_iff_eq,yz]at q
 obtain⟨⟨⟨⟨⟨rfl,rfl⟩,dl⟩,ht⟩,cf⟩,FE⟩:=q
 obtain⟨nm,bs,mro,ns,qn,hd,sn,sub,ab,col,del⟩:=cd
 dsimp only at hm dl cf FE;subst hm dl;obtain rfl:sl = #[k0,k1,k2,k3,some (.builtin n),k5]:=by
  obtain⟨l⟩:=sl
  exact congrArg Array.mk hs
 exact⟨bm,ns,nm,qn,bs,hd,sn,sub,ab,col,dd,k0,k1,k2,k3,k5,_,X _ _ ho,.of_isNs (PySem.W.isNs_of_in X cf),PySem.W.nsMap_none_of_in X cf FE,PySem.W.tail_of_in X ht⟩
def bM.of {P:ay}{w:ba}{K:ad}{mg:Str->Option av}{base:Heap}{k:Nat}{x:Str}{ps N:List Str}{p:dX}{st:Stmt}{f:ax}{fd:FuncData}(F:gI K x x st f fd)(m:mg x=some (.ref f))(S:bg N ps (aZ st))(hb:∀(kV doc pm:av) (an:Option ax) (cy ct:av) (us:List av),us.length=ps.length->bindArgs (PySem.W.fnOf x x (kR st) (gC st) (aZ st) .none kV doc pm an cy ct) ⟨us,[]⟩=pure (ps.zip us))(t:(Str->Prop)->aO)(len:∀Ep xs Q,p Ep xs Q->xs.length=ps.length)(rd:∀Ep xs Q,p Ep xs Q->t Ep { nx:=λ_=>Q .bw,rt:=Q } (iM N xs))(body:∀(cy:av) (A:az) (outer:List Env) (s:aw) (H:Hp) (E:XK) (Ep:Str->Prop),cW k (A.deeper (envOfC x (aZ st) s.heap.objs.size f cy))->qD (eI (gZ P w) P w K mg base N x (aZ st) f cy A outer s H E) (EX K H Ep)->
   gN (eI (gZ P w) P w K mg base N x (aZ st) f cy A outer s H E) (gC st) (t Ep)):bM P w K mg base (k+1) x ps p:=by
 refine⟨f,fd,F.Iz S (λvs H Q E h=>?_) (λcy A outer s H vs Q E hr h=>?_),F.binds hb,F.kp,m⟩
 ·obtain⟨xs,Qp,Ep,r,q,_⟩:=h
  rw[r.length];exact len Ep xs Qp q
 ·obtain⟨xs,Qp,Ep,r,q,k,ke⟩:=h
  have ht:=body cy A outer s H E Ep hr (Zm λc d H' z=>?_)
  ·refine⟨_,ht,λ_=>False,iM N xs,_,vN r,rd Ep xs Qp q,?_,?_,?_,?_⟩
   ·exact λW' cj H' gi e px q=>k _ _ _ px.same .bw q
   ·exact λv H' x s r q=>k _ _ _ s r q
   ·exact λW' cj H' gi e px q=>q
   ·exact λW' cj H' gi e px q=>q
  ·obtain⟨rfl,s1,n,C,rfl,z1,z2⟩:=z
   exact ke n C H' s1 z1 z2
end PP
namespace Core
open PySem L2 PP
abbrev j8 (t:(Str->Prop)->aO)(N:List Str)(p:dX):Prop:=∀Ep xs Q,p Ep xs Q->t Ep { nx:=λ_=>Q .bw,rt:=Q } (iM N xs)
def qI:dX:=λEp xs Q=>∃ws ls x ns,xs = [bG ws ls,x]/\dG x ns/\ns.length<=1000/\(aY ws.length ns=true->Q (.tup (ao ns)))/\(aY ws.length ns=false->Ep "BadSet")
def MM (Ep:Str->Prop):aO:=(aI (dO (pK (bH (aB vU (a6 (a5 0) (a6 (a5 1) a9))))) (oO Ep "BadSet" (a6 (qC (.str "a set is of rising hearths of the web")) a9)) dZ)
 (bY (aB iN (a6 (a5 1) a9))))
def WJ:j8 MM ["web","hearths"] qI:=by
 rintro Ep xs Q ⟨ws,ls,x,ns,rfl,hx,hl,q1,q2⟩;refine⟨_,rfl,_,rfl,ws,ls,x,ns,rfl,hx,hl,_,rfl,?_⟩;cases h:aY ws.length ns with
 |true=>exact bK ⟨_,rfl,⟨_,_,rfl,hx.zi,cS _,trivial,q1 h⟩,hx.BQ⟩
 |false=>exact bP ⟨by decide,q2 h⟩
end Core
namespace PP
open PySem L2
def bb.keys {K:ad}{M:ax->Prop}{H:Hp}:∀(k:List aC),bb K M H (k.map kV) (k.map kP)
 |[]=>.nil
 |.inl i::r=>.cons (.int i) (bb.keys r)
 |.inr x::r=>.cons (.str x) (bb.keys r)
def ML {α β:Type}{F:α->β->Prop}:∀{l:List α}{m:List β}{i:Nat}{x:α},Paired F l m->l[i]? = some x->∃y,m[i]? = some y/\F x y
 |_,_,_,_,.nil,e=>by simp at e
 |_,_,0,_,.cons r _,e=>by simp at e;subst e;exact⟨_,rfl,r⟩
 |_,_,i+1,x,.cons _ t,e=>by
  rw[BI]at e
  obtain⟨y,h1,h2⟩:=ML t e
  exact⟨y,by rw[BI];exact h1,h2⟩
def yj {us:List av}(h:us.length=1):∃a,us = [a]:=List.length_eq_one_iff.mp h
def Aq {us:List av}(h:us.length=2):∃a b,us = [a,b]:=by
 cases us with
 |nil=>cases h
 |cons a r=>
  obtain⟨b,rfl⟩:=yj (us:=r) (by simpa using h)
  exact⟨a,b,rfl⟩
def G2 {us:List av}(h:us.length=3):∃a b c,us = [a,b,c]:=by
 cases us with
 |nil=>cases h
 |cons a r=>
  obtain⟨b,c,rfl⟩:=Aq (us:=r) (by simpa using h)
  exact⟨a,b,c,rfl⟩
end PP
namespace Core
open PySem L2 PP
def NN (zs:af):Prop:=∀z∈zs,(0:Int)<=z
def NN.set {zs:af}{z:Int}(h:NN zs)(hz:0<=z)(j:Nat):NN (zs.set j z):=λy hy=>by
 rcases List.mem_or_eq_of_mem_set hy with hy|rfl
 ·exact h y hy
 ·exact hz
def G3 (i:Nat)(S:af):Prop:=S.Pairwise (·<·)/\∀x∈S,0<=x/\x<(i:Int)
def G3.set {i:Nat}{S:af}(h:G3 i S):aY i S=true:=by
 unfold aY;rw[vS h.1,Bool.true_and,AO];intro b hb
 obtain⟨x,hx,rfl⟩:=dr.mp hb
 have:=h.2 x hx
 unfold qk;simp only[id,mv,lx];exact this
end Core
namespace PP
open PySem L2
section
variable {X:Cx}{a b e:Expr}{ta tb:aG}{tr:dI}{D:dS}{σ:St}{H:Hp}{pos p2 p3 p4:Pos}
def wH (i:Nat)(ta tb:aG):aO:=λD ρ=>∃xs,ρ[i]? = some (some (.own (.lst xs)))/\ta ρ λx _=>∃k:Nat,x = .int k/\k<=xs.length/\xs.length<16000000/\tb ρ λy g=>Nw g y/\D.nx (ρ.set i (some (.own (.lst (xs.take k++y::xs.drop k)))))
def WI {i:Nat}(h:LS X (wH i ta tb) D σ H):rB (u0 X.K "list" NU (gA i) (iG (LE X ta) (iG (LE X tb) kQ))) D σ H:=by
 obtain⟨W,ρ,D',px,⟨xs,hi,q⟩,k⟩:=h
 obtain⟨v,ev,a,rfl,wa,us,ea,r⟩:=px.sl i _ hi
 refine⟨_,ev,mO (aM.of ea),W,ρ,_,px,q,?_⟩;rintro w H1 x g s rx ⟨j,rfl,hj,hl,q⟩;cases rx;refine⟨W,ρ,_,px.mono s,q,?_⟩;rintro w H2 y g s2 ry ⟨n,q⟩;have AL:=s2 _ _ (s _ _ ea);have s3:=s.trans s2;refine⟨a,us,w,j,rfl,rfl,AL,by rw[r.length];exact hj,iS (by rw[r.length];omega),?_⟩;refine k.nx W σ _ _ ((Ev.same s3).trans (Ev.upd wa)) ((px.mono s3).Ar hi ev wa ?_) q;have r2:=r.same s3 λ_ z=>z
 exact ((r2.take j).append (.cons (Nw.rep (px.mono s) n ry) (r2.drop j))).keep (.upd AL rfl λb m=>⟨mQ wa m,m⟩)
def WH (i:Nat){x:Str}{ah ai fq:Pos}(ha:QE X a ta)(hb:QE X b tb)(hN:X.N[i]? = some x:=by rfl)(hv:iR X.env.scope x:=by first|exact Or.inl rfl|exact Or.inr (Or.inl rfl)|exact Or.inr (Or.inr rfl))(hd:(x==("__debug__":Str))=false:=by decide)(ko:(x==("__classdict__":Str))=false:=by decide)(ki:attributeBase (.Name x fq) "insert" X.env (eval (.Name x fq) X.env)=eval (.Name x fq) X.env:=by rfl)(yb:((backTo ai (starEach [a,b] X.env)).all (λx=>!x.1)&&(backToKw ai (keywordEach [] X.env)).all (λx=>x.1.isSome)&&decide (([a,b]:List Expr).length+([]:List Keyword).length+(if ([]:List Keyword).isEmpty then 0 else 1)<30))=true:=by rfl)(kh:(ah.endLine==ai.line)=true:=by rfl)(hs:starEach [a,b] X.env=(false,eval a X.env)::starEach [b] X.env:=by rfl)(yv:starEach [b] X.env=(false,eval b X.env)::starEach [] X.env:=by rfl)(ar:(backTo ai (starEach [b] X.env)).any (·.1)=false:=by rfl)(vn:swapsWith (.Call (.Attribute (.Name x fq) "insert" ah) [a,b] [] ai) none pos.line X.env=pure false:=by rfl) :
  QS X (.Expr (.Call (.Attribute (.Name x fq) "insert" ah) [a,b] [] ai) pos) (wH i ta tb):=
 fC (mF (nQ Cj PySem.F.slot_list_insert PySem.F.type_list_insert Zj (kN hN hv hd ko) (dH ha (dH hb eG yv) hs) ki yb kh hs ar) vn) λ_ _ _=>WI
end
end PP
namespace Core
open PySem L2 PP
structure WL (n:Int)(ws:af)(ls:aa):Prop where
 many:(ws.length:Int)=n
 fe:∀l∈ls,0<=l.1/\l.1<l.2/\l.2<n
 most:ls.length<=1700
 ord:ls.Pairwise lY
 pos:∀w∈ws,0<=w
def WL.perm {n:Int}{ws:af}{ls wz:aa}(h1:(ws.length:Int)=n)(h2:∀l∈ls,0<=l.1/\l.1<l.2/\l.2<n)(h3:ls.length<=1700)(nd:ls.Nodup)(h4:∀w∈ws,0<=w)(p:wz.Perm ls)(so:(wz.map two).Pairwise λu v=>HT.gB v u=false):WL n ws wz:=
 ⟨h1,λl hl=>h2 l (p.mem_iff.mp hl),by rw[p.length_eq];exact h3,YS so (p.nodup_iff.mpr nd),h4⟩
def WL.wb {n:Int}{ws:af}{ls:aa}(h:WL n ws ls)(hn:n<=40):Wb ws ls:=
 ⟨by have:=h.many;omega,h.most,λl hl=>by have:=h.fe l hl;have:=h.many;omega⟩
def wI:dX:=λEp xs Q=>∃ws ls x S,xs = [bG ws ls,x]/\Wb ws ls/\dG x S/\S.length<=1000/\(aY ws.length S=true->Q (.bl (decide (cq ws ls S=S))))/\(aY ws.length S=false->Ep "BadSet")
def MK (Ep:Str->Prop):aO:=(aI (b8 2 (i7 Ep qI (a6 (a5 0) (a6 (a5 1) a9))))
 (bY (q2 (C3 2 false) (aB wB (a6 (a5 0) (a6 (aB i6 (a6 (a5 0) a9)) (a6 (a5 2) a9)))) (a5 2))))
def WG:j8 MK ["web","block","chosen"] wI:=by
 rintro Ep xs Q ⟨ws,ls,x,S,rfl,wb,hx,hl,q,qe⟩;refine⟨_,rfl,_,rfl,ws,ls,x,S,rfl,hx,hl,λhs=>⟨trivial,?_⟩,qe⟩;have q:=q hs;refine⟨_,rfl,_,rfl,ws,ls,rfl,wb,_,rfl,ws,ls,_,S,rfl,wb,.inl rfl,hs,_,rfl,.inl ⟨_,_,rfl,rfl⟩,Ol 2 _ _,trivial,?_⟩;show Q (.bl (e7 3 (.tup (ao (cq ws ls S))) (.tup (ao S))));rw[Oo];exact q
def WE (f:af->aa->af->(PV->Prop)->Prop):dX:=λEp xs Q=>∃ws ls x ns,xs = [bG ws ls,x]/\Wb ws ls/\dG x ns/\ns.length<=1000/\(aY ws.length ns=true->f ws ls ns Q)/\(aY ws.length ns=false->Ep "BadSet")
def wJ:bV:=λxs Q=>∃ws ls y ms,xs = [bG ws ls,y]/\dG y ms/\ms.length<=1000/\ws.length<=1000/\Q (.tup (ao (cI ws.length ms)))
def MJ:aO:=(bY (aB m6 (a6 (vY (aB gR (a6 (a5 0) a9))) (a6 (a5 1) a9))))
def WD:dC MJ ["web","some"] wJ:=by
 rintro xs Q ⟨ws,ls,y,ms,rfl,hy,hm,hw,q⟩;refine⟨_,rfl,ws,ls,rfl,_,rfl,by omega,by omega,?_⟩;rw[F6];refine⟨_,rfl,_,bj ws.length,y,ms,rfl,.inr rfl,hy,by rw[cH];omega,hm,trivial,q⟩
def WC (ws:af)(S:af):(cI ws.length S).length=jz ws S:=rfl
section
variable {ws:af}{ls:aa}{S:af}
def qJ (ws:af)(ls:aa)(S:af):af:=fQ ws ls S S.length
def MI (ws:af)(ls:aa)(S:af):∀k,cq ws ls (fQ ws ls S k)=fQ ws ls S k∨(fQ ws ls S k).length+k<=S.length
 |0=>.inr (de _)
 |k+1=>by
  rcases MI ws ls S k with h|h
  ·left
   show cq ws ls (cq ws ls (fQ ws ls S k))=cq ws ls (fQ ws ls S k);rw[h,h]
  ·by_cases e:cq ws ls (fQ ws ls S k)=fQ ws ls S k
   ·left
    show cq ws ls (cq ws ls (fQ ws ls S k))=cq ws ls (fQ ws ls S k);rw[e,e]
   ·right
    have:=Xi e
    show (cq ws ls (fQ ws ls S k)).length+(k+1)<=S.length;unfold cq at this ⊢;omega
def WB (ws:af)(ls:aa)(S:af):cq ws ls (qJ ws ls S)=qJ ws ls S:=by
 rcases MI ws ls S S.length with h|h
 ·exact h
 ·have e:fQ ws ls S S.length = []:=Fg (by omega)
  unfold qJ;rw[e];rfl
def MH (ws:af)(ls:aa)(S:af):qH ws ls S (qJ ws ls S):=Xf (WB ws ls S)
def MG (hs:aY ws.length S=true):aY ws.length (qJ ws ls S)=true:=Nb hs _
end
end Core
namespace PP
open PySem L2
section
variable {X:Cx}{a:Expr}{tk:aG}{σ:St}{H:Hp}{Q':VK}{pos p2:Pos}
def G4 (tk:aG):aG:=λρ Q=>tk ρ λx _=>∃n:Int,x = .int n/\Q (.dK [(Sum.inl n,.bl true)]) .fr
def WA (h:LE X (G4 tk) σ H Q'):X3 [(LE X tk,tC (.bl true))] σ H Q':=by
 obtain⟨W,ρ,Q,px,q,k⟩:=h
 intro p hp;refine⟨W,ρ,_,px.mono (bL hp _),q,?_⟩;rintro v H1 x g s r ⟨n,rfl,q1⟩;cases r;have Rb:H1 p=some (.dK []):=s p _ bA;refine⟨Rb,[((Sum.inl n:aC),V.bl true)],rfl,by show 1<=15;decide,?_⟩;have sm:aE H (upd H1 p (.dK (pD [] [((Sum.inl n:aC),V.bl true)]))):=λb o e=>by
  have nb:b≠p:=λz=>by rw[z,hp]at e;cases e
  rw[aK nb];exact s b o (by rw[aK nb];exact e)
 exact k _ _ _ .fr sm (.dK hp bA rfl (.cons (.bl true) .nil)) q1
def Wz {j:Nat}(ha:QE X a tk):QE X (.Dict [some a] [.Constant (.bool true) j p2] pos) (G4 tk):=
 cG (aL1 (X0 ha O1 W9) rfl rfl (by simp) (by show 1<=15;decide)) λ_ _ _=>WA
def Wy (hN:X.N.Nodup)(i j:Nat){x y:Str}{ah ai fq:Pos}(hi:X.N[i]? = some x:=by rfl)(hj:X.N[j]? = some y:=by rfl)(hv:iR X.env.scope x:=by first|exact Or.inl rfl|exact Or.inr (Or.inl rfl)|exact Or.inr (Or.inr rfl))(hd:(x==("__debug__":Str))=false:=by decide)(ko:(x==("__classdict__":Str))=false:=by decide)(ki:attributeBase (.Name x fq) "pop" X.env (eval (.Name x fq) X.env)=eval (.Name x fq) X.env:=by rfl)(kh:(ah.endLine==ai.line)=true:=by rfl)(hx:jX X.env.scope y:=by first|exact Or.inl rfl|exact Or.inr rfl)(hs:swapsWith (.Call (.Attribute (.Name x fq) "pop" ah) [] [] ai) (some (.Name y p2)) pos.line X.env=pure false:=by rfl)(hf:X.fn y=true∨X.env.scope.names.lookup y=some .local:=by first|exact .inl rfl|exact .inr rfl) :
  QS X (.Assign [.Name y p2] (.Call (.Attribute (.Name x fq) "pop" ah) [] [] ai) pos) (B4 i j):=
 fC (yG hN hj hx (aJ2 Cj PySem.F.slot_list_pop PySem.F.type_list_pop aJ5 (kN hi hv hd ko) ki kh) hs hf) λ_ _ _=>aR9
end
end PP
namespace Core
open PySem L2 PP
def j9 (R:af):List (aC×PV):=R.map λx=>((Sum.inl x:aC),PV.bl true)
theorem MF (R:af):(j9 R).map (·.1)=R.map (Sum.inl:Int->aC):=by unfold j9;rw[kq];rfl
theorem Wx (R:af):(j9 R).length=R.length:=by unfold j9;rw[df]
theorem Ww (R:af)(n:Int):(bX (j9 R) (Sum.inl n:aC)).isSome=decide (n∈R):=by
 rw[<- vV,xf,Dk,lx];unfold j9;refine⟨λ⟨p,hp,e⟩=>?_,λh=>⟨_,dr.mpr ⟨n,h,rfl⟩,di rfl⟩⟩
 obtain⟨x,hx,rfl⟩:=dr.mp hp
 have e:(Sum.inl x:aC)=Sum.inl n:=mw e;rw[<- Sum.inl.inj e];exact hx
theorem Wv {R:af}{y:Int}(h:y∉R):dF (j9 R) (Sum.inl y:aC) (.bl true)=j9 (R++[y]):=by
 rw[MV (MF R) h];unfold j9;rw[gu];rfl
structure G5 (n:Nat)(ls:aa)(S P:af):Prop where
 set:aY n P=true
 ne:P≠[]
 sub:∀x∈P,x∈S
 xv:∀x∈P,∀y∈aF ls x,y∈S->y∈P
 got:∀h∈S.head?,h∈P
 least:∀U:af,(∀x∈U,∀y∈aF ls x,y∈S->y∈U)->(∀h∈S.head?,h∈U)->∀x∈P,x∈U
def wK:bV:=λxs Q=>∃ws ls S,xs = [.lst (cA ws.length ls),.tup (ao S)]/\Wb ws ls/\aY ws.length S=true/\S≠[]/\∀P,G5 ws.length ls S P->Q (.tup (ao P))
def ME:aO:=(aI (b8 2 (aB kU (a6 (a5 1) a9)))
 (aI (e6 3 (G4 (bI (a5 1) (qC (.int 0)))))
 (aI (e6 4 (fA (a6 (bI (a5 1) (qC (.int 0))) a9)))
 (aI (pN (mS (a5 4))
  (aI (B4 4 5)
  (fB (cD (bI (a5 0) (a5 5))) (bW 6)
   (dO (o5 (bH (kB false (a5 6) (a5 2))) (bH (kB true (a5 6) (a5 3)))) (aI (pV 3 (a5 6) (qC (.bl true)))
    (iW 4 (a5 6))) dZ))))
 (bY (aB iN (a6 (aB G0 (a6 (a5 3) a9)) a9)))))))
structure Way (ls:aa)(S R W:af)(E:Int->Prop):Prop where
 nd:R.Nodup
 ne:R≠[]
 sub:∀x∈R,x∈S
 wait:∀x∈W,x∈R
 xv:∀x∈R,x∉W->¬E x->∀y∈aF ls x,y∈S->y∈R
 got:∀h∈S.head?,h∈R
 least:∀U:af,(∀x∈U,∀y∈aF ls x,y∈S->y∈U)->(∀h∈S.head?,h∈U)->∀x∈R,x∈U
theorem Wu:dC ME ["around","hearths","inside","reached","waiting","hearth","other"] wK:=by
 rintro xs Q ⟨ws,ls,S,rfl,wb,hS,tu,q⟩;have eu:=wb.eu;have most:=wb.most;have sl:=oG hS;have snd:S.Nodup:=(gQ (dD hS).1).imp λh=>yf h
 obtain⟨s0,sr,rfl⟩:∃s0 sr,S=s0::sr:=by
  cases S with
  |nil=>exact absurd rfl tu
  |cons a r=>exact⟨a,r,rfl⟩
 have i0:L2.ma (ao (s0::sr)) (0:Int)=some (.int s0):=jJ (xs:=ao (s0::sr)) (j:=0) rfl;generalize Hx:s0::sr=S at *;have m0:s0∈S:=by rw[<- Hx];exact dh
 have hd:∀h,h∈S.head?↔h=s0:=λh=>by rw[<- Hx];exact⟨λz=>by cases z;rfl,λz=>by rw[z];rfl⟩
 refine⟨_,rfl,_,S,rfl,.inl rfl,by omega,λpm dm=>⟨trivial,?_⟩⟩;refine⟨_,rfl,_,_,_,rfl,rfl,i0,s0,rfl,rfl,rfl,?_⟩;refine⟨_,rfl,_,_,_,rfl,rfl,i0,by show 1<=1000;decide,rfl,rfl,rfl,?_⟩
 refine⟨λn ρ=>∃(R W:af) (y5 y6:Option Slot),ρ = [some (.sh (flat (.lst (cA ws.length ls))) (.lst (cA ws.length ls))),some (.sh (flat (.tup (ao S))) (.tup (ao S))),some (.sh true (.dK pm)),some (.own (.dK (j9 R))),some (.own (.lst (ao W))),y5,y6]/\
   n=2*(S.length-R.length)+W.length/\n<=2*S.length/\Way ls S R W λ_=>False,⟨_,[s0],[s0],none,none,rfl,rfl,by rw[<- Hx];simp;omega,ot _ _,(λz=>nomatch z),(λx hx=>by rw[dt.mp hx];exact m0),λ_ h=>h,λx hx hw=>absurd hx hw,λh hh=>dt.mpr ((hd h).mp hh),λU _ hU x hx=>by rw[dt.mp hx];exact hU s0 ((hd s0).mpr rfl)⟩,?_⟩
 rintro n ρ ⟨R,W,y5,y6,rfl,rfl,bd,wy⟩;refine⟨_,rfl,_,rfl,?_⟩;have rl:R.length<=S.length:=wy.nd.length_le_of_subset wy.sub;rcases List.eq_nil_or_concat W with hW|⟨W',h,hW⟩
 ·subst hW
  refine bK ⟨_,rfl,_,R,rfl,MF R,by omega,λms pm so=>⟨⟨_,_,rfl,rfl,cS _,trivial,q ms ⟨?_,?_,?_,?_,λh hh=>pm.mem_iff.mpr (wy.got h hh),λU hU hh x hx=>wy.least U hU hh x (pm.mem_iff.mp hx)⟩⟩,λns z=>by cases z⟩⟩
  ·have nd:ms.Nodup:=pm.nodup_iff.mpr wy.nd
   have up:ms.Pairwise (·<·):=(List.Pairwise.and so nd).imp λz=>Int.lt_iff_le_and_ne.mpr ⟨z.1,z.2⟩
   have u:oJ (ws.length:Int) ms:=⟨up,λx hx=>(dD hS).2 x (wy.sub x (pm.mem_iff.mp hx)),by rw[pm.length_eq];omega⟩;exact u.set
  ·intro z;rw[z]at pm;exact wy.ne (List.nil_perm.mp pm)
  ·exact λx hx=>wy.sub x (pm.mem_iff.mp hx)
  ·exact λx hx y hy QQ=>pm.mem_iff.mpr (wy.xv x (pm.mem_iff.mp hx) (λz=>nomatch z) (λz=>z) y hy QQ)
 ·have hW:W=W'++[h]:=by rw[hW];simp
  subst hW;have hR:h∈R:=wy.wait h (by simp);have hb:=(dD hS).2 h (wy.sub h hR);have nz:(!(ao (W'++[h])).isEmpty)=true:=by rw[fE];cases W'<;>rfl
  show if (!(ao (W'++[h])).isEmpty)=true then _ else _
  rw[nz];refine bP ⟨ao W',.int h,by rw[fE];rfl,?_⟩
  refine⟨_,rfl,_,rfl,_,_,_,rfl,rfl,vX hb.1 hb.2,_,rfl,(λz=>by cases z),λj ρ=>∃(R2 W2:af) (y6:Option Slot),ρ = [some (.sh (flat (.lst (cA ws.length ls))) (.lst (cA ws.length ls))),some (.sh (flat (.tup (ao S))) (.tup (ao S))),some (.sh true (.dK pm)),some (.own (.dK (j9 R2))),some (.own (.lst (ao W2))),si h,y6]/\
    2*(S.length-R2.length)+W2.length<2*(S.length-R.length)+(W'++[h]).length/\Way ls S R2 W2 (λx=>x=h)/\h∈R2/\∀y∈(aF ls h).take j,y∈S->y∈R2,
    ⟨R,W',y6,rfl,by rw[jg,uy];omega,⟨wy.nd,wy.ne,wy.sub,λx hx=>wy.wait x (pb _ hx),λx hx hw he=>wy.xv x hx (λz=>(fi.mp z).elim hw λz=>he (dt.mp z)) λz=>z,wy.got,wy.least⟩,hR,λy hy=>by rw[List.take_zero]at hy;cases hy⟩,?_,?_⟩
  ·rintro j y ρ hy ⟨R2,W2,y6,rfl,lt,uf,EL,seen⟩
   obtain⟨o,rfl,ho⟩:=hG hy
   have rl2:R2.length<=S.length:=uf.nd.length_le_of_subset uf.sub;have tk:∀y,y∈(aF ls h).take (j+1)->y∈(aF ls h).take j∨y=o:=λy z=>by
    rw[nq,ho]at z;rcases fi.mp z with z|z
    ·exact .inl z
    ·exact .inr (by simpa using z)
   refine kG ?_;refine⟨_,rfl,_,rfl,_,.inl ⟨pm,Sum.inl o,rfl,rfl,rfl⟩,_,rfl,?_⟩;show if (bX pm (Sum.inl o:aC)).isSome=true then _ else _
   rw[dm.has o];by_cases h1:o∈S
   ·rw[di h1]
    refine bP ⟨_,rfl,_,rfl,_,.inl ⟨j9 R2,Sum.inl o,rfl,rfl,rfl⟩,_,rfl,?_⟩;show if (!(bX (j9 R2) (Sum.inl o:aC)).isSome)=true then _ else _
    rw[Ww];by_cases h2:o∈R2
    ·rw[di h2]
     exact bK ⟨R2,W2,si o,rfl,lt,uf,EL,λy z zS=>(tk y z).elim (λz=>seen y z zS) λe=>by rw[e];exact h2⟩
    ·rw[fk h2]
     have ID:(R2++[o]).Nodup:=xj.mpr ⟨uf.nd,ot _ _,λa ha b hb e=>h2 (by rw[dt.mp hb]at e;rw[<- e];exact ha)⟩;have Ec:∀x∈R2++[o],x∈S:=λx hx=>(fi.mp hx).elim (uf.sub x) λz=>by rw[dt.mp z];exact h1
     have l3:(R2++[o]).length<=S.length:=ID.length_le_of_subset Ec;rw[jg,uy]at l3;refine bP ⟨_,rfl,_,rfl,Sum.inl o,rfl,trivial,by rw[Wx];omega,?_⟩;rw[Wv h2];refine⟨_,rfl,_,rfl,trivial,by rw[bE];omega,R2++[o],W2++[o],si o,?_,?_,⟨ID,(λz=>by simp at z),Ec,λx hx=>?_,λx hx hw he y hy yS=>?_,λh hh=>pb _ (uf.got h hh),λU hU hh x hx=>(fi.mp hx).elim (uf.least U hU hh x) λz=>by rw[dt.mp z];exact hU h (uf.least U hU hh h EL) o (fm ho) h1⟩,pb _ EL,λy z zS=>?_⟩
     ·rw[fE];rfl
     ·simp only[jg,uy]at lt ⊢;omega
     ·rcases fi.mp hx with z|z
      ·exact pb _ (uf.wait x z)
      ·exact qt _ z
     ·rcases fi.mp hx with z|z
      ·exact pb _ (uf.xv x z (λz=>hw (pb _ z)) he y hy yS)
      ·exact absurd (qt _ z) hw
     ·rcases tk y z with z|e
      ·exact pb _ (seen y z zS)
      ·rw[e];exact qt _ (dt.mpr rfl)
   ·rw[fk h1]
    exact bK (bK ⟨R2,W2,si o,rfl,lt,uf,EL,λy z zS=>(tk y z).elim (λz=>seen y z zS) λe=>absurd (e▸zS) h1⟩)
  ·rintro ρ ⟨R2,W2,y6,rfl,lt,uf,EL,seen⟩
   rw[bE,qr]at seen;refine⟨_,lt,R2,W2,si h,y6,rfl,rfl,by omega,uf.nd,uf.ne,uf.sub,uf.wait,λx hx hw _ y hy yS=>?_,uf.got,uf.least⟩;by_cases e:x=h
   ·subst e;exact seen y hy yS
   ·exact uf.xv x hx hw e y hy yS
def G6 (ws:af)(ls:aa)(S:af):Prop:=S≠[]/\cq ws ls S=S/\∀U,cq ws ls U=U->U≠[]->(∀x∈U,x∈S)->∀x∈S,x∈U
theorem Wt {A B:af}:∀ns:af,(∀y∈ns,y∈A↔y∈B)->fG ns A=fG ns B:=λns h=>by
 unfold fG;rw[AQ λx hx=>show decide (x∈A)=decide (x∈B) by rw[decide_eq_decide];exact h x hx]
def MD (Ep:Str->Prop):aO:=(aI (b8 2 (aB i6 (a6 (a5 0) a9)))
 (aI (b8 3 (i7 Ep qI (a6 (a5 0) (a6 (a5 1) a9))))
 (aI (e6 4 (fA a9))
 (aI (pN (mS (a5 3))
  (aI (b8 5 (aB wK (a6 (a5 2) (a6 (a5 3) a9))))
  (aI (iW 4 (a5 5))
  (b8 3 (aB m6 (a6 (a5 3) (a6 (a5 5) a9)))))))
 (lU 4)))))
theorem G7:∀(g:Bool) {x:PV},flat x=true->Nw (Slot.sh g x).tag x
 |true,_,_=>trivial
 |false,_,h=>h
def bN (hs:af):ae:=hs.foldl (λacc h=>acc++acc.map λp=>p++[h]) [[]]
theorem kW (hs:af)(h:Int):bN (hs++[h])=bN hs++(bN hs).map λp=>p++[h]:=by
 unfold bN;rw[List.foldl_append];rfl
theorem kX (n:Nat):bj (n+1)=bj n++[(n:Int)]:=by
 unfold bj;rw[List.range_succ,gu];rfl
theorem MC:∀hs:af,∀k,(bN (hs.take k)).length=2^min k hs.length:=by
 intro hs k
 induction k with
 |zero=>simp[bN]
 |succ k ih=>
  by_cases h:k<hs.length
  ·have tk:hs.take (k+1)=hs.take k++[hs[k]]:=by rw[nq,gs h];rfl
   rw[tk,kW,jg,df,ih,show min (k+1) hs.length=min k hs.length+1 by omega,Nat.pow_succ];omega
  ·rw[qu (by omega),show min (k+1) hs.length=min k hs.length by omega,<- ih,qu (by omega)]
theorem oP (n:Nat):(bN (bj n)).length=2^n:=by
 have:=MC (bj n) n
 rw[qu (by rw[cH];exact de _),cH,Nat.min_self]at this;exact this
theorem qK (n:Nat):∀(p:Nat) (S:af),(bN (bj n))[p]? = some S->(∀x∈S,0<=x/\x<(n:Int))/\(p=0↔S = [])/\∀h∈S,2^h.toNat<=p/\(bN (bj n))[p-2^h.toNat]? = some (S.filter λz=>!decide (z=h)):=by
 induction n with
 |zero=>
  intro p S e;have e0:bN (bj 0) = [[]]:=rfl;rw[e0]at e;cases p with
  |zero=>cases e;exact⟨(λ_ h=>by cases h),⟨λ_=>rfl,λ_=>rfl⟩,(λ_ h=>by cases h)⟩
  |succ p=>cases e
 |succ n ih=>
  intro p S e;rw[kX,kW]at e;have ln:=oP n;rcases Nat.lt_or_ge p (2^n) with hp|hp
  ·rw[tf (by omega)]at e
   obtain⟨h1,h2,h3⟩:=ih p S e
   refine⟨λx hx=>by have:=h1 x hx;omega,h2,λh hh=>⟨(h3 h hh).1,?_⟩⟩;rw[kX,kW,tf (by rw[ln];exact Dp (Nat.sub_le _ _) hp)];exact (h3 h hh).2
  ·rw[AS (by omega),ln,gf]at e
   cases e2:(bN (bj n))[p-2^n]? with
   |none=>rw[e2]at e;cases e
   |some T=>
    rw[e2]at e;have e:T++[(n:Int)]=S:=jr e;subst e
    obtain⟨h1,h2,h3⟩:=ih _ T e2
    have nT:(n:Int)∉T:=λz=>by have:=h1 _ z;omega
    have p0:0<2^n:=Nat.pow_pos (by decide);refine⟨λx hx=>?_,⟨λz=>absurd z (by omega),λz=>by simp at z⟩,λh hh=>?_⟩
    ·rcases fi.mp hx with z|z
     ·have:=h1 x z;omega
     ·rw[dt.mp z];omega
    ·rcases fi.mp hh with z|z
     ·have hb:=h1 h z
      obtain⟨a1,a2⟩:=h3 h z
      refine⟨by omega,?_⟩;rw[kX,kW,AS (by omega),ln,gf,show p-2^h.toNat-2^n=p-2^n-2^h.toNat by omega,a2,Dn]
      have:([(n:Int)]:af).filter (λz=>!decide (z=h)) = [(n:Int)]:=by
       rw[qg,fk (by omega:¬(n:Int)=h)];rfl
      rw[this];rfl
     ·have hn:h=(n:Int):=dt.mp z
      subst hn;rw[show ((n:Int)).toNat=n from rfl];refine⟨hp,?_⟩;have lt:p-2^n<2^n:=by
       have:=(gv.mp e2).1
       omega
      rw[kX,kW,tf (by omega),e2,Dn];have a1:T.filter (λz=>!decide (z=(n:Int)))=T:=xk.mpr λx hx=>by
       rw[fk (λz:x=(n:Int)=>nT (by rw[<- z];exact hx))];rfl
      have a2:([(n:Int)]:af).filter (λz=>!decide (z=(n:Int))) = []:=by
       rw[qg,di rfl];rfl
      rw[a1,a2,vb]
theorem i8 (n:Nat):∀S:af,S∈bN (bj n)↔S.Sublist (bj n):=by
 induction n with
 |zero=>
  intro S;show S∈[[]]↔S.Sublist [];rw[dt,List.sublist_nil]
 |succ n ih=>
  intro S;rw[kX,kW,fi];refine⟨λh=>?_,λh=>?_⟩
  ·rcases h with h|h
   ·exact ((ih S).mp h).trans (List.sublist_append_left _ _)
   ·obtain⟨T,hT,rfl⟩:=dr.mp h
    exact ((ih T).mp hT).append (List.Sublist.refl _)
  ·obtain⟨p1,p2,rfl,s1,s2⟩:=List.sublist_append_iff.mp h
   cases s2 with
   |cons _ s3=>rw[List.sublist_nil.mp s3,vb];exact .inl ((ih p1).mpr s1)
   |cons_cons _ s3=>rw[List.sublist_nil.mp s3];exact .inr (dr.mpr ⟨p1,(ih p1).mpr s1,rfl⟩)
theorem G8 (n:Nat):(bN (bj n)).Nodup:=by
 induction n with
 |zero=>exact ot _ _
 |succ n ih=>
  rw[kX,kW];refine xj.mpr ⟨ih,uw.mpr (ih.imp λz e=>z (List.append_cancel_right e)),λa ha b hb e=>?_⟩
  obtain⟨p1,h1,rfl⟩:=dr.mp hb
  have:=((i8 n a).mp ha).subset (show (n:Int)∈a by rw[e];simp)
  have:=bO.mp this
  omega
theorem jT {n:Nat}{S:af}:S.Sublist (bj n)↔aY n S=true:=by
 refine⟨λh=>?_,λh=>?_⟩
 ·have up:(bj n).Pairwise (·<·):=by
   unfold bj;rw[uw];exact List.pairwise_lt_range.imp λh=>by omega
  have u:oJ (n:Int) S:=⟨up.sublist h,λx hx=>bO.mp (h.subset hx),by have:=h.length_le;rw[cH]at this;omega⟩;exact u.set
 ·have e:S=(bj n).filter λx=>decide (x∈S):=by
   refine oK h ?_ λx=>?_
   ·exact qG (show aY n (bj n)=true by have:=wC n [];unfold cI at this;rwa [xk.mpr λx _=>by simp]at this) _
   ·rw[cz,lx]
    exact⟨λz=>⟨bO.mpr ((dD h).2 x z),z⟩,λz=>z.2⟩
  rw[e];exact Bf
section
variable {ws:af}{ls:aa}
def HC (ws:af)(ls:aa)(S:af):Prop:=∃U,cq ws ls U=U/\U≠[]/\∀x∈U,x∈S
theorem Ws {U S:af}(hU:cq ws ls U=U)(h:∀x,x∈S↔x∈U):cq ws ls S=S:=by
 refine xk.mpr λy hy=>?_
 have:=xk.mp hU y ((h y).mp hy)
 unfold fH at this ⊢;rw[Wt (aF ls y) λz _=>h z];exact this
theorem MB (S:af):HC ws ls S↔(S≠[]/\cq ws ls S=S)∨∃h∈S,HC ws ls (S.filter λz=>!decide (z=h)):=by
 refine⟨λ⟨U,hU,nU,sub⟩=>?_,λh=>?_⟩
 ·by_cases all:∀x∈S,x∈U
  ·refine .inl ⟨λz=>?_,Ws hU λx=>⟨all x,sub x⟩⟩
   cases hu:U with
   |nil=>exact nU hu
   |cons u r=>
    have:=sub u (by rw[hu];exact dh)
    rw[z]at this;cases this
  ·obtain⟨h,hh⟩:=Classical.not_forall.mp all
   have hS:h∈S:=ud λz=>hh λy=>absurd y z
   have Rw:h∉U:=λz=>hh λ_=>z
   refine .inr ⟨h,hS,U,hU,nU,λx hx=>cz.mpr ⟨sub x hx,?_⟩⟩;rw[fk (λz:x=h=>Rw (by rw[<- z];exact hx))];rfl
 ·rcases h with h|⟨h,hh,U,hU,nU,sub⟩
  ·exact⟨S,h.2,h.1,λ_ z=>z⟩
  ·exact⟨U,hU,nU,λx hx=>(cz.mp (sub x hx)).1⟩
theorem MA (S:af):(HC ws ls S/\¬ ∃h∈S,HC ws ls (S.filter λz=>!decide (z=h)))↔G6 ws ls S:=by
 refine⟨λ⟨h1,h2⟩=>?_,λlb=>⟨⟨S,lb.2.1,lb.1,λ_ z=>z⟩,λ⟨h,hh,U,hU,nU,sub⟩=>?_⟩⟩
 ·rcases (MB S).mp h1 with z|z
  ·refine⟨z.1,z.2,λU hU nU sub x hx=>ud λy=>h2 ⟨x,hx,U,hU,nU,λu hu=>cz.mpr ⟨sub u hu,?_⟩⟩⟩
   rw[fk (λz:u=x=>y (by rw[<- z];exact hu))];rfl
  ·exact absurd z h2
 ·have:=sub h (lb.2.2 U hU nU (λx hx=>(cz.mp (sub x hx)).1) h hh)
  have:=(cz.mp this).2
  rw[di rfl]at this;cases this
end
def wL:bV:=λxs Q=>∃x hs,xs = [x]/\dG x hs/\hs.length<=12/\Q (.lst (bp (bN hs)))
def Mz:aO:=(aI (b8 1 (fA (a6 (gL a9) a9)))
 (aI (fB (cD (a5 0)) (bW 2)
  (b8 1 (Nq (a5 1) (c9 (cD (a5 1)) [none,some 2] (bW 0) dB (Ni (a5 0) (gL (a6 (a5 1) a9)))))))
 (lU 1)))
theorem Wr:dC Mz ["hearths","chosen","hearth"] wL:=by
 rintro xs Q ⟨x,S,rfl,hx,hl,q⟩;refine⟨by decide,rfl,by show 1<=1000;decide,rfl,trivial,?_⟩;refine⟨_,rfl,_,hx.seq,oE hx,λi ρ=>∃(y:Option Slot),ρ = [some (.sh (flat x) x),some (.sh true (.lst (bp (bN (S.take i))))),y],⟨none,rfl⟩,?_,?_⟩
 ·rintro i y ρ hy ⟨y0,rfl⟩
  obtain⟨h,rfl,hi⟩:=hG hy
  have il:i<S.length:=(gv.mp hi).1;have sl:=MC S i;have p8:(bN (S.take i)).length<=4096:=by
   rw[sl];exact og (DX (by decide) (show min i S.length<=12 by omega)) (by decide)
  have shr:∀p∈bN (S.take i),p.length<=12:=by
   have gen:∀hs:af,∀p∈bN hs,p.length<=hs.length:=by
    intro hs
    have:∀(n:Nat) (hs:af),hs.length=n->∀p∈bN hs,p.length<=hs.length:=by
     intro n
     induction n with
     |zero=>intro hs e p hp;rw[Fg e]at hp ⊢;rw[dt.mp (show p∈[[]] from hp)];exact de _
     |succ n ih=>
      intro hs e p hp;rcases List.eq_nil_or_concat hs with z|⟨l,a,z⟩
      ·rw[z]at e;cases e
      ·have z:hs=l++[a]:=by rw[z];simp
       subst z;have le:l.length=n:=by simpa using e
       rw[kW]at hp;rw[jg,uy];rcases fi.mp hp with z|z
       ·have:=ih l le p z;omega
       ·obtain⟨r,hr,rfl⟩:=dr.mp z
        have:=ih l le r hr
        rw[jg,uy];omega
    exact this hs.length hs rfl
   intro p hp
   have:=gen _ p hp
   rw[xi]at this;omega
  have tk:S.take (i+1)=S.take i++[h]:=by rw[nq,hi];rfl
  refine kG ?_;refine⟨_,rfl,_,rfl,_,rfl,(λz=>by cases z),by rw[cM];omega,λj acc=>acc=bp (((bN (S.take i)).take j).map λp=>p++[h]),rfl,?_,?_⟩
  ·rintro j z acc hz rfl
   obtain⟨p,rfl,hj⟩:=oF hz
   refine⟨_,rfl,_,rfl,by show 1<=1000;decide,rfl,_,_,rfl,rfl,cS _,rfl,?_,trivial,?_⟩
   ·have:=shr p (fm hj)
    rw[bE];show p.length+1<=16000000;omega
   ·show bp _++[PV.tup (ao p++ao [h])]=bp (((bN (S.take i)).take (j+1)).map λp=>p++[h])
    rw[nq,hj,<- fE];unfold bp;rw[gu,gu];rfl
  ·rintro acc rfl
   rw[cM,qr];refine⟨_,_,rfl,rfl,jR _,jR _,?_,trivial,some (.sh true (.int h)),?_⟩
   ·rw[cM,cM,df];omega
   ·rw[tk,kW]
    unfold bp;rw[gu];rfl
 ·rintro ρ ⟨y,rfl⟩
  rw[bE,qr]
  exact⟨_,rfl,trivial,q⟩
abbrev i9 (bs:List Bool):List PV:=bs.map PV.bl
def oQ (bs:List Bool)(p:Nat)(S:af):Bool:=S.any λh=>bs.getD (p-2^h.toNat) false
def qL:bV:=λxs Q=>∃(bs:List Bool) (p:Nat) (S:af),xs = [.lst (i9 bs),.int p,.tup (ao S)]/\S.length<=1000/\(∀h∈S,0<=h/\h<=12/\2^h.toNat<=p/\p-2^h.toNat<bs.length)/\Q (.bl (oQ bs p S))
def My:aO:=(bY (aB wF (a6 (c9 (cD (a5 2)) [none,some 0,some 1] (bW 0) dB (bI (a5 1) (iY (a5 2) (ZJ (qC (.int 1)) (a5 0))))) a9)))
theorem Wq:dC My ["holds","place","some"] qL:=by
 rintro xs Q ⟨bs,p,S,rfl,hl,hb,q⟩;refine⟨_,rfl,_,rfl,(λ_=>sV S),by rw[bE];omega,λi acc=>acc=i9 ((S.take i).map λh=>bs.getD (p-2^h.toNat) false),rfl,?_,?_⟩
 ·rintro i z acc hz rfl
  obtain⟨h,rfl,hh⟩:=hG hz
  obtain⟨b1,b2,b3,b4⟩:=hb h (fm hh)
  have ix:L2.ma (i9 bs) ((p:Int)-1*2^h.toNat)=some (.bl (bs.getD (p-2^h.toNat) false)):=by
   have e:((p:Int)-1*2^h.toNat)=((p-2^h.toNat:Nat):Int):=by
    rw[Int.ofNat_sub b3];simp
   rw[e];exact jJ (by rw[gf,ju,gs b4];rfl)
  refine⟨_,rfl,_,rfl,_,rfl,_,_,rfl,rfl,⟨b1,by omega,by decide⟩,_,_,rfl,rfl,_,_,_,rfl,rfl,ix,rfl,?_⟩;dsimp only;rw[nq,hh,gu];show _=List.map PV.bl (_++_);rw[gu];rfl
 ·rintro acc rfl
  rw[bE,qr];refine⟨_,rfl,trivial,?_⟩;have e:(S.map λh=>bs.getD (p-2^h.toNat) false).any id=oQ bs p S:=by
   unfold oQ;rw[List.any_map];rfl
  rw[e];exact q
def qM:dX:=λEp xs Q=>∃ws ls,xs = [bG ws ls]/\ws.length<=40/\(ws.length<=12->Q (.lst (bp (bN (bj ws.length)))))/\(12<ws.length->Ep "TooMany")
def Mx (Ep:Str->Prop):aO:=(aI (dO (bH (v7 (aB gR (a6 (a5 0) a9)) (qC (.int 12)))) (oO Ep "TooMany" (a6 (qC (.str "webs of at most 12 hearths are searched through")) a9)) dZ)
 (bY (aB wL (a6 (vY (aB gR (a6 (a5 0) a9))) a9))))
theorem Wo:j8 Mx ["web"] qM:=by
 rintro Ep xs Q ⟨ws,ls,rfl,eu,q,qe⟩;refine⟨_,rfl,ws,ls,rfl,_,_,rfl,rfl,_,rfl,?_⟩;by_cases h:(12:Int)<(ws.length:Int)
 ·dsimp only
  rw[di h];exact bP ⟨by decide,qe (by omega)⟩
 ·dsimp only
  rw[fk h];refine bK ⟨_,rfl,ws,ls,rfl,_,rfl,by omega,by omega,?_⟩;rw[F6]
  exact⟨_,bj ws.length,rfl,.inr rfl,by rw[cH];omega,trivial,q (by omega)⟩
def qN:dX:=λEp xs Q=>∃ws ls,xs = [bG ws ls,.lst (bp (bN (bj ws.length)))]/\Wb ws ls/\ws.length<=12/\∀bs:List Bool,bs.length=2^ws.length->(∀p S,(bN (bj ws.length))[p]? = some S->(bs.getD p false=true↔HC ws ls S))->Q (.lst (i9 bs))
def Mw (Ep:Str->Prop):aO:=(aI (e6 2 (fA (a6 (qC (.bl false)) a9)))
 (aI (fB (sC (qC (.int 1)) (aB cC (a6 (a5 1) a9))) (bW 3)
  (iW 2 (B0 (aB qL (a6 (a5 2) (a6 (a5 3) (a6 (bI (a5 1) (a5 3)) a9)))) (i7 Ep wI (a6 (a5 0) (a6 (bI (a5 1) (a5 3)) a9))))))
 (lU 2)))
theorem Mv {ws:af}{ls:aa}{bs:List Bool}{p:Nat}{S:af}(at_:(bN (bj ws.length))[p]? = some S)(hb:∀q S,q<p->(bN (bj ws.length))[q]? = some S->(bs.getD q false=true↔HC ws ls S)) :
  oQ bs p S=true↔∃h∈S,HC ws ls (S.filter λz=>!decide (z=h)):=by
 obtain⟨h1,h2,h3⟩:=qK _ p S at_
 unfold oQ;rw[Dk];refine⟨λ⟨h,hh,e⟩=>⟨h,hh,?_⟩,λ⟨h,hh,e⟩=>⟨h,hh,?_⟩⟩
 ·have:=Nat.pow_pos (n:=h.toNat) (show 0<2 by decide)
  exact (hb _ _ (by have:=(h3 h hh).1;omega) (h3 h hh).2).mp e
 ·have:=Nat.pow_pos (n:=h.toNat) (show 0<2 by decide)
  exact (hb _ _ (by have:=(h3 h hh).1;omega) (h3 h hh).2).mpr e
theorem Mu {n:Nat}{bs:List Bool}{p:Nat}{S:af}(hn:n<=12)(at_:(bN (bj n))[p]? = some S)(hb:p<=bs.length):S.length<=1000/\∀h∈S,0<=h/\h<=12/\2^h.toNat<=p/\p-2^h.toNat<bs.length:=by
 obtain⟨h1,h2,h3⟩:=qK _ p S at_
 have sl:=((i8 n S).mp (fm at_)).length_le;rw[cH]at sl;refine⟨by omega,λh hh=>?_⟩
 have:=Nat.pow_pos (n:=h.toNat) (show 0<2 by decide)
 have a:=(h3 h hh).1;have b:=h1 h hh
 exact⟨b.1,by omega,a,by omega⟩
theorem Wn:j8 Mw ["web","chosen","holds","place"] qN:=by
 rintro Ep xs Q ⟨ws,ls,rfl,wb,eu,q⟩;have ln:=oP ws.length;have l0:0<2^ws.length:=Nat.pow_pos (by decide);have IH:2^ws.length<=4096:=og (DX (by decide) eu) (by decide);generalize hC:bN (bj ws.length)=C at ln q;have cat:∀{p:Nat}{S:af},C[p]? = some S->(bN (bj ws.length))[p]? = some S:=λ{p S} e=>by rw[hC];exact e
 have PQ:∀{p:Nat}{S:af},(bN (bj ws.length))[p]? = some S->C[p]? = some S:=λ{p S} e=>by rw[<- hC];exact e
 refine⟨by decide,rfl,rfl,rfl,?_⟩;refine⟨_,rfl,_,_,rfl,rfl,1,(C.length:Int),rfl,by rw[cM],⟨by omega,by omega,by omega,by omega⟩,λi ρ=>∃(bs:List Bool) (y:Option Slot),ρ = [some (.sh (flat (bG ws ls)) (bG ws ls)),some (.sh (flat (.lst (bp C))) (.lst (bp C))),some (.own (.lst (i9 bs))),y]/\bs.length=i+1/\∀p S,p<i+1->C[p]? = some S->(bs.getD p false=true↔HC ws ls S),⟨[false],none,rfl,rfl,λp S hp hS=>?_⟩,?_,?_⟩
 ·have e:p=0:=by omega
  subst e
  obtain⟨_,h2,_⟩:=qK _ 0 S (cat hS)
  rw[h2.mp rfl];refine⟨λz=>(by cases z),λ⟨U,_,nU,sub⟩=>?_⟩;cases hu:U with
  |nil=>exact absurd hu nU
  |cons u r=>
   have:=sub u (by rw[hu];exact dh)
   cases this
 ·rintro i y ρ hy ⟨bs,y0,rfl,bl,hb⟩
  obtain⟨rfl,hi⟩:=mZ hy
  have hp:i+1<C.length:=by omega
  obtain⟨S,hS⟩:∃S,C[i+1]? = some S:=⟨C[i+1],gs hp⟩
  have ix:L2.ma (bp C) (1+(i:Int))=some (.tup (ao S)):=by
   have:=jJ (xs:=bp C) (j:=i+1) (by unfold bp;rw[gf,hS];rfl)
   rwa [show (((i+1:Nat)):Int)=1+(i:Int) by omega]at this
  obtain⟨k1,k2⟩:=Mu (bs:=bs) eu (cat hS) (by omega)
  have sub:=(i8 _ S).mp (fm (cat hS));have sS:=jT.mp sub;have ne:S≠[]:=λz=>by have:=(qK _ _ S (cat hS)).2.1.mpr z;omega
  have ED:=Mv (bs:=bs) (cat hS) λp S hp e=>hb p S hp (PQ e)
  have st:=MB (ws:=ws) (ls:=ls) S;refine kG ?_;have fin:∀v:Bool,(v=true↔HC ws ls S)->∃(HV:List Bool) (y:Option Slot),[some (.sh (flat (bG ws ls)) (bG ws ls)),some (.sh (flat (.lst (bp C))) (.lst (bp C))),some (.own (.lst (i9 bs++[.bl v]))),si (1+(i:Int))] = [some (.sh (flat (bG ws ls)) (bG ws ls)),some (.sh (flat (.lst (bp C))) (.lst (bp C))),some (.own (.lst (i9 HV))),y]/\HV.length=i+1+1/\∀p S,p<i+1+1->C[p]? = some S->(HV.getD p false=true↔HC ws ls S):=λv hv=>by
   refine⟨bs++[v],si (1+(i:Int)),by rw[show i9 (bs++[v])=i9 bs++[.bl v] from gu],by rw[jg,bl];rfl,λp T hp hT=>?_⟩;rcases Nat.lt_or_ge p (i+1) with z|z
   ·rw[ju,tf (by omega),<- ju]
    exact hb p T z hT
   ·have e:p=i+1:=by omega
    subst e;rw[hS]at hT;cases hT;rw[ju,AS (by omega),bl,Nat.sub_self];exact hv
  refine⟨_,rfl,_,rfl,_,rfl,_,rfl,_,rfl,_,_,_,rfl,rfl,ix,bs,i+1,S,?_,k1,k2,_,rfl,?_⟩
  ·show [PV.lst (i9 bs),PV.int (1+(i:Int)),PV.tup (ao S)] = [PV.lst (i9 bs),PV.int (((i+1:Nat)):Int),PV.tup (ao S)]
   rw[show (((i+1:Nat)):Int)=1+(i:Int) by omega]
  have Jp:(i9 bs).length<16000000:=by show (List.map PV.bl bs).length<_;rw[df];omega
  cases hw:oQ bs (i+1) S with
  |true=>exact bP ⟨trivial,Jp,fin true ⟨λ_=>st.mpr (.inr (ED.mp hw)),λ_=>rfl⟩⟩
  |false=>
   refine bK ⟨_,rfl,_,rfl,_,rfl,_,_,_,rfl,rfl,ix,ws,ls,_,S,rfl,wb,.inl rfl,k1,λ_=>⟨trivial,Jp,fin _ ?_⟩,λz=>by rw[sS]at z;cases z⟩;rw[lx];refine⟨λz=>st.mpr (.inl ⟨ne,z⟩),λz=>?_⟩;rcases st.mp z with z|z
   ·exact z.2
   ·rw[ED.mpr z]at hw;cases hw
 ·rintro ρ ⟨bs,y,rfl,bl,hb⟩
  rw[jN]at bl hb;refine⟨_,rfl,trivial,q bs (by omega) λp S hS=>hb p S ?_ hS⟩
  have:=(gv.mp hS).1
  omega
open Classical in
noncomputable def jA (ws:af)(ls:aa)(S:af):Bool:=decide (G6 ws ls S)
theorem jB {ws:af}{ls:aa}{S:af}:jA ws ls S=true↔G6 ws ls S:=by unfold jA;exact @decide_eq_true_iff _ (Classical.propDecidable _)
noncomputable def dP (ws:af)(ls:aa):ae:=(bN (bj ws.length)).filter (jA ws ls)
def Mt:dX:=λEp xs Q=>∃ws ls,xs = [bG ws ls]/\Wb ws ls/\(ws.length<=12->(dP ws ls).length<64/\∀Z:ae,Z.Perm (dP ws ls)->Z.Pairwise (λu v=>HT.gB v u=false)->Q (.lst (bp Z)))/\(12<ws.length->Ep "TooMany")
theorem t9 (n:Nat)(a:Int):(List.replicate n [PV.int a]).flatten=ao (List.replicate n a):=by
 induction n with
 |zero=>rfl
 |succ n ih=>rw[Ag,Ag,BF,ih];rfl
section
variable {ws:af}{ls:aa}
def BZ (ws:af)(ls:aa)(S:af):Bool:=!decide (S = [])&&decide (cq ws ls S=S)
end
theorem wM {b:Bool}{A B:Prop}(a:A)(c:B):if b=true then A else B:=by
 cases b with
 |true=>exact bP a
 |false=>exact bK c
end Core
namespace PP
open PySem L2
section
variable {X:Cx}{a b:Expr}{ta tb:aG}{pos:Pos}
theorem Wm {K:ad}{M M':ax->Prop}{H:Hp}{v:V}{m n:af}(r1:aH K M H v (.tup (ao m)))(r2:aH K M' H v (.tup (ao n))):m=n:=by
 obtain⟨p,us,rfl,h1,q1⟩:=r1.qj
 obtain⟨p2,ws,e,h2,q2⟩:=r2.qj
 cases e;rw[h1]at h2;cases h2
 have:=(q1.ofInts).symm.trans q2.ofInts
 exact (List.map_inj_right λ_ _ e=>by cases e;rfl).mp this
end
end PP
namespace Core
open PySem L2 PP
def vt (ns S:af):Bool:=decide (((S.filter λx=>decide (x∈ns)).length:Int)=0)
theorem Wl {ws:af}{ls:aa}{S:af}{k:Nat}(hS:aY ws.length S=true):decide (((bR ws ls S k).length:Int)=(ws.length:Int))=decide (cI ws.length (bR ws ls S k) = []):=by
 have len:(bR ws ls S k).length+(cI ws.length (bR ws ls S k)).length<=ws.length:=by
  have h1:=E8 ws ls S k;have h2:=NT (gQ (dD hS).1) (dD hS).2;rw[WC];omega
 rw[xf,lx,lx];refine⟨λz=>Fg (by omega),λz=>?_⟩;have all:∀x∈bj ws.length,x∈bR ws ls S k:=λx hx=>Decidable.byContradiction λy=>by
  have:=j6.mpr ⟨hx,y⟩
  rw[z]at this;cases this
 have:=(F7 ws.length).length_le_of_subset all
 rw[cH]at this;omega
def fR (ls:aa)(S U:af):Prop:=∀x∈U,∀y∈aF ls x,y∈S->y∈U
noncomputable def comp (ls:aa)(S:af)(h:Int):af:=S.filter λx=>@decide (∀U:af,fR ls S U->h∈U->x∈U) (Classical.propDecidable _)
section
variable {ws:af}{ls:aa}{S:af}{n:Nat}{h x:Int}
theorem iP:x∈comp ls S h↔x∈S/\∀U,fR ls S U->h∈U->x∈U:=by
 unfold comp;rw[cz]
 exact⟨λz=>⟨z.1,@mw _ (Classical.propDecidable _) z.2⟩,λz=>⟨z.1,@di _ (Classical.propDecidable _) z.2⟩⟩
theorem tE:∀x∈comp ls S h,x∈S:=λx hx=>(iP.mp hx).1
theorem gS (hh:h∈S):h∈comp ls S h:=iP.mpr ⟨hh,λ_ _ z=>z⟩
theorem jU:fR ls S (comp ls S h):=λx hx y hy yS=>iP.mpr ⟨yS,λU hU z=>hU x ((iP.mp hx).2 U hU z) y hy yS⟩
theorem iQ (hS:aY n S=true):aY n (comp ls S h)=true:=qG hS _
theorem Wj {P:af}(hS:aY n S=true)(hP:aY n P=true)(hs:∀x∈P,x∈S)(hh:h∈P)(sh:fR ls S P)(le:∀U,fR ls S U->h∈U->∀x∈P,x∈U):P=comp ls S h:=
 oK hP (iQ hS) λx=>⟨λhx=>iP.mpr ⟨hs x hx,λU hU z=>le U hU z x hx⟩,λhx=>(iP.mp hx).2 P sh hh⟩
theorem m8 (hS:aY n S=true)(hx:x∈comp ls S h)(hh:h∈S):comp ls S x=comp ls S h:=by
 have back:h∈comp ls S x:=by
  refine iP.mpr ⟨hh,λU hU xU=>?_⟩;refine ud λhn=>?_
  have sv:fR ls S (S.filter λz=>!decide (z∈U)):=λa ha b hb bS=>by
   rw[cz]at ha ⊢;refine⟨bS,?_⟩;by_cases bU:b∈U
   ·have:=hU b bU a (lS hb) ha.1
    rw[di this]at ha;exact absurd ha.2 (by decide)
   ·rw[fk bU];rfl
  have:=(iP.mp hx).2 _ sv (cz.mpr ⟨hh,by rw[fk hn];rfl⟩)
  rw[cz,di xU]at this;exact absurd this.2 (by decide)
 exact oK (iQ hS) (iQ hS) λy=>⟨λhy=>(iP.mp hy).2 _ jU hx,λhy=>(iP.mp hy).2 _ jU back⟩
theorem kY {L:af}{a:Int}(hL:aY n L=true)(ha:L.head? = some a):a∈L/\∀x∈L,a=x∨a<x:=by
 cases L with
 |nil=>cases ha
 |cons b r=>
  cases ha;refine⟨dh,λx hx=>?_⟩;rcases ff.mp hx with e|hx
  ·exact .inl e.symm
  ·exact .inr ((wt.mp (gQ (dD hL).1)).1 x hx)
theorem G9 {L:af}{a:Int}(hL:aY n L=true)(ha:a∈L)(hl:∀x∈L,a<=x):L.head? = some a:=by
 cases L with
 |nil=>cases ha
 |cons b r=>
  rcases ff.mp ha with e|e
  ·rw[e];rfl
  ·have h1:=(wt.mp (gQ (dD hL).1)).1 a e
   have h2:=hl b dh;omega
noncomputable def tF (ls:aa)(S:af)(h:Int):Bool:=decide ((comp ls S h).head? = some h)
noncomputable def b7 (ls:aa)(S:af):af:=S.filter (tF ls S)
theorem Wi {A B:af}(ua:A.Pairwise (·<·))(ub:B.Pairwise (·<·))(h:∀x,x∈A↔x∈B):A=B:=
 F8 ((Dv (ua.imp λz=>yf z) (ub.imp λz=>yf z)).mpr h) (ua.imp λz=>Int.le_of_lt z) (ub.imp λz=>Int.le_of_lt z)
theorem Wh {L:af}{a:Int}(hS:aY n S=true)(hL:aY n L=true)(sub:∀x∈L,x∈S)(ha:L.head? = some a)(pl:∀x∈comp ls S a,x∈L)(lt:∀h∈(b7 ls S).filter (λz=>!decide (z∈L)),∀x∈L,h<x) :
  (b7 ls S).filter (λz=>!decide (z∈L.filter λz=>!decide (z∈comp ls S a)))=(b7 ls S).filter (λz=>!decide (z∈L))++[a]:=by
 obtain⟨aL,al⟩:=kY hL ha
 have aS:=sub a aL;have hu:(b7 ls S).Pairwise (·<·):=gQ (dD (qG hS (tF ls S))).1;have hd:(comp ls S a).head? = some a:=G9 (iQ hS) (gS aS) λx hx=>by rcases al x (pl x hx) with e|e<;>omega
 refine Wi (hu.sublist Bf) (List.pairwise_append.mpr ⟨hu.sublist Bf,ot _ _,λx hx y hy=>by rw[dt.mp hy];exact lt x hx a aL⟩) λx=>?_
 simp only[fi,dt,cz,yz,zg,not_and,Decidable.not_not];constructor
 ·rintro⟨hx,hn⟩
  by_cases xL:x∈L
  ·refine .inr ?_
   have xc:=hn xL;have h1:(comp ls S x).head? = some x:=mw (cz.mp hx).2;rw[m8 hS xc aS,hd]at h1;cases h1;rfl
  ·exact .inl ⟨hx,xL⟩
 ·rintro (⟨hx,xL⟩|rfl)
  ·exact⟨hx,λz=>absurd z xL⟩
  ·exact⟨cz.mpr ⟨aS,di hd⟩,λ_=>gS aS⟩
theorem G5.comp {L P:af}{a:Int}(hS:aY n S=true)(sub:∀x∈L,x∈S)(sh:fR ls S L)(ha:L.head? = some a)(pc:G5 n ls L P):P=comp ls S a:=by
 have ea:∀z,z∈L.head?->z=a:=λz hz=>by rw[ha]at hz;cases hz;rfl
 exact Wj hS pc.set (λx hx=>sub x (pc.sub x hx)) (pc.got a ha) (λx hx y hy yS=>pc.xv x hx y hy (sh x (pc.sub x hx) y hy yS))
  λU hU aU=>pc.least U (λx hx y hy yL=>hU x hx y hy (sub y yL)) λz hz=>by rw[ea z hz];exact aU
end
abbrev Wg:=MD
noncomputable def kH (ls:aa)(S:af):ae:=(b7 ls S).map (comp ls S)
def wN:dX:=WE λws ls S Q=>Q (.lst (bp (kH ls S)))
theorem Wf:j8 MD ["web","block","around","left","pieces","piece"] wN:=by
 rintro Ep xs Q ⟨ws,ls,x,S,rfl,wb,hx,hl,q,qe⟩;have eu:=wb.eu;refine⟨_,rfl,ws,ls,rfl,wb,trivial,?_⟩;refine⟨_,rfl,_,rfl,ws,ls,x,S,rfl,hx,hl,λhs=>⟨trivial,?_⟩,qe⟩;have q:Q (.lst (bp (kH ls S))):=q hs;have sl:=oG hs;refine⟨by decide,rfl,rfl,rfl,?_⟩
 refine⟨λn ρ=>∃(L:af) (Ps:ae) (y5:Option Slot),ρ = [some (.sh (flat (bG ws ls)) (bG ws ls)),some (.sh (flat x) x),some (.sh true (.lst (cA ws.length ls))),some (.sh true (.tup (ao L))),some (.own (.lst (bp Ps))),y5]/\
   n=L.length/\aY ws.length L=true/\Ps.length+L.length<=S.length/\(∀x∈L,x∈S)/\fR ls S L/\Ps=((b7 ls S).filter λz=>!decide (z∈L)).map (comp ls S)/\∀h∈(b7 ls S).filter (λz=>!decide (z∈L)),∀x∈L,h<x,⟨_,S,[],none,rfl,rfl,hs,by simp,λ_ h=>h,λ_ _ _ _ h=>h,?_,?_⟩,?_⟩
 ·rw[DZ.mpr λz hz=>?_];rfl
  rw[di (cz.mp hz).1];decide
 ·intro h hh
  have:=cz.mp hh
  rw[di (cz.mp this.1).1]at this;exact absurd this.2 (by decide)
 rintro n ρ ⟨L,Ps,y5,rfl,rfl,pg,bd,sub,sh,eP,lt⟩;refine⟨_,rfl,_,rfl,?_⟩;cases hL:L with
 |nil=>
  refine bK ⟨_,rfl,trivial,?_⟩;have e:(b7 ls S).filter (λz=>!decide (z∈L))=b7 ls S:=xk.mpr λz _=>by rw[hL];rfl
  rw[e]at eP;rw[eP];exact q
 |cons a r=>
  rw[<- hL];have ne:(!(ao L).isEmpty)=true:=by rw[hL];rfl
  have nl:L≠[]:=by rw[hL];exact λz=>nomatch z
  have hd:L.head? = some a:=by rw[hL];rfl
  show if (!(ao L).isEmpty)=true then _ else _
  rw[ne];refine bP ?_;have ll:=oG pg;refine⟨_,rfl,_,rfl,ws,ls,L,rfl,wb,pg,nl,λP pc=>⟨trivial,?_⟩⟩;have pn:P.Nodup:=(gQ (dD pc.set).1).imp λh=>yf h
  have pl:P.length<=L.length:=pn.length_le_of_subset pc.sub;refine⟨_,rfl,_,rfl,trivial,by rw[cM];omega,?_⟩;refine⟨_,rfl,_,rfl,_,L,_,P,rfl,.inl rfl,.inl rfl,by omega,by omega,trivial,?_⟩;have aP:=pc.got a hd
  obtain⟨aL,al⟩:=kY pg hd
  have Qz:(L.filter λz=>!decide (z∈P)).length<L.length:=by
   rcases Nat.lt_or_ge (L.filter λz=>!decide (z∈P)).length L.length with z|z
   ·exact z
   ·have:=xk.mp (List.filter_sublist.eq_of_length_le z) a aL
    rw[di aP]at this;cases this
  have ec:=pc.comp hs sub sh hd;have hn:=Wh hs pg sub hd (λx hx=>pc.sub x (by rw[ec];exact hx)) lt;rw[<- ec]at hn;refine⟨_,Qz,L.filter (λz=>!decide (z∈P)),Ps++[P],some (.sh true (.tup (ao P))),?_,rfl,qG pg _,by rw[jg,uy];omega,λx hx=>sub x (cz.mp hx).1,?_,?_,?_⟩
  ·unfold bp
   rw[gu];rfl
  ·intro x hx y hy yS
   rw[cz]at hx ⊢;refine⟨sh x hx.1 y hy yS,?_⟩;by_cases yP:y∈P
   ·have:=pc.xv y yP x (lS hy) hx.1
    rw[di this]at hx;exact absurd hx.2 (by decide)
   ·rw[fk yP];rfl
  ·rw[hn,gu,<- eP,ec];rfl
  ·rw[hn]
   intro h hh x hx;rw[cz]at hx;rcases fi.mp hh with hh|hh
   ·exact lt h hh x hx.1
   ·rw[dt.mp hh]
    rcases al x hx.1 with e|e
    ·rw[<- e,di aP]at hx;exact absurd hx.2 (by decide)
    ·exact e
end Core
namespace PP
open PySem L2
section
variable {X:Cx}{a b:Expr}{ta tb:aG}{pos:Pos}
def J0:PV->Tg->PV->Tg->PK->Prop:=λx _ y _ Q=>∃(i:Int) (o:Option Int),x = .int i/\y=Core.eN o/\Q (.bl (!decide (o=some i))) .fr
theorem We:fN X J0 yK:=by
 rintro W Hs H u v x y g g' Q Q' s n r1 r2 ⟨i,o,rfl,rfl,q⟩ k;cases r1;cases o with
 |none=>
  cases r2
  exact⟨rfl,k _ _ _ .fr (aE.refl _) (.bl true) q⟩
 |some j=>
  cases r2;have e:decide (V.int i=V.int j)=decide (some j=some i):=decide_eq_decide.mpr ⟨λz=>by cases z;rfl,λz=>by cases z;rfl⟩;refine⟨rfl,?_⟩;rw[e];exact k _ _ _ .fr (aE.refl _) (.bl _) q
theorem Wd (ha:QE X a ta)(hb:QE X b tb):QT X (.Compare a [.NotEq] [b] pos) (bH (q2 J0 ta tb)):=kC R5 We ha hb (i3 _)
end
end PP
namespace Core
open PySem L2 PP
def Mr (ws:af)(ls:aa):af->af->Bool
 |_,[]=>true
 |B,h::R=>qk ws.length h&&(kz ws ls B h&&Mr ws ls (B++[h]) R)
end Core
namespace Raw
open PySem PySem.W PySem.Calls PyProof.Rows
section
variable {prog:ay}{w:ba}{A:az}{E:av→aw→Prop}{s:aw}{r:ax}{b:Int}{t u v:Tok}{n:Nat}
theorem Wc {R:Result->aw->Prop}(hh:A.handled=none)(hr:IsRange s.heap r 0 b 1 t u v)(sm:Builtin.Range.small 0 b 1=true)(hn:Builtin.Range.rangeSize 0 b 1=n)(hl:n<=2^24)(hR:∀h' tk acc c,(∀b o,b≠s.heap.objs.size->(s.heap.push { cls:=.type "list",data:=.seq ([]:List av).toArray }).get? b=some o->h'.get? b=some o)->h'.get? s.heap.objs.size=some { cls:=.type "list",dict:=none,data:=.seq acc c,slots:=#[] }->ItemsOf (λi v=>∃t,v = .int (0+i*1) t) acc n->R (.ok (.ret (.ref s.heap.objs.size))) { s with heap:=h',toks:=tk }) :
  codeAny (model prog w) A (.builtin "proto.collect" ⟨[.ref r],[]⟩) R s:=by
 refine codeAny_builtin PySem.F.entry_proto_collect ?_;rw[Around.under_plainId PySem.F.plain_proto_collect _];show wpAny _ A.in1 (newList [] >>= λl=>again (.builtin "list.__iadd__" ⟨[l,.ref r],[]⟩)) _ _ s;refine bq (Af ?_);refine ei ⟨plainId_quiet PySem.F.plain_list_iadd _,codeAny_builtin PySem.F.entry_list_iadd ?_⟩;rw[Around.under_plainId PySem.F.plain_list_iadd _];show wpAny _ A.in1 (Builtin.List.listExtendWith (.ref s.heap.objs.size) (.ref r) (.ref s.heap.objs.size)) _ _ _;exact wpAny_extend_range (s:={ s with heap:=s.heap.push { cls:=.type "list",data:=.seq ([]:List av).toArray } }) (R:=R) hh (ic _ hr) sm hn hl s.heap.objs.size _ 0 (my _ rfl) hR
theorem Wa {Q:List av->aw->Prop}(hh:A.handled=none)(hr:IsRange s.heap r 0 b 1 t u v)(sm:Builtin.Range.small 0 b 1=true)(hn:Builtin.Range.rangeSize 0 b 1=n)(hl:n<=2^24)(hQ:∀h' tk acc,(∀b o,s.heap.get? b=some o->h'.get? b=some o)->ItemsOf (λi v=>∃t,v = .int (0+i*1) t) acc n->Q acc.toList { s with heap:=h',toks:=tk }):wpAny (model prog w) A (collect (.ref r)) Q E s:=by
 unfold collect;refine bq (wpAny_runValue (Wc (s:=s) hh hr sm hn hl λh' tk acc c kp Dw it=>?_));show wpAny _ A (load s.heap.objs.size >>= _) _ _ _;refine bq (wpAny_load Dw ?_);exact ei (hQ h' tk acc (λb o e=>kp b o (mr (jb e)) (ic _ e)) it)
theorem VZ (r:ax)(b:Int)(t u v:Tok)(n:Nat)(sm:Builtin.Range.small 0 b 1=true)(hn:Builtin.Range.rangeSize 0 b 1=n)(hl:n<=2^24) :
  Meets (Builtin.«tuple.__new__» ⟨[.type "tuple",.ref r],[]⟩) (λA R s=>A.handled=none/\IsRange s.heap r 0 b 1 t u v/\∀(h':Heap) tk (acc:Array av),(∀b o',s.heap.get? b=some o'->h'.get? b=some o')->ItemsOf (λi v=>∃t,v = .int (0+i*1) t) acc n->R (.ok (.ret (.ref h'.objs.size))) { s with heap:=h'.push { cls:=.type "tuple",data:=.seq acc },toks:=tk }):=
 .of_wp λprog w A R s h=>by
  obtain⟨hp,g,d,tk,os⟩:=s
  obtain⟨hh,ht,h⟩:=h
  have QU:=sub_tuple_self;have IY:=init_tuple_lookup;have hmh:=madeHere_tuple;have hT:Shared.TypeIs ⟨hp,g,d,tk,os⟩ (.ref r) "range":=⟨_,ht,rfl⟩;unfold Builtin.«tuple.__new__»;generalize pi:collect=CC
  wp_walk using wpAny_loadPart' ht,wpAny_typeOf hT
  subst pi;refine Wa (s:=⟨hp,g,d,tk,os⟩) hh ht sm hn hl λh' PL acc kp it=>?_
  refine bq (ei ?_);show wpAny _ _ (Builtin.Tuple.tupleExact acc.toList.toArray >>= λv=>ret v) _ _ _;unfold Builtin.Tuple.tupleExact;refine bq (Af ?_ (by show acc.toList.toArray.size<=sizeLine;rw[gg,Dr,it.1,sizeLine_eq];omega));refine ei ⟨_,rfl,?_⟩;have e:acc.toList.toArray=acc:=by simp
  rw[e];exact h h' PL acc kp it
theorem VY {Q:av->aw->Prop}(hh:A.handled=none)(hr:IsRange s.heap r 0 b 1 t u v)(sm:Builtin.Range.small 0 b 1=true)(hn:Builtin.Range.rangeSize 0 b 1=n)(hl:n<=2^24)(h:∀(h':Heap) tk (acc:Array av),(∀b o',s.heap.get? b=some o'->h'.get? b=some o')->ItemsOf (λi v=>∃t,v = .int (0+i*1) t) acc n->Q (.ref h'.objs.size) { s with heap:=h'.push { cls:=.type "tuple",data:=.seq acc },toks:=tk }) :
  wpAny (model prog w) A (call (.type "tuple") [.ref r]) Q E s:=
 callType_new F.called_tuple (by decide) (F.typeCall_tuple_1 _) (F.newCall_tuple_1 _) (λobj=>F.args_object_init_2 obj _) F.entry_tuple_new (VZ r b t u v n sm hn hl) ⟨by simp[hh],hr,λh' tk acc hk it=>⟨⟨_,my _ rfl,rfl⟩,h h' tk acc hk it⟩⟩
end
end Raw
namespace PP
open PySem L2
section
variable {X:Cx}{a b:Expr}{ta tb:aG}{pos qy p2 p3:Pos}
theorem VX (hc:X.calm=true):dU X (.type "tuple") (λxs H Q=>∃r j,xs = [.ref r]/\H r=some (.bj 0 j)/\0<=j/\j<=1000000/\∀l,H l=none->Q (.ref l) (upd H l (.tup (jL 0 j.toNat)))):=by
 intro ag s σ H xs us Q I r h
 obtain⟨p,j,rfl,hq,h0,h1,q⟩:=h
 obtain⟨u,rfl,rx⟩:=iF r
 cases rx
 obtain⟨t,u,v,ho⟩:=(show cB X.prog X.w H s.heap p (.bj 0 j) from I.cf p _ hq)
 refine Raw.VY (b:=j) (n:=j.toNat) (I.ok.hd hc) ho (small_one (by decide) (by decide) (by omega) (by omega)) (by rw[rangeSize_one];split<;>omega) (by omega) λh' tk acc kp it=>?_
 have vv:=ND it;have eq:acc.toList.toArray=acc:=by simp
 have I1:a8 X ag σ H { s with heap:=h',toks:=tk }:=I.kept (t':=tk) kp;have I2:a8 X ag σ (upd H h'.objs.size (.tup (jL 0 j.toNat))) { s with heap:=h'.push { cls:=.type "tuple",data:=.seq acc.toList.toArray },toks:=tk }:=
  I1.laid (t':=tk) (λb o e=>ic _ e) (de _) (show cB X.prog X.w _ _ _ (.tup _) from ⟨by rw[uH];exact lim (by omega),acc.toList,vv,PyProof.Rows.IsTup.new _ _,jW.new _ _ rfl⟩)
 rw[eq]at I2
 exact⟨.ref h'.objs.size,_,I2,rfl,q _ (I1.cf.fresh (de _))⟩
def Mq (te:aG):aG:=λρ Q=>te ρ λx _=>∃n:Int,x = .int n/\0<=n/\n<=1000000/\Q (.tup (eR 0 n.toNat)) .fr
theorem VW (B:Bt X.mg)(ha:QE X a ta)(hc:X.calm=true:=by rfl)(hg:Gl X "tuple":=by rfl)(Hh:Gl X "range":=by rfl)(hs:starEach [a] X.env = [(false,eval a X.env)]:=by rfl)(he:starEach [.Call (.Name "range" p3) [a] [] qy] X.env=(false,eval (.Call (.Name "range" p3) [a] [] qy) X.env)::starEach [] X.env:=by rfl)(hpl:(backTo pos (starEach [] X.env)).any (·.1)=false:=by rfl) :
  QE X (.Call (.Name "tuple" p2) [.Call (.Name "range" p3) [a] [] qy] [] pos) (Mq ta):=
 cG (yU (VX hc) hg B.tuple PyProof.Rows.boot_tuple (dH (NG Hh B.range (dH ha eG hs) hs) eG he) (he:=he) (hpl:=hpl)) λσ H Q' h=>by
  obtain⟨W,ρ,Q,px,q,k⟩:=h
  refine⟨W,ρ,_,px,q,?_⟩;rintro v H1 x g s r ⟨n,rfl,h0,h1,q⟩;cases r;refine⟨n,rfl,λr hr=>⟨r,n,rfl,bA,h0,h1,λl hl=>?_⟩⟩;have S:aE H (upd (upd H1 r (.bj 0 n)) l (.tup (jL 0 n.toNat))):=(s.trans (bL hr _)).trans (bL hl _);exact k _ _ _ .fr S (.tup bA (NC 0 n.toNat)) q
end
end PP
namespace Core
open PySem L2 PP
section
variable {ws:af}{ls:aa}{A T:af}{m:Nat}
theorem VU:∀m,∀y∈A,y∈bR ws ls A m:=λm y hy=>by
 induction m with
 |zero=>exact hy
 |succ m ih=>exact pb _ ih
theorem VT (en:dS ws ls A m):lZ ws ls (bR ws ls A m):=λh hh=>by
 have:=DZ.mp (show (bj ws.length).filter (kz ws ls (bR ws ls A m)) = [] from en.2) h hh
 simpa using this
end
def oR:bV:=λxs Q=>∃a k:Int,xs = [.int a,.int k]/\0<=k/\k<=1000/\∀z,0<=z->Q (.int z)
def Mp:aO:=(aI (b8 2 (gM (fX (fX (fX (gM (a5 0) (qC (.int 2147483647))) (sG (sG (qC (.int 69621)) (a5 1)) (a5 1))) (sG (qC (.int 40692)) (a5 1))) (qC (.int 1))) (qC (.int 2147483647))))
 (aI (b8 2 (gM (sG (a5 2) (qC (.int 48271))) (qC (.int 2147483647))))
 (bY (gM (sG (a5 2) (a5 2)) (qC (.int 2147483647))))))
theorem VS:dC Mp ["number","k","turn"] oR:=by
 rintro xs Q ⟨a,k,rfl,k0,k1,q⟩;have big:(0:Int)<2147483647:=by decide
 refine⟨_,rfl,_,_,rfl,rfl,big,_,rfl,_,_,rfl,rfl,.inl ⟨by decide,by decide⟩,_,rfl,_,_,rfl,rfl,.inr ⟨by show -(2^64)<k;omega,by show k<2^64;omega⟩,_,_,rfl,rfl,_,rfl,_,_,rfl,rfl,.inl ⟨by decide,by decide⟩,_,_,rfl,rfl,_,_,rfl,rfl,_,_,rfl,rfl,big,trivial,?_⟩;refine⟨_,rfl,_,_,rfl,rfl,.inr ⟨by decide,by decide⟩,_,_,rfl,rfl,big,trivial,?_⟩;dsimp only;have t0:0<=(a%2147483647+69621*k*k+40692*k+1)%2147483647*48271%2147483647:=Cd _ (by decide);have t1:(a%2147483647+69621*k*k+40692*k+1)%2147483647*48271%2147483647<2147483647:=Int.emod_lt_of_pos _ (by decide);generalize (a%2147483647+69621*k*k+40692*k+1)%2147483647*48271%2147483647=t at t0 t1
 exact⟨_,rfl,_,rfl,_,_,rfl,rfl,.inl ⟨by show -(2^64)<t;omega,by show t<2^64;omega⟩,_,_,rfl,rfl,big,trivial,q _ (Cd _ (by decide))⟩
def wO:bV:=λxs Q=>∃(ns:af) (most:Int),xs = [.jo ns,.int most]/\0<=most/\∀z,0<=z->z<=most->Q (.int z)
def Mo:aO:=(aI (b8 2 (aB jS (a6 (a5 0) (a6 (qC (.int 0)) a9))))
 (aI (dO (bH (jO (gM (a5 2) (qC (.int 3))) (qC (.int 0)))) (bY (aB pP (a6 (a5 1) (a6 (aB pQ (a6 (qC (.int 0)) (a6 (iY (aB cC (a6 (a5 0) a9)) (qC (.int 4))) a9))) a9)))) dZ)
 (aI (dO (bH (jO (gM (a5 2) (qC (.int 8))) (qC (.int 1)))) (bY (gM (fX (mU (a5 2) (qC (.int 24))) (qC (.int 5))) (fX (a5 1) (qC (.int 1))))) dZ)
 (bY (gM (fX (mU (a5 2) (qC (.int 3))) (qC (.int 2))) (fX (aB pP (a6 (qC (.int 6)) (a6 (a5 1) a9))) (qC (.int 1))))))))
theorem VR:dC Mo ["script","most","number"] wO:=by
 rintro xs Q ⟨ns,most,rfl,hm,q⟩;refine⟨_,rfl,_,ns,0,rfl,.inl rfl,by decide,trivial,?_⟩;generalize ns.getD (0:Int).toNat 0=c;refine⟨_,rfl,_,_,rfl,rfl,(by show (0:Int)<3;decide),.inl ⟨_,_,rfl,rfl,_,rfl,wM ?_ ?_⟩⟩
 ·refine⟨_,rfl,_,rfl,_,_,rfl,rfl,_,_,rfl,rfl,_,_,rfl,_,_,rfl,trivial,q _ ?_ ?_⟩<;>split<;>split<;>omega
 refine⟨_,rfl,_,_,rfl,rfl,(by show (0:Int)<8;decide),.inl ⟨_,_,rfl,rfl,_,rfl,wM ?_ ?_⟩⟩
 ·have hp:0<most+1:=by omega
  refine⟨_,rfl,_,_,rfl,rfl,⟨by decide,by decide⟩,_,_,rfl,rfl,_,rfl,_,_,rfl,rfl,_,_,rfl,rfl,hp,trivial,q _ (Cd _ (by omega)) ?_⟩
  have:=Int.emod_lt_of_pos (c/24+5) hp
  omega
 ·have hp:0<(if most<6 then most else 6)+1:=by split<;>omega
  refine⟨_,rfl,_,_,rfl,rfl,⟨by decide,by decide⟩,_,_,rfl,rfl,_,rfl,_,_,rfl,_,_,rfl,rfl,_,_,rfl,rfl,hp,trivial,q _ (Cd _ (by omega)) ?_⟩
  have:=Int.emod_lt_of_pos (c/3+2) hp
  have hm:(if most<6 then most else 6)<=most:=by split<;>omega
  omega
theorem kZ {ws:af}{j:Nat}(h:j<ws.length):L2.ma (ao ws) (j:Int)=some (.int (ws.getD j 0)):=by
 have gw:ws[j]? = some (ws.getD j 0):=by rw[ju,gs h];rfl
 exact jJ (by rw[gf,gw];rfl)
theorem nE {ws:af}(h:NN ws)(j:Nat):0<=ws.getD j 0:=by
 rw[ju];cases hj:ws[j]? with
 |none=>exact wo 0
 |some w=>exact h w (fm hj)
theorem VQ (ns:af)(lo hi:Option Int):∃zs:af,iX (ao ns) lo hi=ao zs/\zs.length<=ns.length:=by
 refine⟨(ns.drop (HT.bB (ao ns).length 0 lo)).take (HT.bB (ao ns).length (ao ns).length hi-HT.bB (ao ns).length 0 lo),?_,?_⟩
 ·unfold iX ao;rw[List.map_take,List.map_drop]
 ·rw[xi,BE];omega
end Core
namespace PP
open PySem L2
section
variable {P:ay}{w:ba}{K:ad}{mg:Str→Option av}{base:Heap}{k:Nat}{f:ax}{fd:FuncData}
theorem VP (F:dW P w K mg base eJ k f fd ["web"] w4)(b:jZ K fd ["web"] [])(kp:PySem.W.keepIn K (.ref f)=true)(m:mg "_law_beside" = some (.ref f)):Df P w K mg base k "_law_beside" ["web"] Core.i6:=by
 refine⟨f,fd,F.imp λvs H Q E h=>?_,b,kp,m⟩
 obtain⟨xs,Qp,r,⟨ws,ls,rfl,wb,q⟩,k⟩:=h
 obtain⟨v,rfl,r1⟩:=r.one
 have:=wb.eu
 have:=wb.most
 refine⟨v,ws,ls,rfl,Nv r1,by omega,by omega,wb.links,λt bs H' hb R=>k _ H' _ R.same (.lst R.new R.row ?_) q⟩
 have:=F5 (K:=K) (M:=λa=>H a=none) (H:=H') (bs:=bs) (ls:=ls) 0 (λb hb=>(R.news b hb).1) λk b hk=>by rw[Nat.zero_add];exact R.rows k b hk
 rw[hb,<- List.range_eq_range']at this;exact this
end
end PP
namespace Core
open PySem L2 PP
noncomputable def dE (ws:af)(ls:aa)(C:af):Bool:=@decide (∀U:af,lZ ws ls U->(∀x∈C,x∈U)->∀h∈bj ws.length,h∈U) (Classical.propDecidable _)
section
variable {ws:af}{ls:aa}{C D:af}
theorem l6:dE ws ls C=true↔∀U:af,lZ ws ls U->(∀x∈C,x∈U)->∀h∈bj ws.length,h∈U:=
 ⟨λz=>@mw _ (Classical.propDecidable _) z,λz=>@di _ (Classical.propDecidable _) z⟩
theorem Mn (h:∀x∈C,x∈D)(f:dE ws ls C=true):dE ws ls D=true:=
 l6.mpr λU sU hU=>l6.mp f U sU λx hx=>hU x (h x hx)
theorem VO {T:af}(sh:lZ ws ls T)(sub:∀x∈C,x∈T)(le:∀U,lZ ws ls U->(∀x∈C,x∈U)->∀x∈T,x∈U):dE ws ls C=true↔∀h∈bj ws.length,h∈T:=
 ⟨λf=>l6.mp f T sh sub,λa=>l6.mpr λU sU hU h hh=>le U sU hU h (a h hh)⟩
theorem VN {m:Nat}(hs:aY ws.length C=true)(en:dS ws ls C m):dE ws ls C=decide (((bR ws ls C m).length:Int)=(ws.length:Int)):=by
 have st:∀m,∀x∈bR ws ls C m,x∈bj ws.length:=λm=>by
  induction m with
  |zero=>exact λx hx=>bO.mpr ((dD hs).2 x hx)
  |succ m ih=>
   intro x hx;rcases fi.mp (show x∈bR ws ls C m++nextOf ws ls (bR ws ls C m) from hx) with hx|hx
   ·exact ih x hx
   ·exact (cz.mp hx).1
 have nd:=Ng (ls:=ls) hs m;have le:=nd.length_le_of_subset (st m);rw[cH]at le;rw[xf,lx,VO (VT en) (VU m) λU sU hU x hx=>Nh sU hU m x hx];constructor
 ·intro a
  have:=(t6 ws.length).length_le_of_subset a
  rw[cH]at this;omega
 ·intro e
  refine λh hh=>ud λhn=>?_
  have:=(oy.mpr ⟨hn,nd⟩).length_le_of_subset λx hx=>(ff.mp hx).elim (λe=>by rw[e];exact hh) (st m x)
  rw[cH,ie]at this;omega
end
abbrev Mm:bV:=i6
section
variable {ws:af}{ls:aa}{ns S:af}
theorem Ml:∀k,(∀j<k,nextOf ws ls (bR ws ls ns j)≠[])->k<=(bR ws ls ns k).length
 |0,_=>ng _
 |k+1,h=>by
  have ih:=Ml k λj hj=>h j (by omega)
  have:=List.length_pos_iff.mpr (h k (by omega))
  show k+1<=(bR ws ls ns k++nextOf ws ls (bR ws ls ns k)).length;rw[jg];omega
theorem VM (ws:af)(ls:aa)(ns:af):∃m,dS ws ls ns m:=by
 have key:∀k,(∃m,dS ws ls ns m)∨∀j<k,nextOf ws ls (bR ws ls ns j)≠[]:=λk=>by
  induction k with
  |zero=>exact .inr λj hj=>(by omega)
  |succ k ih=>
   rcases ih with h|h
   ·exact .inl h
   ·by_cases e:nextOf ws ls (bR ws ls ns k) = []
    ·exact .inl ⟨k,h,e⟩
    ·exact .inr λj hj=>if z:j=k then z▸e else h j (by omega)
 rcases key (ns.length+jz ws ns+1) with h|h
 ·exact h
 ·have:=Ml _ h
  have:=E8 ws ls ns (ns.length+jz ws ns+1)
  omega
def qO (ws:af)(ls:aa)(ns:af):af:=qJ ws ls (cI ws.length ns)
theorem VL (wb:Wb ws ls){m:Nat}(en:dS ws ls ns m):cI ws.length (bR ws ls ns m)=qO ws ls ns:=
 Xe (Xa wb en) (MH ws ls _) (wC _ _) (MG (wC _ _))
theorem VJ:aY ws.length (qO ws ls ns)=true:=MG (wC _ _)
theorem wP:qH ws ls (cI ws.length ns) (qO ws ls ns):=MH ws ls _
theorem Mk (wb:Wb ws ls)(hs:aY ws.length ns=true):dE ws ls ns=decide (qO ws ls ns = []):=by
 obtain⟨m,en⟩:=VM ws ls ns
 rw[VN hs en,Wl hs,VL wb en]
def eU (S:af)(h:Int):af:=S.filter λz=>!decide (z∈[h])
theorem oS {h x:Int}:x∈eU S h↔x∈S/\x≠h:=by unfold eU;rw[cz];simp
theorem qP {n:Nat}{h:Int}(hs:aY n S=true):aY n (eU S h)=true:=qG hs _
end
theorem VI (ws:af)(ls:aa):dE ws ls (bj ws.length)=true:=l6.mpr λ_ _ hU h hh=>hU h hh
theorem Mj (n:Nat):aY n (bj n)=true:=G3.set ⟨MO n,λx hx=>bO.mp hx⟩
end Core
namespace L2
open PySem PySem.Spec PyProof.Rows
theorem wQ {α:Type}{p q:α->Bool}:∀{l:List α},(∀x∈l,p x=true->q x=true)->(l.filter p).length<=(l.filter q).length
 |[],_=>de _
 |x::l,h=>by
  have ih:=wQ (l:=l) λy hy=>h y (fu _ hy)
  have hx:=h x dh;rw[qg,qg];cases ep:p x with
  |false=>cases q x<;>simp<;>omega
  |true=>rw[hx ep];simp;omega
section
variable {X:Cx}
theorem VH (hc:X.calm=true):dU X (.builtin "min") (λxs H Q=>∃(a:ax) (ns:af),xs = [.ref a]/\aM X.K H a (ns.map V.int)/\ns≠[]/\∀M:Int,M∈ns->(∀x∈ns,M<=x)->Q (.int M) H):=by
 intro ag s σ H xs us Q I r h
 obtain⟨a,ns,rfl,hq,ne,q⟩:=h
 obtain⟨u,rfl,ru⟩:=iF r
 cases ru
 obtain⟨bh,rv,p,hz⟩:=I.list hq
 have ia:=rJ rv
 obtain⟨ys,ey⟩:=ia.allInts.items
 have en:ns=ys.toList.map (·.1):=by
  have e1:=nums_intItems ys;rw[<- ey]at e1;exact ia.numsOf.symm.trans e1
 have pos:0<ys.size:=Nat.pos_of_ne_zero λz=>ne (by rw[en,Array.eq_empty_of_size_eq_zero z];rfl)
 have hl:s.heap.IsList a (intItems ys):=ey▸p.isList;refine min_intList (I.ok.hd hc) hl pos λv h' tk ev old=>?_
 obtain⟨t,rfl⟩:=intItems_at ev
 have best:=argBest_lt (numAt ys) (ys.size-1);have mem:∀x:Int,x∈ns↔∃j,j<ys.size/\numAt ys j=x:=λx=>by
  rw[en];constructor
  ·intro z
   obtain⟨j,hj,e⟩:=mem_getD z
   exact⟨j,by simpa using hj,by rw[numAt_eq];exact e⟩
  ·rintro⟨j,hj,rfl⟩
   rw[numAt_eq];exact getD_mem (by simpa using hj)
 refine⟨.int _,H,I.kept (t':=tk) (h':=h') old,⟨t,rfl⟩,q _ ?_ λx hx=>?_⟩
 ·exact (mem _).mpr ⟨_,by have:=best.1;omega,rfl⟩
 ·obtain⟨j,hj,rfl⟩:=(mem x).mp hx
  exact best.2 j (by omega)
end
end L2
namespace PP
open PySem L2
section
variable {X:Cx}{e:Expr}{tr:dI}{pos p2:Pos}
def wR:List PV->(PV->Prop)->Prop:=λxs Q=>∃ns:af,xs = [.lst (ao ns)]/\ns≠[]/\∀M:Int,M∈ns->(∀x∈ns,M<=x)->Q (.int M)
theorem VG:gU X wR (λxs H Q=>∃(a:ax) (ns:af),xs = [.ref a]/\aM X.K H a (ns.map V.int)/\ns≠[]/\∀M:Int,M∈ns->(∀x∈ns,M<=x)->Q (.int M) H):=by
 rintro H vs xs Q Q' r ⟨ns,rfl,ne,q⟩ k
 obtain⟨v,rfl,r1⟩:=r.one
 obtain⟨a,us,rfl,_,h,r2⟩:=r1.oo
 rw[r2.ofInts]at h
 exact⟨a,ns,rfl,aM.of h,ne,λM m1 m2=>k _ _ _ (aE.refl _) (.int M) (q M m1 m2)⟩
theorem Mi (B:Bt X.mg)(hc:X.calm=true)(ha:QA X [e] tr)(hg:Gl X "min":=by rfl)(he:starEach [e] X.env=(false,eval e X.env)::starEach [] X.env:=by rfl)(hpl:(backTo pos (starEach [] X.env)).any (·.1)=false:=by rfl):QE X (.Call (.Name "min" p2) [e] [] pos) (aB wR tr):=
 jP (VH hc) VG hg B.min PyProof.Rows.boot_min ha (he:=he) (hpl:=hpl)
end
end PP
namespace Core
open PySem L2 PP
theorem VF (n:Nat)(S:af)(h:(n:Int)∉S):cI (n+1) S=cI n S++[(n:Int)]:=by
 unfold cI;rw[kX,Dn];congr 1;rw[qg,fk h];rfl
theorem VE (n:Nat)(S:af):cI (n+1) (S++[(n:Int)])=cI n S:=by
 unfold cI;rw[kX,Dn];have e1:[(n:Int)].filter (λx=>!decide (x∈S++[(n:Int)])) = []:=by
  rw[qg,di (fi.mpr (.inr (dt.mpr rfl)))];rfl
 rw[e1,vb];refine AQ λx hx=>?_
 have:=(bO.mp hx).2
 rw[decide_eq_decide.mpr (show x∈S++[(n:Int)]↔x∈S from ⟨λz=>(fi.mp z).elim id λy=>by have:=dt.mp y;omega,λz=>fi.mpr (.inl z)⟩)]
theorem J1:∀(n p:Nat) (S:af),(bN (bj n))[p]? = some S->(bN (bj n))[2^n-1-p]? = some (cI n S)
 |0,p,S,h=>by
  have h:([[]]:ae)[p]? = some S:=h;cases p with
  |zero=>cases h;rfl
  |succ p=>cases h
 |n+1,p,S,h=>by
  have len:(bN (bj n)).length=2^n:=oP n;rw[kX,kW]at h ⊢;have pw:2^(n+1)=2^n+2^n:=by rw[Nat.pow_succ];omega
  have p1:1<=2^n:=Nat.one_le_two_pow;by_cases hp:p<2^n
  ·rw[tf (by omega)]at h
   have ih:=J1 n p S h;have nS:(n:Int)∉S:=λz=>by have:=(qK n p S h).1 _ z;omega
   rw[AS (by omega),len,gf,show 2^(n+1)-1-p-2^n=2^n-1-p by omega,ih,VF n S nS];rfl
  ·rw[AS (by omega),len,gf]at h
   cases e:(bN (bj n))[p-2^n]? with
   |none=>rw[e]at h;cases h
   |some T=>
    rw[e]at h;cases h;have ih:=J1 n (p-2^n) T e;have lt:p-2^n<2^n:=by have:=(gv.mp e).1;omega
    rw[tf (by omega),show 2^(n+1)-1-p=2^n-1-(p-2^n) by omega,ih,VE]
theorem VD {ws:af}{ls:aa}{S:af}(wb:Wb ws ls)(hs:aY ws.length S=true):dE ws ls S=true↔¬HC ws ls (cI ws.length S):=by
 rw[Mk wb hs,lx];refine⟨λe ⟨U,cU,nU,sU⟩=>nU ?_,λh=>ud λne=>h ⟨qO ws ls S,wP.jz,ne,wP.sub⟩⟩;refine List.eq_nil_iff_forall_not_mem.mpr λx hx=>?_
 have:=wP.most U cU sU x hx
 rw[e]at this;cases this
noncomputable def eV (ws:af)(ls:aa):ae:=(bN (bj ws.length)).filter (dE ws ls)
def qQ:dX:=λEp xs Q=>∃ws ls,xs = [bG ws ls]/\Wb ws ls/\(ws.length<=12->Q (.lst (bp (eV ws ls))))/\(12<ws.length->Ep "TooMany")
def Mh (Ep:Str->Prop):aO:=(aI (b8 1 (i7 Ep qM (a6 (a5 0) a9)))
 (aI (b8 2 (i7 Ep qN (a6 (a5 0) (a6 (a5 1) a9))))
 (aI (b8 3 (iY (aB cC (a6 (a5 1) a9)) (qC (.int 1))))
 (bY (c9 (w9 (a5 1)) [none,none,some 2,some 3] (fO 0 1) (pK (mS (bI (a5 2) (iY (a5 3) (a5 0))))) (a5 1))))))
theorem VC:j8 Mh ["web","chosen","holds","last"] qQ:=by
 rintro Ep xs Q ⟨ws,ls,rfl,wb,q,qe⟩;refine⟨_,rfl,ws,ls,rfl,wb.eu,λeu=>⟨trivial,?_⟩,qe⟩;have q:=q eu;have ln:=oP ws.length;have IH:2^ws.length<=4096:=og (DX (by decide) eu) (by decide);refine⟨_,rfl,_,rfl,ws,ls,rfl,wb,eu,λbs bl hb=>⟨trivial,?_⟩⟩;refine⟨_,rfl,_,_,rfl,rfl,_,_,rfl,rfl,trivial,?_⟩;unfold eV at q;have key:∀i S,(bN (bj ws.length))[i]? = some S->dE ws ls S = !bs.getD (2^ws.length-1-i) false:=λi S e=>by
  have hs:=jT.mp ((i8 ws.length S).mp (fm e));have h1:=hb _ _ (J1 ws.length i S e);have h2:=VD wb hs;cases b:bs.getD (2^ws.length-1-i) false with
  |true=>
   have:=h1.mp b
   cases f:dE ws ls S with
   |false=>rfl
   |true=>exact absurd this (h2.mp f)
  |false=>exact h2.mpr λz=>by rw[h1.mpr z]at b;cases b
 generalize bN (bj ws.length)=C at *;refine⟨_,rfl,_,.inl rfl,(λz=>by cases z),by rw[sY,cM];omega,λi acc=>acc=bp ((C.take i).filter (dE ws ls)),rfl,?_,?_⟩
 ·rintro i y acc hy rfl
  obtain⟨y,GI,rfl⟩:=Nm hy
  obtain⟨S,rfl,hS⟩:=oF GI
  have il:=(gv.mp hS).1;have tk:=nA (p:=dE ws ls) hS;have ix:L2.ma (i9 bs) (((bp C).length:Int)-1-(i:Int))=some (.bl (bs.getD (2^ws.length-1-i) false)):=by
   rw[cM,ln]
   have:=jJ (xs:=i9 bs) (j:=2^ws.length-1-i) (v:=.bl (bs.getD (2^ws.length-1-i) false)) (by show (List.map PV.bl bs)[_]? = _;rw[gf,ju,gs (by omega)];rfl)
   rwa [show ((2^ws.length-1-i:Nat):Int)=((2^ws.length:Nat):Int)-1-(i:Int) by omega]at this
  refine⟨_,_,rfl,_,rfl,_,rfl,_,rfl,_,_,rfl,rfl,_,_,_,rfl,rfl,ix,_,rfl,?_⟩;rw[key i S hS]at tk;cases EH:bs.getD (2^ws.length-1-i) false with
  |true=>
   rw[EH]at tk;refine bK ?_;dsimp only;rw[tk];simp
  |false=>
   rw[EH]at tk;refine bP ⟨_,rfl,G7 _ (sV S),?_⟩;dsimp only;rw[tk];unfold bp;rw[gu];rfl
 rintro acc rfl;rw[sY,cM,qr]
 exact⟨trivial,q⟩
def oT (ws:af)(ls:aa)(M:Int):Prop:=(∃S∈eV ws ls,(S.length:Int)=M)/\∀S∈eV ws ls,M<=(S.length:Int)
theorem kJ {ws:af}{ls:aa}{S:af}:S∈eV ws ls↔aY ws.length S=true/\dE ws ls S=true:=by
 unfold eV;rw[cz,i8,jT]
theorem Mf (ws:af)(ls:aa):eV ws ls≠[]:=λz=>by
 have:=kJ.mpr ⟨Mj ws.length,VI ws ls⟩
 rw[z]at this;cases this
theorem Me {ws:af}{ls:aa}(eu:ws.length<=12):(eV ws ls).length<=4096:=by
 have:=yg (dE ws ls) (bN (bj ws.length))
 have ln:=oP ws.length
 have:2^ws.length<=4096:=og (DX (by decide) eu) (by decide)
 unfold eV;omega
noncomputable def nF (ws:af)(ls:aa)(M:Int):ae:=(eV ws ls).filter λS=>decide ((S.length:Int)=M)
def Md:dX:=λEp xs Q=>∃ws ls,xs = [bG ws ls]/\Wb ws ls/\(ws.length<=12->∀M,oT ws ls M->(nF ws ls M).length<64/\∀Z:ae,Z.Perm (nF ws ls M)->Z.Pairwise (λu v=>HT.gB v u=false)->Q (.lst (bp Z)))/\(12<ws.length->Ep "TooMany")
def wS:dX:=λEp xs Q=>∃ws ls,xs = [bG ws ls]/\Wb ws ls/\(ws.length<=12->∀M,oT ws ls M->Q (.int M))/\(12<ws.length->Ep "TooMany")
def Mc (Ep:Str->Prop):aO:=(bY (aB wR (a6 (c9 (cD (i7 Ep qQ (a6 (a5 0) a9))) [none] (bW 0) dB (aB cC (a6 (a5 0) a9))) a9)))
theorem VB:j8 Mc ["web"] wS:=by
 rintro Ep xs Q ⟨ws,ls,rfl,wb,q,qe⟩;refine⟨_,rfl,ws,ls,rfl,wb,λeu=>?_,qe⟩;have ll:=Me (ls:=ls) eu;have Ew:=Mf ws ls;have qq:∀M:Int,(∃S∈eV ws ls,(S.length:Int)=M)->(∀S∈eV ws ls,M<=(S.length:Int))->_:=λM m1 m2=>q eu M ⟨m1,m2⟩
 generalize eV ws ls=L at ll Ew qq ⊢;refine⟨_,rfl,(λz=>by cases z),by rw[cM];omega,λi acc=>acc=ao ((L.take i).map λS=>(S.length:Int)),rfl,?_,?_⟩
 ·rintro i y acc hy rfl
  obtain⟨S,rfl,hS⟩:=oF hy
  refine⟨_,rfl,_,_,rfl,rfl,trivial,?_⟩;dsimp only;rw[bE,nq,hS,gu,fE];rfl
 rintro acc rfl;rw[cM,qr]
 exact⟨_,rfl,λz=>Ew (DU.mp z),λM m1 m2=>⟨trivial,qq M (by obtain⟨S,hS,e⟩:=dr.mp m1;exact⟨S,hS,e⟩) λS hS=>m2 _ (dr.mpr ⟨S,hS,rfl⟩)⟩⟩
theorem VA:∀n<8,∀M<8,((bN (bj n)).filter λS=>decide (S.length=M)).length<64:=by decide +kernel
theorem Vz {ws:af}{ls:aa}{M:Int}(eu:ws.length<=7)(h:oT ws ls M):(nF ws ls M).length<64:=by
 obtain⟨⟨S,hS,e⟩,_⟩:=h
 have sl:=oG (kJ.mp hS).1
 have:=VA ws.length (by omega) S.length (by omega)
 refine Dp ?_ this;unfold nF eV;rw[List.filter_filter];refine wQ λT _ hT=>?_
 rw[mv,lx]at hT;exact di (by omega)
theorem Mb {ws:af}{ls:aa}{M N:Int}(h:oT ws ls M)(h':oT ws ls N):M=N:=by
 obtain⟨⟨S,hS,e⟩,m⟩:=h
 obtain⟨⟨T,hT,e'⟩,m'⟩:=h'
 have:=m T hT
 have:=m' S hS
 omega
end Core
namespace PP
open PySem L2
section
variable {X:Cx}{a b e o:Expr}{ta tb te to:aG}{tr:dI}{pos p2 ah ai:Pos}{σ:St}{H:Hp}{Q':VK}
open Classical in
theorem Vy {A:az}(hu:A.units+2<cLine){ag:List (ax×Obj)}{s:aw}{H:Hp}{us:List V}{bh:List av}{rs:ae}{ns:af}{x:V}{v:av}(I:a8 X ag σ H s)(rx:b5 x v)(r:aQ us bh)(rn:aH X.K (λ_=>True) H x (.tup (ao ns)))(rr:bb X.K (λ_=>True) H us (rs.map λr=>PV.tup (ao r))):∃f:av->Bool,∀(j:Nat) (w:av),bh[j]? = some w->∃m,rs[j]? = some m/\SeqAt.EqAt A s w v (f w)/\f w=decide (m=ns):=by
 have lr:=r.length;have lp:=rr.length;rw[df]at lp;refine⟨λw=>decide (∃v',b5 v' w/\aH X.K (λ_=>True) H v' (.tup (ao ns))),λj w hw=>?_⟩;have hj:=(gv.mp hw).1;have h1:j<us.length:=by omega
 obtain⟨w',IS,wu⟩:=r.get (gs h1)
 rw[hw]at IS;cases IS
 obtain⟨m',zt,rm⟩:=rr.get (gs h1)
 rw[gf]at zt;cases hm:rs[j]? with
 |none=>rw[hm]at zt;cases zt
 |some m=>
  rw[hm]at zt;cases zt;have e2:(decide (∃v',b5 v' w/\aH X.K (λ_=>True) H v' (.tup (ao ns))))=decide (m=ns):=by
   have:(∃v',b5 v' w/\aH X.K (λ_=>True) H v' (.tup (ao ns)))↔m=ns:=by
    refine⟨λ⟨v',Jg,HH⟩=>?_,λe=>⟨_,wu,by rw[<- e];exact rm⟩⟩
    obtain⟨p1,w1,e1,_,_⟩:=rm.qj
    obtain⟨p2,w2,e2,_,_⟩:=HH.qj
    rw[e1]at wu rm;rw[e2]at Jg HH;cases wu;cases Jg;exact Wm rm HH
   exact decide_eq_decide.mpr this
  refine⟨m,rfl,?_,e2⟩;show SeqAt.EqAt A s w v (decide _);rw[e2]
  have:=Ob I 2 (A:=A) hu rm rn wu rx (by exact Ol 1 m ns)
  rw[Oo 1]at this;exact this
def Ma (K:ad):R2:=λx y H Q=>∃p us ns,∃rs:ae,y = .ref p/\H p=some (.lst us)/\aH K (λ_=>True) H x (.tup (ao ns))/\bb K (λ_=>True) H us (rs.map λr=>PV.tup (ao r))/\Q (.bl (!decide (ns∈rs))) H
theorem Vx (hu:X.A.units+3<cLine):cQ X (compareOp .NotIn) (Ma X.K):=by
 intro ag s σ H x y v u Q I rx ry h
 obtain⟨p,us,ns,rs,rfl,hp,rn,rr,q⟩:=h
 cases ry
 obtain⟨bh,r,pl,hz⟩:=I.list (aM.of (K:=X.K) hp)
 have lr:=r.length;have lp:=rr.length;rw[df]at lp
 obtain⟨f,key⟩:=Vy (A:=X.A.in1) (by show X.A.units+1+2<cLine;omega) I rx r rn rr
 refine SeqAt.notIn_listAt f pl.isList (λw hw=>?_) ⟨.bl _,H,I,rfl,?_⟩
 ·have hw:w∈bh:=by simpa using hw
  obtain⟨j,hj⟩:=DW hw
  obtain⟨m,_,h1,h2⟩:=key j w hj
  exact h1
 ·have:bh.toArray.any f=decide (ns∈rs):=by
   rw[show bh.toArray.any f=bh.any f by simp,xf,Dk,lx];refine⟨λ⟨w,hw,e⟩=>?_,λh=>?_⟩
   ·obtain⟨j,hj⟩:=DW hw
    obtain⟨m,hm,_,h2⟩:=key j w hj
    rw[h2,lx]at e;rw[<- e];exact fm hm
   ·obtain⟨j,hj⟩:=DW h
    have hl:=(gv.mp hj).1
    obtain⟨m,hm,_,h2⟩:=key j bh[j] (gs (by omega))
    rw[hj]at hm;cases hm
    exact⟨bh[j]'(by omega),BD _,by rw[h2];exact di rfl⟩
  rw[this];exact q
def J2:PV->Tg->PV->Tg->PK->Prop:=λx _ y _ Q=>∃ns,∃rs:ae,x = .tup (ao ns)/\y = .lst (rs.map λr=>PV.tup (ao r))/\Q (.bl (!decide (ns∈rs))) .fr
theorem Vw:fN X J2 (Ma X.K):=by
 rintro W Hs H u v x y g g' Q Q' s n r1 r2 ⟨ns,rs,rfl,rfl,q⟩ k
 obtain⟨p,us,rfl,_,h,r⟩:=r2.oo
 exact⟨p,us,ns,rs,rfl,h,r1.same (aE.refl _) (λ_ _=>trivial),r.same (aE.refl _) (λ_ _=>trivial),k _ _ _ .fr (aE.refl _) (.bl _) q⟩
theorem Vv (hu:X.A.units+3<cLine)(ha:QE X a ta)(hb:QE X b tb)(hm:behindInMarks .NotIn b=false:=by rfl):QT X (.Compare a [.NotIn] [b] pos) (bH (q2 J2 ta tb)):=kC (Vx hu) Vw ha hb hm
end
end PP
namespace L2
open PySem PySem.Spec PyProof.Rows
def LZ (K:ad)(a:ax)(n:Nat):It:=
 ⟨λi H=>(∃xs,aM K H a xs/\xs.length=n)/\i<n,λi H x H'=>H'=H/\∀xs,aM K H a xs->xs[n-1-i]? = some x,λi H=>i=n⟩
theorem Vu {P:ay}{w:ba}{K:ad}{tg:Expr}(a it:ax)(n:Nat):jY P w K tg (LZ K a n) [it] it (λi h=>h.IsRevIter it a ((n:Int)-1-(i:Int))):=by
 refine⟨by simp,λi h st b hb=>?_,λi h h' st k=>st.at λo e=>k it (by simp) o e,?_,?_,λ_ _ _ _ _ st q=>wpAny_pyIter_revIter st q⟩
 ·obtain rfl:b=it:=by simpa using hb
  obtain⟨o,e,c,d⟩:=st
  exact⟨o,e,λv z=>by rw[d]at z;cases z⟩
 ·intro X hP hw hK hc i ag s σ H E I hf st hg
  subst hP hw hK
  obtain⟨⟨xs,hq,hl⟩,hi⟩:=hg
  obtain⟨bh,rv,p,hz⟩:=I.list hq
  have lv:=rv.length;have hx:xs[n-1-i]? = some (xs[n-1-i]'(by omega)):=gs (by omega)
  obtain⟨u,hu,ru⟩:=rv.get hx
  obtain⟨f0,f1,f2,f3,f4,f5⟩:=hf it (by simp)
  have e0:(n:Int)-1-(i:Int)=((n-1-i:Nat):Int):=by omega
  rw[e0]at st;refine wpAny_pyNext_rev_item st p.isList (x:=u) (by simpa using hu) λh' uz sb=>?_
  have I1:a8 X ag σ H { s with heap:=h' }:=I.turned (t':=s.toks) (λb o hb e=>(sb.2 b hb).trans e) f0 f1 f3 f4 f5;have e1:((n-1-i:Nat):Int)-1=(n:Int)-1-((i+1:Nat):Int):=by omega
  rw[e1]at uz
  obtain⟨o,e,c,d⟩:=id uz
  exact⟨u,rfl,rC (s:={ s with heap:=h' }) e c d (by decide) ⟨_,H,I1,ru,⟨rfl,λys hy=>by rw[I.mj hy hq];exact hx⟩,uz,λb hb=>(hf b hb).1⟩⟩
 ·intro X hP hw hK hc i ag s σ H E I hf st hg
  subst hP hw hK;have hg:i=n:=hg;subst hg
  obtain⟨f0,f1,f2,f3,f4,f5⟩:=hf it (by simp)
  rw[show (i:Int)-1-(i:Int) = -1 by omega]at st;exact wpAny_pyNext_rev_end (I.ok.hd hc) st λh' eb=>⟨rfl,I.turned (t':=s.toks) (λb o hb e=>eb b o hb e) f0 f1 f3 f4 f5⟩
section
variable {X:Cx}
def LY (K:ad)(ta:TA):TI:=λσ H R=>ta σ H λvs H1=>∃a xs,vs = [.ref a]/\aM K H1 a xs/\R (LZ K a xs.length) H1
theorem Vt {tg:Expr}{a:Expr}{ta:TA}{p pos:Pos}(hg:Gl X "reversed")(hm:X.mg "reversed" = none)(ha:PA X [a] ta)(hs:starEach [a] X.env = [(false,eval a X.env)]:=by rfl) :
  PI X tg (.Call (.Name "reversed" p) [a] [] pos) (LY X.K ta):=by
 intro ag s σ H R I h;refine Call_ (lH I hg hm PyProof.Rows.boot_reversed (Cm (aR (ha pos ag s σ H _ I h) λus s1 ⟨vs,H1,I1,r1,q1⟩=>?_) (by rw[hs];rfl) (by rfl)))
 obtain⟨a',xs,e,h1,q⟩:=q1
 subst e;cases r1 with
 |cons r rr=>
  cases rr;cases r
  obtain⟨us,rv,p1,_⟩:=I1.list h1
  have lv:=rv.length;refine call_reversed_list p1.isList ?_;have st:∀t:Nat,(s1.heap.push (revObj a' ((us.toArray.size:Int)-1))).IsRevIter s1.heap.objs.size a' ((xs.length:Int)-1-(0:Nat)):=λ_=>by
   rw[gg,<- lv]
   exact⟨_,my _ rfl,rfl,by rw[show (xs.length:Int)-1-(0:Nat)=(xs.length:Int)-1 by omega];rfl⟩
  refine wpAny_pyIter_revIter (st 0) ?_;refine⟨s1.heap.objs.size,[s1.heap.objs.size],_,_,H1,rfl,I1.kept (t':=s1.toks) λb o e=>ic _ e,Vu a' _ xs.length,st 0,λc hc=>?_,q⟩;obtain rfl:c=s1.heap.objs.size:=by simpa using hc
  exact I1.jx (de _) (I1.cf.fresh (de _))
end
end L2
namespace PP
open PySem L2
section
variable {X:Cx}{σ:St}{H:Hp}{te:aG}{R:It→Hp→Prop}{a:Expr}{p2 pos:Pos}
def wT (te:aG):gW:=λρ Q=>te ρ λx g=>∃xs,x = .lst xs/\g≠.rd/\Q xs.reverse (uX g xs)
theorem Vs (h:LI X (wT te) σ H R):LY X.K (iG (LE X te) kQ) σ H R:=by
 obtain⟨W,ρ,Q,px,q,k⟩:=h
 refine⟨W,ρ,_,px,q,?_⟩;rintro v H1 x g s r ⟨xs,rfl,hg,q⟩;have Cv:=px.mono s;have tw:∀a,W a->∃o,H1 a=some o/\i5 o=true:=λa z=>(Cv.wm a z).2
 obtain⟨a,us,rfl,m,ea,r⟩:=r.oo
 have wa:¬W a:=by
  cases g with
  |fr=>exact (px.new m).1
  |nw=>exact m.1
  |sh=>exact m
  |rd=>exact absurd rfl hg
 have lr:=r.length;have ha:∀W' H',Ev W H1 W' H'->aM X.K H' a us:=λW' H' e=>aM.of (e _ _ ea wa rfl).1
 have rr:=o7 px (λz=>absurd z hg) r;refine⟨a,us,rfl,aM.of ea,k _ _ _ _ s ⟨λW' H' i e hi=>⟨⟨us,ha W' H' e,rfl⟩,?_⟩,λW' H' i v H2 e y hi=>?_,λW' H' e=>?_⟩ q⟩
 ·rw[Dq]at hi;omega
 ·rw[Dq]at hi
  obtain⟨rfl,y⟩:=y
  obtain⟨x,hx,rx⟩:=rr.get (y us (ha W' _ e))
  refine⟨aE.refl _,x,?_,rx.keep (e.keep tw)⟩;rw[List.getElem?_reverse hi,<- lr];exact hx
 ·show xs.reverse.length=us.length
  rw[Dq];omega
theorem LX {tg:Expr}(hm:X.mg "reversed" = none)(ha:QE X a te)(hg:Gl X "reversed":=by rfl)(hs:starEach [a] X.env = [(false,eval a X.env)]:=by rfl):QI X tg (.Call (.Name "reversed" p2) [a] [] pos) (wT te):=sH (Vt hg hm (dH ha eG hs) hs) λ_ _ _=>Vs
end
end PP
namespace Core
open PySem L2 PP
def oU (n:Nat)(ps:af):Prop:=ps.length=n/\∀w∈ps,0<=w
def wU:dX:=λEp xs Q=>∃(x:PV) (ns:af) (m:Nat),xs = [x,.int m]/\dG x ns/\ns.length<=1000/\m<=1000000/\(oU m ns->Q (.tup (ao ns)))/\(¬oU m ns->Ep "BadPrices")
def LW (Ep:Str->Prop):aO:=(aI (dO (bH (C5 (aB cC (a6 (a5 0) a9)) (a5 1))) (oO Ep "BadPrices" (a6 (qC (.str "there is one price for each")) a9)) dZ)
 (aI (dO (bH (aB wF (a6 (c9 (cD (a5 0)) [none] (bW 0) dB (pY (a5 0) (qC (.int 0)))) a9))) (oO Ep "BadPrices" (a6 (qC (.str "no price is below 0")) a9)) dZ)
 (bY (aB iN (a6 (a5 0) a9)))))
theorem Vr:j8 LW ["prices","many"] wU:=by
 rintro Ep xs Q ⟨x,ns,m,rfl,hx,hl,hm,q,qe⟩;refine⟨_,rfl,_,_,rfl,hx.len,_,rfl,.inl ⟨_,_,rfl,rfl,_,rfl,?_⟩⟩;show if (!decide ((ns.length:Int)=(m:Int)))=true then _ else _
 by_cases DJ:ns.length=m
 ·rw[di (by omega)]
  refine bK ⟨_,rfl,_,hx.seq,oE hx,by rw[bE];omega,λi acc=>acc=((ns.take i).map λn=>PV.bl (decide (n<0))),rfl,?_,?_⟩
  ·rintro i y acc hy rfl
   obtain⟨n,rfl,hn⟩:=hG hy
   refine⟨_,rfl,_,_,rfl,rfl,trivial,?_⟩;dsimp only;rw[nq,hn,gu];rfl
  ·rintro acc rfl
   rw[bE,qr];refine⟨ns.map λn=>decide (n<0),by rw[kq];rfl,_,rfl,?_⟩;by_cases hp:∀w∈ns,0<=w
   ·have:(ns.map λn=>decide (n<0)).any id=false:=by
     rw[List.any_map,List.any_eq_false];intro x hx
     have:=hp x hx
     simp;omega
    rw[this];exact bK ⟨_,rfl,⟨_,_,rfl,hx.zi,cS _,trivial,q ⟨DJ,hp⟩⟩,hx.BQ⟩
   ·have:(ns.map λn=>decide (n<0)).any id=true:=by
     obtain⟨w,hw⟩:=Classical.not_forall.mp hp
     obtain⟨h1,h2⟩:=Classical.not_imp.mp hw
     rw[List.any_map,Dk]
     exact⟨w,h1,by simp;omega⟩
    rw[this];exact bP ⟨by show 1<=1000;decide,qe λz=>hp z.2⟩
 ·rw[fk (by omega)]
  exact bP ⟨by show 1<=1000;decide,qe λz=>DJ z.1⟩
def oV (h:Int):af->af
 |[]=>[h]
 |a::r=>if h<=a then h::a::r else a::oV h r
theorem J3 (h:Int):∀A:af,(oV h A).Perm (A++[h])
 |[]=>Bc _
 |a::r=>by
  show (if h<=a then h::a::r else a::oV h r).Perm _;split
  ·exact List.perm_append_comm (l₁:=[h]) (l₂:=a::r)
  ·exact (J3 h r).cons a
theorem LV (h:Int):∀{A:af},A.Pairwise (· <= ·)->(oV h A).Pairwise (· <= ·)
 |[],_=>ot _ _
 |a::r,p=>by
  have p':=wt.mp p;show (if h<=a then h::a::r else a::oV h r).Pairwise _;split
  ·rename_i z
   exact wt.mpr ⟨λx hx=>by
    rcases ff.mp hx with rfl|hx
    ·exact z
    ·exact Int.le_trans z (p'.1 x hx),p⟩
  ·rename_i z
   exact wt.mpr ⟨λx hx=>by
    rcases fi.mp ((J3 h r).mem_iff.mp hx) with hx|hx
    ·exact p'.1 x hx
    ·rw[dt]at hx;omega,LV h p'.2⟩
theorem Vq {motive:af->Prop}(z:motive [])(sn:∀L x,motive L->motive (L++[x])):∀L,motive L:=λL=>by
 have:∀R:af,motive R.reverse:=by
  intro R
  induction R with
  |nil=>exact z
  |cons x r ih=>rw[List.reverse_cons];exact sn _ _ ih
 have:=this L.reverse
 rwa [List.reverse_reverse]at this
def cN (O:af):af:=O.foldl (λA h=>oV h A) []
theorem Vp (O:af)(h:Int):cN (O++[h])=oV h (cN O):=by unfold cN;rw[List.foldl_append];rfl
theorem oW:∀O:af,(cN O).Perm O/\(cN O).Pairwise (· <= ·):=by
 refine Vq ⟨Bc _,.nil⟩ ?_;rintro O h ⟨i1,i2⟩;rw[Vp]
 exact⟨(J3 h _).trans (i1.append_right [h]),LV h i2⟩
theorem LU {O ms:af}(p:ms.Perm O)(s:ms.Pairwise (· <= ·)):ms=cN O:=F8 (p.trans (oW O).1.symm) s (oW O).2
def uJ (ws:af)(ls:aa)(ns R:af):Prop:=Mr ws ls ns R=true/\lZ ws ls (ns++R)
end Core
namespace L2
open PySem PySem.Spec PyProof.Rows PP
section
variable {prog:ay}{w:ba}{A:az}{R:Result→aw→Prop}{I S:ax}{n:Nat}{l:ax}{bh:Array av}{s0:aw}{bt:Nat→Nat→Bool}
abbrev at_ (s:aw)(h:Heap)(k:Nat):aw:={ s with heap:=h,toks:=k }
end
end L2
namespace Core
open PySem L2 PP
def FB (L:ae)(f:af->Int)(r:af):Prop:=∃i,L[i]? = some r/\(∀(j:Nat) (s:af),j<i->L[j]? = some s->f s<f r)/\∀s∈L,f s<=f r
def e9 (n:Nat)(ls:aa):Prop:=(∀l∈ls,0<=l.1/\l.1<l.2/\l.2<(n:Int))/\ls.length<=1700/\ls.Pairwise lY
def iA (S:af)(l:Int×Int):Bool:=decide (l.1∈S)&&decide (l.2∈S)
abbrev J4:dX:=Mt
def LR (Ep:Str->Prop):aO:=(aI (b8 1 (i7 Ep qM (a6 (a5 0) a9)))
 (aI (b8 2 (i7 Ep qN (a6 (a5 0) (a6 (a5 1) a9))))
 (aI (b8 3 (c9 (w9 (a5 1)) [none,none,some 2] (fO 0 1) (o5 (mS (bI (a5 2) (a5 0))) (pK (bH (aB qL (a6 (a5 2) (a6 (a5 0) (a6 (a5 1) a9))))))) (a5 1)))
 (bY (aB oH (a6 (a5 3) a9))))))
theorem Vo:j8 LR ["web","chosen","holds","found"] J4:=by
 rintro Ep xs Q ⟨ws,ls,rfl,wb,q,qe⟩;refine⟨_,rfl,ws,ls,rfl,wb.eu,λeu=>⟨trivial,?_⟩,qe⟩
 obtain⟨q1,q⟩:=q eu
 have ln:=oP ws.length;have IH:2^ws.length<=4096:=og (DX (by decide) eu) (by decide);refine⟨_,rfl,_,rfl,ws,ls,rfl,wb,eu,λbs bl hb=>⟨trivial,?_⟩⟩;unfold dP at q1 q;have cat:∀{p:Nat}{S:af},(bN (bj ws.length))[p]? = some S->(bs.getD p false=true↔HC ws ls S):=λ{p S} e=>hb p S e
 have sat:=λp S=>qK ws.length p S
 have cf:=λ(p:Nat) (S:af) (e:(bN (bj ws.length))[p]? = some S) (h:p<=bs.length)=>Mu (bs:=bs) eu e h
 have Rm:=λ(p:Nat) (S:af) (e:(bN (bj ws.length))[p]? = some S)=>Mv (bs:=bs) (ls:=ls) e λq T _ e=>hb q T e
 generalize bN (bj ws.length)=C at *;refine⟨_,rfl,_,.inl rfl,(λz=>by cases z),by rw[sY,cM];omega,λi acc=>acc=bp ((C.take i).filter (jA ws ls)),rfl,?_,?_⟩
 ·rintro i y acc hy rfl
  obtain⟨y,GI,rfl⟩:=Nm hy
  obtain⟨S,rfl,hS⟩:=oF GI
  have il:=(gv.mp hS).1;have tk:(C.take (i+1)).filter (jA ws ls)=(C.take i).filter (jA ws ls)++(if jA ws ls S=true then [S] else []):=by
   rw[nq,hS,Dn];congr 1;show List.filter _ [S]=_;simp only[qg,List.filter_nil]
  have ix:L2.ma (i9 bs) (i:Int)=some (.bl (bs.getD i false)):=jJ (by show (List.map PV.bl bs)[i]? = _;rw[gf,ju,gs (by omega)];rfl)
  obtain⟨k1,k2⟩:=cf i S hS (by omega)
  have hw:=Rm i S hS;have le:=MA (ws:=ws) (ls:=ls) S;refine⟨_,_,rfl,_,rfl,_,rfl,_,_,_,rfl,rfl,ix,_,rfl,?_⟩;cases EH:bs.getD i false with
  |false=>
   have:jA ws ls S=false:=by
    cases z:jA ws ls S with
    |false=>rfl
    |true=>
     have:=(cat hS).mpr (le.mpr (jB.mp z)).1
     rw[EH]at this;cases this
   rw[this]at tk;refine bK (bK ?_);dsimp only;rw[tk];simp
  |true=>
   refine bP ⟨_,rfl,_,rfl,_,rfl,bs,i,S,rfl,k1,k2,_,rfl,?_⟩;cases GN:oQ bs i S with
   |true=>
    have:jA ws ls S=false:=by
     cases z:jA ws ls S with
     |false=>rfl
     |true=>exact absurd (hw.mp GN) (le.mpr (jB.mp z)).2
    rw[this]at tk;refine bK ?_;dsimp only;rw[tk];simp
   |false=>
    have:jA ws ls S=true:=jB.mpr (le.mp ⟨(cat hS).mp EH,λz=>by rw[hw.mpr z]at GN;cases GN⟩)
    rw[this]at tk;refine bP ⟨_,rfl,G7 _ (sV S),?_⟩;dsimp only;rw[tk];unfold bp;rw[gu];rfl
 rintro acc rfl;rw[sY,cM,qr];refine⟨trivial,?_⟩;refine⟨_,rfl,C.filter (jA ws ls),rfl,q1,λy hy=>(jB.mp (cz.mp hy).2).1,λZ pz so=>⟨trivial,q Z pz so⟩⟩
structure Moved (ws os Ig:af):Prop where
 len:Ig.length=ws.length
 at_:∀h:Nat,h<ws.length->Ig[(os.getD h 0).toNat]? = ws[h]?
theorem Vn {ls:aa}(h:ls.Pairwise lY):ls.Nodup:=h.imp λ{a b} z e=>by subst e;unfold lY at z;omega
end Core
namespace L2
open PySem PySem.Spec PyProof.Rows
def l7:HO->Bool
 |.dK _=>true
 |.dT _=>true
 |_=>false
section
variable {X:Cx}{ag:List (ax×Obj)}{σ:St}{H H':Hp}{s:aw}{a:ax}
theorem a8.Dd {o:Obj}{u:HO}(I:a8 X ag σ H s)(h:H a=some u)(du:l7 u=true)(e:s.heap.get? a=some o):a8 X ag σ (upd H a (.et o u)) s:=by
 have own:∀{c:ax}{y:ax},H c=some (.own y)->c≠a:=λ{c y} q z=>by rw[z,h]at q;cases q;cases du
 have tp:∀{c:ax}{xs:List V},H c=some (.tup xs)->c≠a:=λ{c xs} q z=>by rw[z,h]at q;cases q;cases du
 refine I.Gf (a:=a) (λb n=>aK n) ⟨_,h⟩ (λxs q=>by rw[h]at q;cases q;cases du) (λo' v q=>by have:=I.base.kr a o' v q;rw[h]at this;cases this;cases du) (λps q=>by rw[h]at q;cases q;cases du) λb v q=>?_
 by_cases hb:b=a
 ·subst hb
  rw[bA]at q;cases q
  exact⟨e,(I.cf b _ h).cq (λ_ _ _ q=>q) (λc q=>by rw[aK (own q)];exact q) λc xs q=>by rw[aK (tp q)];exact q⟩
 ·rw[aK hb]at q
  exact (I.cf b v q).cq (λ_ _ _ q=>q) (λc q=>by rw[aK (own q)];exact q) λc xs q=>by rw[aK (tp q)];exact q
end
def J5 (H:Hp):HO->List V->Prop
 |.dK bf,ys=>ys=bf.map λp=>kV p.1
 |.dT bf,ys=>Paired (zZ H) ys (bf.map (·.1))
 |_,_=>False
section
variable {X:Cx}{tg l:Expr}{tl:TE}
def J6 (tl:TE):TI:=λσ H R=>tl σ H λx H1=>∃a u,x = .ref a/\H1 a=some u/\l7 u=true/\∀o ys,J5 H1 u ys->R (Pg a o ys) (upd H1 a (.et o u))
theorem Vm (hl:PE X l tl):PI X tg l (J6 tl):=by
 intro ag s σ H R I h;refine aR (hl ag s σ H _ I h) λv s1 h1=>?_
 obtain⟨x,H1,I1,r1,a,u,e,ha,du,q⟩:=h1
 subst e;cases r1;have hf:H1 s1.heap.objs.size=none:=I1.cf.fresh (de _)
 obtain⟨es,ep,ys,⟨o,e1,e2,e3⟩,vt,pk,vl⟩:∃es ep ys,Raw.iK s1.heap a es ep/\(a==sysModules)=false/\J5 H1 u ys/\aQ ys (es.toList.map (·.key)):=by
  cases u with
  |dK bf=>
   obtain⟨es,ep,Gb,vt,vl,z⟩:=OS I1 ha
   exact⟨es,ep,_,Gb,vt,rfl,vl⟩
  |dT bf=>
   obtain⟨es,ep,ys,Gb,vt,pk,vl,z⟩:=aN3 I1 ha
   exact⟨es,ep,ys,Gb,vt,pk,vl⟩
  |_=>cases du
 refine Raw.made vt ⟨o,e1,e2,e3⟩ ?_;refine⟨s1.heap.objs.size,[s1.heap.objs.size],_,_,upd H1 a (.et o u),rfl,(I1.Dd ha du e1).kept (t':=s1.toks) λb o e=>ic _ e,Zk a _ ⟨e2,e3⟩ vl,⟨_,my _ rfl,rfl,rfl⟩,λb hb=>?_,q o ys pk⟩;obtain rfl:b=s1.heap.objs.size:=by simpa using hb
 exact I1.jx (de _) (by rw[aK (λz=>by rw[z,ha]at hf;cases hf)];exact hf)
end
end L2
namespace PP
open PySem L2
mutual
def eO:PV->Bool
 |.tup xs=>mi xs
 |.lst xs=>mi xs
 |.kt xs=>mi xs
 |.dK _=>false
 |.dT _=>false
 |.fK _=>false
 |.fT _=>false
 |.fL xs=>mi xs
 |.fn _=>true
 |.ob _=>true
 |.bw=>true
 |.bl _=>true
 |.int _=>true
 |.str _=>true
 |.jo _=>true
 |.exc _=>true
def mi:List PV->Bool
 |[]=>true
 |x::r=>eO x&&mi r
end
structure nG (M M':ax->Prop)(H H':Hp):Prop where
 lst:∀a us,M a->H a=some (.lst us)->M' a/\H' a=some (.lst us)
 tup:∀a us,H a=some (.tup us)->H' a=some (.tup us)
 et:∀a o u,H a=some (.et o u)->l7 u=false->H' a=some (.et o u)
mutual
theorem aH.gx {K:ad}{M M':ax->Prop}{H H':Hp}(k:nG M M' H H'):∀{v:V}{x:PV},eO x=true->aH K M H v x->aH K M' H' v x
 |_,_,_,.bw=>.bw
 |_,_,_,.bl b=>.bl b
 |_,_,_,.int i=>.int i
 |_,_,_,.str x=>.str x
 |_,_,f,.tup h r=>.tup (k.tup _ _ h) (bb.gx k (by unfold PP.eO at f;exact f) r)
 |_,_,f,.lst m h r=>.lst (k.lst _ _ m h).1 (k.lst _ _ m h).2 (bb.gx k (by unfold PP.eO at f;exact f) r)
 |_,_,f,.dK m h e r=>by unfold PP.eO at f;cases f
 |_,_,f,.dT m h e r=>by unfold PP.eO at f;cases f
 |_,_,_,.jo h=>.jo (h.elim (λ⟨o,e⟩=>.inl ⟨o,k.et _ _ _ e rfl⟩) .inr)
 |_,_,f,.kt h r=>.kt h (bb.gx k (by unfold PP.eO at f;exact f) r)
 |_,_,_,.exc h e c=>.exc (k.et _ _ _ h rfl) e c
 |_,_,f,.fK h e r=>by unfold PP.eO at f;cases f
 |_,_,f,.fT h e r=>by unfold PP.eO at f;cases f
 |_,_,f,.fL h r=>.fL (k.et _ _ _ h rfl) (bb.gx k (by unfold PP.eO at f;exact f) r)
 |_,_,_,.fn h=>.fn h
 |_,_,_,.ob=>.ob
theorem bb.gx {K:ad}{M M':ax->Prop}{H H':Hp}(k:nG M M' H H'):∀{vs:List V}{xs:List PV},mi xs=true->bb K M H vs xs->bb K M' H' vs xs
 |_,_,_,.nil=>.nil
 |_,_,f,.cons r t=>by
  unfold PP.mi at f;rw[mv]at f;exact .cons (aH.gx k f.1 r) (bb.gx k f.2 t)
end
theorem nG.AI {M M':ax->Prop}{H:Hp}{a:ax}{u:HO}{o:Obj}(h:H a=some u)(du:l7 u=true)(m:∀b us,M b->H b=some (.lst us)->M' b):nG M M' H (upd H a (.et o u)):=
 ⟨λb us hb e=>⟨m b us hb e,by rw[aK (λz=>by rw[z,h]at e;cases e;cases du)];exact e⟩,λb us e=>by rw[aK (λz=>by rw[z,h]at e;cases e;cases du)];exact e,
  λb o' u' e _=>by rw[aK (λz=>by rw[z,h]at e;cases e;cases du)];exact e⟩
theorem nG.Cq {M M':ax->Prop}{H:Hp}{a:ax}{u w:HO}{o:Obj}(h:H a=some (.et o u))(du:l7 u=true)(m:∀b us,M b->H b=some (.lst us)->M' b):nG M M' H (upd H a w):=
 ⟨λb us hb e=>⟨m b us hb e,by rw[aK (λz=>by rw[z,h]at e;cases e)];exact e⟩,λb us e=>by rw[aK (λz=>by rw[z,h]at e;cases e)];exact e,
  λb o' u' e d'=>by rw[aK (λz=>by rw[z,h]at e;cases e;rw[du]at d';cases d')];exact e⟩
mutual
theorem Vl:∀{x:PV},flat x=true->eO x=true
 |.tup xs,f=>by unfold PP.flat at f;unfold PP.eO;exact gc f
 |.kt xs,f=>by unfold PP.flat at f;unfold PP.eO;exact gc f
 |.lst xs,f=>by unfold PP.flat at f;cases f
 |.dK _,f=>by unfold PP.flat at f;cases f
 |.dT _,f=>by unfold PP.flat at f;cases f
 |.fK _,f=>by unfold PP.flat at f;cases f
 |.fT _,f=>by unfold PP.flat at f;cases f
 |.fL xs,f=>by unfold PP.flat at f;unfold PP.eO;exact gc f
 |.fn _,_=>by unfold PP.eO;rfl
 |.ob _,_=>by unfold PP.eO;rfl
 |.bw,_=>by unfold PP.eO;rfl
 |.bl _,_=>by unfold PP.eO;rfl
 |.int _,_=>by unfold PP.eO;rfl
 |.str _,_=>by unfold PP.eO;rfl
 |.jo _,_=>by unfold PP.eO;rfl
 |.exc _,_=>by unfold PP.eO;rfl
theorem gc:∀{xs:List PV},flats xs=true->mi xs=true
 |[],_=>by unfold PP.mi;rfl
 |x::r,f=>by
  unfold PP.flats at f;rw[mv]at f;unfold PP.mi;rw[Vl f.1,gc f.2];rfl
end
def fz:PV->PV
 |.dK ps=>.fK ps
 |.dT ps=>.fT ps
 |x=>x
def Vk:PV->Option (List PV)
 |.dK ps=>some (ps.map λp=>kP p.1)
 |.dT ps=>some (ps.map λp=>.tup (p.1.map kP))
 |_=>none
def Vj:PV->List PV
 |.dK ps=>ps.map (·.2)
 |.dT ps=>ps.map (·.2)
 |_=>[]
section
variable {X:Cx}{σ:St}{H:Hp}{Q':VK}
theorem Vi {K:ad}{M:ax->Prop}{H:Hp}(k:aC):aH K M H (kV k) (kP k):=by cases k<;>constructor
end
end PP
namespace Core
open PySem L2 PP
def J7 (r c:Int)(l:Int×Int):Bool:=decide (0<=l.1)&&(decide (l.1<r)&&(decide (0<=l.2)&&decide (l.2<c)))
def Vh (l:Int×Int):aa:=[(l.1-1,l.2),(l.1,l.2-1),(l.1,l.2+1),(l.1+1,l.2)]
def J8 (r c:Int)(l:Int×Int):aa:=(Vh l).filter (J7 r c)
theorem dJ:∀{l m:af},l.Nodup->(∀x∈l,x∈m)->l.length<=m.length
 |[],_,_,_=>ng _
 |a::r,m,nd,h=>by
  have hm:=h a dh
  have:=dJ (l:=r) (m:=m.erase a) (oy.mp nd).2 λx hx=>(DV (show x≠a from λe=>(oy.mp nd).1 (by rw[<- e];exact hx))).mpr (h x (fu _ hx))
  rw[Ck hm]at this
  have:=DY hm
  rw[ie];omega
section
variable {ls:aa}{n:Nat}{B:af}
def ins (ls:aa)(S:af)(h:Int):Nat:=((aF ls h).filter λx=>decide (x∈S)).length
def Two (ls:aa)(S:af):Prop:=∀h∈S,2<=ins ls S h
theorem Vg {S:af}{h:Int}(nd:(aF ls h).Nodup)(t:2<=ins ls S h):∃a b,a∈aF ls h/\b∈aF ls h/\a∈S/\b∈S/\a≠b:=by
 unfold ins at t;have n2:=nd.filter (λx=>decide (x∈S));have mem:∀x∈(aF ls h).filter λx=>decide (x∈S),x∈aF ls h/\x∈S:=λx hx=>⟨(cz.mp hx).1,mw (cz.mp hx).2⟩
 cases e:(aF ls h).filter λx=>decide (x∈S) with
 |nil=>rw[e]at t;simp at t
 |cons x r=>
  cases r with
  |nil=>rw[e]at t;simp at t
  |cons y z=>
   rw[e]at n2 mem;have h1:=mem x dh;have h2:=mem y (fu _ dh)
   exact⟨x,y,h1.1,h2.1,h1.2,h2.2,λz=>(oy.mp n2).1 (by rw[z];exact dh)⟩
end
section
variable {ls:aa}{B:af}
structure c8 (ls:aa):Prop where
 lt:∀l∈ls,l.1<l.2
 ord:ls.Pairwise lY
theorem c8.wx (f:c8 ls)(h:Int):(aF ls h).Nodup:=MT f.lt f.ord
theorem c8.Fx (f:c8 ls)(h:Int):h∉aF ls h:=λz=>by
 rcases L2.eL.mp z with z|z<;>exact absurd (f.lt _ z) (Int.lt_irrefl _)
end
def wV (d:Int):Int:=if d-1>0 then d-1 else 0
def J9 (ls:aa)(S:af):Prop:=∀U,Two ls U->(∀x∈U,x∈S)->U = []
theorem e9.fit {n:Nat}{ls:aa}(lk:e9 n ls):c8 ls:=⟨λl hl=>(lk.1 l hl).2.1,lk.2.2⟩
def qR (L:af)(h:Int)(l:Int×Int):Bool:=decide (h∈[l.1,l.2])&&(decide (l.1∈L)&&decide (l.2∈L))
theorem LQ {L:af}{h:Int}(hh:h∈L):∀{ls:aa},(∀l∈ls,l.1≠l.2)->(ls.filter (qR L h)).length=ins ls L h
 |[],_=>rfl
 |l::r,ne=>by
  have ih:=LQ hh (ls:=r) λm hm=>ne m (fu _ hm)
  have e:aF (l::r) h=((if l.1=h then [l.2] else [])++(if l.2=h then [l.1] else []))++aF r h:=rfl;have n0:=ne l dh;unfold ins at ih ⊢;rw[e,Dn,jg,<- ih];by_cases a:l.1=h
  ·have b:¬l.2=h:=λz=>n0 (a.trans z.symm)
   have a1:l.1∈L:=by rw[a];exact hh
   have a2:h∈[l.1,l.2]:=by rw[a];exact dh
   rw[if_pos a,if_neg b,vb];by_cases c:l.2∈L
   ·rw[Dt (by unfold qR;rw[di a2,di a1,di c];rfl),Dt (by simpa using c),ie]
    show _=1+_;omega
   ·rw[Ci (by unfold qR;rw[fk c,Cc,Cc];decide),Ci (by simpa using c)]
    show _=0+_;omega
  ·by_cases b:l.2=h
   ·have a1:l.2∈L:=by rw[b];exact hh
    have a2:h∈[l.1,l.2]:=by rw[b];exact fu _ dh
    rw[if_neg a,if_pos b,List.nil_append];by_cases c:l.1∈L
    ·rw[Dt (by unfold qR;rw[di a2,di a1,di c];rfl),Dt (by simpa using c),ie]
     show _=1+_;omega
    ·rw[Ci (by unfold qR;rw[fk c,Bool.false_and,Cc];decide),Ci (by simpa using c)]
     show _=0+_;omega
   ·have a2:h∉[l.1,l.2]:=λz=>by
     simp only[ff,nh,mz]at z;rcases z with z|z
     ·exact a z.symm
     ·exact b z.symm
    rw[if_neg a,if_neg b,Ci (by unfold qR;rw[fk a2,Bool.false_and];decide)];show _=0+_;omega
def yt (ls:aa)(L:af):af:=L.filter λh=>decide (2<=ins ls L h)
end Core
namespace L2
open PySem PySem.Spec PyProof.Rows SO
abbrev kk (l:Int×Int):List aC:=[Sum.inl l.1,Sum.inl l.2]
theorem Vf {α β:Type}{R:α->β->Prop}{xs ys:List α}(h:xs.Perm ys):∀{ks:List β},Paired R xs ks->∃IJ,IJ.Perm ks/\Paired R ys IJ:=by
 induction h with
 |nil=>intro ks r;exact⟨ks,Bc _,r⟩
 |cons v _ ih=>
  intro ks r;cases r with
  |cons r t=>
   obtain⟨Fj,p,r'⟩:=ih t
   exact⟨_::Fj,p.cons _,.cons r r'⟩
 |swap u v l=>
  intro xs r;cases r with
  |cons r t=>cases t with
   |cons r2 t2=>exact⟨_,List.Perm.swap _ _ _,.cons r2 (.cons r t2)⟩
 |trans _ _ QL QK=>
  intro xs r
  obtain⟨x1,p1,r1⟩:=QL r
  obtain⟨x2,p2,r2⟩:=QK r1
  exact⟨x2,p2.trans p1,r2⟩
theorem Ve {α β:Type}{R:α->β->Prop}:∀{xs:List α}{ys:List β},Paired R xs ys->∀y∈ys,∃x∈xs,R x y
 |_,_,.nil,y,h=>nomatch h
 |_,_,.cons r p,y,h=>by
  rcases ff.mp h with rfl|h
  ·exact⟨_,dh,r⟩
  ·obtain⟨x,hx,rx⟩:=Ve p y h
   exact⟨x,fu _ hx,rx⟩
theorem LP {α β:Type}{R:α->β->Prop}:∀{xs:List α}{ys:List β},Paired R xs ys->∀x∈xs,∃y∈ys,R x y
 |_,_,.nil,y,h=>nomatch h
 |_,_,.cons r p,y,h=>by
  rcases ff.mp h with rfl|h
  ·exact⟨_,dh,r⟩
  ·obtain⟨x,hx,rx⟩:=LP p y h
   exact⟨x,fu _ hx,rx⟩
end L2
namespace Core
open PySem L2 PP
inductive tG (r c:Int)(S:aa):Int×Int->Prop
 |ui {x:Int×Int}:x∈S->tG r c S x
 |kz {x a b:Int×Int}:J7 r c x=true->a∈J8 r c x->b∈J8 r c x->a≠b->tG r c S a->tG r c S b->tG r c S x
def Qw (r c:Int)(P:aa)(x:Int×Int):Nat:=(P.filter λp=>decide (x∈J8 r c p)).length
structure Wk (r c:Int)(S K P:aa):Prop where
 nd:K.Nodup
 Gp:P.Nodup
 sub:∀x∈P,x∈K
 brn:∀x∈K,tG r c S x
 sd:∀x∈S,x∈K
 bd:∀x∈K,J7 r c x=true
 low:∀x,x∉K->Qw r c P x<2
end Core
namespace L2
open PySem PySem.Spec PyProof.Rows SO
abbrev kn (ns:af):List aC:=ns.map Sum.inl
end L2
namespace Core
open PySem L2 PP
structure Bx where
 t:Int
 l:Int
 b:Int
 r:Int
deriving DecidableEq
def Bx.k (x:Bx):af:=[x.t,x.l,x.b,x.r]
def Iz (x:Bx):Prop:=x.t<=x.b/\x.l<=x.r
def IL (x:Bx)(p:Int×Int):Prop:=x.t<=p.1/\p.1<=x.b/\x.l<=p.2/\p.2<=x.r
def LN (x a:Int×Int):Prop:=(a.1=x.1/\(a.2=x.2-1∨a.2=x.2+1))∨(a.2=x.2/\(a.1=x.1-1∨a.1=x.1+1))
def Clo (B:Bx)(U:Int×Int->Prop):Prop:=∀x a b,IL B x->LN x a->LN x b->a≠b->U a->U b->U x
section
variable {B:Bx}{U:Int×Int→Prop}
variable {t l b r:Int}
section
variable (cl:Clo B U){p1 p2:Int}(u:U (p1, p2))(ip:IL B (p1, p2))
include cl u ip
end
end
theorem wW {i:Nat}{x:PV}{g:Bool}{ρ:bT}{Q:bT->Prop}(f:flat x=true)(q:Q (ρ.set i (some (.sh true x)))):bW i x g ρ Q:=by
 unfold bW;rw[f,Bool.or_true];exact q
abbrev Sg (x:Bx):PV:=.tup (ao x.k)
theorem wX {i j:Nat}{a b:Int}{g:Bool}{ρ:bT}{Q:bT->Prop}(q:Q ((ρ.set i (si a)).set j (si b))):fO i j (.tup [.int a,.int b]) g ρ Q:=by
 refine⟨_,_,rfl,?_⟩;rw[show flat (.int a)=true from rfl,show flat (.int b)=true from rfl,Bool.or_true];exact q
section
variable {ns:af}{a r c z t l:Int}{Q:PV→Prop}(q:∀x:Bx, Q (Sg x))
include q
end
theorem wY {α:Type}(p q:α->Bool):∀l:List α,(l.filter p).length=(l.filter λx=>p x&&!q x).length+(l.filter λx=>q x&&p x).length
 |[]=>rfl
 |a::r=>by
  have ih:=wY p q r;rw[qg,qg,qg];cases p a<;>cases q a<;>simp<;>omega
section
variable {ls:aa}{n:Nat}{U:af}{v:Int}
theorem Vd (hv:v∈U)(ne:∀l∈ls,l.1≠l.2):(ls.filter (iA U)).length=(ls.filter (iA (eU U v))).length+ins ls U v:=by
 rw[<- LQ hv ne,wY (iA U) (λl=>decide (v∈[l.1,l.2])) ls];congr 2;refine AQ λl _=>?_
 unfold iA;rw[xf];simp only[mv,yz,lx,zg,oS,ff,nh,mz,not_or];constructor
 ·rintro⟨⟨a,b⟩,c,d⟩;exact⟨⟨a,λz=>c z.symm⟩,b,λz=>d z.symm⟩
 ·rintro⟨⟨a,c⟩,b,d⟩;exact⟨⟨a,b⟩,λz=>c z.symm,λz=>d z.symm⟩
theorem LM {h:Int}(x:Int)(hx:x∈comp ls (eU U v) h):x∈comp ls U h:=by
 obtain⟨h1,h2⟩:=iP.mp hx
 exact iP.mpr ⟨(oS.mp h1).1,λW hW hh=>h2 W (λa ha b hb bS=>hW a ha b hb (oS.mp bS).1) hh⟩
theorem fS {S:af}{h:Int}:h∈b7 ls S↔h∈S/\(comp ls S h).head? = some h:=by
 unfold b7 tF;rw[cz]
 exact⟨λz=>⟨z.1,@mw _ _ z.2⟩,λz=>⟨z.1,@di _ _ z.2⟩⟩
theorem K0 (hU:aY n U=true){h:Int}(hh:h∈b7 ls U)(ne:h≠v):h∈b7 ls (eU U v):=by
 obtain⟨h1,h2⟩:=fS.mp hh
 have hb:h∈eU U v:=oS.mpr ⟨h1,ne⟩;refine fS.mpr ⟨hb,G9 (iQ (qP hU)) (gS hb) λx hx=>?_⟩
 have:=(kY (iQ hU) h2).2 x (LM x hx)
 omega
theorem wZ (hU:aY n U=true):(b7 ls U).Nodup:=by
 have:U.Nodup:=(gQ (dD hU).1).imp λh=>yf h
 exact this.filter _
theorem Vc (f:c8 ls)(hU:aY n U=true)(hv:v∈U):(b7 ls U).length<=(b7 ls (eU U v)).length+(if ins ls U v=0 then 1 else 0):=by
 have nd:=wZ (ls:=ls) hU;by_cases hh:v∈b7 ls U
 ·by_cases i0:ins ls U v=0
  ·rw[if_pos i0]
   have:=dJ nd (m:=v::b7 ls (eU U v)) λx hx=>by
    by_cases e:x=v
    ·rw[e];exact dh
    ·exact fu _ (K0 hU hx e)
   rw[ie]at this;exact this
  ·rw[if_neg i0]
   obtain⟨w,hw⟩:∃w,w∈(aF ls v).filter λx=>decide (x∈U):=by
    cases e:(aF ls v).filter λx=>decide (x∈U) with
    |nil=>exact absurd (show ins ls U v=0 by unfold ins;rw[e];rfl) i0
    |cons a r=>exact⟨a,dh⟩
   obtain⟨w1,w2⟩:=cz.mp hw
   have w2:w∈U:=mw w2;have wv:w≠v:=λe=>f.Fx v (e▸w1)
   have wb:w∈eU U v:=oS.mpr ⟨w2,wv⟩;have cs:=iQ (ls:=ls) (h:=w) (qP (h:=v) hU)
   obtain⟨a,ha⟩:∃a,(comp ls (eU U v) w).head? = some a:=by
    cases e:comp ls (eU U v) w with
    |nil=>have:=gS (ls:=ls) wb;rw[e]at this;cases this
    |cons a r=>exact⟨a,rfl⟩
   have am:=(kY cs ha).1;have ab:=tE a am;have YG:a∈b7 ls (eU U v):=fS.mpr ⟨ab,by rw[m8 (qP hU) am wb];exact ha⟩;have wc:w∈comp ls U v:=jU v (gS hv) w w1 w2;have ac:a∈comp ls U v:=by rw[<- m8 hU wc hv];exact LM a am
   have an:a∉b7 ls U:=λz=>by
    have h1:=(fS.mp z).2;rw[m8 hU ac hv,(fS.mp hh).2]at h1;exact (oS.mp ab).2 (jr h1).symm
   have BR:(a::(b7 ls U).erase v).Nodup:=oy.mpr ⟨λz=>an (List.mem_of_mem_erase z),nd.erase v⟩
   have:=dJ BR (m:=b7 ls (eU U v)) λx hx=>by
    rcases ff.mp hx with rfl|hx
    ·exact YG
    ·have h2:=(nd.mem_erase_iff).mp hx
     exact K0 hU h2.2 h2.1
   rw[ie,Ck hh]at this
   have:=DY hh
   omega
 ·have:=dJ nd (m:=b7 ls (eU U v)) λx hx=>K0 hU hx λe=>hh (e▸hx)
  omega
noncomputable def mu (ls:aa)(U:af):Int:=((ls.filter (iA U)).length:Int)-(U.length:Int)+((b7 ls U).length:Int)
theorem K1 (nd:U.Nodup)(hv:v∈U):(eU U v).length+1=U.length:=by
 have e:eU U v=U.erase v:=by
  unfold eU;rw[nd.erase_eq_filter];refine AQ λx _=>?_
  by_cases h:x=v<;>simp[h]
 rw[e,Ck hv]
 have:=DY hv
 omega
theorem Vb (f:c8 ls)(hU:aY n U=true)(hv:v∈U):mu ls U<=mu ls (eU U v)+wV (ins ls U v:Int):=by
 have a:=Vd hv (λl hl=>yf (f.lt l hl));have b:=Vc f hU hv;have c:=K1 ((gQ (dD hU).1).imp λh=>yf h) hv;unfold mu wV;by_cases i0:ins ls U v=0
 ·rw[if_pos i0]at b
  rw[if_neg (by omega)];omega
 ·rw[if_neg i0]at b
  by_cases i1:(ins ls U v:Int)-1>0
  ·rw[if_pos i1];omega
  ·rw[if_neg i1];omega
theorem K2 (f:c8 ls):∀(k:Nat) (T:af),T.length<=k->aY n T=true->J9 ls T->mu ls T<=0
 |0,T,hl,_,_=>by
  have:T = []:=List.length_eq_zero_iff.mp (by omega)
  subst this
  have:ls.filter (iA []) = []:=DZ.mpr λl _=>by simp[iA]
  unfold mu;rw[this];show (0:Int)-0+((([]:af).filter _).length:Int)<=0;simp
 |k+1,T,hl,hT,no=>by
  by_cases e:T = []
  ·exact K2 f k T (by rw[e];simp) hT no
  ·obtain⟨v,hv,hi⟩:∃v,v∈T/\ins ls T v<2:=ud λz=>e (no T (λh hh=>Dl λq=>z ⟨h,hh,q⟩) λ_ h=>h)
   have nd:T.Nodup:=(gQ (dD hT).1).imp λh=>yf h
   have bl:=K1 nd hv;have ih:=K2 f k (eU T v) (by omega) (qP hT) λU hU sub=>no U hU λx hx=>(oS.mp (sub x hx)).1
   have st:=Vb f hT hv
   have:wV (ins ls T v:Int)=0:=by unfold wV;rw[if_neg (by omega)]
   omega
end
def qS:bV:=λxs Q=>∃ws ls,xs = [bG ws ls]/\Wb ws ls/\Q (.lst (bp (kH ls (bj ws.length))))
def LL:aO:=(bY (aB (wN λ_=>False) (a6 (a5 0) (a6 (aB wJ (a6 (a5 0) (a6 (gL a9) a9))) a9))))
theorem Va:dC LL ["web"] qS:=by
 rintro xs Q ⟨ws,ls,rfl,wb,q⟩;have eu:=wb.eu;have e:cI ws.length []=bj ws.length:=xk.mpr λx _=>by simp
 have rs:=Mj ws.length;refine⟨_,rfl,_,rfl,by show 0<=1000;decide,rfl,ws,ls,_,[],rfl,.inl rfl,by decide,by omega,ws,ls,_,cI ws.length [],rfl,wb,.inl rfl,?_,λ_=>⟨trivial,?_⟩,λz=>?_⟩
 ·rw[e,cH];omega
 ·rw[e];exact q
 ·rw[e,rs]at z;cases z
abbrev Wys:=List (Int×af)
section
variable {ls:aa}{l:Int×Int}{n:Nat}{S U:af}{h x y:Int}
theorem K3:y∈aF (l::ls) x↔y∈aF ls x∨l=(x,y)∨l=(y,x):=by
 rw[L2.eL,L2.eL,ff,ff];constructor
 ·rintro ((e|e)|(e|e))
  ·exact .inr (.inl e.symm)
  ·exact .inl (.inl e)
  ·exact .inr (.inr e.symm)
  ·exact .inl (.inr e)
 ·rintro ((e|e)|(e|e))
  ·exact .inl (.inr e)
  ·exact .inr (.inr e)
  ·exact .inl (.inl e.symm)
  ·exact .inr (.inl e.symm)
theorem tH (hS:aY n S=true)(hh:h∈S)(hU:fR ls S U)(hu:h∈U)(le:∀x∈U,x∈S->h<=x):h∈b7 ls S:=
 fS.mpr ⟨hh,G9 (iQ hS) (gS hh) λx hx=>le x ((iP.mp hx).2 U hU hu) (tE x hx)⟩
theorem K4 (hS:aY n S=true)(hh:h∈b7 ls S)(no:h∉b7 (l::ls) S):iA S l=true/\(l.1∈comp ls S h∨l.2∈comp ls S h):=by
 obtain⟨h1,h2⟩:=fS.mp hh
 have le:=(kY (iQ hS) h2).2;refine ud λhn=>no (tH hS h1 (U:=comp ls S h) (λx hx y hy yS=>?_) (gS h1) λx hx _=>by have:=le x hx;omega)
 rcases K3.mp hy with e|e|e
 ·exact jU x hx y e yS
 ·refine absurd ⟨?_,.inl (by rw[e];exact hx)⟩ hn
  unfold iA;rw[e,mv];exact⟨di (tE x hx),di yS⟩
 ·refine absurd ⟨?_,.inr (by rw[e];exact hx)⟩ hn
  unfold iA;rw[e,mv];exact⟨di yS,di (tE x hx)⟩
theorem x3 (hS:aY n S=true){a b z:Int}(ha:a∈b7 ls S)(hb:b∈b7 ls S)(za:z∈comp ls S a)(zb:z∈comp ls S b):a=b:=by
 obtain⟨a1,a2⟩:=fS.mp ha
 obtain⟨b1,b2⟩:=fS.mp hb
 rw[<- m8 hS za a1]at a2;rw[<- m8 hS zb b1,a2]at b2;exact jr b2
theorem LK (hS:aY n S=true){a b:Int}(ha:a∈b7 ls S)(hb:b∈b7 ls S)(la:l.1∈comp ls S a)(lb:l.2∈comp ls S b)(lt:a<=b):a∈b7 (l::ls) S:=by
 obtain⟨a1,a2⟩:=fS.mp ha
 obtain⟨b1,b2⟩:=fS.mp hb
 have Gx:=(kY (iQ hS) a2).2;have Gw:=(kY (iQ hS) b2).2;refine tH hS a1 (U:=comp ls S a++comp ls S b) (λx hx y hy yS=>?_) (fi.mpr (.inl (gS a1))) λx hx _=>?_
 ·rcases K3.mp hy with e|e|e
  ·rcases fi.mp hx with z|z
   ·exact fi.mpr (.inl (jU x z y e yS))
   ·exact fi.mpr (.inr (jU x z y e yS))
  ·rw[e]at lb;exact fi.mpr (.inr lb)
  ·rw[e]at la;exact fi.mpr (.inl la)
 ·rcases fi.mp hx with z|z
  ·have:=Gx x z;omega
  ·have:=Gw x z;omega
theorem LJ (hS:aY n S=true){a b:Int}(ha:a∈b7 ls S)(hb:b∈b7 ls S)(la:l.1∈comp ls S a)(lb:l.2∈comp ls S b)(lt:b<=a):b∈b7 (l::ls) S:=by
 obtain⟨a1,a2⟩:=fS.mp ha
 obtain⟨b1,b2⟩:=fS.mp hb
 have Gx:=(kY (iQ hS) a2).2;have Gw:=(kY (iQ hS) b2).2;refine tH hS b1 (U:=comp ls S a++comp ls S b) (λx hx y hy yS=>?_) (fi.mpr (.inr (gS b1))) λx hx _=>?_
 ·rcases K3.mp hy with e|e|e
  ·rcases fi.mp hx with z|z
   ·exact fi.mpr (.inl (jU x z y e yS))
   ·exact fi.mpr (.inr (jU x z y e yS))
  ·rw[e]at lb;exact fi.mpr (.inr lb)
  ·rw[e]at la;exact fi.mpr (.inl la)
 ·rcases fi.mp hx with z|z
  ·have:=Gx x z;omega
  ·have:=Gw x z;omega
theorem UZ (hS:aY n S=true){a b:Int}(ha:a∈b7 ls S)(na:a∉b7 (l::ls) S)(hb:b∈b7 ls S)(nb:b∉b7 (l::ls) S):a=b:=by
 rcases (K4 hS ha na).2 with la|la<;>rcases (K4 hS hb nb).2 with lb|lb
 ·exact x3 hS ha hb la lb
 ·rcases Int.le_total a b with z|z
  ·exact absurd (LK hS ha hb la lb z) na
  ·exact absurd (LJ hS ha hb la lb z) nb
 ·rcases Int.le_total a b with z|z
  ·exact absurd (LJ hS hb ha lb la z) na
  ·exact absurd (LK hS hb ha lb la z) nb
 ·exact x3 hS ha hb la lb
theorem UY (hS:aY n S=true):(b7 ls S).length<=(b7 (l::ls) S).length+(if iA S l=true then 1 else 0):=by
 have nd:=wZ (ls:=ls) hS;by_cases ex:∃a,a∈b7 ls S/\a∉b7 (l::ls) S
 ·obtain⟨a,ha,na⟩:=ex
  rw[if_pos (K4 hS ha na).1]
  have:=dJ nd (m:=a::b7 (l::ls) S) λx hx=>by
   by_cases nx:x∈b7 (l::ls) S
   ·exact fu _ nx
   ·rw[UZ hS hx nx ha na];exact dh
  rwa [ie]at this
 ·have:=dJ nd (m:=b7 (l::ls) S) λx hx=>ud λz=>ex ⟨x,hx,z⟩
  omega
theorem x4 (hS:aY n S=true):S.Nodup:=(gQ (dD hS).1).imp λh=>yf h
theorem K5 (hS:aY n S=true):∀ls:aa,S.length<=(b7 ls S).length+(ls.filter (iA S)).length
 |[]=>by
  refine og (dJ (x4 hS) (m:=b7 [] S) λx hx=>tH hS hx (U:=[x]) (λa _ b hb _=>?_) dh λy hy _=>?_) (Ad _ _)
  ·rcases L2.eL.mp hb with e|e<;>cases e
  ·rw[dt.mp hy];exact wo _
 |l::ls=>by
  have ih:=K5 hS ls
  have:=UY (ls:=ls) (l:=l) hS
  rw[qg];split<;>rename_i e
  ·rw[if_pos e]at this;rw[ie];omega
  ·rw[if_neg e]at this;omega
def iB (ls:aa)(l:Int×Int):aa:=ls.filter λm=>!decide (m=l)
theorem qT {m:Int×Int}:m∈iB ls l↔m∈ls/\m≠l:=by
 unfold iB;rw[cz,yz,zg]
theorem LH:∀{ls:aa},l∈ls->ls.Nodup->(iB ls l).length+1<=ls.length
 |m::r,hl,nd=>by
  unfold iB;rw[qg];rcases ff.mp hl with e|e
  ·subst e
   rw[di rfl]
   have:=yg (λm=>!decide (m=l)) r
   simp only[ie,Bool.not_true,oz,me];omega
  ·have ih:=LH e (oy.mp nd).2
   unfold iB at ih;split
   ·rw[ie,ie];omega
   ·rw[ie];omega
theorem UX (t:l.1∈U↔l.2∈U)(c:fR (iB ls l) S U):fR ls S U:=λx hx y hy yS=>by
 by_cases e:l=(x,y)
 ·rw[e]at t;exact t.mp hx
 ·by_cases e2:l=(y,x)
  ·rw[e2]at t;exact t.mpr hx
  ·refine c x hx y ?_ yS
   rcases L2.eL.mp hy with z|z
   ·exact L2.eL.mpr (.inl (qT.mpr ⟨z,λq=>e q.symm⟩))
   ·exact L2.eL.mpr (.inr (qT.mpr ⟨z,λq=>e2 q.symm⟩))
theorem K6 (c:fR ls S U):fR (iB ls l) S U:=λx hx y hy yS=>by
 refine c x hx y ?_ yS;rcases L2.eL.mp hy with z|z
 ·exact L2.eL.mpr (.inl (qT.mp z).1)
 ·exact L2.eL.mpr (.inr (qT.mp z).1)
theorem UW (t:∀U,fR (iB ls l) S U->(l.1∈U↔l.2∈U)):b7 (iB ls l) S=b7 ls S:=by
 have e:∀h,comp (iB ls l) S h=comp ls S h:=λh=>by
  refine AQ λx _=>?_
  rw[xf];constructor
  ·intro z;exact @di _ (Classical.propDecidable _) λU hU hh=>(@mw _ (Classical.propDecidable _) z) U (K6 hU) hh
  ·intro z;exact @di _ (Classical.propDecidable _) λU hU hh=>(@mw _ (Classical.propDecidable _) z) U (UX (t U hU) hU) hh
 unfold b7 tF;refine AQ λx _=>?_
 rw[e]
def cF (n:Nat)(ls:aa):Prop:=ls.length+(b7 ls (bj n)).length=n
theorem l9 (n:Nat):aY n (bj n)=true:=by
 have:=WM n λ_=>true
 rwa [xk.mpr λ_ _=>rfl]at this
theorem UU (w:cF n ls)(nd:ls.Nodup)(hl:l∈ls):¬ ∀U,fR (iB ls l) (bj n) U->(l.1∈U↔l.2∈U):=λt=>by
 have h1:=K5 (l9 n) (iB ls l);rw[UW t,cH]at h1;have h2:=yg (iA (bj n)) (iB ls l);have h3:=LH hl nd;unfold cF at w;omega
end
abbrev bZ:=List (Int×Option Int)
def aD (ls:aa)(h:Int)(e:Option Int):af:=(aF ls h).filter λx=>!decide (some x=e)
theorem eQ {ls:aa}{h x:Int}{e:Option Int}:x∈aD ls h e↔x∈aF ls h/\some x≠e:=by
 unfold aD;rw[cz,yz,zg]
structure iC (n:Nat)(ls:aa)(P:bZ)(t:Nat):Prop where
 nd:(P.map (·.1)).Nodup
 fe:∀p∈P,p.1∈bj n
 par:∀(i:Nat) (h e:Int),P[i]? = some (h,some e)->∃(j:Nat) (q:Option Int),j<i/\j<t/\P[j]? = some (e,q)/\e∈aF ls h
 done:∀(i:Nat) (h:Int) (e:Option Int),i<t->P[i]? = some (h,e)->∀x∈aF ls h,e=some x∨(x,some h)∈P
 root:∀h,(h,none)∈P↔h∈b7 ls (bj n)
structure Rt0 (n:Nat)(ls:aa)(P:bZ):Prop where
 nd:(P.map (·.1)).Nodup
 mem:∀h,h∈P.map (·.1)↔h∈bj n
 par:∀(i:Nat) (h e:Int),P[i]? = some (h,some e)->∃(j:Nat) (q:Option Int),j<i/\P[j]? = some (e,q)/\e∈aF ls h
 done:∀h e,(h,e)∈P->∀x∈aF ls h,e=some x∨(x,some h)∈P
structure Rt (n:Nat)(ls:aa)(P:bZ):Prop extends Rt0 n ls P where
 root:∀h,(h,none)∈P↔h∈b7 ls (bj n)
theorem fU {P:bZ}(nd:(P.map (·.1)).Nodup){i j:Nat}{h:Int}{e e':Option Int}(hi:P[i]? = some (h,e))(hj:P[j]? = some (h,e')):i=j/\e=e':=by
 have h1:(P.map (·.1))[i]? = some h:=by rw[gf,hi];rfl
 have h2:(P.map (·.1))[j]? = some h:=by rw[gf,hj];rfl
 have hl:i<(P.map (·.1)).length:=(gv.mp h1).1;have e0:i=j:=(List.getElem?_inj hl nd).mp (h1.trans h2.symm);subst e0;rw[hi]at hj
 exact⟨rfl,by cases hj;rfl⟩
theorem dL {P:bZ}{p:Int×Option Int}(h:p∈P):∃i:Nat,P[i]? = some p:=AR.mp h
theorem iD {P:bZ}(nd:(P.map (·.1)).Nodup){h:Int}{e e':Option Int}(hi:(h,e)∈P)(hj:(h,e')∈P):e=e':=by
 obtain⟨i,hi⟩:=dL hi
 obtain⟨j,hj⟩:=dL hj
 exact (fU nd hi hj).2
section
variable {n:Nat}{ls:aa}{P:bZ}{t:Nat}
theorem iC.yn (B:iC n ls P t){l:Int×Int}(lm:∀(i:Nat) (h e:Int),P[i]? = some (h,some e)->l≠(h,e)/\l≠(e,h)):∀(i:Nat) (x:Int) (q:Option Int),P[i]? = some (x,q)->∃r,r∈b7 ls (bj n)/\∀U,fR (iB ls l) (bj n) U->(x∈U↔r∈U):=by
 intro i
 induction i using Nat.strongRecOn with
 |ind i ih=>
  intro x q hi;cases q with
  |none=>exact⟨x,(B.root x).mp (fm hi),λ_ _=>Iff.rfl⟩
  |some e=>
   obtain⟨j,q,ji,_,hj,ee⟩:=B.par i x e hi
   obtain⟨r,hr,hu⟩:=ih j ji e q hj
   obtain⟨l1,l2⟩:=lm i x e hi
   have en:e∈aF (iB ls l) x:=by
    rcases L2.eL.mp ee with z|z
    ·exact L2.eL.mpr (.inl (qT.mpr ⟨z,λq=>l1 q.symm⟩))
    ·exact L2.eL.mpr (.inr (qT.mpr ⟨z,λq=>l2 q.symm⟩))
   refine⟨r,hr,λU hU=>(Iff.intro (λz=>hU x z e en (B.fe _ (fm hj))) λz=>hU e z x (lS en) (B.fe _ (fm hi))).trans (hu U hU)⟩
theorem iC.fresh (B:iC n ls P t)(w:cF n ls)(f:c8 ls){h:Int}{e:Option Int}(ht:P[t]? = some (h,e)){c:Int}(hc:c∈aD ls h e):c∉P.map (·.1):=by
 intro yw
 obtain⟨cn,ce⟩:=eQ.mp hc
 obtain⟨⟨c',q⟩,hm,rfl⟩:=dr.mp yw
 obtain⟨i,hi⟩:=dL hm
 have dq:h∈aF ls c':=lS cn;have IB:∀(i:Nat) (g:Int),P[i]? = some (g,some c')->g≠h:=λi g hg z=>by
  subst z;exact ce (fU B.nd hg ht).2
 have IA:∀(i:Nat) (g:Int),P[i]? = some (g,some h)->g≠c':=λi g hg z=>by
  obtain⟨j,q,_,jt,hj,_⟩:=B.par i g h hg
  have:=(fU B.nd hj ht).1
  omega
 obtain⟨l,hl,IX⟩:∃l,l∈ls/\(l=(h,c')∨l=(c',h)):=by
  rcases L2.eL.mp cn with z|z
  ·exact⟨_,z,.inl rfl⟩
  ·exact⟨_,z,.inr rfl⟩
 have lm:∀(i:Nat) (g e:Int),P[i]? = some (g,some e)->l≠(g,e)/\l≠(e,g):=λi g e hg=>by
  constructor<;>intro z<;>rcases IX with y|y<;>rw[z]at y<;>cases y
  ·exact IB i _ hg rfl
  ·exact IA i _ hg rfl
  ·exact IA i _ hg rfl
  ·exact IB i _ hg rfl
 obtain⟨r1,IT,u1⟩:=B.yn lm i c' q hi
 obtain⟨r2,QZ,u2⟩:=B.yn lm t h e ht
 have hS:=l9 n;have hh:h∈bj n:=B.fe _ (fm ht);have cc:c'∈comp ls (bj n) h:=jU h (gS hh) c' cn (B.fe _ hm);have k1:=(u1 _ (K6 jU)).mp cc;have k2:=(u2 _ (K6 (jU (ls:=ls) (S:=bj n) (h:=h)))).mp (gS hh);have e1:r1=r2:=by
  have c1:=m8 hS k1 hh;have c2:=m8 hS k2 hh;refine x3 hS IT QZ (z:=r1) (gS (fS.mp IT).1) ?_;rw[c2];exact k1
 refine UU w (Vn f.ord) hl λU hU=>?_
 have:=(u1 U hU).trans ((by rw[e1]:r1∈U↔r2∈U).trans (u2 U hU).symm)
 rcases IX with y|y<;>rw[y]
 ·exact this.symm
 ·exact this
theorem iC.step (B:iC n ls P t)(w:cF n ls)(f:c8 ls)(ir:∀h x,x∈aF ls h->x∈bj n){h:Int}{e:Option Int}(ht:P[t]? = some (h,e)):iC n ls (P++(aD ls h e).map λc=>(c,some h)) (t+1):=by
 have tl:t<P.length:=(gv.mp ht).1;have km:∀p∈(aD ls h e).map (λc=>(c,some h)),∃c∈aD ls h e,p=(c,some h):=λp hp=>let ⟨c,h1,h2⟩:=dr.mp hp;⟨c,h1,h2.symm⟩
 refine⟨?_,λp hp=>?_,λi g e' hi=>?_,λi g e' it hi x hx=>?_,λg=>?_⟩
 ·rw[gu,kq,xj]
  have e0:(aD ls h e).map ((λp:Int×Option Int=>p.1) ∘ λc=>(c,some h))=aD ls h e:=List.map_id'' (λ_=>rfl) _;rw[e0]
  exact⟨B.nd,(f.wx h).filter _,λa ha b hb z=>B.fresh w f ht hb (by rw[<- z];exact ha)⟩
 ·rcases fi.mp hp with z|z
  ·exact B.fe p z
  ·obtain⟨c,hc,rfl⟩:=km p z
   exact ir h c (eQ.mp hc).1
 ·by_cases il:i<P.length
  ·rw[tf il]at hi
   obtain⟨j,q,ji,jt,hj,en⟩:=B.par i g e' hi
   exact⟨j,q,ji,by omega,by rw[tf (by omega)];exact hj,en⟩
  ·rw[AS (by omega)]at hi
   obtain⟨c,hc,z⟩:=km _ (fm hi)
   cases z
   exact⟨t,e,by omega,by omega,by rw[tf tl];exact ht,lS (eQ.mp hc).1⟩
 ·rw[tf (by omega)]at hi
  by_cases e1:i=t
  ·subst e1
   rw[ht]at hi;cases hi;by_cases z:some x=e
   ·exact .inl z.symm
   ·exact .inr (fi.mpr (.inr (dr.mpr ⟨x,eQ.mpr ⟨hx,z⟩,rfl⟩)))
  ·exact (B.done i g e' (by omega) hi x hx).imp id λz=>fi.mpr (.inl z)
 ·rw[<- B.root g]
  refine⟨λz=>?_,λz=>fi.mpr (.inl z)⟩;rcases fi.mp z with z|z
  ·exact z
  ·obtain⟨c,_,z⟩:=km _ z
   cases z
theorem iC.start:iC n ls ((b7 ls (bj n)).map λh=>(h,none)) 0:=by
 have hS:=l9 n;refine⟨?_,λp hp=>?_,λi g e hi=>?_,λi g e it=>absurd it (by omega),λg=>?_⟩
 ·rw[kq,show (b7 ls (bj n)).map ((λp:Int×Option Int=>p.1) ∘ λh=>(h,none))=b7 ls (bj n) from List.map_id'' (λ_=>rfl) _]
  exact wZ hS
 ·obtain⟨h,hh,rfl⟩:=dr.mp hp
  exact (fS.mp hh).1
 ·obtain⟨h,_,z⟩:=dr.mp (fm hi)
  cases z
 ·refine⟨λz=>?_,λz=>dr.mpr ⟨g,z,rfl⟩⟩
  obtain⟨h,hh,z⟩:=dr.mp z
  cases z;exact hh
theorem iC.len (B:iC n ls P t):P.length<=n:=by
 have:=dJ B.nd (m:=bj n) λx hx=>by
  obtain⟨p,hp,rfl⟩:=dr.mp hx
  exact B.fe p hp
 rwa [df,cH]at this
theorem iC.all (B:iC n ls P P.length):Rt n ls P:=by
 have hS:=l9 n;have par:∀(i:Nat) (h e:Int),P[i]? = some (h,some e)->∃(j:Nat) (q:Option Int),j<i/\P[j]? = some (e,q)/\e∈aF ls h:=λi h e hi=>let ⟨j,q,a,_,b,c⟩:=B.par i h e hi;⟨j,q,a,b,c⟩
 have done:∀(h:Int) (e:Option Int),(h,e)∈P->∀x∈aF ls h,e=some x∨(x,some h)∈P:=λh e hm=>by
  obtain⟨i,hi⟩:=dL hm
  exact B.done i h e (gv.mp hi).1 hi
 refine⟨⟨B.nd,λh=>⟨λz=>?_,λz=>?_⟩,par,done⟩,B.root⟩
 ·obtain⟨p,hp,rfl⟩:=dr.mp z
  exact B.fe p hp
 ·have sh:fR ls (bj n) (P.map (·.1)):=λx hx y hy _=>by
   obtain⟨⟨x',e⟩,hp,rfl⟩:=dr.mp hx
   rcases done x' e hp y hy with z|z
   ·subst z
    obtain⟨i,hi⟩:=dL hp
    obtain⟨j,q,_,hj,_⟩:=par i x' y hi
    exact dr.mpr ⟨_,fm hj,rfl⟩
   ·exact dr.mpr ⟨_,z,rfl⟩
  obtain⟨r,hr⟩:∃r,(comp ls (bj n) h).head? = some r:=by
   cases e:comp ls (bj n) h with
   |nil=>have:=gS (ls:=ls) z;rw[e]at this;cases this
   |cons a r=>exact⟨a,rfl⟩
  have rm:=(kY (iQ hS) hr).1;have rs:=m8 hS rm z;have hd:r∈b7 ls (bj n):=fS.mpr ⟨tE _ rm,by rw[rs];exact hr⟩;have hc:h∈comp ls (bj n) r:=by rw[rs];exact gS z
  exact (iP.mp hc).2 _ sh (dr.mpr ⟨_,(B.root r).mpr hd,rfl⟩)
end
end Core
namespace L2
open PySem PySem.Spec PyProof.Rows SO
theorem UT {prog:ay}{w:ba}{A:az}{E:av->aw->Prop}{s:aw}{r:ax}{Q:Bool->aw->Prop}(h:Q true s):wpAny (model prog w) A (eqBool (.ref r) (.ref r)) Q E s:=by
 unfold eqBool;refine Al ?_;rw[if_pos (by simp)];exact bq (wpAny_rule (ei h))
def LG (K:ad):List V->Hp->VK->Prop:=λxs H Q=>∃(a:ax) (ys:List V) (key:V->Int),xs = [.ref a]/\aM K H a ys/\ys.length<64/\(∀y∈ys,∃b c,y = .ref b/\aW K H b [.int (key y),.ref c])/\(ys.map key).Nodup/\
 ∀l (zs:List V),H l=none->zs.Perm ys->zs.Pairwise (λu v=>key u<=key v)->Q (.ref l) (upd H l (.lst zs))
theorem US {X:Cx}:dU X (.builtin "sorted") (LG X.K):=by
 intro ag s σ H xs us Q I r h
 obtain⟨a,ys,key,rfl,hs,HG,hk,nd,q⟩:=h
 obtain⟨u,rfl,ru⟩:=iF r
 cases ru
 obtain⟨bh,rv,p,hz⟩:=I.list hs
 have hl:=rv.length;by_cases h2:bh.length<2
 ·refine zY p.isList h2 ?_
  obtain⟨e,he⟩:=sortedAll_at s.heap bh bh.toArray
  have hn:s.heap.objs.size<=s.heap.objs.size+1:=Nat.le_succ _;refine⟨.ref (s.heap.objs.size+1),upd H (s.heap.objs.size+1) (.lst ys),I.laid (t':=s.toks) (λ_ _=>sortedAll_old) hn ⟨hz,bh,e,rv,he⟩,rfl,q _ ys (I.cf.fresh hn) (Bc _) ?_⟩
  match ys,hl with
  |[],_=>exact wq
  |[_],_=>exact ot _ _
  |_::_::_,hl=>simp at hl;omega
 ·obtain⟨m,F⟩:=I.fr
  have hL:∀{b:ax}{k:List V},aW X.K H b k->b≠X.env.locals:=λ{b k} z e=>by
   obtain⟨its',_,⟨ob,e1,c1,_⟩,_⟩:=I.tuple z
   obtain⟨m',⟨o',DO,ET,e2,d2,_⟩,_⟩:=I.loc
   rcases z with (z|⟨_,z⟩)|⟨o3,GB,n3,z3,zc,zd,_⟩
   ·rw[e,I.free]at z;cases z
   ·rw[e,I.free]at z;cases z
   ·have:=I.BU b o3 z3
    rw[e,e2]at this;cases this;rw[d2]at zd;cases zd
  refine PySem.W.kat_sorted F (N8 (g:=X.base) (h:=s.heap) (L:=X.env.locals)) p.isList (by omega) (by omega) λD e1 h' F' N' hD=>?_
  have keep:=I.ow (λp hp=>fu _ hp) F' N';have one:∀{b c:ax}{k:Int},aW X.K H b [.int k,.ref c]->∃(ob:Obj) (t n:Nat),h'.get? b=some ob/\ob.cls = .type "tuple"/\ob.data = .seq (List.toArray [Value.int k t,.ref c]) n:=λ{b c k} sq=>by
   obtain⟨us,ru,⟨ob,e1,c1,n1,d1⟩,_⟩:=I.tuple sq
   cases ru with
   |cons r1 t1=>
    cases t1 with
    |cons r2 t2=>
     cases t2;cases r2
     obtain⟨tk,rfl⟩:=r1
     exact⟨ob,tk,n1,keep b ob (hL sq) e1,c1,d1⟩
  have look:∀i,i<ys.length->∃(b c:ax) (ob:Obj) (t n:Nat),ys.getD i .bw = .ref b/\bh.getD i Value.none = .ref b/\h'.get? b=some ob/\ob.data = .seq (List.toArray [Value.int (key (ys.getD i .bw)) t,.ref c]) n:=λi hi=>by
   have hy:ys.getD i .bw∈ys:=by
    rw[ju,gs hi];exact BD hi
   obtain⟨b,c,eb,sq⟩:=hk _ hy
   have rr:=uN i hi rv;rw[eb]at rr;have rr:bh.getD i Value.none = .ref b:=rr
   obtain⟨ob,t,n,g1,_,g3⟩:=one sq
   exact⟨b,c,ob,t,n,eb,rr,g1,g3⟩
  have Gy:∀i j,i<ys.length->j<ys.length->key (ys.getD i .bw)=key (ys.getD j .bw)->i=j:=λi j hi hj e=>by
   rw[ju,ju,gs hi,gs hj]at e;refine (List.getElem?_inj (by rw[df];exact hi) nd).mp ?_;rw[gf,gf,gs hi,gs hj];exact congrArg some e
  have yd:∀{xs:List V}{vs:List av},aQ xs vs->(∀y∈xs,∃b c,y = .ref b/\aW X.K H b [.int (key y),.ref c])->∃fs:List av,PySem.W.KatTups h' vs fs/\fs.length=vs.length/\∀v∈fs,∃i t,v=Value.int i t:=by
   intro xs vs r
   induction r with
   |nil=>intro _;exact⟨[],PySem.W.KatTups.nil,rfl,λ_ z=>nomatch z⟩
   |@cons x v xs vs rx rt ih=>
    intro hh
    obtain⟨fs,t1,t2,t3⟩:=ih λy hy=>hh y (fu _ hy)
    obtain⟨b,c,eb,sq⟩:=hh x dh
    obtain⟨ob,t,n,g1,g2,g3⟩:=one sq
    rw[eb]at rx;cases rx
    exact⟨Value.int (key x) t::fs,PySem.W.KatTups.cons g1 g2 g3 (by simp) t1,by simp[t2],λv hv=>(ff.mp hv).elim (λz=>⟨_,t,z⟩) (t3 v)⟩
  obtain⟨fs,t1,t2,t3⟩:=yd rv hk
  refine PySem.W.kat_kind (T:=.type "int") t1 (by omega) (λv hv=>?_) (by decide) ?_
  ·obtain⟨i,t,rfl⟩:=t3 v hv
   exact PySem.W.Looks.now
  let c:Nat->Nat->Bool:=λi j=>decide (key (ys.getD i .bw)<key (ys.getD j .bw))
  have O:An.uJ c:=⟨λ{i j} h=>fk (by have:=mw h;omega),λ{i j k} h1 h2=>fk (by have:=BG h1;have:=BG h2;omega)⟩;have ok:=An.Z2 (n:=bh.length) O (by omega);refine An.cR.run (I:=λs'=>s'={ s with heap:=h' }) (λi j C s' hi hj hI hC=>?_) (λpa s' hR hI=>?_) _ _ rfl ok
  ·subst hI
   obtain⟨b1,r1,o1,u1,n1,_,g1,g2,g4⟩:=look i (by omega)
   obtain⟨b2,r2,o2,u2,n2,_,k1,k2,k4⟩:=look j (by omega)
   show wpAny _ _ (keyLt' (tuples' (Value.type "int" != Value.type "tuple")) (bh.getD i Value.none) (bh.getD j Value.none)) _ _ _;rw[g1,k1];have eT:(Value.type "int" != Value.type "tuple")=true:=by decide
   rw[eT];refine PySem.W.kat_lt g2 g4 k2 k4 ?_;have HF:=hC _ rfl;have Gz:PySem.W.KatLex X.prog X.w X.A.in1.in1 true (decide ([Value.int (key (ys.getD i .bw)) u1,.ref r1].length<[Value.int (key (ys.getD j .bw)) u2,.ref r2].length)) C ([Value.int (key (ys.getD i .bw)) u1,.ref r1].zip [Value.int (key (ys.getD j .bw)) u2,.ref r2]) 0 { s with heap:=h' }:=by
    refine PySem.W.kat_cons (wpAny_eqBool_int ?_);by_cases e:key (ys.getD i .bw)=key (ys.getD j .bw)
    ·have eb:(key (ys.getD i .bw)==key (ys.getD j .bw))=true:=by simpa using e
     rw[eb];refine PySem.W.kat_yes ?_;have ij:=Gy i j (by omega) (by omega) e;subst ij;rw[g1]at k1;cases k1;rw[g2]at k2;cases k2;rw[g4]at k4;cases k4;refine PySem.W.kat_cons (UT ?_);refine PySem.W.kat_yes ?_
     have:c i i=false:=fk (by omega)
     rw[this]at HF;exact HF
    ·have eb:(key (ys.getD i .bw)==key (ys.getD j .bw))=false:=by simpa using e
     rw[eb];exact PySem.W.kat_no (PySem.W.kat_lt_int HF)
   simpa using Gz
  ·subst hI
   obtain⟨hp,CT⟩:=hR
   refine PySem.W.KasFin.intro F' N' (PySem.W.UpdF.head λp hp=>mr (hD p hp)) λh2 cc F2 N2=>?_
   have yt:=I.ow (λp hp=>fu _ hp) F2 N2;have HB:s.heap.get? D=none:=by
    cases z:s.heap.get? D with
    |none=>rfl
    |some o=>
     obtain⟨_,n1,n2⟩:=N2 (D,_) dh
     exact absurd (hD _ (xX n1 n2 z)) (uc _)
   have hpl:∀i∈pa.toList,i<ys.length:=λi hi=>by
    have:=BC.mp (hp.mem_iff.mp hi);omega
   have GU:pa.toList.Perm (List.range ys.length):=by rw[hl];exact hp
   have pm:=Z3 (d:=V.bw) ys GU
   obtain⟨HA,RB,RA⟩:=N2 (D,_) dh
   obtain⟨EN,I2⟩:=I.BS (t':=s.toks) (a:=D) (o:=.lst (pa.toList.map λi=>ys.getD i .bw)) HB yt (λm' zt=>by
     have e:m'=m:=funext λnm=>Heap.Ns.agree zt F.ns nm
     rw[e];exact F2.ns) ⟨by rw[pm.length_eq];exact hz,_,cc,zX rv hpl,HA⟩
   exact⟨.ref D,_,I2,rfl,q D _ EN pm (Z9 hp CT λi j hle=>Int.not_lt.mp (BG hle))⟩
end L2
namespace PP
open PySem L2
section
variable {X:Cx}{σ:St}{H:Hp}{Q':VK}{td tk tx:aG}{e o f:Expr}{tr:dI}{pos p2 ah ai:Pos}
def eW (r:Int×af):PV:=.tup [.int r.1,.tup (ao r.2)]
def K7:List PV->(PV->Prop)->Prop:=λxs Q=>∃rs:List (Int×af),xs = [.lst (rs.map eW)]/\rs.length<64/\(rs.map (·.1)).Nodup/\∀qs:List (Int×af),qs.Perm rs->qs.Pairwise (λu v=>u.1<v.1)->Q (.lst (qs.map eW))
def qU (H:Hp):V->Int
 |.ref a=>match H a with
  |some (.tup (.int p::_))=>p
  |_=>0
 |_=>0
theorem LF {K:ad}{M:ax->Prop}{H:Hp}:∀{us:List V}{rs:List (Int×af)},bb K M H us (rs.map eW)->Paired (λu r=>aH K M H u (eW r)) us rs
 |_,[],.nil=>.nil
 |_,r::rs,.cons h t=>.cons h (LF t)
theorem LD {K:ad}{M:ax->Prop}{H:Hp}:∀{us:List V}{rs:List (Int×af)},Paired (λu r=>aH K M H u (eW r)) us rs->bb K M H us (rs.map eW)
 |_,_,.nil=>.nil
 |_,_,.cons h t=>.cons h (LD t)
theorem LC {K:ad}{M:ax->Prop}{H:Hp}{u:V}{r:Int×af}(h:aH K M H u (eW r)):qU H u=r.1/\∃b c,u = .ref b/\H b=some (.tup [.int (qU H u),.ref c]):=by
 obtain⟨a,us,rfl,e,r1⟩:=h.qj
 cases r1 with
 |cons h1 t1=>
  cases t1 with
  |cons h2 t2=>
   cases t2;cases h1
   obtain⟨b,ws,rfl,_,_⟩:=h2.qj
   have:qU H (.ref a)=r.1:=by unfold qU;dsimp only;rw[e]
   exact⟨this,a,b,rfl,by rw[this];exact e⟩
theorem K8 {K:ad}{M:ax->Prop}{H:Hp}:∀{us:List V}{rs:List (Int×af)},Paired (λu r=>aH K M H u (eW r)) us rs->us.map (qU H)=rs.map (·.1)
 |_,_,.nil=>rfl
 |_,_,.cons h t=>by rw[ib,ib,K8 t,(LC h).1]
theorem UR (rs:List (Int×af)):flats (rs.map eW)=true:=by
 induction rs with
 |nil=>rfl
 |cons r rs ih=>
  show (flat (eW r)&&flats (rs.map eW))=true;rw[ih,Ak];show flats [.int r.1,.tup (ao r.2)]=true;show (true&&(flats (ao r.2)&&true))=true;rw[cS];rfl
theorem UQ:gU X K7 (LG X.K):=by
 rintro H vs xs Q Q' r ⟨rs,rfl,hl,nd,q⟩ k
 obtain⟨v,rfl,r1⟩:=r.one
 obtain⟨a,us,rfl,_,h,r2⟩:=r1.oo
 have lr:=r2.length;rw[df]at lr;have pd:=LF r2;have hk:=K8 pd;refine⟨a,us,qU H,rfl,aM.of h,by omega,λy hy=>?_,by rw[hk];exact nd,λl zs mq pm so=>?_⟩
 ·obtain⟨r,_,hr⟩:=LP pd y hy
  obtain⟨_,b,c,rfl,e⟩:=LC hr
  exact⟨b,c,rfl,aW.of e⟩
 ·obtain⟨qs,pq,pz⟩:=Vf pm.symm pd
  refine k _ _ _ (bL mq _) (.lst mq bA (((LD pz).flat (UR qs)).same (bL mq _) λ_ z=>z)) (q qs pq ?_);have Qu:(qs.map (·.1)).Nodup:=(pq.map _).nodup_iff.mpr nd;have le:(qs.map (·.1)).Pairwise (· <= ·):=by rw[<- K8 pz,uw];exact so
  have:=List.Pairwise.and le Qu
  rw[uw]at this;exact this.imp λz=>Int.lt_iff_le_and_ne.mpr ⟨z.1,z.2⟩
theorem UP (B:Bt X.mg)(ha:QA X [e] tr)(hg:Gl X "sorted":=by rfl)(he:starEach [e] X.env=(false,eval e X.env)::starEach [] X.env:=by rfl)(hpl:(backTo pos (starEach [] X.env)).any (·.1)=false:=by rfl):QE X (.Call (.Name "sorted" p2) [e] [] pos) (aB K7 tr):=
 jP US UQ hg B.sorted Fd ha (he:=he) (hpl:=hpl)
def K9 (td tk tx:aG):aG:=λρ Q=>td ρ λx _=>∃ps,x = .dK ps/\tk ρ λy _=>tx ρ λz _=>∃k,y=kP k/\Q ((bX ps k).getD z) .rd
theorem UO (h:LE X (K9 td tk tx) σ H Q'):X5 (LE X td) (LE X tk) (LE X tx) σ H Q':=by
 obtain⟨W,ρ,Q,px,q,k⟩:=h
 refine⟨W,ρ,_,px,q,?_⟩;rintro v H1 x g s r ⟨ps,rfl,q⟩;have r0:=r;cases r with
 |@dK a bf _ m h e rr=>
  refine⟨a,rfl,.inl ⟨bf,.inl h⟩,W,ρ,_,px.mono s,q,λw H2 y g' s2 r2 q2=>⟨W,ρ,_,(px.mono s).mono s2,q2,?_⟩⟩;rintro w3 H3 z gz s3 r3 ⟨kk,rfl,q⟩
  obtain⟨a',o',ea,dg,h1,h2⟩:=v3 (.inl ⟨ps,kk,rfl,rfl,rfl⟩) (r0.same (s2.trans s3) λ_ z=>z) (r2.same s3 λ_ z=>z)
  cases ea;refine⟨o',dg,?_⟩;cases hv:bX ps kk with
  |none=>
   rw[hv]at q;rw[h1 hv];exact k _ _ _ .rd ((s.trans s2).trans s3) (r3.same (aE.refl _) λ_ _=>trivial) q
  |some z'=>
   rw[hv]at q
   obtain⟨u,rfl,ru⟩:=h2 z' hv
   exact k _ _ _ .rd ((s.trans s2).trans s3) (ru.same (aE.refl _) λ_ _=>trivial) q
theorem UN (hu:X.A.units+1<cLine)(ho:QE X o td)(he:QE X e tk)(hf:QE X f tx)(m:M2 X o "get" ah e f ai:=by exact⟨rfl,rfl,rfl,rfl⟩):QE X (.Call (.Attribute o "get" ah) [e,f] [] ai) (K9 td tk tx):=cG (aL4 hu ho he hf m) λ_ _ _=>UO
end
end PP
namespace Core
open PySem L2 PP
theorem e9.inr {n:Nat}{ls:aa}(lk:e9 n ls)(x y:Int)(hy:y∈aF ls x):y∈bj n:=by
 rcases L2.eL.mp hy with z|z
 ·have:=lk.1 _ z;exact bO.mpr ⟨by dsimp only at this;omega,by dsimp only at this;omega⟩
 ·have:=lk.1 _ z;exact bO.mpr ⟨by dsimp only at this;omega,by dsimp only at this;omega⟩
theorem e9.Az {n:Nat}{ls:aa}(lk:e9 n ls)(x:Int):(aF ls x).length<=n:=by
 have:=dJ (lk.fit.wx x) (m:=bj n) λy hy=>lk.inr x y hy
 rwa [cH]at this
def x5:bV:=λxs Q=>∃ws ls,xs = [bG ws ls]/\Wb ws ls/\(cF ws.length ls->Q (.bl true))/\(¬cF ws.length ls->Q (.bl false))
def LB:aO:=(bY (jO (aB cC (a6 (bI (a5 0) (qC (.int 1))) a9)) (iY (aB gR (a6 (a5 0) a9)) (aB cC (a6 (aB qS (a6 (a5 0) a9)) a9)))))
theorem UM:dC LB ["web"] x5:=by
 rintro xs Q ⟨ws,ls,rfl,wb,q1,q2⟩;refine⟨_,rfl,_,_,_,rfl,rfl,rfl,_,_,rfl,rfl,_,rfl,ws,ls,rfl,_,rfl,ws,ls,rfl,wb,_,_,rfl,rfl,_,_,rfl,rfl,.inl ⟨_,_,rfl,rfl,trivial,?_⟩⟩;have a:(b6 ls).length=ls.length:=df _;have b:(bp (kH ls (bj ws.length))).length=(b7 ls (bj ws.length)).length:=by rw[cM];unfold kH;rw[df]
 show Q (.bl (decide (((b6 ls).length:Int)=(ws.length:Int)-((bp (kH ls (bj ws.length))).length:Int))));rw[a,b];by_cases w:cF ws.length ls
 ·have:=q1 w
  unfold cF at w;rw[di (by omega)];exact this
 ·have:=q2 w
  unfold cF at w;rw[fk (by omega)];exact this
def lC:bV:=λxs Q=>∃(n:Nat) (ls:aa) (h:Int) (e:Option Int),xs = [.lst (cA n ls),.int h,eN e]/\0<=h/\h<(n:Int)/\(aF ls h).length<=1000/\Q (.lst (ao (aD ls h e)))
def Lz:aO:=(bY (c9 (cD (bI (a5 0) (a5 1))) [none,some 2] (bW 0) (bH (q2 J0 (a5 0) (a5 1))) (a5 0)))
theorem UL:dC Lz ["around","hearth","elder"] lC:=by
 rintro xs Q ⟨n,ls,h,e,rfl,h0,h1,hl,q⟩;refine⟨_,rfl,_,rfl,_,_,_,rfl,rfl,vX h0 h1,ao (aF ls h),rfl,(λz=>by cases z),by rw[bE];omega,λi acc=>acc=ao (((aF ls h).take i).filter λx=>!decide (some x=e)),rfl,?_,?_⟩
 ·rintro i y acc hy rfl
  obtain⟨x,rfl,hx⟩:=hG hy
  have tk:=nA (p:=λx=>!decide (some x=e)) hx;refine⟨_,rfl,_,rfl,x,e,rfl,rfl,_,rfl,?_⟩;by_cases z:some x=e
  ·rw[di z.symm]
   refine bK ?_;dsimp only;rw[tk,di z];exact (vb _).symm▸rfl
  ·rw[fk λy=>z y.symm]
   refine bP ⟨_,rfl,trivial,?_⟩;dsimp only;rw[tk,fk z,fE];rfl
 ·rintro acc rfl
  rw[bE,qu (de _)]
  exact⟨trivial,q⟩
def x6 (p:Int×Option Int):PV:=.tup [.int p.1,eN p.2]
def eC (P:bZ):List PV:=P.map x6
theorem jV (P:bZ):(eC P).length=P.length:=df _
theorem Ly {P:bZ}{i:Nat}{p:Int×Option Int}(h:P[i]? = some p):L2.ma (eC P) (i:Int)=some (x6 p):=jJ (by unfold eC;rw[gf,h];rfl)
def Lx:aO:=(pN (bH (pY (a5 3) (aB cC (a6 (a5 2) a9))))
  (aI (b8 4 (bI (bI (a5 2) (a5 3)) (qC (.int 0))))
  (aI (uW 2 (c9 (cD (aB lC (a6 (a5 1) (a6 (a5 4) (a6 (bI (bI (a5 2) (a5 3)) (qC (.int 1))) a9))))) [none,some 4] (bW 0) dB (gL (a6 (a5 0) (a6 (a5 1) a9)))))
  (b8 3 (fX (a5 3) (qC (.int 1)))))))
section
variable {ws:af}{ls:aa}{E:k9}{s0:Option Slot}{n:Nat}
theorem Lw (P:bZ):flats (eC P)=true:=by
 induction P with
 |nil=>rfl
 |cons p P ih=>
  show (flat (x6 p)&&flats (eC P))=true;rw[ih,Ak]
  obtain⟨h,e⟩:=p
  cases e<;>rfl
theorem UK (zk:n<=40)(lk:e9 n ls)(w:cF n ls)(k:∀P y3 y4,Rt n ls P->E.nx [s0,some (.sh true (.lst (cA n ls))),some (.own (.lst (eC P))),y3,y4]){y4:Option Slot} :
  Lx E [s0,some (.sh true (.lst (cA n ls))),some (.own (.lst (eC ((b7 ls (bj n)).map λh=>(h,none))))),si 0,y4]:=by
 refine⟨λm ρ=>∃(P:bZ) (t:Nat) (y4:Option Slot),ρ = [s0,some (.sh true (.lst (cA n ls))),some (.own (.lst (eC P))),si t,y4]/\iC n ls P t/\t<=P.length/\m=n-t,⟨_,_,0,y4,rfl,iC.start,ng _,rfl⟩,?_⟩;rintro m ρ ⟨P,t,y4,rfl,B,tl,rfl⟩;have pl:=B.len;refine⟨_,rfl,_,rfl,_,_,rfl,rfl,_,_,rfl,rfl,_,rfl,?_⟩;rw[jV];by_cases lt:t<P.length
 ·rw[di (by omega)]
  obtain⟨⟨h,e⟩,ht⟩:∃p,P[t]? = some p:=⟨_,gs lt⟩
  have hr:=bO.mp (B.fe _ (fm ht));dsimp only at hr;have nl:=lk.Az h;refine bP ⟨_,rfl,_,rfl,_,_,_,rfl,rfl,Ly ht,_,_,_,rfl,rfl,rfl,rfl,?_⟩;refine⟨eC P,rfl,_,rfl,_,rfl,_,rfl,_,rfl,_,_,_,rfl,rfl,Ly ht,_,_,_,rfl,rfl,rfl,n,ls,h,e,rfl,hr.1,hr.2,by omega,ao (aD ls h e),rfl,(λz=>by cases z),?_,λi acc=>acc=eC (((aD ls h e).take i).map λc=>(c,some h)),rfl,?_,?_⟩
  ·rw[bE];have:=yg (λx=>!decide (some x=e)) (aF ls h);unfold aD;omega
  ·rintro i y acc hy rfl
   obtain⟨c,rfl,hc⟩:=hG hy
   refine⟨_,rfl,_,rfl,by show 2<=1000;decide,rfl,trivial,?_⟩;dsimp only;rw[nq,hc,gu];unfold eC;rw[gu];rfl
  ·rintro acc rfl
   rw[bE,qu (de _)];have kl:(aD ls h e).length<=n:=by have:=yg (λx=>!decide (some x=e)) (aF ls h);unfold aD;omega
   refine⟨_,.inr rfl,.inr (Lw _),by rw[jV,jV,df];omega,_,rfl,_,_,rfl,rfl,trivial,n-(t+1),by omega,P++(aD ls h e).map (λc=>(c,some h)),t+1,si h,?_,B.step w lk.fit (λh x=>lk.inr h x) ht,by rw[jg];omega,rfl⟩;unfold eC;rw[<- gu];rfl
 ·rw[fk (by omega)]
  have:t=P.length:=by omega
  subst this;exact bK (k P _ _ B.all)
end
structure TL (k:Nat)(gj:aa):Prop where
 fe:∀l∈gj,0<=l.1/\l.1<l.2/\l.2<(k:Int)
 nd:(gj.map (·.2)).Nodup
 eu:gj.length<=k
theorem TL.same {k:Nat}{gj:aa}(h:TL k gj):TL (k+1) gj:=⟨λl hl=>by have:=h.fe l hl;omega,h.nd,by have:=h.eu;omega⟩
theorem TL.app {k:Nat}{gj:aa}(h:TL k gj){e:Int}(e0:0<=e)(e1:e<(k:Int)):TL (k+1) (gj++[(e,(k:Int))]):=by
 refine⟨λl hl=>?_,?_,by rw[jg,uy];have:=h.eu;omega⟩
 ·rcases fi.mp hl with z|z
  ·have:=h.fe l z;omega
  ·rw[dt.mp z];dsimp only;omega
 ·rw[gu,xj]
  refine⟨h.nd,ot _ _,λa ha b hb e=>?_⟩
  obtain⟨l,hl,rfl⟩:=dr.mp ha
  rw[List.map_singleton,dt]at hb
  have:=h.fe l hl
  omega
theorem TL.snd {k:Nat}{gj:aa}(h:TL k gj){a b c:Int}(ha:(a,c)∈gj)(hb:(b,c)∈gj):a=b:=by
 obtain⟨i,hi⟩:=AR.mp ha
 obtain⟨j,hj⟩:=AR.mp hb
 have h1:(gj.map (·.2))[i]? = some c:=by rw[gf,hi];rfl
 have h2:(gj.map (·.2))[j]? = some c:=by rw[gf,hj];rfl
 have:=(List.getElem?_inj (gv.mp h1).1 h.nd).mp (h1.trans h2.symm)
 subst this;rw[hi]at hj;exact (Prod.mk.inj (jr hj)).1
theorem TL.Qv {k:Nat}{gj:aa}(h:TL k gj):gj.Nodup:=(uw.mp h.nd).imp λz e=>z (by rw[e])
structure Pl (m:Nat)(p:Int->Int):Prop where
 fe:∀i,0<=i->i<(m:Int)->0<=p i/\p i<(m:Int)
 inj:∀i j,0<=i->i<(m:Int)->0<=j->j<(m:Int)->p i=p j->i=j
 Gj:∀x,x∈bj m->∃i,0<=i/\i<(m:Int)/\p i=x
def hJ (p:Int->Int)(l:Int×Int):Int×Int:=(min (p l.1) (p l.2),max (p l.1) (p l.2))
theorem UJ {m:Nat}{p:Int->Int}{gj:aa}(P:Pl m p)(T:TL m gj):∀l∈gj.map (hJ p),0<=l.1/\l.1<l.2/\l.2<(m:Int):=by
 intro l0 He
 obtain⟨l,hl,rfl⟩:=dr.mp He
 have h:=T.fe l hl;have a:=P.fe l.1 (by omega) (by omega);have b:=P.fe l.2 (by omega) (by omega);have c:p l.1≠p l.2:=λe=>by have:=P.inj _ _ (by omega) (by omega) (by omega) (by omega) e;omega
 unfold hJ;dsimp only;omega
theorem L0 {p:Int->Int}{l:Int×Int}{x y:Int}(e:hJ p l=(x,y)∨hJ p l=(y,x)):(p l.1=x/\p l.2=y)∨(p l.1=y/\p l.2=x):=by
 unfold hJ at e;rcases e with e|e<;>(have e1:=(Prod.mk.inj e).1;have e2:=(Prod.mk.inj e).2;omega)
theorem UI {m:Nat}{p:Int->Int}{gj:aa}(P:Pl m p)(T:TL m gj):(gj.map (hJ p)).Nodup:=by
 refine uw.mpr (T.Qv.imp_of_mem λ{a b} ha hb xa e=>xa ?_);have h1:=T.fe a ha;have h2:=T.fe b hb;rcases L0 (x:=(hJ p b).1) (y:=(hJ p b).2) (.inl e) with⟨c,d⟩|⟨c,d⟩<;>rcases L0 (p:=p) (l:=b) (x:=(hJ p b).1) (y:=(hJ p b).2) (.inl rfl) with⟨c',d'⟩|⟨c',d'⟩
 ·exact Prod.ext (P.inj _ _ (by omega) (by omega) (by omega) (by omega) (c.trans c'.symm)) (P.inj _ _ (by omega) (by omega) (by omega) (by omega) (d.trans d'.symm))
 ·have e1:=P.inj a.1 b.2 (by omega) (by omega) (by omega) (by omega) (c.trans d'.symm)
  have e2:=P.inj a.2 b.1 (by omega) (by omega) (by omega) (by omega) (d.trans c'.symm);omega
 ·have e1:=P.inj a.1 b.2 (by omega) (by omega) (by omega) (by omega) (c.trans d'.symm)
  have e2:=P.inj a.2 b.1 (by omega) (by omega) (by omega) (by omega) (d.trans c'.symm);omega
 ·exact Prod.ext (P.inj _ _ (by omega) (by omega) (by omega) (by omega) (c.trans c'.symm)) (P.inj _ _ (by omega) (by omega) (by omega) (by omega) (d.trans d'.symm))
theorem Lv {f:Int->Int->Prop}:∀{U:af},U≠[]->(∀x∈U,∃i,f x i)->∃x∈U,∃i,f x i/\∀y∈U,∃j,f y j/\j<=i
 |[x],_,h=>by
  obtain⟨i,hi⟩:=h x dh
  exact⟨x,dh,i,hi,λy hy=>by rw[dt.mp hy];exact⟨i,hi,wo _⟩⟩
 |x::z::r,_,h=>by
  obtain⟨i,hi⟩:=h x dh
  obtain⟨y,hy,j,hj,m⟩:=Lv (U:=z::r) (by simp) λy hy=>h y (fu _ hy)
  by_cases le:i<=j
  ·refine⟨y,fu _ hy,j,hj,λw hw=>?_⟩
   rcases ff.mp hw with e|e
   ·rw[e];exact⟨i,hi,le⟩
   ·exact m w e
  ·refine⟨x,dh,i,hi,λw hw=>?_⟩
   rcases ff.mp hw with e|e
   ·rw[e];exact⟨i,hi,wo _⟩
   ·obtain⟨k,hk,kl⟩:=m w e;exact⟨k,hk,by omega⟩
theorem UH {m:Nat}{p:Int->Int}{gj ls:aa}(P:Pl m p)(T:TL m gj)(pm:ls.Perm (gj.map (hJ p)))(f:c8 ls):J9 ls (bj m):=by
 intro U two sub;refine ud λne=>?_
 obtain⟨x,hx,i,⟨i0,i1,hi⟩,mx⟩:=Lv (f:=λx i=>0<=i/\i<(m:Int)/\p i=x) ne λx hx=>P.Gj x (sub x hx)
 obtain⟨a,b,na,nb,ua,ub,ab⟩:=Vg (f.wx x) (two x hx)
 have up:∀y,y∈aF ls x->y∈U->∃j,(j,i)∈gj/\p j=y:=λy hy hu=>by
  obtain⟨j,⟨j0,j1,hj⟩,ji⟩:=mx y hu
  obtain⟨l,hl,e⟩:∃l∈gj,hJ p l=(x,y)∨hJ p l=(y,x):=by
   rcases L2.eL.mp hy with z|z
   ·obtain⟨l,hl,e⟩:=dr.mp (pm.mem_iff.mp z);exact⟨l,hl,.inl e⟩
   ·obtain⟨l,hl,e⟩:=dr.mp (pm.mem_iff.mp z);exact⟨l,hl,.inr e⟩
  have h:=T.fe l hl;rcases L0 e with⟨c,d⟩|⟨c,d⟩
  ·have e1:=P.inj l.1 i (by omega) (by omega) i0 i1 (c.trans hi.symm)
   have e2:=P.inj l.2 j (by omega) (by omega) j0 j1 (d.trans hj.symm);omega
  ·have e1:=P.inj l.2 i (by omega) (by omega) i0 i1 (d.trans hi.symm)
   exact⟨l.1,by rw[<- e1];exact hl,c⟩
 obtain⟨j,hj,ej⟩:=up a na ua
 obtain⟨k,hk,ek⟩:=up b nb ub
 exact ab (by rw[<- ej,<- ek,T.snd hj hk])
theorem UG {n:Nat}{ls:aa}(lk:e9 n ls)(no:J9 ls (bj n)):cF n ls:=by
 have h1:=K2 lk.fit n (bj n) (by rw[cH];exact de _) (l9 n) no;have h2:=K5 (l9 n) ls;have e:ls.filter (iA (bj n))=ls:=xk.mpr λl hl=>by
  have:=lk.1 l hl
  unfold iA;rw[di (bO.mpr ⟨by omega,by omega⟩),di (bO.mpr ⟨by omega,by omega⟩)];rfl
 unfold mu at h1;rw[e,cH]at h1;rw[e,cH]at h2;unfold cF;omega
def x8:bV:=λxs Q=>∃(ns:af) (m:Nat) (dg:Bool),xs = [.jo ns,.int m,.bl dg]/\ns.length<=63/\m<=40/\∀ps:af,ps.Perm (bj m)->Q (.lst (ao ps))
def Lu:aO:=(aI (b8 6 (aB oR (a6 (aB jS (a6 (a5 0) (a6 (qC (.int 3)) a9))) (a6 (fX (a5 5) (qC (.int 5))) a9))))
   (aI (dO (mS (a5 2)) (aI (b8 6 (a5 4))
    (b8 4 (mU (a5 4) (fX (a5 5) (qC (.int 1)))))) dZ)
   (wH 3 (gM (a5 6) (fX (a5 5) (qC (.int 1)))) (a5 5))))
def Ls:aO:=(aI (e6 3 (vY (a5 1)))
 (aI (b8 4 (aB jS (a6 (a5 0) (a6 (qC (.int 3)) a9))))
 (aI (dO (bH (jO (gM (mU (aB jS (a6 (a5 0) (a6 (qC (.int 1)) a9))) (qC (.int 3))) (qC (.int 2))) (qC (.int 1)))) (aI (e6 3 (fA a9))
  (fB (o8 (a5 1)) (bW 5)
   Lu)) dZ)
 (lU 3))))
theorem UE {ns:af}{s1 y6:Option Slot}{dg:Bool}{ps:af}{nb:Int}{k:Nat}{E:k9}(k40:k<40)(hp:ps.Perm (bj k))(nx:∀(ps:af) (nb:Int) (y6:Option Slot),ps.Perm (bj (k+1))->E.nx [some (.sh true (.jo ns)),s1,some (.sh true (.bl dg)),some (.own (.lst (ao ps))),si nb,si k,y6]) :
  Lu E [some (.sh true (.jo ns)),s1,some (.sh true (.bl dg)),some (.own (.lst (ao ps))),si nb,si k,y6]:=by
 have pl:=hp.length_eq;rw[cH]at pl;have fin:∀(sp nb:Int),(wH 3 (gM (a5 6) (fX (a5 5) (qC (.int 1)))) (a5 5)) E [some (.sh true (.jo ns)),s1,some (.sh true (.bl dg)),some (.own (.lst (ao ps))),si nb,si k,si sp]:=λsp nb=>by
  have h0:=Cd sp (show (k:Int)+1≠0 by omega);have h1:=Int.emod_lt_of_pos sp (show (0:Int)<(k:Int)+1 by omega);refine⟨ao ps,rfl,_,rfl,_,rfl,_,_,rfl,rfl,_,_,rfl,rfl,by show (0:Int)<(k:Int)+1;omega,(sp%((k:Int)+1)).toNat,by show PV.int (sp%((k:Int)+1))=_;rw[Int.toNat_of_nonneg h0],by rw[bE];omega,by rw[bE];omega,_,rfl,trivial,?_⟩;have e:(ao ps).take (sp%((k:Int)+1)).toNat++PV.int k::(ao ps).drop (sp%((k:Int)+1)).toNat=ao (ps.take (sp%((k:Int)+1)).toNat++(k:Int)::ps.drop (sp%((k:Int)+1)).toNat):=by
   unfold ao;rw[gu,List.map_take,ib,List.map_drop]
  have:=nx (ps.take (sp%((k:Int)+1)).toNat++(k:Int)::ps.drop (sp%((k:Int)+1)).toNat) nb (si sp) (by
   rw[kX];refine (List.perm_middle).trans ?_;rw[List.take_append_drop]
   exact (List.Perm.cons _ hp).trans (List.perm_append_singleton _ _).symm)
  rw[<- e]at this;exact this
 refine⟨_,rfl,_,ns,3,rfl,.inl rfl,by decide,_,rfl,_,_,rfl,rfl,_,_,rfl,by omega,by omega,λz _=>⟨trivial,?_⟩⟩;refine⟨_,rfl,_,rfl,?_⟩;cases dg with
 |false=>exact bK (fin z nb)
 |true=>exact bP ⟨_,rfl,trivial,_,rfl,_,rfl,_,_,rfl,rfl,_,_,rfl,rfl,⟨by show (0:Int)<(k:Int)+1;omega,by omega⟩,trivial,fin nb _⟩
theorem Lr (n:Nat):eR 0 n=ao (bj n):=by
 refine List.ext_getElem? λi=>?_
 by_cases h:i<n
 ·rw[C1 h]
  unfold ao;rw[gf,NS h,Bz];rfl
 ·rw[EZ (by rw[jN];omega),EZ (by rw[bE,cH];omega)]
theorem UD:dC Ls ["script","many","digits","places","number","k","spot"] x8:=by
 rintro xs Q ⟨ns,m,dg,rfl,hl,AA,q⟩;refine⟨_,rfl,m,rfl,by omega,by omega,rfl,?_,?_⟩
 ·show flats (eR 0 (m:Int).toNat)=true
  rw[Lr];exact cS _
 rw[Lr,qh];refine⟨_,rfl,_,ns,3,rfl,.inl rfl,by decide,trivial,?_⟩;dsimp only;generalize ns.getD (3:Int).toNat 0=nb;refine⟨_,rfl,_,ns,1,rfl,.inl rfl,by decide,_,_,rfl,rfl,⟨by decide,by decide⟩,_,_,rfl,rfl,(by show (0:Int)<2;decide),.inl ⟨_,_,rfl,rfl,_,rfl,?_⟩⟩;generalize (if false=true then _ else _:Bool)=b;cases b with
 |false=>exact bK ⟨_,rfl,trivial,q _ (Bc _)⟩
 |true=>
  refine bP ⟨by decide,rfl,rfl,rfl,?_⟩;refine⟨_,rfl,m,rfl,by omega,by omega,λk ρ=>∃(ps:af) (nb:Int) (y5 y6:Option Slot),ρ = [some (.sh true (.jo ns)),si m,some (.sh true (.bl dg)),some (.own (.lst (ao ps))),si nb,y5,y6]/\ps.Perm (bj k),⟨[],nb,none,none,rfl,Bc _⟩,?_,?_⟩
  ·rintro k y ρ hy ⟨ps,nb,y5,y6,rfl,hp⟩
   obtain⟨rfl,hk⟩:=mZ hy
   have hk:k<m:=by omega
   refine kG ?_;rw[Bz];exact UE (by omega) hp λps nb y6 h=>⟨ps,nb,si k,y6,rfl,h⟩
  ·rintro ρ ⟨ps,nb,y5,y6,rfl,hp⟩
   rw[jN,qh]at hp
   exact⟨_,rfl,trivial,q ps hp⟩
def Lq (mx:Int):bV:=λxs Q=>∃(ns:af) (most:Int),xs = [.jo ns,.int most]/\ns.length<=63/\0<=most/\most<=mx/\∀(n:Nat) ws ls,(n:Int)<=most->WL n ws ls->e9 n ls->cF n ls->Q (bG ws ls)
def Lp (R:List PV->(PV->Prop)->Prop):Prop:=∀(ls:aa) (Q:PV->Prop),ls.length<64->(∀wz:aa,wz.Perm ls->(wz.map two).Pairwise (λu v=>HT.gB v u=false)->Q (.lst (b6 wz)))->R [.lst (b6 ls)] Q
theorem UC:Lp oH:=λls Q eu q=>by
 refine⟨ls.map two,by rw[w5],by rw[df];exact eu,λy hy=>by obtain⟨l,_,rfl⟩:=dr.mp hy;exact List.cons_ne_nil _ _,λZ pz so=>?_⟩
 obtain⟨wz,rfl,pl⟩:=Nu pz
 have:=q wz pl so
 rw[w5]at this;exact this
def Lo:aO:=(aI (iW 4 (gL (a6 (a5 9) (a6 (a5 7) a9))))
   (aI (o6 5 (a5 9) (fX (bI (a5 5) (a5 9)) (qC (.int 1))))
   (o6 5 (a5 7) (fX (bI (a5 5) (a5 7)) (qC (.int 1))))))
def Ln:aO:=(dO (bH (v7 (gM (a5 8) (qC (.int 8))) (qC (.int 0)))) (aI (b8 9 (gM (mU (a5 8) (qC (.int 8))) (a5 7)))
   (aI (dO (bH (jO (gM (aB jS (a6 (a5 0) (a6 (qC (.int 1)) a9))) (qC (.int 3))) (qC (.int 1)))) (b8 9 (aB pQ (a6 (qC (.int 0)) (a6 (iY (iY (a5 7) (qC (.int 1))) (gM (mU (a5 8) (qC (.int 8))) (qC (.int 3)))) a9)))) dZ)
   Lo)) dZ)
def Lm:aO:=(aI (b8 8 (aB oR (a6 (bI (a5 6) (a5 7)) (a6 (a5 7) a9))))
  (aI (dO (mS (a5 3)) (b8 8 (mU (bI (a5 6) (a5 7)) (qC (.int 64)))) dZ)
  Ln))
def Ll (R:List PV->(PV->Prop)->Prop):aO:=(aI (pM 4 (b8 12 (c9 (cD (a5 4)) [none,none,some 10] (fO 0 1) dB (gL (a6 (aB pP (a6 (bI (a5 2) (a5 0)) (a6 (bI (a5 2) (a5 1)) a9))) (a6 (aB pQ (a6 (bI (a5 2) (a5 0)) (a6 (bI (a5 2) (a5 1)) a9))) a9))))))
 (bY (gL (a6 (aB iN (a6 (a5 11) a9)) (a6 (aB iN (a6 (aB R (a6 (a5 12) a9)) a9)) a9)))))
def Lk:aO:=(aI (b8 10 (aB x8 (a6 (a5 0) (a6 (a5 2) (a6 (a5 3) a9)))))
 (aI (e6 11 (qE (fA (a6 (qC (.int 0)) a9)) (a5 2)))
 (aI (fB (o8 (a5 2)) (bW 7)
  (o6 11 (bI (a5 10) (a5 7)) (gM (bI (a5 6) (a5 7)) (fX (bI (a5 5) (a5 7)) (qC (.int 2))))))
 (Ll oH))))
def Lj:aO:=(aI (b8 2 (aB wO (a6 (a5 0) (a6 (a5 1) a9))))
 (aI (b8 3 (jO (gM (mU (aB jS (a6 (a5 0) (a6 (qC (.int 1)) a9))) (qC (.int 8))) (qC (.int 2))) (qC (.int 1))))
 (aI (e6 4 (fA a9))
 (aI (e6 5 (qE (fA (a6 (qC (.int 0)) a9)) (a5 2)))
 (aI (e6 6 (sF (a5 0) (pX (qC (.int 4))) (pX (fX (qC (.int 4)) (a5 2)))))
 (aI (fB (sC (aB cC (a6 (a5 6) a9)) (a5 2)) (bW 7)
  (iW 6 (aB oR (a6 (aB jS (a6 (a5 0) (a6 (qC (.int 1)) a9))) (a6 (a5 7) a9)))))
 (aI (fB (sC (qC (.int 1)) (a5 2)) (bW 7)
  Lm)
 Lk)))))))
section
variable {ns:af}{m k:Nat}{dg:Bool}{cs jy:af}{gj:aa}{s1 y8 y9 jv md Cp:Option Slot}{E:k9}
theorem Li {e nb:Int}(hc:m<=cs.length)(hk:k<m)(AA:m<=40)(T:TL k gj)(cl:jy.length=m)(nn:NN jy)(e0:0<=e)(e1:e<(k:Int)){s0 s3 s6:Option Slot}(nx:∀(vj:aa) (qf:af),TL (k+1) vj->qf.length=m->NN qf->E.nx [s0,s1,si m,s3,some (.own (.lst (b6 vj))),some (.own (.lst (ao qf))),s6,si k,si nb,si e,jv,md,Cp]) :
  Lo E [s0,s1,si m,s3,some (.own (.lst (b6 gj))),some (.own (.lst (ao jy))),s6,si k,si nb,si e,jv,md,Cp]:=by
 have pl:(b6 gj).length=gj.length:=df _;have fw:=T.eu
 obtain⟨j,rfl⟩:∃j:Nat,e=j:=⟨e.toNat,by omega⟩
 refine⟨_,rfl,_,rfl,_,rfl,by show 2<=1000;decide,rfl,trivial,by rw[pl];omega,?_⟩;have a1:=kZ (ws:=jy) (j:=j) (by omega);refine⟨_,rfl,_,rfl,_,_,_,rfl,rfl,a1,_,_,rfl,rfl,_,rfl,_,rfl,j,j,rfl,?_,trivial,?_⟩
 ·rw[bE];unfold iH;rw[if_pos (by omega),if_pos (by omega)];rfl
 have q1:(ao jy).set j (.int (jy.getD j 0+1))=ao (jy.set j (jy.getD j 0+1)):=(List.map_set ..).symm;have n1:NN (jy.set j (jy.getD j 0+1)):=nn.set (by have:=nE nn j;omega) _;dsimp only;rw[q1];have l1:(jy.set j (jy.getD j 0+1)).length=m:=by rw[va];exact cl
 generalize jy.set j (jy.getD j 0+1)=Bv at n1 l1;have a2:=kZ (ws:=Bv) (j:=k) (by omega);refine⟨_,rfl,_,rfl,_,_,_,rfl,rfl,a2,_,_,rfl,rfl,_,rfl,_,rfl,k,k,rfl,?_,trivial,?_⟩
 ·rw[bE];unfold iH;rw[if_pos (by omega),if_pos (by omega)];rfl
 have q2:(ao Bv).set k (.int (Bv.getD k 0+1))=ao (Bv.set k (Bv.getD k 0+1)):=(List.map_set ..).symm;have n2:NN (Bv.set k (Bv.getD k 0+1)):=n1.set (by have:=nE n1 k;omega) _;dsimp only;rw[q2]
 have:=nx (gj++[((j:Int),(k:Int))]) (Bv.set k (Bv.getD k 0+1)) (T.app e0 e1) (by rw[va];exact l1) n2
 unfold b6 at this ⊢;rw[gu]at this;exact this
theorem Lh {nb:Int}(hc:m<=cs.length)(k1:1<=k)(hk:k<m)(AA:m<=40)(T:TL k gj)(cl:jy.length=m)(nn:NN jy){s3 s6:Option Slot}(nx:∀(y9:Option Slot) (vj:aa) (qf:af),TL (k+1) vj->qf.length=m->NN qf->E.nx [some (.sh true (.jo ns)),s1,si m,s3,some (.own (.lst (b6 vj))),some (.own (.lst (ao qf))),s6,si k,si nb,y9,jv,md,Cp]) :
  Ln E [some (.sh true (.jo ns)),s1,si m,s3,some (.own (.lst (b6 gj))),some (.own (.lst (ao jy))),s6,si k,si nb,y9,jv,md,Cp]:=by
 refine⟨_,rfl,_,_,rfl,rfl,(by show (0:Int)<8;decide),_,_,rfl,rfl,_,rfl,wM ?_ (nx y9 gj jy T.same cl nn)⟩;have e0:=Cd (nb/8) (show (k:Int)≠0 by omega);have e1:=Int.emod_lt_of_pos (nb/8) (show (0:Int)<(k:Int) by omega);refine⟨_,rfl,_,_,rfl,rfl,⟨by decide,by decide⟩,_,rfl,_,_,rfl,rfl,(by show (0:Int)<(k:Int);omega),trivial,?_⟩;refine⟨_,rfl,_,ns,1,rfl,.inl rfl,by decide,_,_,rfl,rfl,(by show (0:Int)<3;decide),.inl ⟨_,_,rfl,rfl,_,rfl,wM ?_ (Li hc hk AA T cl nn e0 e1 λl c a b d=>nx _ l c a b d)⟩⟩;refine⟨_,rfl,_,_,rfl,rfl,_,rfl,_,_,rfl,rfl,⟨by decide,by decide⟩,_,_,rfl,rfl,(by show (0:Int)<3;decide),_,_,rfl,rfl,_,_,rfl,trivial,?_⟩;have h0:=Cd (nb/8) (show (3:Int)≠0 by decide);dsimp only;generalize hz:(if (k:Int)-1-nb/8%3>0 then (k:Int)-1-nb/8%3 else 0)=z;have z0:0<=z:=by rw[<- hz];split<;>omega
 have z1:z<(k:Int):=by rw[<- hz];split<;>omega
 exact Li hc hk AA T cl nn z0 z1 λl c a b d=>nx _ l c a b d
theorem UB (hc:m<=cs.length)(k1:1<=k)(hk:k<m)(AA:m<=40)(T:TL k gj)(cl:jy.length=m)(nn:NN jy)(nx:∀(y8 y9:Option Slot) (vj:aa) (qf:af),TL (k+1) vj->qf.length=m->NN qf->E.nx [some (.sh true (.jo ns)),s1,si m,some (.sh true (.bl dg)),some (.own (.lst (b6 vj))),some (.own (.lst (ao qf))),some (.own (.lst (ao cs))),si k,y8,y9,jv,md,Cp]) :
  Lm E [some (.sh true (.jo ns)),s1,si m,some (.sh true (.bl dg)),some (.own (.lst (b6 gj))),some (.own (.lst (ao jy))),some (.own (.lst (ao cs))),si k,y8,y9,jv,md,Cp]:=by
 have a0:=kZ (ws:=cs) (j:=k) (by omega);refine⟨_,rfl,_,rfl,_,_,_,rfl,rfl,a0,_,rfl,_,_,rfl,by omega,by omega,λz _=>⟨trivial,?_⟩⟩;refine⟨_,rfl,_,rfl,?_⟩;cases dg with
 |false=>exact bK (Lh hc k1 hk AA T cl nn λy9 l c a b d=>nx _ y9 l c a b d)
 |true=>exact bP ⟨_,rfl,_,rfl,_,_,_,rfl,rfl,a0,_,_,rfl,rfl,⟨by decide,by decide⟩,trivial,Lh hc k1 hk AA T cl nn λy9 l c a b d=>nx _ y9 l c a b d⟩
theorem Lg {m:Nat}{ps:af}(hp:ps.Perm (bj m)):Pl m λi=>ps.getD i.toNat 0:=by
 have pl:=hp.length_eq;rw[cH]at pl;have nd:ps.Nodup:=hp.nodup_iff.mpr (x4 (l9 m));have gt:∀i:Int,0<=i->i<(m:Int)->ps[i.toNat]? = some (ps.getD i.toNat 0):=λi h0 h1=>by
  rw[ju,gs (by omega)];rfl
 refine⟨λi h0 h1=>bO.mp (hp.mem_iff.mp (fm (gt i h0 h1))),λi j h0 h1 g0 g1 e=>?_,λx hx=>?_⟩
 ·have:=(List.getElem?_inj (gv.mp (gt i h0 h1)).1 nd).mp ((gt i h0 h1).trans (by rw[gt j g0 g1];exact congrArg some e))
  omega
 ·obtain⟨i,hi⟩:=AR.mp (hp.mem_iff.mpr hx)
  have il:=(gv.mp hi).1;refine⟨i,by omega,by omega,?_⟩;show ps.getD (i:Int).toNat 0=x;rw[qh,ju,hi];rfl
theorem UA {R:List PV->(PV->Prop)->Prop}(hR:Lp R){ps ws:af}{s0 s3 s5 s6 y7:Option Slot}{Q:PV->Prop}(AA:m<=40)(T:TL m gj)(hp:ps.Perm (bj m))(wl:ws.length=m)(wn:NN ws)(q:∀ls,WL m ws ls->e9 m ls->cF m ls->Q (bG ws ls)) :
  Ll R { nx:=λ_=>Q .bw,rt:=Q } [s0,s1,si m,s3,some (.own (.lst (b6 gj))),s5,s6,y7,y8,y9,some (.sh true (.lst (ao ps))),some (.own (.lst (ao ws))),Cp]:=by
 have P:=Lg hp;have pl:=hp.length_eq;rw[cH]at pl;have fw:=T.eu;have Iw:(b6 gj).length=gj.length:=df _;refine⟨_,rfl,_,rfl,b6 gj,rfl,(λz=>by cases z),by rw[Iw];omega,λi acc=>acc=b6 ((gj.take i).map (hJ λi=>ps.getD i.toNat 0)),rfl,?_,?_⟩
 ·rintro i y acc hy rfl
  unfold b6 at hy;rw[gf]at hy;cases hz:gj[i]? with
  |none=>rw[hz]at hy;cases hy
  |some l=>
   rw[hz]at hy;cases hy;have h:=T.fe l (fm hz)
   obtain⟨a,ea⟩:∃a:Nat,l.1=a:=⟨l.1.toNat,by omega⟩
   obtain⟨b,eb⟩:∃b:Nat,l.2=b:=⟨l.2.toNat,by omega⟩
   have a1:L2.ma (ao ps) l.1=some (.int (ps.getD l.1.toNat 0)):=by rw[ea,qh];exact kZ (by omega)
   have a2:L2.ma (ao ps) l.2=some (.int (ps.getD l.2.toNat 0)):=by rw[eb,qh];exact kZ (by omega)
   refine⟨_,_,rfl,?_⟩;refine⟨_,rfl,_,rfl,_,_,_,rfl,rfl,a1,_,rfl,_,rfl,_,_,_,rfl,rfl,a2,_,_,rfl,_,rfl,_,rfl,_,_,_,rfl,rfl,a1,_,rfl,_,rfl,_,_,_,rfl,rfl,a2,_,_,rfl,by show 2<=1000;decide,rfl,trivial,?_⟩;dsimp only;rw[nq,hz,gu];unfold b6;rw[gu];have e1:(if ps.getD l.2.toNat 0<ps.getD l.1.toNat 0 then ps.getD l.2.toNat 0 else ps.getD l.1.toNat 0)=min (ps.getD l.1.toNat 0) (ps.getD l.2.toNat 0):=by split<;>omega
   have e2:(if ps.getD l.2.toNat 0>ps.getD l.1.toNat 0 then ps.getD l.2.toNat 0 else ps.getD l.1.toNat 0)=max (ps.getD l.1.toNat 0) (ps.getD l.2.toNat 0):=by split<;>omega
   show _++[PV.tup [.int (if ps.getD l.2.toNat 0<ps.getD l.1.toNat 0 then ps.getD l.2.toNat 0 else ps.getD l.1.toNat 0),.int (if ps.getD l.2.toNat 0>ps.getD l.1.toNat 0 then ps.getD l.2.toNat 0 else ps.getD l.1.toNat 0)]]=_;rw[e1,e2];rfl
 ·rintro acc rfl
  rw[Iw,qu (de _)];have fe:=UJ P T;have nd:=UI P T;have ml:(gj.map (hJ λi=>ps.getD i.toNat 0)).length=gj.length:=df _;have fp:∀ls:aa,flats (b6 ls)=true:=oD
  refine⟨trivial,?_⟩;refine⟨_,rfl,⟨_,_,rfl,rfl,cS _,?_⟩,(λns e=>by cases e)⟩;refine⟨_,rfl,?_⟩;refine hR (gj.map (hJ λi=>ps.getD i.toNat 0)) _ (by rw[ml];omega) (λwz pm so=>?_);have W:=WL.perm (n:=m) (ws:=ws) (by omega) fe (by rw[ml];omega) nd wn pm so;have lk:e9 m wz:=⟨λl hl=>W.fe l hl,W.most,W.ord⟩;refine⟨⟨_,_,rfl,rfl,fp _,by show 2<=1000;decide,?_,trivial,?_⟩,(λns e=>by cases e)⟩
  ·show (flats (ao ws)&&(flats (b6 wz)&&true))=true
   rw[cS,fp];rfl
  ·exact q wz W lk (UG lk (UH P T pm lk.fit))
theorem Uz {s7:Option Slot}{Q:PV->Prop}(hn:ns.length<=63)(hc:m<=cs.length)(AA:m<=40)(T:TL m gj)(cl:jy.length=m)(nn:NN jy)(q:∀ws ls,WL m ws ls->e9 m ls->cF m ls->Q (bG ws ls)) :
  Lk { nx:=λ_=>Q .bw,rt:=Q } [some (.sh true (.jo ns)),s1,si m,some (.sh true (.bl dg)),some (.own (.lst (b6 gj))),some (.own (.lst (ao jy))),some (.own (.lst (ao cs))),s7,y8,y9,none,none,none]:=by
 refine⟨_,rfl,_,rfl,_,rfl,ns,m,dg,rfl,hn,AA,λps hp=>⟨trivial,?_⟩⟩;have pl:=hp.length_eq;rw[cH]at pl;refine⟨by show 1<=1000;decide,rfl,_,rfl,_,_,rfl,rfl,rfl,by omega,by omega,by show 1<=10;decide,rfl,?_,?_⟩
 ·show flats (List.replicate (m:Int).toNat [PV.int 0]).flatten=true
  rw[t9];exact cS _
 show (aI _ _) _ [_,_,_,_,_,_,_,_,_,_,_,some (Slot.own (.lst (List.replicate (m:Int).toNat [PV.int 0]).flatten)),_];rw[t9,qh];refine⟨_,rfl,m,rfl,by omega,by omega,λi ρ=>∃(ws:af) (y7:Option Slot),ρ = [some (.sh true (.jo ns)),s1,si m,some (.sh true (.bl dg)),some (.own (.lst (b6 gj))),some (.own (.lst (ao jy))),some (.own (.lst (ao cs))),y7,y8,y9,some (.sh true (.lst (ao ps))),some (.own (.lst (ao ws))),none]/\ws.length=m/\NN ws,⟨_,s7,rfl,Cg,λz hz=>by rw[List.eq_of_mem_replicate hz];exact wo 0⟩,?_,?_⟩
 ·rintro i y ρ hy ⟨ws,y7,rfl,wl,wn⟩
  obtain⟨rfl,hi⟩:=mZ hy
  have hi:i<m:=by omega
  refine kG ?_;rw[Bz];have a1:=kZ (ws:=cs) (j:=i) (by omega);have a2:=kZ (ws:=jy) (j:=i) (by omega);have a3:=kZ (ws:=ps) (j:=i) (by omega);have p1:=nE nn i;have pr:=(Lg hp).fe i (by omega) (by omega);rw[qh]at pr
  obtain⟨z,ez⟩:∃z:Nat,ps.getD i 0=z:=⟨(ps.getD i 0).toNat,by omega⟩
  refine⟨_,rfl,_,rfl,_,_,_,rfl,rfl,a1,_,rfl,_,rfl,_,_,_,rfl,rfl,a2,_,_,rfl,rfl,_,_,rfl,rfl,by show 0<jy.getD i 0+2;omega,_,rfl,_,rfl,_,rfl,_,_,_,rfl,rfl,a3,_,z,rfl,?_,trivial,ws.set z (cs.getD i 0%(jy.getD i 0+2)),si i,?_,by rw[va];exact wl,wn.set (Cd _ (by omega)) _⟩
  ·rw[bE,ez];unfold iH;rw[if_pos (by omega),if_pos (by omega)];rfl
  ·show _ = [_,_,_,_,_,_,_,_,_,_,_,some (Slot.own (.lst (ao (ws.set z (cs.getD i 0%(jy.getD i 0+2)))))),_]
   have:(ao ws).set z (.int (cs.getD i 0%(jy.getD i 0+2)))=ao (ws.set z (cs.getD i 0%(jy.getD i 0+2))):=(List.map_set ..).symm
   rw[<- this];rfl
 ·rintro ρ ⟨ws,y7,rfl,wl,wn⟩
  exact UA UC AA T hp wl wn λls a b c=>q ws ls a b c
end
theorem Uy {mx:Int}(Qx:mx<=40):dC Lj ["script","most","many","digits","links","counts","cells","k","number","elder","places","wants","pairs"] (Lq mx):=by
 rintro xs Q ⟨ns,most,rfl,hl,h0,h1,q⟩;refine⟨_,rfl,_,rfl,ns,most,rfl,h0,λz z0 z1=>⟨trivial,?_⟩⟩
 obtain⟨m,rfl⟩:∃m:Nat,z=m:=⟨z.toNat,by omega⟩
 refine⟨_,rfl,_,ns,1,rfl,.inl rfl,by decide,_,_,rfl,rfl,⟨by decide,by decide⟩,_,_,rfl,rfl,(by show (0:Int)<2;decide),.inl ⟨_,_,rfl,rfl,trivial,?_⟩⟩;generalize (if false=true then !decide (ns.getD (1:Int).toNat 0/8%2=1) else decide (ns.getD (1:Int).toNat 0/8%2=1))=dg;refine⟨by decide,rfl,rfl,rfl,?_⟩;refine⟨by show 1<=1000;decide,rfl,_,rfl,_,_,rfl,rfl,rfl,by omega,by omega,by show 1<=10;decide,rfl,?_,?_⟩
 ·show flats (List.replicate (m:Int).toNat [PV.int 0]).flatten=true
  rw[t9];exact cS _
 show (aI _ _) _ [_,_,_,_,_,some (Slot.own (.lst (List.replicate (m:Int).toNat [PV.int 0]).flatten)),_,_,_,_,_,_,_];rw[t9,qh]
 obtain⟨zs,ez,zl⟩:=VQ ns (some 4) (some (4+(m:Int)))
 refine⟨_,rfl,_,rfl,_,rfl,_,_,rfl,rfl,_,rfl,_,rfl,cS _,rfl,?_,?_⟩
 ·show flats (iX (ao ns) (some 4) (some (4+(m:Int))))=true
  rw[ez];exact cS _
 show (aI _ _) _ [_,_,_,_,_,_,some (Slot.own (.lst (iX (ao ns) (some 4) (some (4+(m:Int)))))),_,_,_,_,_,_];rw[ez];refine⟨_,rfl,_,_,rfl,rfl,_,rfl,(zs.length:Int),(m:Int),by rw[bE],rfl,⟨by omega,by omega,by omega,by omega⟩,λi ρ=>∃(cs:af) (y7:Option Slot),ρ = [some (.sh true (.jo ns)),si most,si m,some (.sh true (.bl dg)),some (.own (.lst (b6 []))),some (.own (.lst (ao (List.replicate m 0)))),some (.own (.lst (ao cs))),y7,none,none,none,none,none]/\cs.length=zs.length+i,⟨zs,none,rfl,rfl⟩,?_,?_⟩
 ·rintro i y ρ hy ⟨cs,y7,rfl,cl⟩
  obtain⟨rfl,hi⟩:=mZ hy
  refine kG ?_;refine⟨_,rfl,_,rfl,_,ns,1,rfl,.inl rfl,by decide,_,rfl,_,_,rfl,by omega,by omega,λz _=>⟨trivial,by rw[bE];omega,cs++[z],_,by rw[fE];rfl,by rw[jg,cl];rfl⟩⟩
 rintro ρ ⟨cs,y7,rfl,cl⟩;rw[jN]at cl;have hc:m<=cs.length:=by omega
 refine⟨_,rfl,(1:Int),(m:Int),rfl,rfl,⟨by omega,by omega,by omega,by omega⟩,λi ρ=>∃(gj:aa) (jy:af) (y7 y8 y9:Option Slot),ρ = [some (.sh true (.jo ns)),si most,si m,some (.sh true (.bl dg)),some (.own (.lst (b6 gj))),some (.own (.lst (ao jy))),some (.own (.lst (ao cs))),y7,y8,y9,none,none,none]/\TL (i+1) gj/\jy.length=m/\NN jy,⟨[],_,y7,none,none,rfl,⟨(λl hl=>by cases hl),wq,ng _⟩,Cg,λz hz=>by rw[List.eq_of_mem_replicate hz];exact wo 0⟩,?_,?_⟩
 ·rintro i y ρ hy ⟨gj,jy,y7,y8,y9,rfl,T,cl,nn⟩
  obtain⟨rfl,hi⟩:=mZ hy
  refine kG ?_;rw[show (1:Int)+(i:Int)=((i+1:Nat):Int) by omega];exact UB hc (by omega) (by omega) (by omega) T cl nn λy8 y9 l c a b d=>⟨l,c,si ((i+1:Nat):Int),y8,y9,rfl,a,b,d⟩
 ·rintro ρ ⟨gj,jy,y7,y8,y9,rfl,T,cl,nn⟩
  rw[jN]at T;have T':TL m gj:=by
   by_cases m0:m=0
   ·subst m0
    have e:gj = []:=by
     cases gj with
     |nil=>rfl
     |cons l r=>have:=T.fe l dh;omega
    subst e
    exact⟨(λl hl=>by cases hl),wq,ng _⟩
   ·rwa [show ((m:Int)-1).toNat+1=m by omega]at T
  exact Uz hl hc (by omega) T' cl nn λws ls a b c=>q m ws ls z1 a b c
abbrev cO:=List (Int×af)
def aV (W:cO):af:=W.map (·.1)
theorem jC {W:cO}{h:Int}:h∈aV W↔∃B,(h,B)∈W:=by
 unfold aV;rw[dr]
 exact⟨λ⟨p,hp,e⟩=>⟨p.2,by rw[<- e];exact hp⟩,λ⟨w,hw⟩=>⟨_,hw,rfl⟩⟩
section
variable {ws:af}{n:Nat}{ls:aa}{P:bZ}{W T:cO}{D B:af}{h x y c:Int}{e:Option Int}
theorem Rt0.oh (R:Rt0 n ls P)(f:c8 ls)(hp:(h,e)∈P):c∈aD ls h e↔(c,some h)∈P:=by
 constructor
 ·intro z
  obtain⟨z1,z2⟩:=eQ.mp z
  exact (R.done h e hp c z1).resolve_left λq=>z2 q.symm
 ·intro z
  obtain⟨i,hi⟩:=dL z
  obtain⟨j,q,ji,hj,hn⟩:=R.par i c h hi
  refine eQ.mpr ⟨lS hn,λec=>?_⟩;rw[<- ec]at hp
  obtain⟨i2,ED⟩:=dL hp
  obtain⟨j2,q2,ji2,Rk,_⟩:=R.par i2 h c ED
  have e1:=(fU R.nd Rk hi).1;have e2:=(fU R.nd hj ED).1;omega
def dM (ls:aa)(W:cO)(h:Int)(e:Option Int):Int:=(((aD ls h e).filter λc=>!decide (c∈aV W)).length:Nat)
structure fM (P:bZ)(W:cO)(D:af)(x:Int)(B:af):Prop where
 self:x∈B
 nd:B.Nodup
 up:∀y∈B,y=x∨(y∈aV W/\∃e,(y,some e)∈P/\e∈B)
 dn:∀y∈B,∀c,(c,some y)∈P->c∈aV W->c∈B
 fe:∀y∈B,y∈D
structure dY (ws:af)(ls:aa)(P:bZ)(D:af)(W T:cO):Prop where
 wk:∀h B,(h,B)∈W->fM P W D h B/\∃e,(h,some e)∈P/\ws.getD h.toNat 0-dM ls W h (some e)=1
 tk:∀h B,(h,B)∈T->fM P W D h B/\B.Pairwise (· <= ·)/\h∉aV W/\∃e,(h,e)∈P/\0<ws.getD h.toNat 0-dM ls W h e/\(ws.getD h.toNat 0-dM ls W h e=1->e=none)
 rs:∀h e,(h,e)∈P->h∈D->h∉aV W->h∉aV T->ws.getD h.toNat 0-dM ls W h e<=0
 AY:(aV W).Nodup
 Fu:(aV T).Nodup
theorem dY.wD (A:dY ws ls P D W T)(hh:h∈aV W):h∈D:=by
 obtain⟨B,hB⟩:=jC.mp hh
 have b:=(A.wk h B hB).1;exact b.fe h b.self
theorem dY.tD (A:dY ws ls P D W T)(hh:h∈aV T):h∈D:=by
 obtain⟨B,hB⟩:=jC.mp hh
 have b:=(A.tk h B hB).1;exact b.fe h b.self
theorem fM.apart (R:Rt n ls P){B':af}{x':Int}(b:fM P W D x B)(b':fM P W D x' B')(ne:x≠x')(n1:∀e,(x,some e)∈P->x∈aV W->e∉B')(n2:∀e,(x',some e)∈P->x'∈aV W->e∉B) :
  ∀(i:Nat) (y:Int) (q:Option Int),P[i]? = some (y,q)->y∈B->y∈B'->False:=by
 intro i
 induction i using Nat.strongRecOn with
 |ind i ih=>
  intro y q hi hy zq;rcases b.up y hy with z|⟨z1,e1,z2,z3⟩
  ·rcases b'.up y zq with w|⟨w1,e2,w2,w3⟩
   ·exact ne (z.symm.trans w)
   ·rw[z]at w1 w2;exact n1 e2 w2 w1 w3
  ·rcases b'.up y zq with w|⟨w1,e2,w2,w3⟩
   ·rw[w]at z1 z2;exact n2 e1 z2 z1 z3
   ·have ee:=iD R.nd z2 w2
    cases ee
    obtain⟨k,hk⟩:=dL z2
    obtain⟨j,q',ji,hj,_⟩:=R.par k y e1 hk
    have:=(fU R.nd hk hi).1
    exact ih j (by omega) e1 q' hj z3 w3
theorem fM.more (b:fM P W D x B){W':cO}{D':af}(w:∀y,y∈aV W->y∈aV W')(d:∀y∈D,y∈D')(nw:∀y∈D,∀c,(c,some y)∈P->c∈aV W'->c∈aV W):fM P W' D' x B:=
 ⟨b.self,b.nd,λy hy=>(b.up y hy).imp id λ⟨z1,z2⟩=>⟨w y z1,z2⟩,λy hy c hc hw=>b.dn y hy c hc (nw y (b.fe y hy) c hc hw),λy hy=>d y (b.fe y hy)⟩
theorem fM.perm (b:fM P W D x B){B':af}(p:B'.Perm B):fM P W D x B':=
 ⟨p.mem_iff.mpr b.self,p.nodup_iff.mpr b.nd,λy hy=>(b.up y (p.mem_iff.mp hy)).imp id λ⟨z1,e,z2,z3⟩=>⟨z1,e,z2,p.mem_iff.mpr z3⟩,λy hy c hc hw=>p.mem_iff.mpr (b.dn y (p.mem_iff.mp hy) c hc hw),λy hy=>b.fe y (p.mem_iff.mp hy)⟩
def fZ (W:cO)(c:Int):af:=((W.find? λp=>decide (p.1=c)).map (·.2)).getD []
theorem qV (nd:(aV W).Nodup)(hB:(c,B)∈W):fZ W c=B:=by
 unfold fZ;cases e:W.find? λp=>decide (p.1=c) with
 |none=>have:=List.find?_eq_none.mp e _ hB;simp at this
 |some p=>
  have h1:=List.find?_some e;have h2:=List.mem_of_find?_eq_some e;have h3:p.1=c:=by simpa using h1
  obtain⟨a,b⟩:=p
  dsimp only at h3;subst h3
  obtain⟨i,hi⟩:=AR.mp h2
  obtain⟨j,hj⟩:=AR.mp hB
  have k1:(aV W)[i]? = some a:=by unfold aV;rw[gf,hi];rfl
  have k2:(aV W)[j]? = some a:=by unfold aV;rw[gf,hj];rfl
  have:=(List.getElem?_inj (gv.mp k1).1 nd).mp (k1.trans k2.symm)
  subst this;rw[hi]at hj;cases hj;rfl
theorem tI (hc:c∉aV W):fZ W c = []:=by
 unfold fZ;rw[List.find?_eq_none.mpr λp hp=>by simp;exact λz=>hc (jC.mpr ⟨p.2,by rw[<- z];exact hp⟩)];rfl
def gD (ls:aa)(W:cO)(h:Int)(e:Option Int):af:=h::(aD ls h e).flatMap (fZ W)
theorem x9 (R:Rt n ls P)(f:c8 ls)(A:dY ws ls P D W T)(hp:(h,e)∈P)(hD:h∉D){W':cO}(w:∀y,y∈aV W->y∈aV W')(nw:∀y c,(c,some y)∈P->c∈aV W'->y=h∨y∈D->c∈aV W) :
  fM P W' (h::D) h (gD ls W h e):=by
 have qk:∀y,y∈(aD ls h e).flatMap (fZ W)↔∃c B,(c,B)∈W/\(c,some h)∈P/\y∈B:=λy=>by
  rw[List.mem_flatMap];constructor
  ·rintro⟨c,hc,hy⟩
   by_cases ck:c∈aV W
   ·obtain⟨B,hB⟩:=jC.mp ck
    rw[qV A.AY hB]at hy
    exact⟨c,B,hB,(R.oh f hp).mp hc,hy⟩
   ·rw[tI ck]at hy;cases hy
  ·rintro⟨c,B,hB,hc,hy⟩
   exact⟨c,(R.oh f hp).mpr hc,by rw[qV A.AY hB];exact hy⟩
 have mB:∀y,y∈gD ls W h e↔y=h∨∃c B,(c,B)∈W/\(c,some h)∈P/\y∈B:=λy=>by
  unfold gD;rw[ff,qk]
 refine⟨dh,?_,λy hy=>?_,λy hy c hc hw=>?_,λy hy=>?_⟩
 ·refine oy.mpr ⟨λz=>?_,?_⟩
  ·obtain⟨c,B,hB,_,hy⟩:=(qk h).mp z
   exact hD ((A.wk c B hB).1.fe h hy)
  ·have kn:(aD ls h e).Nodup:=(f.wx h).filter _
   refine List.pairwise_flatMap.mpr ⟨λc hc=>?_,kn.imp_of_mem λ{c c'} hc dq ne=>?_⟩
   ·by_cases ck:c∈aV W
    ·obtain⟨B,hB⟩:=jC.mp ck
     rw[qV A.AY hB];exact (A.wk c B hB).1.nd
    ·rw[tI ck];exact wq
   ·intro y hy y2 zq ey
    subst ey;by_cases ck:c∈aV W
    ·by_cases Jn:c'∈aV W
     ·obtain⟨B,hB⟩:=jC.mp ck
      obtain⟨B',Jf⟩:=jC.mp Jn
      rw[qV A.AY hB]at hy;rw[qV A.AY Jf]at zq;have b:=(A.wk c B hB).1;have b':=(A.wk c' B' Jf).1;have kc:=(R.oh f hp).mp hc;have QG:=(R.oh f hp).mp dq;have ym:y∈P.map (·.1):=by
       rcases b.up y hy with z|⟨_,e',z,_⟩
       ·rw[z];exact dr.mpr ⟨_,kc,rfl⟩
       ·exact dr.mpr ⟨_,z,rfl⟩
      obtain⟨⟨y',q⟩,hq,rfl⟩:=dr.mp ym
      obtain⟨i,hi⟩:=dL hq
      exact fM.apart R b b' ne (λe1 z _ ze=>hD (b'.fe _ (by have:=iD R.nd z kc;cases this;exact ze))) (λe1 z _ ze=>hD (b.fe _ (by have:=iD R.nd z QG;cases this;exact ze))) i y' q hi hy zq
     ·rw[tI Jn]at zq;cases zq
    ·rw[tI ck]at hy;cases hy
 ·rcases (mB y).mp hy with z|⟨c,B,hB,hc,hb⟩
  ·exact .inl z
  ·have b:=(A.wk c B hB).1
   rcases b.up y hb with z|⟨z1,e1,z2,z3⟩
   ·rw[z]
    exact .inr ⟨w c (jC.mpr ⟨B,hB⟩),h,hc,(mB h).mpr (.inl rfl)⟩
   ·exact .inr ⟨w y z1,e1,z2,(mB e1).mpr (.inr ⟨c,B,hB,hc,z3⟩)⟩
 ·rcases (mB y).mp hy with z|⟨c',B,hB,dq,hb⟩
  ·subst z
   obtain⟨B,hB⟩:=jC.mp (nw y c hc hw (.inl rfl))
   exact (mB c).mpr (.inr ⟨c,B,hB,hc,(A.wk c B hB).1.self⟩)
  ·have b:=(A.wk c' B hB).1
   exact (mB c).mpr (.inr ⟨c',B,hB,dq,b.dn y hb c hc (nw y c hc hw (.inr (b.fe y hb)))⟩)
 ·rcases (mB y).mp hy with z|⟨c,B,hB,hc,hb⟩
  ·rw[z];exact dh
  ·exact fu _ ((A.wk c B hB).1.fe y hb)
theorem Ux {W':cO}(k:∀c∈aD ls h e,(c∈aV W'↔c∈aV W)):dM ls W' h e=dM ls W h e:=by
 unfold dM;congr 2;refine AQ λc hc=>?_
 rw[decide_eq_decide.mpr (k c hc)]
theorem dY.wait (R:Rt n ls P)(f:c8 ls)(A:dY ws ls P D W T){g:Int}(hp:(h,some g)∈P)(hD:h∉D)(dk:∀y∈D,(h,some y)∉P)(AB:ws.getD h.toNat 0-dM ls W h (some g)=1):dY ws ls P (h::D) (W++[(h,gD ls W h (some g))]) T:=by
 have kw:∀y,y∈aV (W++[(h,gD ls W h (some g))])↔y∈aV W∨y=h:=λy=>by
  unfold aV;rw[gu,fi,List.map_singleton,dt]
 have hW:h∉aV W:=λz=>hD (A.wD z)
 have hh:(h,some h)∉P:=λz=>by
  have:=(R.oh f hp (c:=h)).mpr z
  exact f.Fx h (eQ.mp this).1
 have nw:∀y c,(c,some y)∈P->c∈aV (W++[(h,gD ls W h (some g))])->y=h∨y∈D->c∈aV W:=λy c hc hw hy=>by
  rcases (kw c).mp hw with z|z
  ·exact z
  ·subst z
   rcases hy with z|z
   ·subst z;exact absurd hc hh
   ·exact absurd hc (dk y z)
 have same:∀y e,(y,e)∈P->y=h∨y∈D->dM ls (W++[(h,gD ls W h (some g))]) y e=dM ls W y e:=λy e hy hd=>Ux λc hc=>⟨λz=>nw y c ((R.oh f hy).mp hc) z hd,λz=>(kw c).mpr (.inl z)⟩
 refine⟨λx B hB=>?_,λx B hB=>?_,λx e hx hd n1 n2=>?_,?_,A.Fu⟩
 ·rcases fi.mp hB with z|z
  ·obtain⟨b,e,he,l⟩:=A.wk x B z
   exact⟨b.more (λy hy=>(kw y).mpr (.inl hy)) (λy hy=>fu _ hy) λy hy c hc hw=>nw y c hc hw (.inr hy),e,he,by rw[same x _ he (.inr (b.fe x b.self))];exact l⟩
  ·cases dt.mp z
   exact⟨x9 R f A hp hD (λy hy=>(kw y).mpr (.inl hy)) nw,g,hp,by rw[same h _ hp (.inl rfl)];exact AB⟩
 ·obtain⟨b,so,nk,e,he,l⟩:=A.tk x B hB
  have xD:=b.fe x b.self;refine⟨b.more (λy hy=>(kw y).mpr (.inl hy)) (λy hy=>fu _ hy) λy hy c hc hw=>nw y c hc hw (.inr hy),so,λz=>?_,e,he,by rw[same x _ he (.inr xD)];exact l⟩;rcases (kw x).mp z with z|z
  ·exact nk z
  ·rw[z]at xD;exact hD xD
 ·rcases ff.mp hd with z|z
  ·exact absurd ((kw x).mpr (.inr z)) n1
  ·rw[same x e hx (.inr z)]
   exact A.rs x e hx z (λq=>n1 ((kw x).mpr (.inl q))) n2
 ·unfold aV
  rw[gu,xj]
  exact⟨A.AY,ot _ _,λa ha b hb e=>by rw[List.map_singleton,dt]at hb;exact hW (by have q:a=h:=e.trans hb;rw[<- q];exact ha)⟩
theorem dY.take (R:Rt n ls P)(f:c8 ls)(A:dY ws ls P D W T)(hp:(h,e)∈P)(hD:h∉D)(AB:0<ws.getD h.toNat 0-dM ls W h e)(one:ws.getD h.toNat 0-dM ls W h e=1->e=none)(pm:B.Perm (gD ls W h e))(so:B.Pairwise (· <= ·)):dY ws ls P (h::D) W (T++[(h,B)]):=by
 have kt:∀y,y∈aV (T++[(h,B)])↔y∈aV T∨y=h:=λy=>by
  unfold aV;rw[gu,fi,List.map_singleton,dt]
 have hW:h∉aV W:=λz=>hD (A.wD z)
 have hT:h∉aV T:=λz=>hD (A.tD z)
 refine⟨λx B hB=>?_,λx B' hB=>?_,λx e hx hd n1 n2=>?_,A.AY,?_⟩
 ·obtain⟨b,e,he,l⟩:=A.wk x B hB
  exact⟨b.more (λy hy=>hy) (λy hy=>fu _ hy) λy hy c hc hw=>hw,e,he,l⟩
 ·rcases fi.mp hB with z|z
  ·obtain⟨b,so,nk,e,he,l⟩:=A.tk x B' z
   exact⟨b.more (λy hy=>hy) (λy hy=>fu _ hy) λy hy c hc hw=>hw,so,nk,e,he,l⟩
  ·cases dt.mp z
   exact⟨(x9 R f A hp hD (λy hy=>hy) λ_ _ _ hw _=>hw).perm pm,so,hW,e,hp,AB,one⟩
 ·rcases ff.mp hd with z|z
  ·exact absurd ((kt x).mpr (.inr z)) n2
  ·exact A.rs x e hx z n1 λq=>n2 ((kt x).mpr (.inl q))
 ·unfold aV
  rw[gu,xj]
  exact⟨A.Fu,ot _ _,λa ha b hb e=>by rw[List.map_singleton,dt]at hb;exact hT (by have q:a=h:=e.trans hb;rw[<- q];exact ha)⟩
theorem dY.lit (A:dY ws ls P D W T)(hp:(h,e)∈P)(nd:(P.map (·.1)).Nodup)(AB:ws.getD h.toNat 0-dM ls W h e<=0):dY ws ls P (h::D) W T:=by
 refine⟨λx B hB=>?_,λx B' hB=>?_,λx e' hx hd n1 n2=>?_,A.AY,A.Fu⟩
 ·obtain⟨b,e,he,l⟩:=A.wk x B hB
  exact⟨b.more (λy hy=>hy) (λy hy=>fu _ hy) λy hy c hc hw=>hw,e,he,l⟩
 ·obtain⟨b,so,nk,e,he,l⟩:=A.tk x B' hB
  exact⟨b.more (λy hy=>hy) (λy hy=>fu _ hy) λy hy c hc hw=>hw,so,nk,e,he,l⟩
 ·rcases ff.mp hd with z|z
  ·subst z
   cases iD nd hx hp;exact AB
  ·exact A.rs x e' hx z n1 n2
structure m9 (ws:af)(ls:aa)(qs:cO):Prop where
 vh:aY ws.length (aV qs)=true
 lit:dE ws ls (aV qs)=true
 sets:∀q∈qs,aY ws.length q.2=true/\q.1∈q.2/\cq ws ls q.2=q.2
 apart:qs.Pairwise λa b=>∀x∈a.2,x∉b.2
theorem L3 {S L:af}(nd:(aF ls y).Nodup)(sub:∀z∈aF ls y,z∉S->z∈L):fG (aF ls y) S<=(L.length:Int):=by
 have e:=wY (λ_:Int=>true) (λz=>decide (z∈S)) (aF ls y);have a:(aF ls y).filter (λ_=>true)=aF ls y:=xk.mpr λ_ _=>rfl
 rw[a]at e;have b:((aF ls y).filter λx=>true&&!decide (x∈S)).length<=L.length:=dJ (nd.filter _) λz hz=>by
  obtain⟨h1,h2⟩:=cz.mp hz
  refine sub z h1 ?_;simpa using h2
 have c:((aF ls y).filter λx=>decide (x∈S)&&true)=(aF ls y).filter λx=>decide (x∈S):=AQ λx _=>Ak _
 rw[c]at e;unfold fG;omega
theorem dY.jz (R:Rt n ls P)(f:c8 ls)(A:dY ws ls P D W T)(hB:(x,B)∈T):cq ws ls B=B:=by
 obtain⟨b,_,nk,e,he,l,l1⟩:=A.tk x B hB
 unfold cq;refine xk.mpr λy hy=>?_
 unfold fH;refine di ?_;rcases b.up y hy with z|⟨z1,g,z2,z3⟩
 ·subst z
  cases e with
  |none=>
   have:=L3 (S:=B) (L:=(aD ls y none).filter λc=>!decide (c∈aV W)) (f.wx y) λc hc nc=>by
    have ck:c∈aD ls y none:=eQ.mpr ⟨hc,by simp⟩;refine cz.mpr ⟨ck,?_⟩;rw[fk λq=>nc (b.dn y hy c ((R.oh f he).mp ck) q)];rfl
   unfold dM at l;omega
  |some g=>
   have:=L3 (S:=B) (L:=g::(aD ls y (some g)).filter λc=>!decide (c∈aV W)) (f.wx y) λc hc nc=>by
    by_cases cg:c=g
    ·rw[cg];exact dh
    ·have ck:c∈aD ls y (some g):=eQ.mpr ⟨hc,λq=>cg (jr q)⟩
     refine fu _ (cz.mpr ⟨ck,?_⟩);rw[fk λq=>nc (b.dn y hy c ((R.oh f he).mp ck) q)];rfl
   have n1:ws.getD y.toNat 0-dM ls W y (some g)≠1:=λq=>by cases l1 q
   unfold dM at l n1;rw[ie]at this;omega
 ·obtain⟨By,RD⟩:=jC.mp z1
  obtain⟨_,g',Ru,l'⟩:=A.wk y By RD
  cases iD R.nd z2 Ru
  have:=L3 (S:=B) (L:=(aD ls y (some g)).filter λc=>!decide (c∈aV W)) (f.wx y) λc hc nc=>by
   have ck:c∈aD ls y (some g):=eQ.mpr ⟨hc,λq=>nc (by rw[jr q];exact z3)⟩;refine cz.mpr ⟨ck,?_⟩;rw[fk λq=>nc (b.dn y hy c ((R.oh f z2).mp ck) q)];rfl
  unfold dM at l';omega
theorem xA {U L:af}(sh:lZ ws ls U)(hy:y∈bj ws.length)(nd:L.Nodup)(sub:∀z∈L,z∈aF ls y/\z∈U)(en:ws.getD y.toNat 0<=(L.length:Int)):y∈U:=by
 refine ud λno=>?_
 have k:=sh y hy;unfold kz at k;rw[fk no,Bool.not_false,Bool.true_and,zg]at k
 have:=dJ nd (m:=(aF ls y).filter λx=>decide (x∈U)) λz hz=>cz.mpr ⟨(sub z hz).1,di (sub z hz).2⟩
 omega
theorem dY.CF (R:Rt ws.length ls P)(f:c8 ls)(A:dY ws ls P D W T)(all:∀h∈bj ws.length,h∈D):dE ws ls (aV T)=true:=by
 refine l6.mpr λU sh sub=>?_
 have inR:∀{h e},(h,e)∈P->h∈bj ws.length:=λ{h e} hp=>(R.mem h).mp (dr.mpr ⟨_,hp,rfl⟩)
 have one:∀(k i:Nat) (h:Int) (e:Option Int),i+k=P.length->P[i]? = some (h,e)->h∉aV W->h∈U:=by
  intro k
  induction k using Nat.strongRecOn with
  |ind k ih=>
   intro i h e ik hi hw;have hp:=fm hi;by_cases ht:h∈aV T
   ·exact sub h ht
   ·have l:=A.rs h e hp (all h (inR hp)) hw ht
    refine xA sh (inR hp) (L:=(aD ls h e).filter λc=>!decide (c∈aV W)) (((f.wx h).filter _).filter _) (λc hc=>?_) (by unfold dM at l;omega)
    obtain⟨c1,c2⟩:=cz.mp hc
    have cp:=(R.oh f hp).mp c1
    obtain⟨j,hj⟩:=dL cp
    obtain⟨i',q,i'j,EE,_⟩:=R.par j c h hj
    have e1:=(fU R.nd EE hi).1;have jl:=(gv.mp hj).1
    exact⟨(eQ.mp c1).1,ih (P.length-j) (by omega) j c (some h) (by omega) hj (by simpa using c2)⟩
 have two:∀(i:Nat) (h:Int) (e:Option Int),P[i]? = some (h,e)->h∈U:=by
  intro i
  induction i using Nat.strongRecOn with
  |ind i ih=>
   intro h e hi;have hp:=fm hi;by_cases hw:h∈aV W
   ·obtain⟨B,hB⟩:=jC.mp hw
    obtain⟨_,g,hg,l⟩:=A.wk h B hB
    cases iD R.nd hp hg
    obtain⟨j,q,ji,hj,gn⟩:=R.par i h g hi
    refine xA sh (inR hp) (L:=g::(aD ls h (some g)).filter λc=>!decide (c∈aV W)) (oy.mpr ⟨λz=>(eQ.mp (cz.mp z).1).2 rfl,((f.wx h).filter _).filter _⟩) (λc hc=>?_) (by rw[ie];unfold dM at l;omega);rcases ff.mp hc with z|z
    ·rw[z];exact⟨gn,ih j ji g q hj⟩
    ·obtain⟨c1,c2⟩:=cz.mp z
     obtain⟨j',qz⟩:=dL ((R.oh f hp).mp c1)
     have jl:=(gv.mp qz).1
     exact⟨(eQ.mp c1).1,one (P.length-j') j' c (some h) (by omega) qz (by simpa using c2)⟩
   ·have il:=(gv.mp hi).1
    exact one (P.length-i) i h e (by omega) hi hw
 intro h hh
 obtain⟨⟨h',e⟩,hp,rfl⟩:=dr.mp ((R.mem h).mpr hh)
 obtain⟨i,hi⟩:=dL hp
 exact two i h' e hi
theorem xB (nd:B.Nodup)(so:B.Pairwise (· <= ·))(fe:∀x∈B,x∈bj n):aY n B=true:=by
 have up:B.Pairwise (·<·):=(List.Pairwise.and so nd).imp λz=>Int.lt_iff_le_and_ne.mpr ⟨z.1,z.2⟩
 unfold aY;rw[mv,AO];refine⟨vS up,λb hb=>?_⟩
 obtain⟨x,hx,rfl⟩:=dr.mp hb
 have:=bO.mp (fe x hx)
 show qk n x=true;unfold qk;simp only[mv,lx];omega
theorem dY.En (R:Rt ws.length ls P)(f:c8 ls)(A:dY ws ls P D W T)(all:∀h,h∈D↔h∈bj ws.length){qs:cO}(pm:qs.Perm T)(so:qs.Pairwise λu v=>u.1<v.1):m9 ws ls qs:=by
 have ks:∀h,h∈aV qs↔h∈aV T:=λh=>(pm.map _).mem_iff
 refine⟨?_,?_,λq hq=>?_,?_⟩
 ·have up:(aV qs).Pairwise (·<·):=uw.mpr so
  exact xB (up.imp λz=>yf z) (up.imp λz=>Int.le_of_lt z) λx hx=>(all x).mp (A.tD ((ks x).mp hx))
 ·have:=A.CF R f λh hh=>(all h).mpr hh
  rw[l6]at this ⊢;exact λU sh sub=>this U sh λx hx=>sub x ((ks x).mpr hx)
 ·obtain⟨x,B⟩:=q
  have hB:=pm.mem_iff.mp hq
  obtain⟨b,so,_⟩:=A.tk x B hB
  exact⟨xB b.nd so λy hy=>(all y).mp (b.fe y hy),b.self,A.jz R f hB⟩
 ·refine so.imp_of_mem λ{u v} hu hv lt y hy zq=>?_
  obtain⟨x,B⟩:=u
  obtain⟨x',B'⟩:=v
  obtain⟨b,_,n1,_⟩:=A.tk x B (pm.mem_iff.mp hu)
  obtain⟨b',_,n2,_⟩:=A.tk x' B' (pm.mem_iff.mp hv)
  have ym:y∈P.map (·.1):=(R.mem y).mpr ((all y).mp (b.fe y hy))
  obtain⟨⟨y',q⟩,hq,rfl⟩:=dr.mp ym
  obtain⟨i,hi⟩:=dL hq
  exact fM.apart R b b' (λz=>by dsimp only at lt;omega) (λ_ _ z=>absurd z n1) (λ_ _ z=>absurd z n2) i y' q hi hy zq
end
def fV (W:cO):List (aC×PV):=W.map λp=>((Sum.inl p.1:aC),PV.lst (ao p.2))
theorem Uw (W:cO):(fV W).map (·.1)=(aV W).map (Sum.inl:Int->aC):=by unfold fV aV;rw[kq,kq];rfl
theorem Uv {W:cO}{h:Int}{w:af}(hn:h∉aV W):dF (fV W) (Sum.inl h:aC) (.lst (ao w))=fV (W++[(h,w)]):=by
 rw[MV (Uw W) hn];unfold fV;rw[gu];rfl
theorem L4:∀{W:cO}{h:Int}{w:af},(aV W).Nodup->(h,w)∈W->bX (fV W) (Sum.inl h:aC)=some (.lst (ao w))
 |[],_,_,_,z=>by cases z
 |p::D,h,w,nd,z=>by
  obtain⟨n1,n2⟩:=oy.mp (show (p.1::aV D).Nodup from nd)
  rcases ff.mp z with rfl|z
  ·exact kT (p:=((Sum.inl h:aC),PV.lst (ao w))) rfl
  ·have ne:p.1≠h:=λe=>n1 (e▸dr.mpr ⟨(h,w),z,rfl⟩)
   exact (kE (p:=((Sum.inl p.1:aC),PV.lst (ao p.2))) λe=>ne (Sum.inl.inj e)).trans (L4 n2 z)
theorem L5:∀{W:cO}{h:Int},h∉aV W->bX (fV W) (Sum.inl h:aC)=none
 |[],_,_=>rfl
 |p::D,h,z=>by
  have ne:p.1≠h:=λe=>z (by rw[<- e];exact dh)
  exact (kE (p:=((Sum.inl p.1:aC),PV.lst (ao p.2))) λe=>ne (Sum.inl.inj e)).trans (L5 λq=>z (fu _ q))
theorem Uu {W:cO}{h:Int}(nd:(aV W).Nodup):(bX (fV W) (Sum.inl h:aC)).isSome=decide (h∈aV W):=by
 by_cases z:h∈aV W
 ·obtain⟨B,hB⟩:=jC.mp z
  rw[L4 nd hB,di z];rfl
 ·rw[L5 z,fk z];rfl
theorem Ut {W:cO}{h:Int}(nd:(aV W).Nodup):(bX (fV W) (Sum.inl h:aC)).getD (.lst []) = .lst (ao (fZ W h)):=by
 by_cases z:h∈aV W
 ·obtain⟨B,hB⟩:=jC.mp z
  rw[L4 nd hB,qV nd hB];rfl
 ·rw[L5 z,tI z];rfl
def Lf (qs:cO):PV:=.tup [.tup (ao (aV qs)),.tup (bp (qs.map (·.2)))]
def Ld:bV:=λxs Q=>∃ws ls,xs = [bG ws ls]/\Wb ws ls/\e9 ws.length ls/\cF ws.length ls/\∀qs,m9 ws ls qs->Q (Lf qs)
def Lc:aO:=(dO (o5 (bH (jO (a5 7) (qC (.int 1)))) (bH (Oj (a5 5) (qC .bw)))) (pM 8 (pV 2 (a5 4) (a5 8))) (dO (bH (v7 (a5 7) (qC (.int 0)))) (iW 3 (gL (a6 (a5 4) (a6 (aB iN (a6 (aB pO (a6 (a5 8) a9)) a9)) a9)))) dZ))
def Lb:aO:=(aI (b8 6 (aB lC (a6 (a5 1) (a6 (a5 4) (a6 (a5 5) a9)))))
  (aI (b8 7 (iY (bI (bI (a5 0) (qC (.int 0))) (a5 4)) (aB cC (a6 (c9 (cD (a5 6)) [none,some 2] (bW 0) (bH (kB true (a5 0) (a5 1))) (a5 0)) a9))))
  (aI (e6 8 (fA (a6 (a5 4) a9)))
  (aI (fB (cD (a5 6)) (bW 9)
   (uW 8 (K9 (a5 2) (a5 9) (fA a9))))
  Lc))))
def La:aO:=(aI (b8 10 (aB K7 (a6 (a5 3) a9)))
 (bY (gL (a6 (aB iN (a6 (c9 (cD (a5 10)) [none,none] (fO 0 1) dB (a5 0)) a9)) (a6 (aB iN (a6 (c9 (cD (a5 10)) [none,none] (fO 0 1) dB (a5 1)) a9)) a9)))))
section
variable {ws:af}{n:Nat}{ls:aa}{P:bZ}{W T:cO}{D:af}{E:k9}{h:Int}{e:Option Int}{s0 s1 y9 jv:Option Slot}
theorem KZ (zk:n<=40)(b:fM P W D h (gD ls W h e))(fe:∀y∈D,y∈bj n):(gD ls W h e).length<=n:=by
 have:=dJ b.nd (m:=bj n) λy hy=>fe y (b.fe y hy)
 rwa [cH]at this
theorem Us (R:Rt ws.length ls P)(f:c8 ls)(zk:ws.length<=40)(A:dY ws ls P D W T)(hp:(h,e)∈P)(hD:h∉D)(dk:∀y∈D,(h,some y)∉P)(fe:∀y∈D,y∈bj ws.length)(tl:T.length<=D.length)(wl:W.length<=D.length)(dl:D.length<=40){s6:Option Slot}(nx:∀(W' T':cO) (y8:Option Slot),dY ws ls P (h::D) W' T'->T'.length<=D.length+1->W'.length<=D.length+1->E.nx [s0,s1,some (.own (.dK (fV W'))),some (.own (.lst (T'.map eW))),si h,some (.sh true (eN e)),s6,si (ws.getD h.toNat 0-dM ls W h e),y8,y9,jv]) :
  Lc E [s0,s1,some (.own (.dK (fV W))),some (.own (.lst (T.map eW))),si h,some (.sh true (eN e)),s6,si (ws.getD h.toNat 0-dM ls W h e),some (.own (.lst (ao (gD ls W h e)))),y9,jv]:=by
 have hr:h∈bj ws.length:=(R.mem h).mp (dr.mpr ⟨_,hp,rfl⟩);have b:=x9 R f A hp hD (W':=W) (λy hy=>hy) λ_ _ _ hw _=>hw
 have bl:=KZ zk b λy hy=>(ff.mp hy).elim (λz=>z▸hr) (fe y)
 have hW:h∉aV W:=λz=>hD (A.wD z)
 have dN:(ws.getD h.toNat 0-dM ls W h e=1->e=none)->(dO (bH (v7 (a5 7) (qC (.int 0)))) (iW 3 (gL (a6 (a5 4) (a6 (aB iN (a6 (aB pO (a6 (a5 8) a9)) a9)) a9)))) dZ) E [s0,s1,some (.own (.dK (fV W))),some (.own (.lst (T.map eW))),si h,some (.sh true (eN e)),s6,si (ws.getD h.toNat 0-dM ls W h e),some (.own (.lst (ao (gD ls W h e)))),y9,jv]:=λone=>by
  refine⟨_,rfl,_,_,rfl,rfl,_,rfl,?_⟩;by_cases l:0<ws.getD h.toNat 0-dM ls W h e
  ·rw[di l]
   refine bP ⟨_,rfl,_,rfl,_,rfl,gD ls W h e,rfl,by omega,λms pm so=>?_⟩;refine⟨⟨_,_,rfl,rfl,cS _,by show 2<=1000;decide,?_,trivial,?_,?_⟩,λns z=>by cases z⟩
   ·show (true&&(flats (ao ms)&&true))=true
    rw[cS];rfl
   ·rw[df];omega
   ·have:=nx W (T++[(h,ms)]) (some (.own (.lst (ao (gD ls W h e))))) (A.take R f hp hD l one pm so) (by rw[jg,uy];omega) (by omega)
    rw[gu]at this;exact this
  ·rw[fk l]
   exact bK (nx W T _ (A.lit hp R.nd (by omega)) (by omega) (by omega))
 refine⟨_,rfl,.inl ⟨_,_,rfl,rfl,_,rfl,?_⟩⟩;show if decide (ws.getD h.toNat 0-dM ls W h e=1)=true then _ else _
 by_cases l:ws.getD h.toNat 0-dM ls W h e=1
 ·rw[di l]
  refine bP ?_;cases e with
  |none=>exact⟨_,rfl,rfl,_,rfl,bK (dN λ_=>rfl)⟩
  |some g=>
   refine⟨_,rfl,rfl,_,rfl,bP ?_⟩;refine⟨_,rfl,_,rfl,fV W,rfl,_,rfl,Sum.inl h,rfl,trivial,?_,?_⟩
   ·have:(fV W).length=W.length:=df _
    omega
   ·have:=nx (W++[(h,gD ls W h (some g))]) T (some (.sh true (.lst (ao (gD ls W h (some g)))))) (A.wait R f hp hD dk l) (by omega) (by rw[jg,uy];omega)
    rw[<- Uv hW]at this;exact this
 ·rw[fk l]
  exact bK (bK (dN λz=>absurd z l))
theorem Ur (R:Rt ws.length ls P)(lk:e9 ws.length ls)(zk:ws.length<=40)(A:dY ws ls P D W T)(hp:(h,e)∈P)(hD:h∉D)(dk:∀y∈D,(h,some y)∉P)(fe:∀y∈D,y∈bj ws.length)(tl:T.length<=D.length)(wl:W.length<=D.length)(dl:D.length<=40){y6 y7 y8:Option Slot}(nx:∀(W' T':cO) (y6 y7 y8 y9:Option Slot),dY ws ls P (h::D) W' T'->T'.length<=D.length+1->W'.length<=D.length+1->E.nx [some (.sh true (bG ws ls)),some (.sh true (.lst (cA ws.length ls))),some (.own (.dK (fV W'))),some (.own (.lst (T'.map eW))),si h,some (.sh true (eN e)),y6,y7,y8,y9,jv]) :
  Lb E [some (.sh true (bG ws ls)),some (.sh true (.lst (cA ws.length ls))),some (.own (.dK (fV W))),some (.own (.lst (T.map eW))),si h,some (.sh true (eN e)),y6,y7,y8,y9,jv]:=by
 have hr:=(R.mem h).mp (dr.mpr ⟨_,hp,rfl⟩);have hm:=bO.mp hr;have nl:=lk.Az h;have kl:(aD ls h e).length<=ws.length:=by have:=yg (λx=>!decide (some x=e)) (aF ls h);unfold aD;omega
 refine⟨_,rfl,_,rfl,_,rfl,ws.length,ls,h,e,rfl,hm.1,hm.2,by omega,trivial,?_⟩;have a1:L2.ma (ao ws) h=some (.int (ws.getD h.toNat 0)):=by
  obtain⟨j,ej⟩:∃j:Nat,h=j:=⟨h.toNat,by omega⟩
  rw[ej,qh];exact kZ (by omega)
 refine⟨_,rfl,_,_,_,rfl,rfl,rfl,_,rfl,_,_,_,rfl,rfl,a1,_,rfl,ao (aD ls h e),rfl,(λz=>by cases z),by rw[bE];omega,λi acc=>acc=ao (((aD ls h e).take i).filter λc=>!decide (c∈aV W)),rfl,?_,?_⟩
 ·rintro i y acc hy rfl
  obtain⟨c,rfl,hc⟩:=hG hy
  have tk:=nA (p:=λc=>!decide (c∈aV W)) hc;refine⟨_,rfl,_,rfl,_,.inl ⟨fV W,Sum.inl c,rfl,rfl,rfl⟩,_,rfl,?_⟩;rw[Uu A.AY];by_cases z:c∈aV W
  ·rw[di z]
   refine bK ?_;dsimp only;rw[tk,di z];exact (vb _).symm▸rfl
  ·rw[fk z]
   refine bP ⟨_,rfl,trivial,?_⟩;dsimp only;rw[tk,fk z,fE];rfl
 rintro acc rfl;rw[bE,qu (de _)];refine⟨_,_,rfl,rfl,_,_,rfl,rfl,trivial,?_⟩;rw[bE];refine⟨_,rfl,by show 1<=1000;decide,rfl,rfl,rfl,?_⟩;refine⟨_,rfl,ao (aD ls h e),rfl,(λz=>by cases z),λi ρ=>∃y9:Option Slot,ρ = [some (.sh true (bG ws ls)),some (.sh true (.lst (cA ws.length ls))),some (.own (.dK (fV W))),some (.own (.lst (T.map eW))),si h,some (.sh true (eN e)),some (.sh true (.lst (ao (aD ls h e)))),si (ws.getD h.toNat 0-dM ls W h e),some (.own (.lst (ao (h::((aD ls h e).take i).flatMap (fZ W))))),y9,jv],⟨y9,rfl⟩,?_,?_⟩
 ·rintro i y ρ hy ⟨y9,rfl⟩
  obtain⟨c,rfl,hc⟩:=hG hy
  refine kG ?_;have b:=x9 R lk.fit A hp hD (W':=W) (λy hy=>hy) λ_ _ _ hw _=>hw
  have bl:=KZ zk b λy hy=>(ff.mp hy).elim (λz=>z▸hr) (fe y)
  have l1:((h::((aD ls h e).take i).flatMap (fZ W))++fZ W c).length<=(gD ls W h e).length:=by
   have e0:(aD ls h e)=(aD ls h e).take i++c::(aD ls h e).drop (i+1):=by
    obtain⟨il,ec⟩:=gv.mp hc
    rw[<- ec,<- List.drop_eq_getElem_cons il,List.take_append_drop]
   unfold gD;rw[show (aD ls h e).flatMap (fZ W)=((aD ls h e).take i).flatMap (fZ W)++(fZ W c++((aD ls h e).drop (i+1)).flatMap (fZ W)) by conv=>lhs;rw[e0];rw[List.flatMap_append,List.flatMap_cons]];simp only[jg,ie];omega
  rw[jg]at l1;refine⟨_,rfl,_,rfl,fV W,rfl,_,rfl,by show 0<=1000;decide,rfl,Sum.inl c,rfl,?_⟩;rw[show ([]:List (PV×Tg)).map (·.1) = [] from rfl,Ut A.AY];refine⟨ao (fZ W c),.inr rfl,.inr (cS _),by rw[bE,bE];omega,si c,?_⟩;rw[nq,hc,List.flatMap_append];show _ = [_,_,_,_,_,_,_,_,some (Slot.own (.lst (ao (h::(((aD ls h e).take i).flatMap (fZ W)++[c].flatMap (fZ W)))))),_,_];rw[show [c].flatMap (fZ W)=fZ W c from by simp,<- List.cons_append,fE];rfl
 ·rintro ρ ⟨y9,rfl⟩
  rw[bE,qu (de _)];exact Us R lk.fit zk A hp hD dk fe tl wl dl λW' T' y8 a b c=>nx W' T' _ _ y8 y9 a b c
theorem KY {qs:cO}{i:Nat}{y:PV}(h:(qs.map eW)[i]? = some y):∃q,qs[i]? = some q/\y = .tup [.int q.1,.tup (ao q.2)]:=by
 rw[gf]at h;cases e:qs[i]? with
 |none=>rw[e]at h;cases h
 |some q=>rw[e]at h;exact⟨q,rfl,(jr h).symm⟩
theorem Uq {Q:PV->Prop}{s0 s1 s2 y4 y5 y6 y7 y8:Option Slot}(tl:T.length<64)(nd:(aV T).Nodup)(q:∀qs:cO,qs.Perm T->qs.Pairwise (λu v=>u.1<v.1)->Q (Lf qs)) :
  La { nx:=λ_=>Q .bw,rt:=Q } [s0,s1,s2,some (.own (.lst (T.map eW))),y4,y5,y6,y7,y8,y9,none]:=by
 refine⟨_,rfl,T,rfl,by omega,nd,λqs pm so=>⟨trivial,?_⟩⟩;have ql:=pm.length_eq;refine⟨_,rfl,qs.map eW,rfl,(λz=>by cases z),by rw[df];omega,λi acc=>acc=ao (aV (qs.take i)),rfl,?_,?_⟩
 ·rintro i y acc hy rfl
  obtain⟨p,hp,rfl⟩:=KY hy
  refine⟨_,_,rfl,_,rfl,trivial,?_⟩;dsimp only;unfold aV;rw[nq,hp,gu,fE];rfl
 rintro acc rfl;rw[df,qu (de _)];refine⟨⟨_,_,rfl,rfl,cS _,?_⟩,λns z=>by cases z⟩;refine⟨_,rfl,qs.map eW,rfl,(λz=>by cases z),by rw[df];omega,λi acc=>acc=bp ((qs.take i).map (·.2)),rfl,?_,?_⟩
 ·rintro i y acc hy rfl
  obtain⟨p,hp,rfl⟩:=KY hy
  refine⟨_,_,rfl,_,rfl,by show Nw (Slot.sh (false||flats (ao p.2)) (.tup (ao p.2))).tag _;rw[cS];trivial,?_⟩;dsimp only;unfold bp;rw[nq,hp,gu,gu];rfl
 rintro acc rfl;rw[df,qu (de _)];refine⟨⟨_,_,rfl,rfl,jR _,by show 2<=1000;decide,?_,trivial,q qs pm so⟩,λns z=>by cases z⟩;show (flats (ao (aV qs))&&(flats (bp (qs.map (·.2)))&&true))=true;rw[cS,jR];rfl
end
abbrev xC:bV:=Lq 40
abbrev KW:aO:=Lj
theorem Up:dC KW ["script","most","many","digits","links","counts","cells","k","number","elder","places","wants","pairs"] xC:=Uy (by decide)
section
variable {ws:af}{ls:aa}{B S:af}{qs:cO}
theorem Uo (st:cq ws ls B=B):lZ ws ls (cI ws.length B):=λh hh=>by
 unfold kz;by_cases z:h∈B
 ·have s1:fH ws ls B h=true:=by
   have:=xk.mp st h z
   exact this
  unfold fH at s1;have s2:=mw s1;unfold fG at s2;have e:=wY (λ_:Int=>true) (λz=>decide (z∈B)) (aF ls h);rw[xk.mpr λ_ _=>rfl]at e;have c:((aF ls h).filter λx=>decide (x∈B)&&true)=(aF ls h).filter λx=>decide (x∈B):=AQ λx _=>Ak _
  rw[c]at e;have d:((aF ls h).filter λx=>decide (x∈cI ws.length B)).length<=((aF ls h).filter λx=>true&&!decide (x∈B)).length:=by
   refine List.Sublist.length_le ?_
   have:((aF ls h).filter λx=>decide (x∈cI ws.length B))=(((aF ls h).filter λx=>true&&!decide (x∈B)).filter λx=>decide (x∈cI ws.length B)):=by
    rw[List.filter_filter];refine AQ λx _=>?_
    unfold cI;rw[xf];simp only[lx,cz,mv,yz,zg,Bool.true_and]
    exact⟨λz=>⟨z,z.2⟩,λz=>z.1⟩
   rw[this];exact Bf
  rw[Bool.and_eq_false_iff];exact .inr (fk (by omega))
 ·have:h∈cI ws.length B:=cz.mpr ⟨hh,by rw[fk z];rfl⟩
  rw[di this];rfl
theorem KU (st:cq ws ls B=B){x:Int}(hx:x∈B)(xr:x∈bj ws.length)(f:dE ws ls S=true)(sub:∀s∈S,s∈bj ws.length):∃y∈B,y∈S:=by
 refine ud λno=>?_
 have:=l6.mp f (cI ws.length B) (Uo st) (λs hs=>cz.mpr ⟨sub s hs,by rw[fk λz=>no ⟨s,z,hs⟩];rfl⟩) x xr
 have:=(cz.mp this).2
 rw[di hx]at this;cases this
theorem KS:∀{qs:cO},qs.Pairwise (λa b=>∀x∈a.2,x∉b.2)->(∀q∈qs,∃y∈q.2,y∈S)->∃L:af,L.Nodup/\L.length=qs.length/\∀x∈L,x∈S/\∃q∈qs,x∈q.2
 |[],_,_=>⟨[],wq,rfl,λ_ z=>by cases z⟩
 |q::qs,p,m=>by
  obtain⟨p1,p2⟩:=wt.mp p
  obtain⟨L,l1,l2,l3⟩:=KS p2 λr hr=>m r (fu _ hr)
  obtain⟨y,hy,hs⟩:=m q dh
  refine⟨y::L,oy.mpr ⟨λz=>?_,l1⟩,by rw[ie,ie,l2],λx hx=>?_⟩
  ·obtain⟨_,r,hr,hx⟩:=l3 y z
   exact p1 r hr y hy hx
  ·rcases ff.mp hx with z|z
   ·rw[z];exact⟨hs,q,dh,hy⟩
   ·obtain⟨a,r,hr,hx⟩:=l3 x z
    exact⟨a,r,fu _ hr,hx⟩
theorem m9.met (A:m9 ws ls qs)(hS:aY ws.length S=true)(f:dE ws ls S=true):∀q∈qs,∃y∈q.2,y∈S:=λq hq=>by
 obtain⟨s1,s2,s3⟩:=A.sets q hq
 exact KU s3 s2 (bO.mpr ((dD s1).2 _ s2)) f λs hs=>bO.mpr ((dD hS).2 s hs)
theorem m9.eu (A:m9 ws ls qs)(hS:aY ws.length S=true)(f:dE ws ls S=true):qs.length<=S.length:=by
 obtain⟨L,l1,l2,l3⟩:=KS A.apart (A.met hS f)
 rw[<- l2];exact dJ l1 λx hx=>(l3 x hx).1
end
abbrev cY:=aa
def c7 (bl:cY):af:=bl.map λp=>p.2-p.1
def gE (w p:Int)(bl:cY):Int:=(bl.map (·.1)).sum+(if w<=(bl.length:Int) then min p ((cN (c7 bl)).take w.toNat).sum else p)
def lD (w p:Int)(bl:cY):Int×Int:=(gE (max 0 (w-1)) p bl,gE w p bl)
def qW:bV:=λxs Q=>∃w:Int,xs = [.int w]/\Q (.int (max 0 (w-1)))
def KR:aO:=(bY (aB pQ (a6 (qC (.int 0)) (a6 (iY (a5 0) (qC (.int 1))) a9))))
theorem Um:dC KR ["want"] qW:=by
 rintro xs Q ⟨w,rfl,q⟩;refine⟨_,rfl,_,_,rfl,rfl,_,_,rfl,trivial,?_⟩;have e:(if w-1>0 then w-1 else 0)=max 0 (w-1):=by split<;>omega
 show Q (.int (if w-1>0 then w-1 else 0));rw[e];exact q
def tJ:bV:=λxs Q=>∃(w p:Int) (bl:cY),xs = [.int w,.int p,.lst (b6 bl)]/\0<=w/\bl.length<64/\Q (.int (gE w p bl))
def KQ:aO:=(aI (b8 3 (aB pO (a6 (c9 (cD (a5 2)) [none,none] (fO 0 1) dB (iY (a5 1) (a5 0))) a9)))
 (aI (b8 4 (a5 1))
 (aI (dO (bH (C4 (aB cC (a6 (a5 3) a9)) (a5 0))) (b8 4 (aB pP (a6 (a5 1) (a6 (aB oM (a6 (sF (a5 3) v6 (pX (a5 0))) a9)) a9)))) dZ)
 (bY (fX (aB oM (a6 (c9 (cD (a5 2)) [none,none] (fO 0 1) dB (a5 0)) a9)) (a5 4))))))
section
variable {w p d:Int}{bl:cY}{Q:PV→Prop}{s0 s1 s3:Option Slot}
theorem KP {g:Bool}(hl:bl.length<64)(q:Q (.int ((bl.map (·.1)).sum+d))) :
  (bY (fX (aB oM (a6 (c9 (cD (a5 2)) [none,none] (fO 0 1) dB (a5 0)) a9)) (a5 4))) { nx:=λ_=>Q .bw,rt:=Q } [s0,s1,some (.sh g (.lst (b6 bl))),s3,si d]:=by
 refine⟨_,rfl,b6 bl,rfl,(λz=>by cases g<;>cases z),by rw[lX];omega,λi acc=>acc=ao ((bl.take i).map (·.1)),rfl,?_,?_⟩
 ·rintro i y acc hy rfl
  obtain⟨r,rfl,hr⟩:=vZ hy
  refine wX ?_;refine⟨_,rfl,trivial,?_⟩;dsimp only;rw[nq,hr,gu,fE];rfl
 ·rintro acc rfl
  rw[lX,qu (de _)]
  exact⟨_,_,rfl,rfl,_,rfl,_,_,rfl,rfl,trivial,q⟩
end
theorem Ul:dC KQ ["want","price","below","gaps","dearer"] tJ:=by
 rintro xs Q ⟨w,p,bl,rfl,w0,hl,q⟩;refine⟨_,rfl,b6 bl,rfl,(λz=>by cases z),by rw[lX];omega,λi acc=>acc=ao (c7 (bl.take i)),rfl,?_,?_⟩
 ·rintro i y acc hy rfl
  obtain⟨r,rfl,hr⟩:=vZ hy
  refine wX ?_;refine⟨_,rfl,_,rfl,_,_,rfl,rfl,trivial,?_⟩;dsimp only;unfold c7;rw[nq,hr,gu,fE];rfl
 rintro acc rfl;rw[lX,qu (de _)];have gl:(c7 bl).length=bl.length:=df _;refine⟨c7 bl,rfl,by omega,λms pm so=>⟨trivial,?_⟩⟩;cases LU pm so;have sl:=pm.length_eq;refine⟨_,rfl,trivial,?_⟩;refine⟨_,rfl,_,_,rfl,rfl,_,rfl,_,_,rfl,rfl,_,rfl,?_⟩;rw[bE];unfold gE at q;by_cases c:w<=(bl.length:Int)
 ·rw[if_pos c]at q
  rw[di (by omega)];refine bP ⟨_,rfl,_,rfl,_,rfl,_,rfl,ao (cN (c7 bl)),rfl,cS _,_,(cN (c7 bl)).take w.toNat,rfl,?_,_,_,rfl,trivial,?_⟩
  ·show some (iX (ao (cN (c7 bl))) none (some w))=_
   rw[MU w0];unfold ao;rw[List.map_take]
  ·have e:(if ((cN (c7 bl)).take w.toNat).sum<p then ((cN (c7 bl)).take w.toNat).sum else p)=min p ((cN (c7 bl)).take w.toNat).sum:=by split<;>omega
   dsimp only;rw[e];exact KP hl q
 ·rw[if_neg c]at q
  rw[fk (by omega)];exact bK (KP hl q)
def xE:bV:=λxs Q=>∃(w p:Int) (bl:cY),xs = [.int w,.int p,.lst (b6 bl)]/\0<=w/\bl.length<64/\Q (.tup [.int (lD w p bl).1,.int (lD w p bl).2])
def KO:aO:=(bY (gL (a6 (aB tJ (a6 (aB qW (a6 (a5 0) a9)) (a6 (a5 1) (a6 (a5 2) a9)))) (a6 (aB tJ (a6 (a5 0) (a6 (a5 1) (a6 (a5 2) a9)))) a9))))
theorem Uk:dC KO ["want","price","below"] xE:=by
 rintro xs Q ⟨w,p,bl,rfl,w0,hl,q⟩
 exact⟨_,rfl,w,rfl,_,rfl,_,rfl,_,p,bl,rfl,by omega,hl,_,rfl,_,rfl,_,rfl,w,p,bl,rfl,w0,hl,by show 2<=1000;decide,rfl,trivial,q⟩
def aN (L:cY)(h:Int):Int×Int:=L.getD h.toNat (0,0)
def mC (ws ps:af)(ls:aa)(L:cY)(h:Int)(e:Option Int):Prop:=aN L h=lD (ws.getD h.toNat 0) (ps.getD h.toNat 0) ((aD ls h e).map (aN L))
def nH (ws ps:af)(ls:aa)(P:bZ)(L:cY):Prop:=L.length=ws.length/\∀h e,(h,e)∈P->mC ws ps ls L h e
def KN:aO:=(aI (b8 8 (c9 (cD (aB lC (a6 (a5 4) (a6 (a5 6) (a6 (a5 7) a9))))) [none,some 5] (bW 0) dB (bI (a5 1) (a5 0))))
  (o6 5 (a5 6) (aB xE (a6 (bI (bI (a5 0) (qC (.int 0))) (a5 6)) (a6 (bI (a5 3) (a5 6)) (a6 (a5 8) a9))))))
theorem L6 {L:cY}{h:Int}(h0:0<=h)(h1:h<(L.length:Int)):L2.ma (b6 L) h=some (.tup [.int (aN L h).1,.int (aN L h).2]):=by
 obtain⟨j,rfl⟩:∃j:Nat,h=j:=⟨h.toNat,by omega⟩
 refine jJ ?_;unfold b6 aN;rw[qh,gf,ju,gs (by omega)];rfl
theorem xF {ns:af}{h:Int}(h0:0<=h)(h1:h<(ns.length:Int)):L2.ma (ao ns) h=some (.int (ns.getD h.toNat 0)):=by
 obtain⟨j,rfl⟩:∃j:Nat,h=j:=⟨h.toNat,by omega⟩
 rw[qh];exact kZ (by omega)
theorem KL {L:cY}{h x:Int}{v:Int×Int}(h0:0<=h)(x0:0<=x)(ne:x≠h):aN (L.set h.toNat v) x=aN L x:=by
 unfold aN;rw[ju,ju,xo (by omega)]
theorem Uj {L:cY}{h:Int}{v:Int×Int}(h0:0<=h)(h1:h<(L.length:Int)):aN (L.set h.toNat v) h=v:=by
 unfold aN;rw[ju,BH (by omega)];rfl
section
variable {ws ps:af}{ls:aa}{P:bZ}{L:cY}{h:Int}{e:Option Int}{E:k9}{s1 s2 y8:Option Slot}
theorem Ui (lk:e9 ws.length ls)(zk:ws.length<=40)(nn:NN ws)(pl:ps.length=ws.length)(ll:L.length=ws.length)(hr:h∈bj ws.length)(nx:∀y8,E.nx [some (.sh true (bG ws ls)),s1,s2,some (.sh true (.tup (ao ps))),some (.sh true (.lst (cA ws.length ls))),some (.own (.lst (b6 (L.set h.toNat (lD (ws.getD h.toNat 0) (ps.getD h.toNat 0) ((aD ls h e).map (aN L))))))),si h,some (.sh true (eN e)),y8]) :
  KN E [some (.sh true (bG ws ls)),s1,s2,some (.sh true (.tup (ao ps))),some (.sh true (.lst (cA ws.length ls))),some (.own (.lst (b6 L))),si h,some (.sh true (eN e)),y8]:=by
 have hm:=bO.mp hr;have nl:=lk.Az h;have kl:(aD ls h e).length<=ws.length:=by have:=yg (λx=>!decide (some x=e)) (aF ls h);unfold aD;omega
 refine⟨_,rfl,_,rfl,_,rfl,ws.length,ls,h,e,rfl,hm.1,hm.2,by omega,ao (aD ls h e),rfl,(λz=>by cases z),by rw[bE];omega,λi acc=>acc=b6 (((aD ls h e).take i).map (aN L)),rfl,?_,?_⟩
 ·rintro i y acc hy rfl
  obtain⟨c,rfl,hc⟩:=hG hy
  have cr:=bO.mp (lk.inr h c (eQ.mp (fm hc)).1);refine⟨_,rfl,_,rfl,_,_,_,rfl,rfl,L6 cr.1 (by omega),rfl,?_⟩;dsimp only;unfold b6;rw[nq,hc,gu,gu];rfl
 ·rintro acc rfl
  rw[bE,qu (de _)];have wp:0<=ws.getD h.toNat 0:=nE nn _;refine⟨trivial,?_⟩;refine⟨_,rfl,_,_,_,rfl,rfl,rfl,_,rfl,_,_,_,rfl,rfl,xF hm.1 hm.2,_,rfl,_,rfl,_,_,_,rfl,rfl,xF hm.1 (by omega),_,rfl,_,_,(aD ls h e).map (aN L),rfl,wp,by rw[df];omega,b6 L,rfl,_,rfl,h,h.toNat,rfl,?_,trivial,?_⟩
  ·rw[lX];unfold iH;rw[if_pos (by omega),if_pos (by omega)]
  ·have:=nx (some (.sh true (.lst (b6 ((aD ls h e).map (aN L))))))
   have q:b6 (L.set h.toNat (lD (ws.getD h.toNat 0) (ps.getD h.toNat 0) ((aD ls h e).map (aN L))))=(b6 L).set h.toNat (.tup [.int (lD (ws.getD h.toNat 0) (ps.getD h.toNat 0) ((aD ls h e).map (aN L))).1,.int (lD (ws.getD h.toNat 0) (ps.getD h.toNat 0) ((aD ls h e).map (aN L))).2]):=by unfold b6;rw[List.map_set]
   rw[q]at this;exact this
end
structure kK (P:bZ)(i:Nat)(D:af):Prop where
 mem:∀y,y∈D↔∃(j:Nat) (q:Option Int),P[j]? = some (y,q)/\P.length<=j+i
theorem kK.nil {P:bZ}:kK P 0 []:=⟨λy=>⟨(λz=>by cases z),λ⟨j,q,hj,hl⟩=>by have:=(gv.mp hj).1;omega⟩⟩
theorem kK.next {P:bZ}{i:Nat}{D:af}{h:Int}{e:Option Int}(S:kK P i D)(il:i<P.length)(hk:P[P.length-1-i]? = some (h,e)):kK P (i+1) (h::D):=⟨λy=>by
 constructor
 ·intro z
  rcases ff.mp z with z|z
  ·rw[z];exact⟨_,e,hk,by omega⟩
  ·obtain⟨j,q,hj,hl⟩:=(S.mem y).mp z
   exact⟨j,q,hj,by omega⟩
 ·rintro⟨j,q,hj,hl⟩
  by_cases ej:j=P.length-1-i
  ·subst ej
   rw[hk]at hj;cases hj;exact dh
  ·exact fu _ ((S.mem y).mpr ⟨j,q,hj,by omega⟩)⟩
theorem kK.Er {n:Nat}{ls:aa}{P:bZ}{i:Nat}{D:af}{h:Int}{e:Option Int}(S:kK P i D)(R:Rt n ls P)(il:i<P.length)(hk:P[P.length-1-i]? = some (h,e)):h∉D:=λz=>by
 obtain⟨j,q,hj,hl⟩:=(S.mem h).mp z
 have:=(fU R.nd hj hk).1
 omega
theorem kK.EU {n:Nat}{ls:aa}{P:bZ}{i:Nat}{D:af}{h:Int}{e:Option Int}(S:kK P i D)(R:Rt n ls P)(il:i<P.length)(hk:P[P.length-1-i]? = some (h,e)):∀y∈D,(h,some y)∉P:=λy hy z=>by
 obtain⟨j,q,hj,hl⟩:=(S.mem y).mp hy
 cases iD R.nd z (fm hk)
 obtain⟨j',q',jk,qz,_⟩:=R.par _ h y hk
 have:=(fU R.nd hj qz).1
 omega
theorem KJ {n:Nat}{ls:aa}{P:bZ}(R:Rt n ls P):P.length<=n:=by
 have:=dJ R.nd (m:=bj n) λx hx=>(R.mem x).mp hx
 rwa [df,cH]at this
theorem Uh {P:bZ}{i:Nat}{y:PV}(hy:(eC P).reverse[i]? = some y):i<P.length/\∃h e,P[P.length-1-i]? = some (h,e)/\y=x6 (h,e):=by
 have il:i<P.length:=by have:=(gv.mp hy).1;rwa [Dq,jV]at this
 rw[List.getElem?_reverse (by rw[jV];exact il),jV]at hy;unfold eC at hy;rw[gf]at hy
 obtain⟨⟨h,e⟩,hk⟩:∃p,P[P.length-1-i]? = some p:=⟨_,gs (by omega)⟩
 rw[hk]at hy;cases hy
 exact⟨il,h,e,hk,rfl⟩
theorem at2 (n:Nat)(a b:Int):(List.replicate n [PV.tup [.int a,.int b]]).flatten=b6 (List.replicate n (a,b)):=by
 induction n with
 |zero=>rfl
 |succ n ih=>rw[Ag,BF,ih,Ag];rfl
section
variable {n:Nat}{ls:aa}{P P':bZ}
theorem Rt0.pair (R:Rt0 n ls P){h:Int}(hh:h∈bj n):∃e,(h,e)∈P:=by
 obtain⟨⟨h',e⟩,hp,rfl⟩:=dr.mp ((R.mem h).mpr hh)
 exact⟨e,hp⟩
theorem Rt0.inr (R:Rt0 n ls P){h:Int}{e:Option Int}(hp:(h,e)∈P):h∈bj n:=(R.mem h).mp (dr.mpr ⟨_,hp,rfl⟩)
theorem KI (R:Rt n ls P)(R':Rt n ls P'):∀(i:Nat) (h:Int) (e':Option Int),P'[i]? = some (h,e')->(h,e')∈P:=by
 intro i
 induction i using Nat.strongRecOn with
 |ind i ih=>
  intro h e' hi;cases e' with
  |none=>exact (R.root h).mpr ((R'.root h).mp (fm hi))
  |some g=>
   obtain⟨j,q,ji,hj,gn⟩:=R'.par i h g hi
   obtain⟨e,he⟩:=R.pair (R'.inr (fm hi))
   rcases R.done h e he g gn with z|z
   ·rw[<- z];exact he
   ·have:=iD R.nd (ih j ji g q hj) z
    subst this
    obtain⟨k,q2,kj,hk,_⟩:=R'.par j g h hj
    have:=(fU R'.nd hk hi).1
    omega
theorem tK (R:Rt n ls P)(R':Rt n ls P'){h:Int}{e:Option Int}:(h,e)∈P↔(h,e)∈P':=by
 constructor
 ·intro z;obtain⟨i,hi⟩:=dL z;exact KI R' R i h e hi
 ·intro z;obtain⟨i,hi⟩:=dL z;exact KI R R' i h e hi
theorem Rt0.leaf (R:Rt0 n ls P)(f:c8 ls){C:Int->Option Int->Prop}(step:∀h e,(h,e)∈P->(∀c∈aD ls h e,C c (some h))->C h e):∀h e,(h,e)∈P->C h e:=by
 have key:∀(k i:Nat) (h:Int) (e:Option Int),i+k=P.length->P[i]? = some (h,e)->C h e:=by
  intro k
  induction k using Nat.strongRecOn with
  |ind k ih=>
   intro i h e ik hi;refine step h e (fm hi) λc hc=>?_
   obtain⟨j,hj⟩:=dL ((R.oh f (fm hi)).mp hc)
   obtain⟨i',q,ij,EE,_⟩:=R.par j c h hj
   have:=(fU R.nd EE hi).1
   have jl:=(gv.mp hj).1;exact ih (P.length-j) (by omega) j c (some h) (by omega) hj
 intro h e hp
 obtain⟨i,hi⟩:=dL hp
 have il:=(gv.mp hi).1;exact key (P.length-i) i h e (by omega) hi
theorem Ug {ws ps:af}{L L':cY}(R:Rt ws.length ls P)(R':Rt ws.length ls P')(f:c8 ls)(k:nH ws ps ls P L)(k':nH ws ps ls P' L'):L=L':=by
 have same:∀h e,(h,e)∈P->aN L h=aN L' h:=R.leaf f (C:=λh _=>aN L h=aN L' h) λh e hp ih=>by
  have a:=k.2 h e hp;have b:=k'.2 h e ((tK R R').mp hp);unfold mC at a b;rw[a,b,zf λc hc=>ih c hc]
 refine List.ext_getElem? λi=>?_
 by_cases hi:i<ws.length
 ·obtain⟨e,he⟩:=R.pair (h:=(i:Int)) (bO.mpr ⟨by omega,by omega⟩)
  have:=same _ e he
  unfold aN at this;rw[qh,ju,ju,gs (by rw[k.1];exact hi),gs (by rw[k'.1];exact hi)]at this;rw[gs (by rw[k.1];exact hi),gs (by rw[k'.1];exact hi)];exact congrArg some this
 ·rw[EZ (by rw[k.1];omega),EZ (by rw[k'.1];omega)]
def nI:Int×Option Int->Option (Int×Int)
 |(_,none)=>none
 |(h,some g)=>some (min h g,max h g)
theorem L7:∀P:bZ,P.length=(P.filterMap nI).length+(P.filter λp=>p.2.isNone).length
 |[]=>rfl
 |(h,none)::P=>by
  have ih:=L7 P;rw[List.filterMap_cons_none (f:=nI) (a:=(h,none)) rfl,Dt rfl,ie,ie];omega
 |(h,some g)::P=>by
  have ih:=L7 P;rw[List.filterMap_cons_some (f:=nI) (a:=(h,some g)) (b:=(min h g,max h g)) rfl,Ci (by simp),ie,ie];omega
theorem KH {P:bZ}{l:Int×Int}:l∈P.filterMap nI↔∃h g,(h,some g)∈P/\l=(min h g,max h g):=by
 rw[DT];constructor
 ·rintro⟨⟨h,e⟩,hp,z⟩
  cases e with
  |none=>cases z
  |some g=>exact⟨h,g,hp,(jr z).symm⟩
 ·rintro⟨h,g,hp,rfl⟩
  exact⟨_,hp,rfl⟩
theorem Rt.Bn (w:cF n ls)(f:c8 ls)(nd:(P.map (·.1)).Nodup)(mem:∀h,h∈P.map (·.1)↔h∈bj n)(par:∀(i:Nat) (h e:Int),P[i]? = some (h,some e)->∃(j:Nat) (q:Option Int),j<i/\P[j]? = some (e,q)/\e∈aF ls h)(root:∀h,(h,none)∈P->h∈b7 ls (bj n)):Rt n ls P:=by
 have hS:=l9 n;have inr:∀{h e},(h,e)∈P->h∈bj n:=λ{h e} hp=>(mem h).mp (dr.mpr ⟨_,hp,rfl⟩)
 have conn:∀(i:Nat) (h:Int) (e:Option Int),P[i]? = some (h,e)->∃r,(r,none)∈P/\h∈comp ls (bj n) r:=by
  intro i
  induction i using Nat.strongRecOn with
  |ind i ih=>
   intro h e hi;cases e with
   |none=>exact⟨h,fm hi,gS (inr (fm hi))⟩
   |some g=>
    obtain⟨j,q,ji,hj,gn⟩:=par i h g hi
    obtain⟨r,hr,hc⟩:=ih j ji g q hj
    exact⟨r,hr,jU g hc h (lS gn) (inr (fm hi))⟩
 have rt:∀h,(h,none)∈P↔h∈b7 ls (bj n):=λh=>⟨root h,λhh=>by
  obtain⟨⟨h',e⟩,hp,rfl⟩:=dr.mp ((mem h).mpr (fS.mp hh).1)
  obtain⟨i,hi⟩:=dL hp
  obtain⟨r,hr,hc⟩:=conn i _ _ hi
  have:=x3 hS hh (root r hr) (z:=h') (gS (fS.mp hh).1) hc
  dsimp only at this ⊢
  rw[this];exact hr⟩
 have order:∀h g,(h,some g)∈P->(g,some h)∈P->False:=λh g a b=>by
  obtain⟨i,hi⟩:=dL a
  obtain⟨j,hj⟩:=dL b
  obtain⟨i',q,l1,EE,_⟩:=par i h g hi
  obtain⟨j',q',l2,qz,_⟩:=par j g h hj
  have e1:=(fU nd EE hj).1;have e2:=(fU nd qz hi).1;omega
 have FT:∀l∈P.filterMap nI,l∈ls:=λl hl=>by
  obtain⟨h,g,hp,rfl⟩:=KH.mp hl
  obtain⟨i,hi⟩:=dL hp
  obtain⟨_,_,_,_,gn⟩:=par i h g hi
  rcases L2.eL.mp gn with z|z
  ·have:=f.lt _ z
   dsimp only at this;rw[show min h g=h by omega,show max h g=g by omega];exact z
  ·have:=f.lt _ z
   dsimp only at this;rw[show min h g=g by omega,show max h g=h by omega];exact z
 have pnd:P.Nodup:=(uw.mp nd).imp λz e=>z (by rw[e])
 have PH:(P.filterMap nI).Nodup:=by
  refine List.Pairwise.filterMap nI (R:=λp q:Int×Option Int=>p∈P/\q∈P/\p.1≠q.1) (λp q Ra l hl l' mq e=>?_) ?_
  ·obtain⟨hp,hq,ne⟩:=Ra
   obtain⟨h,a⟩:=p
   obtain⟨g,b⟩:=q
   cases a with
   |none=>cases hl
   |some a=>
    cases b with
    |none=>cases mq
    |some b=>
     cases hl;cases mq;have e1:=(Prod.mk.inj e).1;have e2:=(Prod.mk.inj e).2;dsimp only at ne;have x1:a=g:=by omega
     have x2:b=h:=by omega
     subst x1 x2;exact order _ _ hp hq
  ·exact (uw.mp nd).imp_of_mem λ{a b} ha hb z=>⟨ha,hb,z⟩
 have hl:(P.filter λp=>p.2.isNone).length=(b7 ls (bj n)).length:=by
  have a:((P.filter λp=>p.2.isNone).map (·.1)).Nodup:=(List.Pairwise.sublist (List.filter_sublist.map _) nd);have m:∀h,h∈(P.filter λp=>p.2.isNone).map (·.1)↔h∈b7 ls (bj n):=λh=>by
   rw[<- rt h,dr];constructor
   ·rintro⟨⟨h',e⟩,hp,rfl⟩
    obtain⟨h1,h2⟩:=cz.mp hp
    cases e with
    |none=>exact h1
    |some _=>cases h2
   ·intro z;exact⟨_,cz.mpr ⟨z,rfl⟩,rfl⟩
  have l1:=dJ a λx hx=>(m x).mp hx
  have l2:=dJ (wZ (ls:=ls) hS) λx hx=>(m x).mpr hx
  rw[df]at l1 l2;omega
 have pl:P.length=n:=by
  have l1:=dJ nd (m:=bj n) λx hx=>(mem x).mp hx
  have l2:=dJ (x4 hS) λx hx=>(mem x).mpr hx
  rw[df,cH]at l1 l2;omega
 have all:∀l∈ls,l∈P.filterMap nI:=λl mq=>ud λno=>by
  have l1:=(oy.mpr ⟨no,PH⟩).length_le_of_subset (l₂:=ls) λx hx=>(ff.mp hx).elim (λz=>z▸mq) (FT x)
  have:=L7 P
  unfold cF at w;rw[ie]at l1;omega
 refine⟨⟨nd,mem,par,λh e hp x hx=>?_⟩,rt⟩;have key:∀l,l∈ls->(l=(h,x)∨l=(x,h))->e=some x∨(x,some h)∈P:=λl mq Ha=>by
  obtain⟨a,b,xa,e1⟩:=KH.mp (all l mq)
  have lt:=f.lt l mq;have c:(a=h/\b=x)∨(a=x/\b=h):=by
   rcases Ha with z|z<;>rw[z]at e1 lt<;>(have e2:=(Prod.mk.inj e1).1;have e3:=(Prod.mk.inj e1).2;dsimp only at lt;omega)
  rcases c with⟨rfl,rfl⟩|⟨rfl,rfl⟩
  ·exact .inl (iD nd hp xa)
  ·exact .inr xa
 rcases L2.eL.mp hx with z|z
 ·exact key _ z (.inl rfl)
 ·exact key _ z (.inr rfl)
end
def eY (fh:List (Option Int)):List PV:=fh.map eN
def eD (fh:List (Option Int))(h:Int):Option Int:=fh.getD h.toNat none
structure EI (n:Nat)(ls:aa)(O:af)(fh:List (Option Int)):Prop where
 nd:O.Nodup
 fe:∀x∈O,x∈bj n
 len:fh.length=n
 par:∀(i:Nat) (h g:Int),O[i]? = some h->eD fh h=some g->∃j:Nat,j<i/\O[j]? = some g/\g∈aF ls h
 root:∀h∈O,eD fh h=none->h∈b7 ls (bj n)
 out:∀h∈bj n,h∉O->eD fh h=none
section
variable {n:Nat}{ls:aa}{O:af}{fh:List (Option Int)}{x g:Int}
theorem Ue (h0:0<=x){y:Int}(y0:0<=y)(ne:y≠x){v:Option Int}:eD (fh.set x.toNat v) y=eD fh y:=by
 unfold eD;rw[ju,ju,xo (by omega)]
theorem Ud (h0:0<=x)(h1:x<(fh.length:Int)){v:Option Int}:eD (fh.set x.toNat v) x=v:=by
 unfold eD;rw[ju,BH (by omega)];rfl
theorem EI.put (e:EI n ls O fh)(hx:x∉O)(xr:x∈bj n)(hg:g∈O)(gn:g∈aF ls x):EI n ls (O++[x]) (fh.set x.toNat (some g)):=by
 have xm:=bO.mp xr;have ps:∀y∈bj n,y≠x->eD (fh.set x.toNat (some g)) y=eD fh y:=λy hy ne=>Ue xm.1 (bO.mp hy).1 ne
 have self:eD (fh.set x.toNat (some g)) x=some g:=Ud xm.1 (by rw[e.len];exact xm.2);refine⟨xj.mpr ⟨e.nd,ot _ _,λa ha b hb z=>hx (by rw[<- dt.mp hb,<- z];exact ha)⟩,λy hy=>?_,by rw[va];exact e.len,λi h g' hi yc=>?_,λh hh yc=>?_,λh hr hh=>?_⟩
 ·rcases fi.mp hy with z|z
  ·exact e.fe y z
  ·rw[dt.mp z];exact xr
 ·by_cases il:i<O.length
  ·rw[tf il]at hi
   have hm:=fm hi;rw[ps h (e.fe h hm) λz=>hx (z▸hm)]at yc
   obtain⟨j,ji,hj,gn⟩:=e.par i h g' hi yc
   exact⟨j,ji,by rw[tf (by omega)];exact hj,gn⟩
  ·rw[AS (by omega)]at hi
   have:h=x:=dt.mp (fm hi)
   subst this;rw[self]at yc;cases yc
   obtain⟨j,hj⟩:=AR.mp hg
   have jl:=(gv.mp hj).1
   exact⟨j,by omega,by rw[tf jl];exact hj,gn⟩
 ·rcases fi.mp hh with z|z
  ·rw[ps h (e.fe h z) λq=>hx (q▸z)]at yc
   exact e.root h z yc
  ·rw[dt.mp z,self]at yc;cases yc
 ·rw[ps h hr λz=>hh (by rw[z];exact qt _ (Fb _))]
  exact e.out h hr λz=>hh (pb _ z)
theorem EI.rt (e:EI n ls O fh)(hx:x∉O)(xh:x∈b7 ls (bj n)):EI n ls (O++[x]) fh:=by
 have xr:=(fS.mp xh).1;refine⟨xj.mpr ⟨e.nd,ot _ _,λa ha b hb z=>hx (by rw[<- dt.mp hb,<- z];exact ha)⟩,λy hy=>?_,e.len,λi h g' hi yc=>?_,λh hh yc=>?_,λh hr hh=>e.out h hr λz=>hh (pb _ z)⟩
 ·rcases fi.mp hy with z|z
  ·exact e.fe y z
  ·rw[dt.mp z];exact xr
 ·by_cases il:i<O.length
  ·rw[tf il]at hi
   obtain⟨j,ji,hj,gn⟩:=e.par i h g' hi yc
   exact⟨j,ji,by rw[tf (by omega)];exact hj,gn⟩
  ·rw[AS (by omega)]at hi
   have:h=x:=dt.mp (fm hi)
   subst this;rw[e.out h xr hx]at yc;cases yc
 ·rcases fi.mp hh with z|z
  ·exact e.root h z yc
  ·rw[dt.mp z];exact xh
theorem EI.le (e:EI n ls O fh):O.length<=n:=by
 have:=dJ e.nd (m:=bj n) e.fe
 rwa [cH]at this
theorem EI.head (e:EI n ls O fh)(sh:fR ls (bj n) O)(hx:x∉O)(xr:x∈bj n)(low:∀y∈bj n,y<x->y∈O):x∈b7 ls (bj n):=by
 refine tH (l9 n) xr (U:=(bj n).filter λy=>!decide (y∈O)) (λa ha b hb br=>?_) (cz.mpr ⟨xr,by rw[fk hx];rfl⟩) λy hy yr=>?_
 ·obtain⟨a1,a2⟩:=cz.mp ha
  refine cz.mpr ⟨br,?_⟩
  have:b∉O:=λz=>by
   have:=sh b z a (lS hb) a1
   rw[di this]at a2;cases a2
  rw[fk this];rfl
 ·have y2:=(cz.mp hy).2
  refine ud λno=>?_
  rw[di (low y yr (by omega))]at y2;cases y2
def lE (O:af)(fh:List (Option Int)):bZ:=O.map λh=>(h,eD fh h)
theorem EI.all (e:EI n ls O fh)(w:cF n ls)(f:c8 ls)(all:∀y∈bj n,y∈O):Rt n ls (lE O fh):=by
 have m1:(lE O fh).map (·.1)=O:=by unfold lE;rw[kq];exact List.map_id'' (λ_=>rfl) _
 have at_:∀(i:Nat) (h:Int) (q:Option Int),(lE O fh)[i]? = some (h,q)↔O[i]? = some h/\q=eD fh h:=λi h q=>by
  unfold lE;rw[gf];cases z:O[i]? with
  |none=>simp
  |some y=>
   constructor
   ·intro q';cases q';exact⟨rfl,rfl⟩
   ·rintro⟨q1,q2⟩;cases q1;rw[q2];rfl
 refine Rt.Bn w f (by rw[m1];exact e.nd) (λh=>by rw[m1];exact⟨e.fe h,all h⟩) (λi h g hi=>?_) λh hh=>?_
 ·obtain⟨h1,h2⟩:=(at_ i h _).mp hi
  obtain⟨j,ji,hj,gn⟩:=e.par i h g h1 h2.symm
  exact⟨j,eD fh g,ji,(at_ j g _).mpr ⟨hj,rfl⟩,gn⟩
 ·obtain⟨i,hi⟩:=dL hh
  obtain⟨h1,h2⟩:=(at_ i h _).mp hi
  exact e.root h (fm h1) h2.symm
end
structure qX (n:Nat)(ls:aa)(fh:List (Option Int))(O:af):Prop where
 len:fh.length=n
 rt:Rt n ls (lE O fh)
def xG:bV:=λxs Q=>∃ws ls,xs = [bG ws ls]/\Wb ws ls/\e9 ws.length ls/\cF ws.length ls/\∀fh O,qX ws.length ls fh O->Q (.tup [.lst (eY fh),.lst (ao O)])
def KG:aO:=(fB (cD (bI (a5 1) (bI (a5 3) (a5 5)))) (bW 6)
     (dO (bH (q2 (v5 true) (a5 6) (a5 3))) (aI (o6 2 (a5 6) (bI (a5 3) (a5 5)))
      (iW 3 (a5 6))) dZ))
def L8:aO:=(pN (bH (pY (a5 5) (aB cC (a6 (a5 3) a9))))
    (aI KG
    (b8 5 (fX (a5 5) (qC (.int 1))))))
def KD:aO:=(aI (b8 1 (aB Mm (a6 (a5 0) a9)))
 (aI (e6 2 (qE (fA (a6 (qC .bw) a9)) (aB cC (a6 (bI (a5 0) (qC (.int 0))) a9))))
 (aI (e6 3 (fA a9))
 (aI (fB (o8 (aB cC (a6 (bI (a5 0) (qC (.int 0))) a9))) (bW 4)
  (dO (bH (q2 (v5 true) (a5 4) (a5 3))) (aI (iW 3 (a5 4))
   (aI (b8 5 (iY (aB cC (a6 (a5 3) a9)) (qC (.int 1))))
   L8)) dZ))
 (pM 2 (pM 3 (bY (B1 (a6 (a5 2) (a6 (a5 3) a9))))))))))
section
variable {n:Nat}{ls:aa}{O:af}{fh:List (Option Int)}{E:k9}{s0 s4 y6:Option Slot}{t:Nat}{cur:Int}
theorem Uc (zk:n<=40)(lk:e9 n ls)(e:EI n ls O fh)(hc:O[t]? = some cur)(sh:∀(i:Nat) (h:Int),i<t->O[i]? = some h->∀y∈aF ls h,y∈O)(nx:∀O' iu y6,EI n ls O' iu->(∀(i:Nat) (h:Int),O[i]? = some h->O'[i]? = some h)->(∀y∈aF ls cur,y∈O')->E.nx [s0,some (.sh true (.lst (cA n ls))),some (.own (.lst (eY iu))),some (.own (.lst (ao O'))),s4,si t,y6]) :
  KG E [s0,some (.sh true (.lst (cA n ls))),some (.own (.lst (eY fh))),some (.own (.lst (ao O))),s4,si t,y6]:=by
 have cm:=fm hc;have cr:=bO.mp (e.fe cur cm);have Ky:∀O':af,O'[t]? = some cur->L2.ma (ao O') (t:Int)=some (.int cur):=λO' h=>jJ (by unfold ao;rw[gf,h];rfl)
 refine⟨_,rfl,_,rfl,_,rfl,_,_,_,rfl,rfl,Ky O hc,_,_,_,rfl,rfl,vX cr.1 cr.2,ao (aF ls cur),rfl,(λz=>by cases z),λj ρ=>∃(O':af) (iu:List (Option Int)) (y6:Option Slot),ρ = [s0,some (.sh true (.lst (cA n ls))),some (.own (.lst (eY iu))),some (.own (.lst (ao O'))),s4,si t,y6]/\EI n ls O' iu/\(∀(i:Nat) (h:Int),O[i]? = some h->O'[i]? = some h)/\∀y∈(aF ls cur).take j,y∈O',⟨O,fh,y6,rfl,e,λ_ _ z=>z,λy hy=>by rw[List.take_zero]at hy;cases hy⟩,?_,?_⟩
 ·rintro j y ρ hy ⟨O',iu,y6,rfl,e',kp,dn⟩
  obtain⟨x,rfl,hx⟩:=hG hy
  have xn:=fm hx;have xr:=lk.inr cur x xn;have xm:=bO.mp xr;have tk:(aF ls cur).take (j+1)=(aF ls cur).take j++[x]:=by rw[nq,hx];rfl
  have ol:=e'.le;refine kG ?_;refine⟨_,rfl,_,rfl,x,O',rfl,rfl,_,rfl,?_⟩;show if (!decide (x∈O'))=true then _ else _
  by_cases z:x∈O'
  ·rw[di z]
   refine bK ⟨O',iu,_,rfl,e',kp,λy hy=>?_⟩;rw[tk]at hy;rcases fi.mp hy with q|q
   ·exact dn y q
   ·rw[dt.mp q];exact z
  ·rw[fk z]
   have lo:(eY iu).length=n:=by unfold eY;rw[df];exact e'.len
   refine bP ⟨_,rfl,_,rfl,_,_,_,rfl,rfl,Ky O' (kp t cur hc),eY iu,rfl,_,rfl,x,x.toNat,rfl,?_,rfl,?_⟩
   ·rw[lo];unfold iH;rw[if_pos (by omega),if_pos (by omega)]
   refine⟨_,rfl,_,rfl,trivial,by rw[bE];omega,O'++[x],iu.set x.toNat (some cur),si x,?_,e'.put z xr (fm (kp t cur hc)) (lS xn),λi h hi=>by rw[tf (gv.mp (kp i h hi)).1];exact kp i h hi,λy hy=>?_⟩
   ·have q1:eY (iu.set x.toNat (some cur))=(eY iu).set x.toNat (.int cur):=by unfold eY;rw[List.map_set];rfl
    show _ = [_,_,some (Slot.own (.lst (eY (iu.set x.toNat (some cur))))),some (Slot.own (.lst (ao (O'++[x])))),_,_,_];rw[q1,fE];rfl
   ·rw[tk]at hy
    rcases fi.mp hy with q|q
    ·exact pb _ (dn y q)
    ·rw[dt.mp q];exact qt _ (Fb _)
 ·rintro ρ ⟨O',iu,y6,rfl,e',kp,dn⟩
  rw[bE,qu (de _)]at dn;exact nx O' iu y6 e' kp dn
theorem Ub (zk:n<=40)(lk:e9 n ls)(e:EI n ls O fh)(tl:t<=O.length)(sh:∀(i:Nat) (h:Int),i<t->O[i]? = some h->∀y∈aF ls h,y∈O)(nx:∀O' iu y5 y6,EI n ls O' iu->fR ls (bj n) O'->(∀x∈O,x∈O')->E.nx [s0,some (.sh true (.lst (cA n ls))),some (.own (.lst (eY iu))),some (.own (.lst (ao O'))),s4,y5,y6]) :
  L8 E [s0,some (.sh true (.lst (cA n ls))),some (.own (.lst (eY fh))),some (.own (.lst (ao O))),s4,si t,y6]:=by
 refine⟨λm ρ=>∃(O':af) (iu:List (Option Int)) (t:Nat) (y6:Option Slot),ρ = [s0,some (.sh true (.lst (cA n ls))),some (.own (.lst (eY iu))),some (.own (.lst (ao O'))),s4,si t,y6]/\EI n ls O' iu/\t<=O'.length/\(∀(i:Nat) (h:Int),i<t->O'[i]? = some h->∀y∈aF ls h,y∈O')/\(∀x∈O,x∈O')/\m=n-t,⟨_,O,fh,t,y6,rfl,e,tl,sh,λ_ z=>z,rfl⟩,?_⟩;rintro m ρ ⟨O',iu,t,y6,rfl,e',tl,sh,sub,rfl⟩;have ol:=e'.le;refine⟨_,rfl,_,rfl,_,_,rfl,rfl,_,_,rfl,rfl,_,rfl,?_⟩;rw[bE];by_cases lt:t<O'.length
 ·rw[di (by omega)]
  obtain⟨cur,hc⟩:∃c,O'[t]? = some c:=⟨_,gs lt⟩
  refine bP (Uc zk lk e' hc sh λO2 HP y6 e2 kp dn=>?_);refine⟨_,rfl,_,_,rfl,rfl,trivial,n-(t+1),by omega,O2,HP,t+1,y6,rfl,e2,?_,λi h it hi y hy=>?_,λx hx=>?_,rfl⟩
  ·have:=(gv.mp (kp t cur hc)).1;omega
  ·have i2:=(gv.mp (kp t cur hc)).1
   by_cases e1:i=t
   ·subst e1
    rw[kp i cur hc]at hi;cases hi;exact dn y hy
   ·obtain⟨h',IZ⟩:∃c,O'[i]? = some c:=⟨_,gs (by omega)⟩
    rw[kp i h' IZ]at hi;cases hi
    obtain⟨k,hk⟩:=AR.mp (sh i h (by omega) IZ y hy)
    exact fm (kp k y hk)
  ·obtain⟨k,hk⟩:=AR.mp (sub x hx)
   exact fm (kp k x hk)
 ·rw[fk (by omega)]
  refine bK (nx O' iu _ _ e' (λx hx y hy _=>?_) sub)
  obtain⟨i,hi⟩:=AR.mp hx
  have il:=(gv.mp hi).1;exact sh i x (by omega) hi y hy
end
theorem Ua {a b:PV×Tg}(ha:Nw a.2 a.1)(hb:Nw b.2 b.1):pI [a,b]:=by
 intro p hp;simp only[ff,nh,mz]at hp;rcases hp with rfl|rfl
 ·exact ha
 ·exact hb
theorem KC (n:Nat):(List.replicate n [PV.bw]).flatten=eY (List.replicate n none):=by
 induction n with
 |zero=>rfl
 |succ n ih=>rw[Ag,BF,ih,Ag];rfl
theorem TZ (fh:List (Option Int)):flats (eY fh)=true:=by
 induction fh with
 |nil=>rfl
 |cons e r ih=>
  show (flat (eN e)&&flats (eY r))=true;rw[ih];cases e<;>rfl
theorem TY:dC KD ["web","beside","elders","order","root","at","other"] xG:=by
 rintro xs Q ⟨ws,ls,rfl,wb,lk,w,q⟩;have eu:=wb.eu;refine⟨_,rfl,ws,ls,rfl,wb,trivial,?_⟩;refine⟨by show 1<=1000;decide,rfl,_,rfl,_,_,_,rfl,rfl,rfl,_,_,rfl,rfl,_,_,rfl,by rw[bE],rfl,by omega,by omega,by show 1<=10;decide,rfl,?_,?_⟩
 ·show flats (List.replicate (ws.length:Int).toNat [PV.bw]).flatten=true
  rw[KC];exact TZ _
 show (aI _ _) _ [_,_,some (Slot.own (.lst (List.replicate (ws.length:Int).toNat [PV.bw]).flatten)),_,_,_,_];rw[KC,qh];refine⟨by decide,rfl,rfl,rfl,?_⟩;refine⟨_,rfl,_,_,_,rfl,rfl,rfl,_,_,rfl,rfl,ws.length,by rw[bE],by omega,by omega,λr ρ=>∃(O:af) (fh:List (Option Int)) (y4 y5 y6:Option Slot),ρ = [some (.sh (flat (bG ws ls)) (bG ws ls)),some (.sh true (.lst (cA ws.length ls))),some (.own (.lst (eY fh))),some (.own (.lst (ao O))),y4,y5,y6]/\EI ws.length ls O fh/\fR ls (bj ws.length) O/\∀y∈bj ws.length,y<(r:Int)->y∈O,⟨[],_,none,none,none,rfl,⟨wq,(λ_ z=>by cases z),Cg,(λi h g hi=>by cases hi),(λ_ z=>by cases z),λh hr _=>?_⟩,(λ_ z=>by cases z),λy hy lt=>?_⟩,?_,?_⟩
 ·unfold eD
  rw[ju,Fc];split<;>rfl
 ·have:=(bO.mp hy).1;omega
 ·rintro r y ρ hy ⟨O,fh,y4,y5,y6,rfl,e,sh,low⟩
  obtain⟨rfl,hr⟩:=mZ hy
  have hr:r<ws.length:=by omega
  have rr:(r:Int)∈bj ws.length:=bO.mpr ⟨by omega,by omega⟩;have ol:=e.le;refine kG ?_;rw[Bz];refine⟨_,rfl,_,rfl,(r:Int),O,rfl,rfl,_,rfl,?_⟩;show if (!decide ((r:Int)∈O))=true then _ else _
  by_cases z:(r:Int)∈O
  ·rw[di z]
   refine bK ⟨O,fh,_,_,_,rfl,e,sh,λy hy lt=>?_⟩;by_cases q:y=r
   ·rw[q];exact z
   ·exact low y hy (by omega)
  ·rw[fk z]
   have e2:=e.rt z (e.head sh z rr low);refine bP ⟨_,rfl,_,rfl,trivial,by rw[bE];omega,?_⟩;refine⟨_,rfl,_,_,rfl,rfl,_,_,rfl,rfl,trivial,?_⟩;have q1:ao O++[PV.int (r:Int)]=ao (O++[(r:Int)]):=by rw[fE];rfl
   show L8 _ [_,_,_,some (Slot.own (.lst (ao O++[PV.int (r:Int)]))),_,si (((ao O++[PV.int (r:Int)]).length:Int)-1),_];rw[q1,bE,jg,show ((O.length+[(r:Int)].length:Nat):Int)-1=(O.length:Int) by show ((O.length+1:Nat):Int)-1=_;omega];refine Ub eu lk e2 (by rw[jg];omega) (λi h it hi y hy=>?_) λO' iu y5 y6 e' Qc sub=>⟨O',iu,_,y5,y6,rfl,e',Qc,λy hy lt=>?_⟩
   ·rw[tf it]at hi
    exact pb _ (sh h (fm hi) y hy (lk.inr h y hy))
   ·by_cases q:y=r
    ·rw[q];exact sub _ (qt _ (Fb _))
    ·exact sub y (pb _ (low y hy (by omega)))
 ·rintro ρ ⟨O,fh,y4,y5,y6,rfl,e,sh,low⟩
  rw[jN,qh]at low
  exact⟨_,rfl,_,rfl,_,rfl,_,rfl,by show 2<=1000;decide,Ua trivial trivial,trivial,q fh O ⟨e.len,e.all w lk.fit λy hy=>low y hy (bO.mp hy).2⟩⟩
theorem TX {fh:List (Option Int)}{h:Int}(h0:0<=h)(h1:h<(fh.length:Int)):L2.ma (eY fh) h=some (eN (eD fh h)):=by
 obtain⟨j,rfl⟩:∃j:Nat,h=j:=⟨h.toNat,by omega⟩
 refine jJ ?_;unfold eY eD;rw[qh,gf,ju,gs (by omega)];rfl
section
variable {ws ps:af}{ls:aa}{P:bZ}{L:cY}{S O:af}{n:Nat}
structure L9 (ws:af)(ls:aa)(S O:af):Prop where
 nd:O.Nodup
 fe:∀x∈O,x∈bj ws.length
 kz:∀(i:Nat) (h:Int),O[i]? = some h->h∈S∨ws.getD h.toNat 0<=(((aF ls h).filter λx=>decide (x∈O.take i)).length:Int)
theorem TV (sub:∀s∈S,s∈bj ws.length)(f:dE ws ls S=true):∀(k:Nat) (O:af),L9 ws ls S O->ws.length<=O.length+k->∃O',L9 ws ls S O'/\∀h∈bj ws.length,h∈O':=by
 intro k
 induction k with
 |zero=>
  intro O K hl;refine⟨O,K,λh hh=>ud λno=>?_⟩
  have:=dJ (oy.mpr ⟨no,K.nd⟩) (m:=bj ws.length) λx hx=>(ff.mp hx).elim (λz=>z▸hh) (K.fe x)
  rw[ie,cH]at this;omega
 |succ k ih=>
  intro O K hl;by_cases ex:∃h∈bj ws.length,h∉O/\(h∈S∨ws.getD h.toNat 0<=(((aF ls h).filter λx=>decide (x∈O)).length:Int))
  ·obtain⟨h,hr,hO,hk⟩:=ex
   refine ih (O++[h]) ⟨xj.mpr ⟨K.nd,ot _ _,λa ha b hb z=>hO (by rw[<- dt.mp hb,<- z];exact ha)⟩,λx hx=>?_,λi g hi=>?_⟩ (by rw[jg,uy];omega)
   ·rcases fi.mp hx with z|z
    ·exact K.fe x z
    ·rw[dt.mp z];exact hr
   ·by_cases il:i<O.length
    ·rw[tf il]at hi
     rw[List.take_append_of_le_length (by omega)];exact K.kz i g hi
    ·have QJ:=(gv.mp hi).1
     rw[jg,uy]at QJ;have e:i=O.length:=by omega
     subst e;rw[AS (de _)]at hi
     have:g=h:=dt.mp (fm hi)
     subst this;rw[List.take_left' rfl];exact hk
  ·refine⟨O,K,λh hh=>l6.mp f O (λg hg=>?_) (λs hs=>ud λno=>ex ⟨s,sub s hs,no,.inl hs⟩) h hh⟩
   unfold kz;by_cases gO:g∈O
   ·rw[di gO];rfl
   ·rw[Bool.and_eq_false_iff]
    exact .inr (fk λz=>ex ⟨g,hg,gO,.inr z⟩)
def qY (ws ps:af)(ls:aa)(L:cY)(h:Int)(e:Option Int):Prop:=0<=(aN L h).1/\(aN L h).1<=(aN L h).2/\(aN L h).1<=(lD (ws.getD h.toNat 0) (ps.getD h.toNat 0) ((aD ls h e).map (aN L))).1/\(aN L h).2<=(lD (ws.getD h.toNat 0) (ps.getD h.toNat 0) ((aD ls h e).map (aN L))).2
def eZ (O:af)(h:Int):af:=O.take (O.idxOf h)
def fW (L:cY)(O:af)(h:Int):Option Int->Int
 |none=>(aN L h).2
 |some g=>if g∈eZ O h then (aN L h).1 else (aN L h).2
theorem KA {e:Option Int}{h:Int}(r:qY ws ps ls L h e)(e':Option Int):(aN L h).1<=fW L O h e':=by
 obtain⟨_,r2,_⟩:=r
 cases e' with
 |none=>exact r2
 |some g=>unfold fW;split<;>omega
theorem TU {e:Option Int}{h:Int}(r:qY ws ps ls L h e)(e':Option Int):fW L O h e'<=(aN L h).2:=by
 obtain⟨_,r2,_⟩:=r
 cases e' with
 |none=>exact wo _
 |some g=>unfold fW;split<;>omega
theorem TR (nd:O.Nodup){a b:Int}(ha:a∈O)(h:b∈eZ O a):a∉eZ O b:=λz=>by
 unfold eZ at h z
 obtain⟨i,hi,e1⟩:=List.mem_take_iff_getElem.mp h
 obtain⟨j,hj,e2⟩:=List.mem_take_iff_getElem.mp z
 have k1:O.idxOf b=i:=by rw[<- e1];exact nd.idxOf_getElem i (by omega)
 have k2:O.idxOf a=j:=by rw[<- e2];exact nd.idxOf_getElem j (by omega)
 omega
theorem Kz {f g:Int->Int}:∀{l:af},(∀x∈l,f x<=g x)->(l.map f).sum<=(l.map g).sum
 |[],_=>wo _
 |x::r,h=>by
  rw[ib,ib,ka,ka]
  have:=Kz (l:=r) λy hy=>h y (fu _ hy)
  have:=h x dh
  omega
theorem Kx {a b v:Int->Int}(q:Int->Bool):∀{l:af},(∀x∈l,a x<=v x)->(∀x∈l,q x=true->v x=b x)->(l.map a).sum+((l.filter q).map λx=>b x-a x).sum<=(l.map v).sum
 |[],_,_=>wo _
 |x::r,h1,h2=>by
  have ih:=Kx q (l:=r) (λy hy=>h1 y (fu _ hy)) λy hy=>h2 y (fu _ hy)
  have k1:=h1 x dh;rw[ib,ib,ka,ka,qg];cases hq:q x with
  |true=>
   have:=h2 x dh hq
   rw[if_pos rfl,ib,ka];omega
  |false=>rw[if_neg (by simp)];omega
theorem TQ (R:Rt0 ws.length ls P)(f:c8 ls)(K:L9 ws ls S O)(all:∀h∈bj ws.length,h∈O)(nn:NN ws)(right:∀h e,(h,e)∈P->qY ws ps ls L h e){h:Int}{e:Option Int}(hp:(h,e)∈P) :
  fW L O h e<=((aD ls h e).map λc=>fW L O c (some h)).sum+(if h∈S then ps.getD h.toNat 0 else 0):=by
 have hO:=all h (R.inr hp);have rh:=right h e hp;have rc:∀c∈aD ls h e,qY ws ps ls L c (some h):=λc hc=>right c (some h) ((R.oh f hp).mp hc)
 have w0:=nE nn h.toNat;have e1:((aD ls h e).map (aN L)).map (·.1)=(aD ls h e).map λc=>(aN L c).1:=kq ..
 have e2:c7 ((aD ls h e).map (aN L))=(aD ls h e).map λc=>(aN L c).2-(aN L c).1:=by unfold c7;rw[kq];rfl
 have low:=Kz (l:=aD ls h e) (f:=λc=>(aN L c).1) (g:=λc=>fW L O c (some h)) λc hc=>KA (rc c hc) _
 have Qy:∀w p (bl:cY),gE w p bl<=(bl.map (·.1)).sum+p:=λw p bl=>by unfold gE;split<;>omega
 by_cases hS:h∈S
 ·rw[if_pos hS]
  have v1:=TU (O:=O) rh e
  obtain⟨_,_,_,r4⟩:=rh
  have:=Qy (ws.getD h.toNat 0) (ps.getD h.toNat 0) ((aD ls h e).map (aN L))
  rw[e1]at this;have r4:(aN L h).2<=gE (ws.getD h.toNat 0) (ps.getD h.toNat 0) ((aD ls h e).map (aN L)):=r4;omega
 ·rw[if_neg hS]
  obtain⟨i,hi⟩:=AR.mp hO
  have ix:O.idxOf h=i:=by
   obtain⟨il,ee⟩:=gv.mp hi
   rw[<- ee];exact K.nd.idxOf_getElem i il
  have kn:=(K.kz i h hi).resolve_left hS;have bo:eZ O h=O.take i:=by unfold eZ;rw[ix]
  rw[<- bo]at kn;have gp:=Kx (λc=>decide (c∈eZ O h)) (l:=aD ls h e) (a:=λc=>(aN L c).1) (b:=λc=>(aN L c).2) (v:=λc=>fW L O c (some h)) (λc hc=>KA (rc c hc) _) λc hc q=>by
   have cb:=mw q;show (if h∈eZ O c then (aN L c).1 else (aN L c).2)=_;rw[if_neg (TR K.nd hO cb)]
  have key:∀w:Int,0<=w->w<=(((aD ls h e).filter λc=>decide (c∈eZ O h)).length:Int)->gE w (ps.getD h.toNat 0) ((aD ls h e).map (aN L))<=((aD ls h e).map λc=>fW L O c (some h)).sum:=λw wp wl=>by
   have ll:=WN (oW (c7 ((aD ls h e).map (aN L)))).1 (oW (c7 ((aD ls h e).map (aN L)))).2 (t:=((aD ls h e).filter λc=>decide (c∈eZ O h)).map λc=>(aN L c).2-(aN L c).1) (by rw[e2];exact List.filter_sublist.map _) (λx hx=>by
    rw[e2]at hx
    obtain⟨c,hc,rfl⟩:=dr.mp hx
    have:=(rc c hc).2.1
    omega) (k:=w.toNat) (by rw[df];omega)
   have fl:=yg (λc=>decide (c∈eZ O h)) (aD ls h e);unfold gE;rw[if_pos (by rw[df];omega),e1];have gp:((aD ls h e).map λc=>(aN L c).1).sum+(((aD ls h e).filter λc=>decide (c∈eZ O h)).map λc=>(aN L c).2-(aN L c).1).sum<=((aD ls h e).map λc=>fW L O c (some h)).sum:=gp;omega
  have cnt:∀g,e=some g->((aF ls h).filter λx=>decide (x∈eZ O h)).length<=(if g∈eZ O h then 1 else 0)+((aD ls h e).filter λc=>decide (c∈eZ O h)).length:=λg eg=>by
   by_cases gb:g∈eZ O h
   ·rw[if_pos gb]
    have:=dJ ((f.wx h).filter _) (m:=g::(aD ls h e).filter λc=>decide (c∈eZ O h)) λx hx=>by
     obtain⟨x1,x2⟩:=cz.mp hx
     by_cases xg:x=g
     ·rw[xg];exact dh
     ·exact fu _ (cz.mpr ⟨eQ.mpr ⟨x1,by rw[eg];exact λz=>xg (jr z)⟩,x2⟩)
    rw[ie]at this;omega
   ·rw[if_neg gb]
    have:=dJ ((f.wx h).filter _) (m:=(aD ls h e).filter λc=>decide (c∈eZ O h)) λx hx=>by
     obtain⟨x1,x2⟩:=cz.mp hx
     exact cz.mpr ⟨eQ.mpr ⟨x1,by rw[eg];exact λz=>gb (by rw[<- jr z];exact mw x2)⟩,x2⟩
    omega
  obtain⟨_,_,r3,r4⟩:=rh
  have r3:(aN L h).1<=gE (max 0 (ws.getD h.toNat 0-1)) (ps.getD h.toNat 0) ((aD ls h e).map (aN L)):=r3;have r4:(aN L h).2<=gE (ws.getD h.toNat 0) (ps.getD h.toNat 0) ((aD ls h e).map (aN L)):=r4;cases e with
  |none=>
   have c0:=dJ ((f.wx h).filter λx=>decide (x∈eZ O h)) (m:=(aD ls h none).filter λc=>decide (c∈eZ O h)) λx hx=>by
    obtain⟨x1,x2⟩:=cz.mp hx
    exact cz.mpr ⟨eQ.mpr ⟨x1,λz=>by cases z⟩,x2⟩
   have:=key _ w0 (by omega)
   show (aN L h).2<=_;omega
  |some g=>
   have c0:=cnt g rfl;show (if g∈eZ O h then (aN L h).1 else (aN L h).2)<=_;by_cases gb:g∈eZ O h
   ·rw[if_pos gb]at c0 ⊢
    have:=key (max 0 (ws.getD h.toNat 0-1)) (by omega) (by omega)
    omega
   ·rw[if_neg gb]at c0 ⊢
    have:=key _ w0 (by omega)
    omega
def jD (P:bZ):af:=(P.filter λp=>p.2.isNone).map (·.1)
theorem M0 {α:Type}(f:Int->Int)(g:α->af):∀l:List α,((l.flatMap g).map f).sum=(l.map λp=>((g p).map f).sum).sum
 |[]=>rfl
 |x::r=>by rw[List.flatMap_cons,gu,List.sum_append,M0 f g r,ib,ka]
theorem Kw {α:Type}{f g:α->Int}:∀{l:List α},(∀x∈l,f x<=g x)->(l.map f).sum<=(l.map g).sum
 |[],_=>wo _
 |x::r,h=>by
  rw[ib,ib,ka,ka]
  have:=Kw (l:=r) λy hy=>h y (fu _ hy)
  have:=h x dh
  omega
theorem M1 {α:Type}(f g:α->Int):∀l:List α,(l.map λx=>f x+g x).sum=(l.map f).sum+(l.map g).sum
 |[]=>rfl
 |x::r=>by rw[ib,ib,ib,ka,ka,ka,M1 f g r];omega
theorem Kv (R:Rt0 n ls P)(f:c8 ls):(P.flatMap λp=>aD ls p.1 p.2).Perm ((P.filter λp=>p.2.isSome).map (·.1)):=by
 refine (Dv ?_ (List.Pairwise.sublist (List.filter_sublist.map _) R.nd)).mpr λc=>?_
 ·refine List.pairwise_flatMap.mpr ⟨λp _=>(f.wx p.1).filter _,?_⟩
  refine (uw.mp R.nd).imp_of_mem λ{p q} hp hq ne x hx y hy e=>ne ?_
  subst e;have a:=(R.oh f (h:=p.1) (e:=p.2) hp).mp hx;have b:=(R.oh f (h:=q.1) (e:=q.2) hq).mp hy;exact jr (iD R.nd a b)
 ·rw[List.mem_flatMap,dr]
  constructor
  ·rintro⟨p,hp,hc⟩
   exact⟨(c,some p.1),cz.mpr ⟨(R.oh f (h:=p.1) (e:=p.2) hp).mp hc,rfl⟩,rfl⟩
  ·rintro⟨⟨c',e⟩,hq,rfl⟩
   obtain⟨h1,h2⟩:=cz.mp hq
   cases e with
   |none=>cases h2
   |some g=>
    obtain⟨i,hi⟩:=dL h1
    obtain⟨j,q,_,hj,_⟩:=R.par i c' g hi
    exact⟨(g,q),fm hj,(R.oh f (fm hj)).mpr h1⟩
theorem xH (F:Int×Option Int->Int):∀P:bZ,(P.map F).sum=((P.filter λp=>p.2.isSome).map F).sum+((P.filter λp=>p.2.isNone).map F).sum
 |[]=>rfl
 |(h,none)::P=>by
  rw[Ci (by simp),Dt rfl,ib,ib,ka,ka,xH F P];omega
 |(h,some g)::P=>by
  rw[Dt rfl,Ci (by simp),ib,ib,ka,ka,xH F P];omega
theorem TN (R:Rt0 ws.length ls P)(f:c8 ls)(nn:NN ws)(hS:aY ws.length S=true)(full:dE ws ls S=true)(right:∀h e,(h,e)∈P->qY ws ps ls L h e):((jD P).map λr=>(aN L r).2).sum<=(S.map λs=>ps.getD s.toNat 0).sum:=by
 have sub:∀s∈S,s∈bj ws.length:=λs hs=>bO.mpr ((dD hS).2 s hs)
 obtain⟨O,K,all⟩:=TV sub full ws.length [] ⟨wq,(λ_ z=>by cases z),λi h hi=>by cases hi⟩ (by omega)
 have l1:=Kw (l:=P) (f:=λp=>fW L O p.1 p.2) (g:=λp=>((aD ls p.1 p.2).map λc=>fW L O c (some p.1)).sum+(if p.1∈S then ps.getD p.1.toNat 0 else 0)) λp hp=>TQ R f K all nn right (h:=p.1) (e:=p.2) hp
 rw[M1]at l1
 let F:Int->Int:=λc=>((P.find? λp=>decide (p.1=c)).map λp=>fW L O p.1 p.2).getD 0
 have Fp:∀c e,(c,e)∈P->F c=fW L O c e:=λc e hp=>by
  show ((P.find? λp=>decide (p.1=c)).map λp=>fW L O p.1 p.2).getD 0=_;cases z:P.find? λp=>decide (p.1=c) with
  |none=>have:=List.find?_eq_none.mp z _ hp;simp at this
  |some p=>
   have a:=List.find?_some z;have b:=List.mem_of_find?_eq_some z;have a:p.1=c:=by simpa using a
   obtain⟨c',e'⟩:=p
   dsimp only at a;subst a;cases iD R.nd b hp;rfl
 have l2:(P.map λp=>((aD ls p.1 p.2).map λc=>fW L O c (some p.1)).sum).sum=((P.filter λp=>p.2.isSome).map λp=>fW L O p.1 p.2).sum:=by
  have a:(P.map λp=>((aD ls p.1 p.2).map λc=>fW L O c (some p.1)).sum)=P.map λp=>((aD ls p.1 p.2).map F).sum:=zf λp hp=>by
   rw[zf λc hc=>(Fp c (some p.1) ((R.oh f (h:=p.1) (e:=p.2) hp).mp hc)).symm]
  rw[a,<- M0 F (λp:Int×Option Int=>aD ls p.1 p.2) P,m7 ((Kv R f).map F),kq];congr 1;exact zf λp hp=>Fp p.1 p.2 (cz.mp hp).1
 have l3:(P.map λp=>if p.1∈S then ps.getD p.1.toNat 0 else 0).sum=(S.map λs=>ps.getD s.toNat 0).sum:=by
  have a:∀l:af,(l.map λh=>if h∈S then ps.getD h.toNat 0 else 0).sum=((l.filter λh=>decide (h∈S)).map λs=>ps.getD s.toNat 0).sum:=λl=>by
   induction l with
   |nil=>rfl
   |cons x r ih=>
    rw[ib,ka,ih,qg];by_cases z:x∈S
    ·rw[if_pos z,if_pos (di z),ib,ka]
    ·rw[if_neg z,if_neg (by simpa using z)];omega
  have b:=a (P.map (·.1));rw[kq]at b;rw[show (P.map λp=>if p.1∈S then ps.getD p.1.toNat 0 else 0)=P.map ((λh=>if h∈S then ps.getD h.toNat 0 else 0) ∘ λp:Int×Option Int=>p.1) from rfl,b];refine m7 (List.Perm.map _ ((Dv (R.nd.filter _) (x4 hS)).mpr λx=>?_));rw[cz,lx]
  exact⟨λz=>z.2,λz=>⟨(R.mem x).mpr (sub x z),z⟩⟩
 have l4:=xH (λp=>fW L O p.1 p.2) P;have l5:((P.filter λp=>p.2.isNone).map λp=>fW L O p.1 p.2).sum=((jD P).map λr=>(aN L r).2).sum:=by
  unfold jD;rw[kq];congr 1;refine zf λp hp=>?_
  obtain⟨h,e⟩:=p
  obtain⟨_,z⟩:=cz.mp hp
  cases e with
  |none=>rfl
  |some g=>cases z
 rw[l2,l3]at l1;omega
end
def IsL (y:PV)(L:cY):Prop:=y = .tup (b6 L)∨y = .lst (b6 L)
theorem TM {P:bZ}{i:Nat}{y:PV}(hy:(eC P)[i]? = some y):∃h e,P[i]? = some (h,e)/\y = .tup [.int h,eN e]:=by
 unfold eC at hy;rw[gf]at hy;cases z:P[i]? with
 |none=>rw[z]at hy;cases hy
 |some p=>rw[z]at hy;obtain⟨h,e⟩:=p;exact⟨h,e,rfl,(jr hy).symm⟩
theorem TK {bl:cY}{p:Int}(p0:0<=p)(ok:∀r∈bl,0<=r.1/\r.1<=r.2):(∀w:Int,0<=w->0<=gE w p bl)/\∀w w':Int,0<=w->w<=w'->gE w p bl<=gE w' p bl:=by
 have s0:0<=(bl.map (·.1)).sum:=G1 λx hx=>by obtain⟨r,hr,rfl⟩:=dr.mp hx;exact (ok r hr).1
 have g0:∀x∈cN (c7 bl),0<=x:=λx hx=>by
  have:=(oW (c7 bl)).1.mem_iff.mp hx
  obtain⟨r,hr,rfl⟩:=dr.mp this
  have:=(ok r hr).2
  omega
 have t0:∀k,0<=((cN (c7 bl)).take k).sum:=λk=>G1 λx hx=>g0 x (List.mem_of_mem_take hx)
 refine⟨λw w0=>?_,λw w' w0 le=>?_⟩
 ·have:=t0 w.toNat
  unfold gE;split<;>omega
 ·have:=MP g0 (show w.toNat<=w'.toNat by omega)
  have:=t0 w.toNat
  unfold gE;split<;>split<;>omega
theorem qX.pair {n:Nat}{ls:aa}{fh:List (Option Int)}{O:af}(B:qX n ls fh O){h:Int}(hr:h∈bj n):(h,eD fh h)∈lE O fh:=by
 obtain⟨e,he⟩:=B.rt.pair hr
 have Hn:=he;unfold lE at he
 obtain⟨h',hm,e1⟩:=dr.mp he
 cases e1;exact Hn
theorem qX.iff {n:Nat}{ls:aa}{fh:List (Option Int)}{O:af}(B:qX n ls fh O){h:Int}{e:Option Int}:(h,e)∈lE O fh↔h∈bj n/\e=eD fh h:=by
 refine⟨λz=>⟨B.rt.inr z,?_⟩,λz=>by rw[z.2];exact B.pair z.1⟩;unfold lE at z
 obtain⟨h',hm,e1⟩:=dr.mp z
 cases e1;rfl
theorem TJ {n:Nat}{ls:aa}{P:bZ}{fh:List (Option Int)}{O:af}(R:Rt n ls P)(B:qX n ls fh O):(jD P).Perm ((bj n).filter λh=>(eD fh h).isNone):=by
 have nd:(jD P).Nodup:=by
  unfold jD;exact (List.filter_sublist.map _).nodup R.nd
 refine (Dv nd ((t6 n).filter _)).mpr λh=>?_
 unfold jD;rw[dr,cz];constructor
 ·rintro⟨⟨h',e⟩,hm,rfl⟩
  obtain⟨m1,m2⟩:=cz.mp hm
  obtain⟨hr,rfl⟩:=B.iff.mp ((tK R B.rt).mp m1)
  exact⟨hr,m2⟩
 ·rintro⟨hr,hn⟩
  exact⟨(h,eD fh h),cz.mpr ⟨(tK R B.rt).mpr (B.pair hr),hn⟩,rfl⟩
abbrev g6 (L:cY)(c:Int):Int:=(aN L c).2-(aN L c).1
def cP (ws:af)(A:af)(h:Int)(e:Option Int):Int:=if e.isSome=true/\h∉A then max 0 (ws.getD h.toNat 0-1) else ws.getD h.toNat 0
def hV (L:cY)(A:af)(h:Int)(e:Option Int):Int:=if e.isSome=true/\h∉A then (aN L h).1 else (aN L h).2
structure ChM (ws ps:af)(ls:aa)(L:cY)(A:af)(h:Int)(e:Option Int)(M:af):Prop where
 nd:M.Nodup
 sub:∀c∈M,c∈aD ls h e
 len:(M.length:Int)=cP ws A h e
 sum:(M.map (g6 L)).sum=((cN (c7 ((aD ls h e).map (aN L)))).take M.length).sum
 le:(M.map (g6 L)).sum<=ps.getD h.toNat 0
 mem:∀c∈aD ls h e,c∈A↔c∈M
def mD (ws ps:af)(ls:aa)(L:cY)(A S:af)(h:Int)(e:Option Int):Prop:=
 (h∈S/\(∀c∈aD ls h e,c∉A)/\¬(cP ws A h e<=((aD ls h e).length:Int)/\((cN (c7 ((aD ls h e).map (aN L)))).take (cP ws A h e).toNat).sum<=ps.getD h.toNat 0))∨(h∉S/\∃M,ChM ws ps ls L A h e M)
section
variable {ws ps:af}{ls:aa}{P:bZ}{L:cY}{A S:af}{h:Int}{e:Option Int}
theorem M3 (nn:NN ws):0<=cP ws A h e:=by
 have:=nE nn h.toNat
 unfold cP;split<;>omega
theorem TH (k:mC ws ps ls L h e):hV L A h e=gE (cP ws A h e) (ps.getD h.toNat 0) ((aD ls h e).map (aN L)):=by
 unfold mC at k;unfold hV cP;rw[k];by_cases z:e.isSome=true/\h∉A
 ·rw[if_pos z,if_pos z];rfl
 ·rw[if_neg z,if_neg z];rfl
theorem Ku (g:Int):∀l:af,(l.map λc=>hV L A c (some g)).sum=(l.map λc=>(aN L c).1).sum+((l.filter λc=>decide (c∈A)).map (g6 L)).sum
 |[]=>rfl
 |x::r=>by
  rw[ib,ka,Ku g r,ib,ka,qg];by_cases z:x∈A
  ·rw[if_pos (di z),ib,ka,show hV L A x (some g)=(aN L x).2 from if_neg λq=>q.2 z]
   show _=_+((aN L x).2-(aN L x).1+_);omega
  ·rw[if_neg (by simpa using z),show hV L A x (some g)=(aN L x).1 from if_pos ⟨rfl,z⟩];omega
theorem TF (f:c8 ls)(nn:NN ws)(k:mC ws ps ls L h e)(c:mD ws ps ls L A S h e):hV L A h e=((aD ls h e).map λc=>hV L A c (some h)).sum+(if h∈S then ps.getD h.toNat 0 else 0):=by
 have k0:0<=cP ws A h e:=M3 nn;rw[TH k,Ku];unfold gE;rw[kq,df];show (((aD ls h e).map λc=>(aN L c).1).sum)+_=_;rcases c with⟨hS,no,big⟩|⟨hS,M,m⟩
 ·rw[DZ.mpr λc hc=>by simpa using no c hc,if_pos hS]
  show _=_+0+_;by_cases z:cP ws A h e<=((aD ls h e).length:Int)
  ·rw[if_pos z]
   have:¬((cN (c7 ((aD ls h e).map (aN L)))).take (cP ws A h e).toNat).sum<=ps.getD h.toNat 0:=λq=>big ⟨z,q⟩
   omega
  ·rw[if_neg z];omega
 ·have pm:((aD ls h e).filter λc=>decide (c∈A)).Perm M:=(Dv (((f.wx h).filter _).filter _) m.nd).mpr λc=>by
   rw[cz,lx]
   exact⟨λz=>(m.mem c z.1).mp z.2,λz=>⟨m.sub c z,(m.mem c (m.sub c z)).mpr z⟩⟩
  have ml:M.length<=(aD ls h e).length:=dJ m.nd m.sub;rw[m7 (pm.map (g6 L)),if_neg hS,if_pos (by have:=m.len;omega),<- m.len,qh,<- m.sum]
  have:=m.le
  omega
theorem Kt (R:Rt0 ws.length ls P)(f:c8 ls)(nn:NN ws)(k:nH ws ps ls P L)(nd:S.Nodup)(sub:∀s∈S,s∈bj ws.length)(ch:∀h e,(h,e)∈P->mD ws ps ls L A S h e):(S.map λs=>ps.getD s.toNat 0).sum=((jD P).map λr=>(aN L r).2).sum:=by
 have l1:(P.map λp=>hV L A p.1 p.2)=P.map λp=>((aD ls p.1 p.2).map λc=>hV L A c (some p.1)).sum+(if p.1∈S then ps.getD p.1.toNat 0 else 0):=zf λp hp=>TF f nn (k.2 p.1 p.2 hp) (ch p.1 p.2 hp)
 have l1:=congrArg List.sum l1;rw[M1]at l1;have l2:(P.map λp=>((aD ls p.1 p.2).map λc=>hV L A c (some p.1)).sum).sum=((P.filter λp=>p.2.isSome).map λp=>hV L A p.1 p.2).sum:=by
  have a:(P.map λp=>((aD ls p.1 p.2).map λc=>hV L A c (some p.1)).sum)=P.map λp=>((aD ls p.1 p.2).map λc=>hV L A c (some 0)).sum:=rfl
  rw[a,<- M0 (λc=>hV L A c (some 0)) (λp:Int×Option Int=>aD ls p.1 p.2) P,m7 ((Kv R f).map _),kq];congr 1;refine zf λp hp=>?_
  obtain⟨h,e⟩:=p
  obtain⟨_,z⟩:=cz.mp hp
  cases e with
  |none=>cases z
  |some g=>rfl
 have l3:(P.map λp=>if p.1∈S then ps.getD p.1.toNat 0 else 0).sum=(S.map λs=>ps.getD s.toNat 0).sum:=by
  have a:∀l:af,(l.map λh=>if h∈S then ps.getD h.toNat 0 else 0).sum=((l.filter λh=>decide (h∈S)).map λs=>ps.getD s.toNat 0).sum:=λl=>by
   induction l with
   |nil=>rfl
   |cons x r ih=>
    rw[ib,ka,ih,qg];by_cases z:x∈S
    ·rw[if_pos z,if_pos (di z),ib,ka]
    ·rw[if_neg z,if_neg (by simpa using z)];omega
  have b:=a (P.map (·.1));rw[kq]at b;rw[show (P.map λp=>if p.1∈S then ps.getD p.1.toNat 0 else 0)=P.map ((λh=>if h∈S then ps.getD h.toNat 0 else 0) ∘ λp:Int×Option Int=>p.1) from rfl,b];refine m7 (List.Perm.map _ ((Dv (R.nd.filter _) nd).mpr λx=>?_));rw[cz,lx]
  exact⟨λz=>z.2,λz=>⟨(R.mem x).mpr (sub x z),z⟩⟩
 have l4:=xH (λp=>hV L A p.1 p.2) P;have l5:((P.filter λp=>p.2.isNone).map λp=>hV L A p.1 p.2).sum=((jD P).map λr=>(aN L r).2).sum:=by
  unfold jD;rw[kq];congr 1;refine zf λp hp=>?_
  obtain⟨h,e⟩:=p
  obtain⟨_,z⟩:=cz.mp hp
  cases e with
  |none=>exact if_neg λq=>by cases q.1
  |some g=>cases z
 rw[l2,l3]at l1;omega
theorem Ks (R:Rt0 ws.length ls P)(f:c8 ls)(nn:NN ws)(ch:∀h e,(h,e)∈P->mD ws ps ls L A S h e):dE ws ls S=true:=by
 refine l6.mpr λU sh sub=>?_
 have one:∀h e,(h,e)∈P->(e=none∨h∈A∨h∈S)->h∈U:=R.leaf f (C:=λh e=>(e=none∨h∈A∨h∈S)->h∈U) λh e hp ih c=>by
  rcases ch h e hp with⟨hS,_⟩|⟨hS,M,m⟩
  ·exact sub h hS
  ·refine xA sh (R.inr hp) m.nd (λz hz=>⟨(eQ.mp (m.sub z hz)).1,ih z (m.sub z hz) (.inr (.inl ((m.mem z (m.sub z hz)).mpr hz)))⟩) ?_
   rw[m.len];unfold cP;rw[if_neg λq=>?_]
   ·exact wo _
   ·rcases c with c|c|c
    ·rw[c]at q;cases q.1
    ·exact q.2 c
    ·exact hS c
 have two:∀(i:Nat) (h:Int) (e:Option Int),P[i]? = some (h,e)->h∈U:=by
  intro i
  induction i using Nat.strongRecOn with
  |ind i ih=>
   intro h e hi;have hp:=fm hi;by_cases c:e=none∨h∈A∨h∈S
   ·exact one h e hp c
   cases e with
   |none=>exact absurd (.inl rfl) c
   |some g=>
    obtain⟨j,q,ji,hj,gn⟩:=R.par i h g hi
    rcases ch h _ hp with⟨hS,_⟩|⟨hS,M,m⟩
    ·exact sub h hS
    ·refine xA sh (R.inr hp) (L:=g::M) (oy.mpr ⟨λz=>(eQ.mp (m.sub g z)).2 rfl,m.nd⟩) (λz hz=>?_) ?_
     ·rcases ff.mp hz with y|y
      ·rw[y];exact⟨gn,ih j ji g q hj⟩
      ·exact⟨(eQ.mp (m.sub z y)).1,one z (some h) ((R.oh f hp).mp (m.sub z y)) (.inr (.inl ((m.mem z (m.sub z y)).mpr y)))⟩
     ·rw[ie]
      have:=m.len
      unfold cP at this;split at this<;>omega
 intro h hh
 obtain⟨⟨h',e⟩,hp,rfl⟩:=dr.mp ((R.mem h).mpr hh)
 obtain⟨i,hi⟩:=dL hp
 exact two i h' e hi
end
structure jE (ws ps:af)(ls:aa)(P:bZ)(L:cY)(i:Nat)(A S:af):Prop where
 GF:∀a∈A,∃(j:Nat) (g:Int) (q:Option Int),j<i/\P[j]? = some (g,q)/\a∈aD ls g q
 ins:∀s∈S,∃(j:Nat) (q:Option Int),j<i/\P[j]? = some (s,q)
 nd:S.Nodup
 ok:∀(j:Nat) (h:Int) (e:Option Int),j<i->P[j]? = some (h,e)->mD ws ps ls L A S h e
section
variable {ws ps:af}{ls:aa}{P:bZ}{L:cY}{A A' S S' M:af}{h:Int}{e:Option Int}{i:Nat}
theorem jE.start:jE ws ps ls P L 0 [] []:=⟨(λ_ z=>by cases z),(λ_ z=>by cases z),List.nodup_nil,λj h e z=>by omega⟩
theorem Kr (R:Rt0 ws.length ls P)(f:c8 ls){j:Nat}{g c:Int}{q:Option Int}(hi:P[i]? = some (h,e))(hj:P[j]? = some (g,q))(h1:c∈aD ls h e)(h2:c∈aD ls g q):i=j:=by
 have a:=(R.oh f (fm hi)).mp h1;have b:=(R.oh f (fm hj)).mp h2;cases iD R.nd a b;exact (fU R.nd hi hj).1
theorem TC (R:Rt0 ws.length ls P)(f:c8 ls){j:Nat}{c:Int}{q:Option Int}(hi:P[i]? = some (h,e))(hj:P[j]? = some (c,q))(h1:c∈aD ls h e):i<j:=by
 have a:=(R.oh f (fm hi)).mp h1;cases iD R.nd a (fm hj)
 obtain⟨j',q',jj,qz,_⟩:=R.par j c h hj
 have:=(fU R.nd hi qz).1
 omega
theorem Kq (z:h∈A↔h∈A'):cP ws A h e=cP ws A' h e:=by unfold cP;simp only[z]
theorem mD.congr (z:h∈A↔h∈A')(zs:h∈S↔h∈S')(k:∀c∈aD ls h e,c∈A↔c∈A')(c:mD ws ps ls L A S h e):mD ws ps ls L A' S' h e:=by
 have ek:=Kq (ws:=ws) (e:=e) z;rcases c with⟨a,b,c⟩|⟨a,M,m⟩
 ·exact .inl ⟨zs.mp a,λx hx y=>b x hx ((k x hx).mpr y),by rw[<- ek];exact c⟩
 ·exact .inr ⟨λy=>a (zs.mpr y),M,m.nd,m.sub,by rw[<- ek];exact m.len,m.sum,m.le,λx hx=>(k x hx).symm.trans (m.mem x hx)⟩
theorem jE.fresh (I:jE ws ps ls P L i A S)(R:Rt0 ws.length ls P)(f:c8 ls)(hi:P[i]? = some (h,e)):∀c∈aD ls h e,c∉A:=λc hc ca=>by
 obtain⟨j,g,q,ji,hj,hk⟩:=I.GF c ca
 have:=Kr R f hi hj hc hk
 omega
theorem jE.mark (I:jE ws ps ls P L i A S)(R:Rt0 ws.length ls P)(f:c8 ls)(hi:P[i]? = some (h,e))(nd:M.Nodup)(sub:∀c∈M,c∈aD ls h e)(len:(M.length:Int)=cP ws A h e)(sum:(M.map (g6 L)).sum=((cN (c7 ((aD ls h e).map (aN L)))).take M.length).sum)(le:(M.map (g6 L)).sum<=ps.getD h.toNat 0):jE ws ps ls P L (i+1) (A++M) S:=by
 have hM:h∉M:=λz=>f.Fx h (eQ.mp (sub h z)).1
 refine⟨λa ha=>?_,λs hs=>?_,I.nd,λj g q ji hj=>?_⟩
 ·rcases fi.mp ha with z|z
  ·obtain⟨j,g,q,ji,hj,hk⟩:=I.GF a z
   exact⟨j,g,q,by omega,hj,hk⟩
  ·exact⟨i,h,e,by omega,hi,sub a z⟩
 ·obtain⟨j,q,ji,hj⟩:=I.ins s hs
  exact⟨j,q,by omega,hj⟩
 ·by_cases ej:j=i
  ·subst ej
   rw[hi]at hj;cases hj;refine .inr ⟨λz=>?_,M,nd,sub,?_,sum,le,λc hc=>?_⟩
   ·obtain⟨j',q',jj,qz⟩:=I.ins h z
    have:=(fU R.nd hi qz).1
    omega
   ·rw[len];exact Kq ⟨λz=>pb _ z,λz=>(fi.mp z).resolve_right hM⟩
   ·exact⟨λz=>(fi.mp z).resolve_left (I.fresh R f hi c hc),λz=>qt _ z⟩
  ·refine (I.ok j g q (by omega) hj).congr ?_ Iff.rfl λc hc=>?_
   ·refine⟨λz=>pb _ z,λz=>(fi.mp z).resolve_right λy=>?_⟩
    have:=TC R f hi hj (sub g y)
    omega
   ·refine⟨λz=>pb _ z,λz=>(fi.mp z).resolve_right λy=>?_⟩
    have:=Kr R f hi hj (sub c y) hc
    omega
theorem jE.ui (I:jE ws ps ls P L i A S)(R:Rt0 ws.length ls P)(f:c8 ls)(hi:P[i]? = some (h,e))(big:¬(cP ws A h e<=((aD ls h e).length:Int)/\((cN (c7 ((aD ls h e).map (aN L)))).take (cP ws A h e).toNat).sum<=ps.getD h.toNat 0)):jE ws ps ls P L (i+1) A (S++[h]):=by
 have hS:h∉S:=λz=>by
  obtain⟨j',q',jj,qz⟩:=I.ins h z
  have:=(fU R.nd hi qz).1
  omega
 refine⟨λa ha=>?_,λs hs=>?_,?_,λj g q ji hj=>?_⟩
 ·obtain⟨j,g,q,ji,hj,hk⟩:=I.GF a ha
  exact⟨j,g,q,by omega,hj,hk⟩
 ·rcases fi.mp hs with z|z
  ·obtain⟨j,q,ji,hj⟩:=I.ins s z
   exact⟨j,q,by omega,hj⟩
  ·rw[dt.mp z];exact⟨i,e,by omega,hi⟩
 ·exact xj.mpr ⟨I.nd,oy.mpr ⟨(λz=>by cases z),List.nodup_nil⟩,λa ha b hb=>by rw[dt.mp hb];exact λz=>hS (z▸ha)⟩
 ·by_cases ej:j=i
  ·subst ej
   rw[hi]at hj;cases hj;exact .inl ⟨qt _ (dt.mpr rfl),I.fresh R f hi,big⟩
  ·refine (I.ok j g q (by omega) hj).congr Iff.rfl ?_ λc hc=>Iff.rfl
   refine⟨λz=>pb _ z,λz=>(fi.mp z).resolve_right λy=>?_⟩;rw[dt.mp y]at hj;exact ej (fU R.nd hj hi).1
theorem Tz {K:af}{G:aa}(pm:G.Perm (K.map λc=>(g6 L c,c)))(so:(G.map two).Pairwise (λu v=>HT.gB v u=false))(nd:K.Nodup)(k:Nat) :
  ((G.take k).map (·.2)).Nodup/\(∀c∈(G.take k).map (·.2),c∈K)/\(((G.take k).map (·.2)).map (g6 L)).sum=((cN (c7 (K.map (aN L)))).take k).sum/\((G.take k).map (·.1)).sum=((cN (c7 (K.map (aN L)))).take k).sum:=by
 have BR:(G.map (·.2)).Nodup:=by
  refine (pm.map _).nodup_iff.mpr ?_;rw[kq];exact (List.map_id'' (λ_=>rfl) K).symm▸nd
 have e1:∀p∈G,p.1=g6 L p.2/\p.2∈K:=λp hp=>by
  obtain⟨c,hc,rfl⟩:=dr.mp (pm.mem_iff.mp hp)
  exact⟨rfl,hc⟩
 have sr:cN (c7 (K.map (aN L)))=G.map (·.1):=by
  refine (LU (ms:=G.map (·.1)) ?_ ?_).symm
  ·refine (pm.map _).trans ?_
   rw[kq];unfold c7;rw[kq];exact Bc _
  ·rw[uw]
   refine (uw.mp so).imp λ{a b} z=>?_
   unfold two at z;rw[HT.pA]at z;by_cases e:b.1=a.1
   ·omega
   ·rw[if_neg e,zg]at z;omega
 have e2:((G.take k).map (·.2)).map (g6 L)=(G.take k).map (·.1):=by
  rw[kq];exact zf λp hp=>(e1 p (List.mem_of_mem_take hp)).1.symm
 have e3:((G.take k).map (·.1)).sum=((cN (c7 (K.map (aN L)))).take k).sum:=by rw[sr,List.map_take]
 refine⟨?_,λc hc=>?_,by rw[e2,e3],e3⟩
 ·rw[List.map_take];exact (List.take_sublist _ _).nodup BR
 ·obtain⟨p,hp,rfl⟩:=dr.mp hc
  exact (e1 p (List.mem_of_mem_take hp)).2
end
def nJ:dX:=λEp xs Q=>∃ws ls,xs = [bG ws ls]/\Wb ws ls/\e9 ws.length ls/\(cF ws.length ls->∀P,Rt ws.length ls P->Q (.lst (eC P)))/\(¬cF ws.length ls->Ep "NotWood")
def Kp (Ep:Str->Prop):aO:=(aI (dO (pK (bH (aB x5 (a6 (a5 0) a9)))) (oO Ep "NotWood" (a6 (qC (.str "the web has a round")) a9)) dZ)
 (aI (b8 1 (aB i6 (a6 (a5 0) a9)))
 (aI (e6 2 (c9 (cD (aB qS (a6 (a5 0) a9))) [none] (bW 0) dB (gL (a6 (bI (a5 0) (qC (.int 0))) (a6 (qC .bw) a9)))))
 (aI (b8 3 (qC (.int 0)))
 (aI Lx
 (lU 2))))))
theorem Tx:j8 Kp ["web","around","pairs","turn","hearth"] nJ:=by
 rintro Ep xs Q ⟨ws,ls,rfl,wb,lk,q,qe⟩;have eu:=wb.eu;have hS:=l9 ws.length;refine⟨_,rfl,ws,ls,rfl,wb,λw=>?_,λz=>⟨_,rfl,bP ⟨by decide,qe z⟩⟩⟩;have q:=q w;refine⟨_,rfl,bK ?_⟩;refine⟨_,rfl,ws,ls,rfl,wb,trivial,?_⟩;refine⟨_,rfl,ws,ls,rfl,wb,bp (kH ls (bj ws.length)),rfl,(λz=>by cases z),?_,λi acc=>acc=eC (((b7 ls (bj ws.length)).take i).map λh=>(h,none)),rfl,?_,?_⟩
 ·rw[cM];unfold kH;rw[df]
  have:=yg (tF ls (bj ws.length)) (bj ws.length)
  rw[cH]at this;unfold b7;omega
 ·rintro i y acc hy rfl
  unfold bp kH at hy;rw[kq,gf]at hy;cases hz:(b7 ls (bj ws.length))[i]? with
  |none=>rw[hz]at hy;cases hy
  |some h=>
   rw[hz]at hy;cases hy
   obtain⟨h1,h2⟩:=fS.mp (fm hz)
   have h3:L2.ma (ao (comp ls (bj ws.length) h)) 0=some (.int h):=by
    cases e:comp ls (bj ws.length) h with
    |nil=>rw[e]at h2;cases h2
    |cons a r=>rw[e]at h2;cases h2;exact jJ (j:=0) rfl
   refine⟨_,rfl,_,_,_,rfl,rfl,h3,by show 2<=1000;decide,rfl,trivial,?_⟩;dsimp only;rw[nq,hz,gu];unfold eC;rw[gu];rfl
 ·rintro acc rfl
  rw[show (bp (kH ls (bj ws.length))).length=(b7 ls (bj ws.length)).length by rw[cM];unfold kH;rw[df],qu (de _)];refine⟨rfl,Lw _,trivial,?_⟩;refine UK eu lk w λP y3 y4 R=>?_
  exact⟨_,rfl,trivial,q P R⟩
def qZ:dX:=λEp xs Q=>∃ws ls x ps,xs = [bG ws ls,x]/\Wb ws ls/\e9 ws.length ls/\NN ws/\dG x ps/\ps.length<=1000/\(cF ws.length ls->oU ws.length ps->∀P L,Rt ws.length ls P->nH ws ps ls P L->Q (.tup (b6 L)))/\(cF ws.length ls->¬oU ws.length ps->Ep "BadPrices")/\(¬cF ws.length ls->Ep "NotWood")
def Ko (Ep:Str->Prop):aO:=(aI (b8 2 (i7 Ep nJ (a6 (a5 0) a9)))
 (aI (b8 3 (i7 Ep wU (a6 (a5 1) (a6 (aB gR (a6 (a5 0) a9)) a9))))
 (aI (b8 4 (aB i6 (a6 (a5 0) a9)))
 (aI (e6 5 (qE (fA (a6 (gL (a6 (qC (.int 0)) (a6 (qC (.int 0)) a9))) a9)) (aB gR (a6 (a5 0) a9))))
 (aI (fB (wT (a5 2)) (fO 6 7)
  KN)
 (bY (aB iN (a6 (a5 5) a9))))))))
theorem Tw:j8 Ko ["web","prices","pairs","known","around","ledger","hearth","elder","below"] qZ:=by
 rintro Ep xs Q ⟨ws,ls,x,ps,rfl,wb,lk,nn,hx,Cw,q,qb,qn⟩;have eu:=wb.eu;refine⟨_,rfl,ws,ls,rfl,wb,lk,λw P R=>⟨trivial,?_⟩,qn⟩;have q:=q w;have pl:=KJ R;refine⟨_,rfl,_,rfl,ws,ls,rfl,x,ps,ws.length,rfl,hx,Cw,by omega,λgd=>⟨trivial,?_⟩,qb w⟩;have q:=q gd
 obtain⟨gl,gn⟩:=gd
 refine⟨_,rfl,ws,ls,rfl,wb,trivial,?_⟩;refine⟨by show 2<=1000;decide,rfl,by show 1<=1000;decide,rfl,_,rfl,ws,ls,rfl,_,_,rfl,rfl,rfl,by omega,by omega,by show 1<=10;decide,rfl,?_,?_⟩
 ·show flats (List.replicate (ws.length:Int).toNat [PV.tup [.int 0,.int 0]]).flatten=true
  rw[at2];exact oD _
 show (aI _ _) _ [some (Slot.sh (flat (bG ws ls)) (bG ws ls)),some (Slot.sh (flat x) x),_,_,_,some (Slot.own (.lst (List.replicate (ws.length:Int).toNat [PV.tup [.int 0,.int 0]]).flatten)),_,_,_];rw[at2,qh,E9];refine⟨_,rfl,eC P,rfl,(λz=>by cases z),λi ρ=>∃(L:cY) (D:af) (y6 y7 y8:Option Slot),ρ = [some (.sh true (bG ws ls)),some (Slot.sh (flat x) x),some (.sh true (.lst (eC P))),some (.sh true (.tup (ao ps))),some (.sh true (.lst (cA ws.length ls))),some (.own (.lst (b6 L))),y6,y7,y8]/\L.length=ws.length/\kK P i D/\∀h e,(h,e)∈P->h∈D->mC ws ps ls L h e,⟨_,[],none,none,none,rfl,Cg,kK.nil,λ_ _ _ z=>by cases z⟩,?_,?_⟩
 ·rintro i y ρ hy ⟨L,D,y6,y7,y8,rfl,ll,S,ok⟩
  obtain⟨il,h,e,hk,rfl⟩:=Uh hy
  have hp:=fm hk;have hr:=(R.mem h).mp (dr.mpr ⟨_,hp,rfl⟩);have hm:=bO.mp hr;refine⟨_,_,rfl,?_⟩;refine Ui lk eu nn gl ll hr λy8=>⟨_,h::D,_,_,y8,rfl,by rw[va];exact ll,S.next il hk,λg e' hg gd=>?_⟩
  have hD:=S.Er R il hk;have oh:∀c∈aD ls g e',c≠h/\0<=c:=λc hc=>by
   have cp:=(R.oh lk.fit hg).mp hc;have cr:=bO.mp ((R.mem c).mp (dr.mpr ⟨_,cp,rfl⟩));refine⟨λz=>?_,cr.1⟩;subst z;rcases ff.mp gd with z|z
   ·subst z
    exact lk.fit.Fx g (eQ.mp hc).1
   ·exact S.EU R il hk g z cp
  unfold mC;rw[zf (g:=aN L) λc hc=>KL hm.1 (oh c hc).2 (oh c hc).1];rcases ff.mp gd with z|z
  ·subst z
   cases iD R.nd hg hp;rw[Uj hm.1 (by omega)]
  ·have gr:=bO.mp ((R.mem g).mp (dr.mpr ⟨_,hg,rfl⟩))
   rw[KL hm.1 gr.1 λz'=>hD (by rw[<- z'];exact z)];exact ok g e' hg z
 ·rintro ρ ⟨L,D,y6,y7,y8,rfl,ll,S,ok⟩
  refine⟨_,rfl,⟨_,_,rfl,rfl,oD _,trivial,q P L R ⟨ll,λh e he=>ok h e he ?_⟩⟩,λns z=>by cases z⟩;rw[Dq,jV]at S
  obtain⟨j,hj⟩:=dL he
  exact (S.mem h).mpr ⟨j,e,hj,by omega⟩
def xI:dX:=λEp xs Q=>∃ws ls x ps,xs = [bG ws ls,x]/\Wb ws ls/\e9 ws.length ls/\NN ws/\dG x ps/\ps.length<=1000/\(cF ws.length ls->oU ws.length ps->∀T,aY ws.length T=true->dE ws ls T=true->(∀P L,Rt ws.length ls P->nH ws ps ls P L->(T.map λs=>ps.getD s.toNat 0).sum=((jD P).map λr=>(aN L r).2).sum)->Q (.tup (ao T)))/\(cF ws.length ls->¬oU ws.length ps->Ep "BadPrices")/\(¬cF ws.length ls->Ep "NotWood")
def Kn:aO:=(dO (o5 (bH (C4 (aB cC (a6 (a5 9) a9)) (a5 8))) (bH (Qh (aB oM (a6 (c9 (cD (sF (a5 9) v6 (pX (a5 8)))) [none,none] (fO 0 1) dB (a5 0)) a9)) (bI (a5 1) (a5 6))))) (fB (cD (sF (a5 9) v6 (pX (a5 8)))) (fO 10 11)
    (pV 4 (a5 11) (qC (.bl true)))) (iW 5 (a5 6)))
def M4:aO:=(aI (b8 9 (aB oH (a6 (c9 (cD (aB lC (a6 (a5 3) (a6 (a5 6) (a6 (a5 7) a9))))) [none,some 2] (bW 0) dB (gL (a6 (iY (bI (bI (a5 1) (a5 0)) (qC (.int 1))) (bI (bI (a5 1) (a5 0)) (qC (.int 0)))) (a6 (a5 0) a9)))) a9)))
  Kn)
def Km:aO:=(aI (b8 8 (bI (bI (a5 0) (qC (.int 0))) (a5 6)))
  (aI (dO (o5 (bH (Oj (a5 7) (qC .bw))) (bH (kB true (a5 6) (a5 4)))) (b8 8 (aB qW (a6 (a5 8) a9))) dZ)
  M4))
def M5 (Ep:Str->Prop):aO:=(aI (b8 2 (i7 Ep qZ (a6 (a5 0) (a6 (a5 1) a9))))
 (aI (b8 3 (aB i6 (a6 (a5 0) a9)))
 (aI (e6 4 (qC (.dK [])))
 (aI (e6 5 (fA a9))
 (aI (fB (cD (i7 Ep nJ (a6 (a5 0) a9))) (fO 6 7)
  Km)
 (bY (aB iN (a6 (aB pO (a6 (a5 5) a9)) a9))))))))
theorem Kl {G:aa}{k:Int}(k0:0<=k):iX (b6 G) none (some k)=b6 (G.take k.toNat):=by
 rw[MU k0];unfold b6;rw[List.map_take]
section
variable {ws ps:af}{ls:aa}{P:bZ}{L:cY}{A S:af}{ds:List (aC×PV)}{h:Int}{e:Option Int}{E:k9}{x:PV}{s0 s2 s3 s7 y8 y9 jv md:Option Slot}{g:Bool}
theorem Tv {G:aa}{k:Int}(hx:dG x ps)(k0:0<=k)(gl:G.length<=40)(al:A.length<=10000)(sl:S.length<=10000)(h0:0<=h)(h1:h<(ps.length:Int))(D:DS ds A)(mark:k<=(G.length:Int)->((G.take k.toNat).map (·.1)).sum<=ps.getD h.toNat 0->∀qo jv md,DS qo (A++(G.take k.toNat).map (·.2))->E.nx [s0,some (.sh g x),s2,s3,some (.own (.dK qo)),some (.own (.lst (ao S))),si h,s7,si k,some (.sh true (.lst (b6 G))),jv,md])(ui:¬(k<=(G.length:Int)/\((G.take k.toNat).map (·.1)).sum<=ps.getD h.toNat 0)->E.nx [s0,some (.sh g x),s2,s3,some (.own (.dK ds)),some (.own (.lst (ao (S++[h])))),si h,s7,si k,some (.sh true (.lst (b6 G))),jv,md]) :
  Kn E [s0,some (.sh g x),s2,s3,some (.own (.dK ds)),some (.own (.lst (ao S))),si h,s7,si k,some (.sh true (.lst (b6 G))),jv,md]:=by
 have app:¬(k<=(G.length:Int)/\((G.take k.toNat).map (·.1)).sum<=ps.getD h.toNat 0)->(iW 5 (a5 6)) E [s0,some (.sh g x),s2,s3,some (.own (.dK ds)),some (.own (.lst (ao S))),si h,s7,si k,some (.sh true (.lst (b6 G))),jv,md]:=λno=>by
  refine⟨_,rfl,_,rfl,trivial,by rw[bE];omega,?_⟩
  have:=ui no
  rw[fE]at this;exact this
 refine⟨_,rfl,_,_,rfl,rfl,_,rfl,_,_,rfl,rfl,_,rfl,?_⟩;rw[lX];by_cases c:k<=(G.length:Int)
 ·rw[di (by omega)]
  refine bP ⟨_,rfl,_,rfl,_,rfl,b6 G,rfl,oD G,b6 (G.take k.toNat),by show some (iX (b6 G) none (some k))=_;rw[Kl k0],(λz=>by cases z),by rw[lX,xi];omega,λi acc=>acc=ao (((G.take k.toNat).take i).map (·.1)),rfl,?_,?_⟩
  ·rintro i y acc hy rfl
   obtain⟨p,rfl,hp⟩:=vZ hy
   refine wX ?_;refine⟨_,rfl,trivial,?_⟩;dsimp only;rw[nq (l:=G.take k.toNat),hp,gu,fE];rfl
  rintro acc rfl;rw[lX,qu (de _)];refine⟨_,_,rfl,rfl,_,rfl,_,rfl,_,_,_,hx.seq,rfl,xF h0 h1,_,_,rfl,rfl,_,rfl,?_⟩;by_cases c2:((G.take k.toNat).map (·.1)).sum<=ps.getD h.toNat 0
  ·rw[di c2]
   refine bP ⟨_,rfl,_,rfl,_,rfl,b6 G,rfl,oD G,b6 (G.take k.toNat),by show some (iX (b6 G) none (some k))=_;rw[Kl k0],(λz=>by cases z),λi ρ=>∃(qo:List (aC×PV)) (jv md:Option Slot),ρ = [s0,some (.sh g x),s2,s3,some (.own (.dK qo)),some (.own (.lst (ao S))),si h,s7,si k,some (.sh true (.lst (b6 G))),jv,md]/\DS qo (A++((G.take k.toNat).take i).map (·.2)),⟨ds,jv,md,rfl,by rw[List.take_zero];exact (vb A).symm▸D⟩,?_,?_⟩
   ·rintro i y ρ hy ⟨qo,BO,BN,rfl,D'⟩
    obtain⟨p,rfl,hp⟩:=vZ hy
    refine wX ?_;have dl:=D'.len;have tl:=List.length_take_le i (G.take k.toNat);have tl2:=List.length_take_le k.toNat G;rw[jg,df]at dl;have tl3:((G.take k.toNat).take i).length<=G.length:=by rw[xi,xi];omega
    refine⟨qo,rfl,_,rfl,Sum.inl p.2,rfl,trivial,by omega,dF qo (Sum.inl p.2) (.bl true),si p.1,si p.2,rfl,?_⟩
    have:=D'.put p.2 (.bl true) rfl
    rw[List.append_assoc]at this;rw[nq (l:=G.take k.toNat),hp,gu];exact this
   ·rintro ρ ⟨qo,BO,BN,rfl,D'⟩
    rw[lX,qu (de _)]at D';exact mark c c2 qo BO BN D'
  ·rw[fk c2]
   exact bK (app λz=>c2 z.2)
 ·rw[fk (by omega)]
  exact bK (bK (app λz=>c z.1))
theorem Tu {k:Int}(lk:e9 ws.length ls)(zk:ws.length<=40)(hx:dG x ps)(pl:ps.length=ws.length)(ll:L.length=ws.length)(hr:h∈bj ws.length)(al:A.length<=10000)(sl:S.length<=10000)(D:DS ds A)(k0:0<=k)(mark:∀M:af,M.Nodup->(∀c∈M,c∈aD ls h e)->(M.length:Int)=k->(M.map (g6 L)).sum=((cN (c7 ((aD ls h e).map (aN L)))).take M.length).sum->(M.map (g6 L)).sum<=ps.getD h.toNat 0->∀qo y9 jv md,DS qo (A++M)->E.nx [s0,some (.sh g x),some (.sh true (.tup (b6 L))),some (.sh true (.lst (cA ws.length ls))),some (.own (.dK qo)),some (.own (.lst (ao S))),si h,some (.sh true (eN e)),si k,y9,jv,md])(ui:¬(k<=((aD ls h e).length:Int)/\((cN (c7 ((aD ls h e).map (aN L)))).take k.toNat).sum<=ps.getD h.toNat 0)->∀y9 jv md,E.nx [s0,some (.sh g x),some (.sh true (.tup (b6 L))),some (.sh true (.lst (cA ws.length ls))),some (.own (.dK ds)),some (.own (.lst (ao (S++[h])))),si h,some (.sh true (eN e)),si k,y9,jv,md]) :
  M4 E [s0,some (.sh g x),some (.sh true (.tup (b6 L))),some (.sh true (.lst (cA ws.length ls))),some (.own (.dK ds)),some (.own (.lst (ao S))),si h,some (.sh true (eN e)),si k,y9,jv,md]:=by
 have hm:=bO.mp hr;have nl:=lk.Az h;have kl:(aD ls h e).length<=ws.length:=by have:=yg (λx=>!decide (some x=e)) (aF ls h);unfold aD;omega
 refine⟨_,rfl,_,rfl,_,rfl,ws.length,ls,h,e,rfl,hm.1,hm.2,by omega,ao (aD ls h e),rfl,(λz=>by cases z),by rw[bE];omega,λi acc=>acc=b6 (((aD ls h e).take i).map λc=>(g6 L c,c)),rfl,?_,?_⟩
 ·rintro i y acc hy rfl
  obtain⟨c,rfl,hc⟩:=hG hy
  have cr:=bO.mp (lk.inr h c (eQ.mp (fm hc)).1);have la:=L6 (L:=L) cr.1 (by omega);refine⟨_,rfl,_,rfl,_,_,_,rfl,rfl,la,_,_,_,rfl,rfl,rfl,_,rfl,_,rfl,_,_,_,rfl,rfl,la,_,_,_,rfl,rfl,rfl,_,_,rfl,rfl,_,rfl,by show 2<=1000;decide,rfl,trivial,?_⟩;dsimp only;unfold b6;rw[nq,hc,gu,gu];rfl
 ·rintro acc rfl
  rw[bE,qu (de _)];refine⟨((aD ls h e).map λc=>(g6 L c,c)).map two,by rw[w5];rfl,by rw[df,df];omega,λy hy=>by obtain⟨l,_,rfl⟩:=dr.mp hy;exact List.cons_ne_nil _ _,λZ pz so=>?_⟩
  obtain⟨G,rfl,pm⟩:=Nu pz
  rw[<- w5];have gl:G.length=(aD ls h e).length:=by rw[pm.length_eq,df]
  have gt:=Tz pm so ((lk.fit.wx h).filter _);refine⟨trivial,?_⟩;refine Tv hx k0 (by omega) al sl hm.1 (by omega) D (λc1 c2 qo BO BN D'=>?_) λno=>?_
  ·obtain⟨g1,g2,g3,g4⟩:=gt k.toNat
   have ml:((G.take k.toNat).map (·.2)).length=k.toNat:=by rw[df,xi];omega
   exact mark _ g1 g2 (by rw[ml];omega) (by rw[ml];exact g3) (by rw[g3,<- g4];exact c2) qo _ BO BN D'
  ·exact ui (by rw[<- gl,<- (gt k.toNat).2.2.2];exact no) _ _ _
theorem Tt (lk:e9 ws.length ls)(zk:ws.length<=40)(nn:NN ws)(hx:dG x ps)(pl:ps.length=ws.length)(ll:L.length=ws.length)(hr:h∈bj ws.length)(al:A.length<=10000)(sl:S.length<=10000)(D:DS ds A)(mark:∀M:af,M.Nodup->(∀c∈M,c∈aD ls h e)->(M.length:Int)=cP ws A h e->(M.map (g6 L)).sum=((cN (c7 ((aD ls h e).map (aN L)))).take M.length).sum->(M.map (g6 L)).sum<=ps.getD h.toNat 0->∀qo y8 y9 jv md,DS qo (A++M)->E.nx [some (.sh true (bG ws ls)),some (.sh g x),some (.sh true (.tup (b6 L))),some (.sh true (.lst (cA ws.length ls))),some (.own (.dK qo)),some (.own (.lst (ao S))),si h,some (.sh true (eN e)),y8,y9,jv,md])(ui:¬(cP ws A h e<=((aD ls h e).length:Int)/\((cN (c7 ((aD ls h e).map (aN L)))).take (cP ws A h e).toNat).sum<=ps.getD h.toNat 0)->∀y8 y9 jv md,E.nx [some (.sh true (bG ws ls)),some (.sh g x),some (.sh true (.tup (b6 L))),some (.sh true (.lst (cA ws.length ls))),some (.own (.dK ds)),some (.own (.lst (ao (S++[h])))),si h,some (.sh true (eN e)),y8,y9,jv,md]) :
  Km E [some (.sh true (bG ws ls)),some (.sh g x),some (.sh true (.tup (b6 L))),some (.sh true (.lst (cA ws.length ls))),some (.own (.dK ds)),some (.own (.lst (ao S))),si h,some (.sh true (eN e)),y8,y9,jv,md]:=by
 have hm:=bO.mp hr;have w0:0<=ws.getD h.toNat 0:=nE nn _;refine⟨_,rfl,_,_,_,rfl,rfl,rfl,_,rfl,_,_,_,rfl,rfl,xF hm.1 hm.2,trivial,?_⟩;have fin:∀k,k=cP ws A h e->M4 E [some (.sh true (bG ws ls)),some (.sh g x),some (.sh true (.tup (b6 L))),some (.sh true (.lst (cA ws.length ls))),some (.own (.dK ds)),some (.own (.lst (ao S))),si h,some (.sh true (eN e)),si k,y9,jv,md]:=λk hk=>by
  subst hk;exact Tu lk zk hx pl ll hr al sl D (M3 nn) (λM a b c d f qo=>mark M a b c d f qo _) λno=>ui no _
 refine⟨_,rfl,rfl,_,rfl,?_⟩;cases e with
 |none=>
  refine bK (bK (fin _ ?_));unfold cP;rw[if_neg λz=>by cases z.1]
 |some q=>
  refine bP ⟨_,rfl,_,rfl,bX ds (Sum.inl h),.inl ⟨ds,Sum.inl h,rfl,rfl,rfl⟩,_,rfl,?_⟩;show if (!(bX ds (Sum.inl h:aC)).isSome)=true then _ else _
  rw[D.has h];by_cases z:h∈A
  ·rw[di z]
   refine bK (fin _ ?_);unfold cP;rw[if_neg λy=>y.2 z]
  ·rw[fk z]
   refine bP ⟨_,rfl,_,rfl,trivial,fin _ ?_⟩;unfold cP;rw[if_pos ⟨rfl,z⟩]
end
theorem Ts:j8 M5 ["web","prices","ledger","around","alone","seeds","hearth","elder","want","gaps","gap","child"] xI:=by
 rintro Ep xs Q ⟨ws,ls,x,ps,rfl,wb,lk,nn,hx,Cw,q,qb,qn⟩;have eu:=wb.eu;show M5 Ep _ [some (.sh (flat (bG ws ls)) (bG ws ls)),some (.sh (flat x) x),none,none,none,none,none,none,none,none,none,none];rw[E9];refine⟨_,rfl,_,rfl,ws,ls,x,ps,rfl,wb,lk,nn,hx,Cw,λw gd P L R k=>⟨trivial,?_⟩,qb,qn⟩;have q:=q w gd;refine⟨_,rfl,ws,ls,rfl,wb,trivial,?_⟩;refine⟨rfl,rfl,by decide,rfl,rfl,rfl,?_⟩;refine⟨_,rfl,ws,ls,rfl,wb,lk,λ_ P' R'=>?_,λno=>absurd w no⟩;have k':nH ws ps ls P' L:=⟨k.1,λh e he=>k.2 h e ((tK R R').mpr he)⟩;have pl:=KJ R';refine⟨eC P',rfl,(λz=>by cases z),λi ρ=>∃(ds:List (aC×PV)) (A S:af) (y6 y7 y8 y9 jv md:Option Slot),ρ = [some (.sh true (bG ws ls)),some (.sh (flat x) x),some (.sh true (.tup (b6 L))),some (.sh true (.lst (cA ws.length ls))),some (.own (.dK ds)),some (.own (.lst (ao S))),y6,y7,y8,y9,jv,md]/\DS ds A/\jE ws ps ls P' L i A S/\A.length<=40*i/\S.length<=i,⟨[],[],[],none,none,none,none,none,none,rfl,DS.nil,jE.start,ng _,de _⟩,?_,?_⟩
 ·rintro i y ρ hy ⟨ds,A,S,y6,y7,y8,y9,jv,md,rfl,D,I,al,sl⟩
  obtain⟨h,e,hi,rfl⟩:=TM hy
  have il:=(gv.mp hi).1;refine⟨_,_,rfl,?_⟩;refine Tt lk eu nn hx gd.1 k.1 (R'.inr (fm hi)) (by omega) (by omega) D (λM m1 m2 m3 m4 m5 qo z8 z9 BO BN D'=>?_) λno z8 z9 BO BN=>?_
  ·have ml:=dJ m1 m2
   have nl:=lk.Az h;have kl:=yg (λx=>!decide (some x=e)) (aF ls h)
   exact⟨qo,A++M,S,_,_,z8,z9,BO,BN,rfl,D',I.mark R'.toRt0 lk.fit hi m1 m2 m3 m4 m5,by rw[jg];unfold aD at ml;omega,by omega⟩
  ·exact⟨ds,A,S++[h],_,_,z8,z9,BO,BN,rfl,D,I.ui R'.toRt0 lk.fit hi no,by omega,by rw[jg,uy];omega⟩
 ·rintro ρ ⟨ds,A,S,y6,y7,y8,y9,jv,md,rfl,D,I,al,sl⟩
  rw[jV]at I al sl;have ch:∀h e,(h,e)∈P'->mD ws ps ls L A S h e:=λh e he=>by
   obtain⟨j,hj⟩:=dL he
   exact I.ok j h e (gv.mp hj).1 hj
  have sub:∀s∈S,s∈bj ws.length:=λs hs=>by
   obtain⟨j,qq,_,hj⟩:=I.ins s hs
   exact R'.inr (fm hj)
  refine⟨_,rfl,S,rfl,by omega,λms pm so=>⟨⟨_,_,rfl,rfl,cS _,trivial,?_⟩,λns z=>by cases z⟩⟩;refine q ms (xB (pm.nodup_iff.mpr I.nd) so λx hx=>sub x (pm.mem_iff.mp hx)) (Mn (λx hx=>pm.mem_iff.mpr hx) (Ks R'.toRt0 lk.fit nn ch)) λP2 L2 R2 k2=>?_
  cases Ug R R2 lk.fit k k2;rw[m7 (pm.map _),Kt R2.toRt0 lk.fit nn k2 I.nd sub λh e he=>ch h e ((tK R' R2).mpr he)]
end Core
namespace PP
open PySem L2
abbrev Cau:=Option (Int×af)
end PP
namespace L2
open PySem PySem.Spec PyProof.Rows
abbrev Cx.re (X:Cx)(H0:Hp):Cx:={ X with bu:=H0 }
section
variable {X:Cx}{ag:List (ax×Obj)}{σ:St}{H:Hp}{s:aw}{a:ax}{o:Obj}{u:HO}
theorem a8.re (I:a8 X ag σ H s)(hx:X.bu a=some u)(ha:H a=some (.et o u)):a8 (X.re (upd X.bu a (.et o u))) ag σ H s:=by
 have ne:∀b,X.bu b=none->b≠a:=λb e z=>by rw[z,hx]at e;cases e
 have un:∀b,upd X.bu a (.et o u) b=none->X.bu b=none:=λb e=>by
  by_cases z:b=a
  ·rw[z,bA]at e;cases e
  ·rw[aK z]at e;exact e
 have ok:=I.ok
 exact⟨⟨ok.mod,ok.kind,ok.glob,ok.blt,ok.above,ok.inj,ok.has,ok.Dg,ok.hd,ok.frames,ok.DB,ok.FH,λb o' e=>⟨(ok.bs b o' e).1,by show upd X.bu a _ b=none;rw[aK (ne b (ok.bs b o' e).2)];exact (ok.bs b o' e).2⟩,ok.Aj,ok.vi,ok.zw,ok.lg,λb hb=>by show upd X.bu a _ b=none;rw[aK (ne b (ok.AJ b hb))];exact ok.AJ b hb⟩,I.os,I.bare,
  ⟨λb o' e n=>I.base.keep b o' e (un b n),λb o' e n=>I.base.slot b o' e (un b n),λb o' e n=>I.base.free b o' e (un b n),I.base.there,λb xs e=>by
   by_cases z:b=a
   ·have e:upd X.bu a (.et o u) b=some (.tup xs):=e
    rw[z,bA]at e;cases e
   ·exact I.base.bp b xs (by have e:upd X.bu a (.et o u) b=some (.tup xs):=e;rw[aK z]at e;exact e),λb o' v e=>by
   by_cases z:b=a
   ·have e:upd X.bu a (.et o u) b=some (.et o' v):=e
    rw[z,bA]at e;cases e;rw[z];exact ha
   ·exact I.base.kr b o' v (by have e:upd X.bu a (.et o u) b=some (.et o' v):=e;rw[aK z]at e;exact e),λb ps e=>by
   by_cases z:b=a
   ·have e:upd X.bu a (.et o u) b=some (.yk ps):=e
    rw[z,bA]at e;cases e
   ·exact I.base.ny b ps (by have e:upd X.bu a (.et o u) b=some (.yk ps):=e;rw[aK z]at e;exact e)⟩,I.loc,I.cell,I.free,I.jm,I.pin,I.cf,I.len⟩
theorem a8.Bh (I:a8 (X.re (upd X.bu a (.et o u))) ag σ H s)(hx:X.bu a=some u)(du:l7 u=true):a8 X ag σ H s:=by
 have ne:∀b,X.bu b=none->b≠a:=λb e z=>by rw[z,hx]at e;cases e
 have Au:∀b,X.bu b=none->upd X.bu a (.et o u) b=none:=λb e=>by rw[aK (ne b e)];exact e
 have un:∀b,upd X.bu a (.et o u) b=none->X.bu b=none:=λb e=>by
  by_cases z:b=a
  ·rw[z,bA]at e;cases e
  ·rw[aK z]at e;exact e
 have ok:=I.ok
 exact⟨⟨ok.mod,ok.kind,ok.glob,ok.blt,ok.above,ok.inj,ok.has,ok.Dg,ok.hd,ok.frames,ok.DB,ok.FH,λb o' e=>⟨(ok.bs b o' e).1,un b (ok.bs b o' e).2⟩,ok.Aj,ok.vi,ok.zw,ok.lg,λb hb=>un b (ok.AJ b hb)⟩,I.os,I.bare,
  ⟨λb o' e n=>I.base.keep b o' e (Au b n),λb o' e n=>I.base.slot b o' e (Au b n),λb o' e n=>I.base.free b o' e (Au b n),I.base.there,λb xs e=>I.base.bp b xs (by
   show upd X.bu a _ b=_
   rw[aK λz=>by rw[z,hx]at e;cases e;cases du];exact e),λb o' v e=>I.base.kr b o' v (by
   show upd X.bu a _ b=_
   rw[aK λz=>by rw[z,hx]at e;cases e;cases du];exact e),λb ps e=>I.base.ny b ps (by
   show upd X.bu a _ b=_
   rw[aK λz=>by rw[z,hx]at e;cases e;cases du];exact e)⟩,I.loc,I.cell,I.free,I.jm,I.pin,I.cf,I.len⟩
structure Bg (H0 H1:Hp)(a:ax)(o:Obj)(u:HO):Prop where
 how:(H0 a=none/\H1=H0)∨(H0 a=some u/\H1=upd H0 a (.et o u))
 Px:∀w,H0 a=some w->w=u
def Il (X:Cx)(T:Hp->TS):TS:=λD σ H=>∃H1 a o u,Bg X.bu H1 a o u/\l7 u=true/\H a=some (.et o u)/\T H1 D σ H
theorem Tr {body:List Stmt}{T:Hp->TS}(hb:∀H0,fI (X.re H0) body (T H0)):fI X body (Il X T):=by
 intro ag s σ H D I h
 obtain⟨H1,a,o,u,⟨how,_⟩,du,ha,t⟩:=h
 rcases how with⟨_,rfl⟩|⟨hx,rfl⟩
 ·exact hb X.bu ag s σ H D I t
 ·refine aR (hb (upd X.bu a (.et o u)) ag s σ H D (I.re hx ha) t) λf s1 h1=>?_
  cases f with
  |next=>obtain⟨cj,H',I',q⟩:=h1;exact⟨cj,H',I'.Bh hx du,q⟩
  |brk=>obtain⟨cj,H',I',q⟩:=h1;exact⟨cj,H',I'.Bh hx du,q⟩
  |cont=>obtain⟨cj,H',I',q⟩:=h1;exact⟨cj,H',I'.Bh hx du,q⟩
  |ret v=>obtain⟨w,cj,H',I',q⟩:=h1;exact⟨w,cj,H',I'.Bh hx du,q⟩
def Kk (X:Cx)(i:Nat)(g:TG)(tb:TS):TS:=λD σ H=>tR (J6 (gA i)) g tb { nx:=λcj H'=>∃a o u,H' a=some (.et o u)/\(∀o' v',X.bu a≠some (.et o' v'))/\D.nx cj (upd H' a u),rt:=λ_ _=>False } σ H
theorem Tq {st:Stmt}{i:Nat}{g:TG}{tb:TS}(h:PS X st (tR (J6 (gA i)) g tb)):PS X st (Kk X i g tb):=by
 intro ag s σ H D I hq;refine aR (h ag s σ H _ I hq) λf s1 h1=>?_
 cases f with
 |next=>
  obtain⟨cj,H1,I1,a,o,u,e,n,q⟩:=h1
  exact⟨cj,_,I1.Cq e n,q⟩
 |brk=>obtain⟨_,_,_,q⟩:=h1;exact q.elim
 |cont=>obtain⟨_,_,_,q⟩:=h1;exact q.elim
 |ret v=>obtain⟨_,_,_,_,_,q⟩:=h1;exact q.elim
end
end L2
namespace PP
open PySem L2
def tL:Slot->Bool
 |.sh _ x=>eO x
 |.own (.lst xs)=>mi xs
 |.own (.dK ps)=>mi (ps.map (·.2))
 |.own (.dT ps)=>mi (ps.map (·.2))
 |.own _=>false
 |.kp _ _ _=>false
section
variable {K:ad}{H0 H1:Hp}{W:ax→Prop}{σ:St}{ρ:bT}{H:Hp}{a:ax}{o:Obj}{u:HO}
theorem _root_.L2.Bg.nn (R:Bg H0 H1 a o u)(b:ax):H1 b=none↔H0 b=none:=by
 rcases R.how with⟨_,rfl⟩|⟨e,rfl⟩
 ·exact Iff.rfl
 ·by_cases z:b=a
  ·rw[z,bA,e];exact⟨(λz=>by cases z),λz=>by cases z⟩
  ·rw[aK z]
theorem _root_.L2.Bg.off (R:Bg H0 H1 a o u){b:ax}(z:b≠a):H1 b=H0 b:=by
 rcases R.how with⟨_,rfl⟩|⟨e,rfl⟩
 ·rfl
 ·rw[aK z]
theorem Kj (R:Bg H0 H1 a o u){g:Bool}{b:ax}:Ms H0 W g b↔Ms H1 W g b:=by
 cases g with
 |true=>exact and_congr Iff.rfl (R.nn b).symm
 |false=>exact Iff.rfl
theorem Tp (R:Bg H0 H1 a o u){H':Hp}{m:Slot}{v:V}(sf:tL m=true)(kn:∀g,nG (Ms H0 W g) (Ms H1 W g) H H')(km:∀b w,W b->H b=some w->H' b=some w)(r:pH K H0 W H v m):pH K H1 W H' v m:=by
 cases m with
 |sh g x=>exact aH.gx (kn g) sf r
 |own x=>
  obtain⟨b,e1,wb,r⟩:=r
  refine⟨b,e1,wb,?_⟩;cases x with
  |lst xs=>obtain⟨us,e,r⟩:=r;exact⟨us,km b _ wb e,bb.gx (kn true) sf r⟩
  |dK ps=>obtain⟨us,e,q,r⟩:=r;exact⟨us,km b _ wb e,q,bb.gx (kn true) sf r⟩
  |dT ps=>obtain⟨us,e,q,r⟩:=r;exact⟨us,km b _ wb e,q,bb.gx (kn true) sf r⟩
  |_=>cases sf
 |kp g c ks=>cases sf
theorem To {i:Nat}{x:PV}(px:PX K H0 W σ ρ H)(R:Bg H0 H1 a o u)(ha:H a=some u)(du:l7 u=true)(wa:¬W a)(ev:σ[i]? = some (some (.ref a)))(sf:∀j m,j≠i->ρ[j]? = some (some m)->tL m=true)(rf:aH K (λb=>¬W b) (upd H a (.et o u)) (.ref a) (fz x)):PX K H1 W σ (ρ.set i (some (.sh false (fz x)))) (upd H a (.et o u)):=by
 have nw:∀b,W b->b≠a:=λb z e=>wa (e▸z)
 refine⟨by rw[va];exact px.len,λb w e=>?_,λb z=>?_,λj m h=>?_,λj k y z b h1 h2 h3 h4=>?_⟩
 ·by_cases z:b=a
  ·subst z
   rcases R.how with⟨n0,rfl⟩|⟨e0,rfl⟩
   ·rw[n0]at e;cases e
   ·rw[bA]at e ⊢;exact e
  ·rw[aK z];rw[R.off z]at e;exact px.same _ _ e
 ·obtain⟨h1,w,h2,h3⟩:=px.wm b z
  exact⟨(R.nn b).mpr h1,w,by rw[aK (nw b z)];exact h2,h3⟩
 ·rcases gV h with⟨rfl,hl,e⟩|⟨tu,h⟩
  ·cases e
   exact⟨_,ev,rf⟩
  ·obtain⟨v,e,r⟩:=px.sl j m h
   exact⟨v,e,Tp R (sf j m tu h) (λg=>.AI ha du λb us hb _=>(Kj R).mp hb) (λb w wb e=>by rw[aK (nw b wb)];exact e) r⟩
 ·rcases gV h1 with⟨_,_,e⟩|⟨_,h1⟩
  ·cases e
  ·rcases gV h2 with⟨_,_,e⟩|⟨_,h2⟩
   ·cases e
   ·exact px.vw j k y z b h1 h2 h3 h4
theorem Tn {ue:bT}{H2:Hp}(px:PX K H1 W σ ρ H2)(R:Bg H0 H1 a o u)(ha:H2 a=some (.et o u))(du:l7 u=true)(wa:¬W a)(hl:ue.length=ρ.length)(sf:∀(j:Nat) m,ue[j]? = some (some m)->ρ[j]? = some (some m)/\tL m=true):PX K H0 W σ ue (upd H2 a u):=by
 have nw:∀b,W b->b≠a:=λb z e=>wa (e▸z)
 have kn:∀g,nG (Ms H1 W g) (Ms H0 W g) H2 (upd H2 a u):=λg=>.Cq ha du λb us hb _=>(Kj R).mpr hb
 refine⟨by rw[hl];exact px.len,λb w e=>?_,λb z=>?_,λj m h=>?_,λj k y z b h1 h2 h3 h4=>px.vw j k y z b (sf _ _ h1).1 (sf _ _ h2).1 h3 h4⟩
 ·by_cases z:b=a
  ·subst z
   rw[R.Px w e,bA]
  ·rw[aK z];rw[<- R.off z]at e;exact px.same _ _ e
 ·obtain⟨h1,w,h2,h3⟩:=px.wm b z
  exact⟨(R.nn b).mp h1,w,by rw[aK (nw b z)];exact h2,h3⟩
 ·obtain⟨h1,h2⟩:=sf j m h
  obtain⟨v,e,r⟩:=px.sl j m h1
  refine⟨v,e,?_⟩;cases m with
  |sh g x=>exact aH.gx (kn g) h2 r
  |own x=>
   obtain⟨b,e1,wb,r⟩:=r
   have km:∀w,H2 b=some w->upd H2 a u b=some w:=λw e=>by rw[aK (nw b wb)];exact e
   refine⟨b,e1,wb,?_⟩;cases x with
   |lst xs=>obtain⟨us,e,r⟩:=r;exact⟨us,km _ e,bb.gx (kn true) h2 r⟩
   |dK ps=>obtain⟨us,e,q,r⟩:=r;exact⟨us,km _ e,q,bb.gx (kn true) h2 r⟩
   |dT ps=>obtain⟨us,e,q,r⟩:=r;exact⟨us,km _ e,q,bb.gx (kn true) h2 r⟩
   |_=>cases h2
  |kp g c ks=>cases h2
end
section
variable {X:Cx}{σ:St}{H:Hp}{D:dS}
def xJ (i:Nat)(p:kA)(tb:aO):aO:=λD ρ=>∃x ks,ρ[i]? = some (some (.sh false x))/\Vk x=some ks/\mi (Vj x)=true/\(∀j m,j≠i->ρ[j]? = some (some m)->tL m=true)/\∃I:Nat->bT->Prop,I 0 (ρ.set i (some (.sh false (fz x))))/\
 (∀k y gi,ks[k]? = some y->I k gi->p y true gi λkf=>tb { nx:=I (k+1),ct:=I (k+1),rt:=λ_=>False } kf)/\∀gi,I ks.length gi->∃ue,ue.length=gi.length/\(∀(j:Nat) m,ue[j]? = some (some m)->gi[j]? = some (some m)/\tL m=true)/\D.nx ue
theorem Tj {i:Nat}{p:kA}{g:TG}{tb:aO}{own:Nat->Prop}(hg:o9 X.K own p g)(h:LS X (xJ i p tb) D σ H):Kk X i g (Il X λH1=>LS (X.re H1) tb) D σ H:=by
 obtain⟨W,ρ,D',px,⟨x,ks,hi,hk,nv,sf,I,i0,turn,fin⟩,k⟩:=h
 obtain⟨v,ev,r⟩:=px.sl i _ hi
 have r:aH X.K (λb=>¬W b) H v x:=r;have FR:∀{b:ax}{us:List V},H b=some (.tup us)->¬W b:=λ{b us} e z=>by
  obtain⟨_,w,e2,m⟩:=px.wm b z
  rw[e]at e2;cases e2;cases m
 obtain⟨a,u,rfl,ha,du,wa,et,keys⟩:∃a u,v = .ref a/\H a=some u/\l7 u=true/\¬W a/\(∀o:Obj,aH X.K (λb=>¬W b) (upd H a (.et o u)) (.ref a) (fz x))/\
   ∀ys,J5 H u ys->ys.length=ks.length/\∀(o:Obj) (W':ax->Prop) (H':Hp) (M:ax->Prop) (j:Nat) (y:V),Ev W (upd H a (.et o u)) W' H'->ys[j]? = some y->∃x,ks[j]? = some x/\aH X.K M H' y x:=by
  cases r with
  |@dK a bf ps wa ha ek rv=>
   cases hk;refine⟨a,_,rfl,ha,rfl,wa,λo=>.fK bA ek (bb.gx (.AI ha rfl λb us hb _=>hb) nv rv),λys ky=>?_⟩;obtain rfl:ys=bf.map λp=>kV p.1:=ky
   have lk:=v4 ek;refine⟨by rw[df,df];exact lk,λo W' H' M j y s hy=>?_⟩;rw[gf]at hy;cases e:bf[j]? with
   |none=>rw[e]at hy;cases hy
   |some kv=>
    rw[e]at hy;cases hy
    have:(bf.map (·.1))[j]? = some kv.1:=by rw[gf,e];rfl
    rw[ek,gf]at this;cases e2:ps[j]? with
    |none=>rw[e2]at this;cases this
    |some pp=>
     rw[e2]at this;have e3:pp.1=kv.1:=jr this
     exact⟨kP pp.1,by rw[gf,e2];rfl,by rw[e3];exact Vi kv.1⟩
  |@dT a bf ps wa ha ek rv=>
   cases hk;refine⟨a,_,rfl,ha,rfl,wa,λo=>.fT bA ek (bb.gx (.AI ha rfl λb us hb _=>hb) nv rv),λys ky=>?_⟩;have ky:Paired (zZ H) ys (bf.map (·.1)):=ky;have lk:=v4 ek;have ll:=ky.length;rw[df]at ll;refine⟨by rw[df];omega,λo W' H' M j y s hy=>?_⟩
   obtain⟨key,AG,q2,rfl,FC⟩:=ML ky hy
   rw[ek,gf]at AG;cases e2:ps[j]? with
   |none=>rw[e2]at AG;cases AG
   |some pp=>
    rw[e2]at AG;have e3:pp.1=key:=jr AG;refine⟨.tup (pp.1.map kP),by rw[gf,e2];rfl,?_⟩;rw[e3];exact .tup (s _ _ (by rw[aK (λz=>by rw[z,ha]at FC;cases FC)];exact FC) (FR FC) rfl).1 (bb.keys key)
  |_=>cases hk
 refine⟨_,ev,a,u,rfl,ha,du,λo ys pk=>?_⟩
 obtain⟨lk,QC⟩:=keys ys pk
 obtain⟨H1,R⟩:∃H1,Bg X.bu H1 a o u:=by
  cases e:X.bu a with
  |none=>exact⟨X.bu,.inl ⟨e,rfl⟩,λw z=>by rw[e]at z;cases z⟩
  |some w=>
   have:=px.same _ _ e
   rw[ha]at this;cases this
   exact⟨_,.inr ⟨e,rfl⟩,λw z=>by rw[e]at z;cases z;rfl⟩
 have Cz:∀o' v',X.bu a≠some (.et o' v'):=λo' v' e=>by have:=px.same _ _ e;rw[ha]at this;cases this;cases du
 refine⟨λj m kb H2=>m=ks.length-j/\j<=ks.length/\∃W2 kf,PX X.K H1 W2 kb kf H2/\Ev W (upd H a (.et o u)) W2 H2/\I j kf,⟨ks.length,by omega,ng _,W,_,To px R ha du wa ev sf (et o),Ev.refl _ _,i0⟩,?_⟩;rintro j m kb H2 ⟨rfl,hj,W2,kf,yo,e2,i2⟩
 obtain⟨ER,Ii⟩:=e2 _ _ bA wa (by cases u<;>first|rfl|cases du)
 by_cases jw:j<ks.length
 ·refine .inr ⟨⟨⟨_,ER⟩,by omega⟩,λvc H3=>∃W3 ue,PX X.K H1 W3 vc ue H3/\Ev W (upd H a (.et o u)) W3 H3/\I (j+1) ue,λvc H3 ⟨W3,ue,a,b,c⟩=>⟨ks.length-(j+1),by omega,rfl,jw,W3,ue,a,b,c⟩,λv H3 y=>?_⟩
  obtain⟨rfl,hy⟩:=y
  obtain⟨x',hx,rx⟩:=QC o W2 H3 (Ms H1 W2 true) j v e2 hy
  refine hg H1 W2 kb kf H3 v x' true _ _ yo rx (turn j x' kf hx i2) λFi BM Gg _ _ q4=>?_
  exact⟨H1,a,o,u,R,du,ER,W2,BM,_,Gg,q4,λW' cj H' gi e p q=>⟨W',gi,p,e2.trans e,q⟩,(λ_ _ _ _ _ z=>z.elim),(λ_ _ _ _ _ _ z=>z.elim),λW' cj H' gi e p q=>⟨W',gi,p,e2.trans e,q⟩⟩
 ·obtain rfl:j=ks.length:=by omega
  obtain⟨ue,hl,h3,q⟩:=fin kf i2
  refine .inl ⟨⟨⟨_,ER⟩,lk.symm⟩,a,o,u,ER,Cz,k.nx W2 kb _ ue (λb w e n hk=>?_) (Tn yo R ER du Ii hl h3) q⟩;by_cases hb:b=a
  ·subst hb
   rw[ha]at e;cases e
   exact⟨bA,Ii⟩
  ·rw[aK hb]
   exact e2 b w (by rw[aK hb];exact e) n hk
end
section
variable {X:Cx}{e:Expr}{t:aO}{pos:Pos}
theorem Ti {tg:Expr}{p:kA}{g:TG}{own:Nat->Prop}{body:List Stmt}{d:Nat}{y:Str}{yp:Pos}(hp:PassesOwn (model X.prog X.w) X.A X.env X.xe)(hc:X.calm=true)(hi:PE X (.Name y yp) (gA d))(hg:PG X tg g)(ho:o9 X.K own p g)(hb:∀H0,gN (X.re H0) body t)(hs:∀x,foldedSetIterable (.Name y yp) X.env x=pure x:=by intro _;rfl) :
  QS X (.For tg (.Name y yp) body [] pos) (xJ d p t):=fC (Tq (tT hp hc (Vm hi) hg (Tr hb) hs)) λ_ _ _ h=>Tj ho h
theorem Th (d i:Nat){x y:Str}{tp yp:Pos}{body:List Stmt}(hN:X.N.Nodup)(hb:∀H0,gN (X.re H0) body t)(hi:PE X (.Name y yp) (gA d):=by exact pv _)(hx:X.N[i]? = some x:=by rfl)(hl:jX X.env.scope x:=by first|exact Or.inl rfl|exact Or.inr rfl)(hf:X.fn x=true∨X.env.scope.names.lookup x=some .local:=by first|exact .inl rfl|exact .inr rfl)(hp:PassesOwn (model X.prog X.w) X.A X.env X.xe:=by exact Di)(hc:X.calm=true:=by rfl)(hs:∀x,foldedSetIterable (.Name y yp) X.env x=pure x:=by intro _;rfl):QS X (.For (.Name x tp) (.Name y yp) body [] pos) (xJ d (bW i) t):=
 Ti hp hc hi (gF hN hx hl hf) (pS _ i) hb hs
end
end PP
namespace Core
open PySem L2 PP
section
variable {ws ps:af}{ls:aa}{P:bZ}{L:cY}
theorem Tf (R:Rt0 ws.length ls P)(f:c8 ls)(nn:NN ws)(pp:∀k,0<=ps.getD k 0)(k:nH ws ps ls P L):∀h e,(h,e)∈P->qY ws ps ls L h e:=by
 have base:∀h e,(h,e)∈P->(0<=(aN L h).1/\(aN L h).1<=(aN L h).2):=R.leaf f λh e hp kk=>by
  have at_:=k.2 h e hp;unfold mC at at_;have w0:0<=ws.getD h.toNat 0:=nE nn _
  obtain⟨n1,n2⟩:=TK (bl:=(aD ls h e).map (aN L)) (pp h.toNat) λr hr=>by
   obtain⟨c,hc,rfl⟩:=dr.mp hr
   exact kk c hc
  rw[at_];unfold lD
  exact⟨n1 _ (by omega),n2 _ _ (by omega) (by omega)⟩
 intro h e hp
 obtain⟨b1,b2⟩:=base h e hp
 have at_:=k.2 h e hp;unfold mC at at_
 exact⟨b1,b2,by rw[<- at_];exact wo _,by rw[<- at_];exact wo _⟩
theorem Ki {f:Int->Int}:∀{zs K:af},zs.Perm (K.map f)->∃K':af,K'.Perm K/\zs=K'.map f
 |[],K,h=>by
  have:=h.length_eq
  rw[df]at this;cases K with
  |nil=>exact⟨[],Bc _,rfl⟩
  |cons _ _=>cases this
 |z::zs,K,h=>by
  obtain⟨a,ha,rfl⟩:=dr.mp (h.mem_iff.mp dh)
  have p:=List.perm_cons_erase ha;have h2:(f a::zs).Perm (f a::(K.erase a).map f):=h.trans (p.map f)
  obtain⟨K',p',e⟩:=Ki (List.Perm.cons_inv h2)
  exact⟨a::K',(List.Perm.cons a p').trans p.symm,by rw[e];rfl⟩
theorem Te (R:Rt0 ws.length ls P)(f:c8 ls)(nn:NN ws):∀i,i<=P.length->∃A S,jE ws ps ls P L i A S:=by
 intro i
 induction i with
 |zero=>intro _;exact⟨[],[],.start⟩
 |succ i ih=>
  intro hi
  obtain⟨A,S,I⟩:=ih (by omega)
  obtain⟨⟨h,e⟩,hp⟩:∃p,P[i]? = some p:=⟨_,gs (by omega)⟩
  by_cases c:cP ws A h e<=((aD ls h e).length:Int)/\((cN (c7 ((aD ls h e).map (aN L)))).take (cP ws A h e).toNat).sum<=ps.getD h.toNat 0
  ·have k0:=M3 (A:=A) (h:=h) (e:=e) nn
   have g:c7 ((aD ls h e).map (aN L))=(aD ls h e).map (g6 L):=by unfold c7;rw[kq];rfl
   obtain⟨K',pk,ek⟩:=Ki (f:=g6 L) (zs:=cN (c7 ((aD ls h e).map (aN L)))) (K:=aD ls h e) (g▸(oW (c7 ((aD ls h e).map (aN L)))).1)
   have kl:=pk.length_eq;have ml:(K'.take (cP ws A h e).toNat).length=(cP ws A h e).toNat:=by rw[xi];omega
   have ms:((K'.take (cP ws A h e).toNat).map (g6 L)).sum=((cN (c7 ((aD ls h e).map (aN L)))).take (cP ws A h e).toNat).sum:=by rw[ek,List.map_take]
   refine⟨_,_,I.mark R f hp (M:=K'.take (cP ws A h e).toNat) ?_ (λc hc=>pk.mem_iff.mp (List.mem_of_mem_take hc)) (by rw[ml];omega) (by rw[ml];exact ms) (by rw[ms];exact c.2)⟩;exact (pk.nodup_iff.mpr ((f.wx h).filter _)).sublist (List.take_sublist _ _)
  ·exact⟨_,_,I.ui R f hp c⟩
theorem Td (R:Rt0 ws.length ls P)(f:c8 ls)(nn:NN ws)(pp:∀k,0<=ps.getD k 0)(k:nH ws ps ls P L) :
  (∀S,aY ws.length S=true->dE ws ls S=true->((jD P).map λr=>(aN L r).2).sum<=(S.map λs=>ps.getD s.toNat 0).sum)/\
  ∃S,aY ws.length S=true/\dE ws ls S=true/\(S.map λs=>ps.getD s.toNat 0).sum=((jD P).map λr=>(aN L r).2).sum:=by
 refine⟨λS hS full=>TN R f nn hS full (Tf R f nn pp k),?_⟩
 obtain⟨A,S,I⟩:=Te (ps:=ps) (L:=L) R f nn P.length (de _)
 have ch:∀h e,(h,e)∈P->mD ws ps ls L A S h e:=λh e hp=>by
  obtain⟨j,hj,e1⟩:=List.getElem_of_mem hp
  exact I.ok j h e hj (by rw[gs hj,e1])
 have sub:∀s∈S,s∈bj ws.length:=λs hs=>by
  obtain⟨j,q,_,hj⟩:=I.ins s hs
  exact R.inr (fm hj)
 obtain⟨pm,so⟩:=oW S
 refine⟨cN S,xB (pm.nodup_iff.mpr I.nd) so λx hx=>sub x (pm.mem_iff.mp hx),Mn (λx hx=>pm.mem_iff.mpr hx) (Ks R f nn ch),?_⟩;rw[m7 (pm.map _),Kt R f nn k I.nd sub ch]
end
end Core
namespace L2
open PySem PySem.Spec PyProof.Rows
section
variable {X:Cx}{ag:List (ax×Obj)}{σ:St}{H H':Hp}{s:aw}{a:ax}
theorem a8.Dc {o:Obj}{us:List V}(I:a8 X ag σ H s)(h:H a=some (.lst us))(e:s.heap.get? a=some o):a8 X ag σ (upd H a (.et o (.lst us))) s:=by
 have own:∀{c:ax}{y:ax},H c=some (.own y)->c≠a:=λ{c y} q z=>by rw[z,h]at q;cases q
 have tp:∀{c:ax}{xs:List V},H c=some (.tup xs)->c≠a:=λ{c xs} q z=>by rw[z,h]at q;cases q
 refine I.Gf (a:=a) (λb n=>aK n) ⟨_,h⟩ (λxs q=>by rw[h]at q;cases q) (λo' v q=>by have:=I.base.kr a o' v q;rw[h]at this;cases this) (λps q=>by rw[h]at q;cases q) λb v q=>?_
 by_cases hb:b=a
 ·subst hb
  rw[bA]at q;cases q
  exact⟨e,(I.cf b _ h).cq (λ_ _ _ q=>q) (λc q=>by rw[aK (own q)];exact q) λc xs q=>by rw[aK (tp q)];exact q⟩
 ·rw[aK hb]at q
  exact (I.cf b v q).cq (λ_ _ _ q=>q) (λc q=>by rw[aK (own q)];exact q) λc xs q=>by rw[aK (tp q)];exact q
def Kh (t:TE):TE:=λσ H Q=>t σ H λv H1=>∃a us,v = .ref a/\H1 a=some (.lst us)/\∀o,Q v (upd H1 a (.et o (.lst us)))
theorem Tc {e:Expr}{t:TE}(h:PE X e t):PE X e (Kh t):=by
 intro ag s σ H Q I hq;refine aR (h ag s σ H _ I hq) λv s1 h1=>?_
 obtain⟨x,H1,I1,r1,a,us,ex,ea,q⟩:=h1
 obtain⟨_,_,_,_,ho⟩:=(show cB X.prog X.w H1 s1.heap a (.lst us) from I1.cf a _ ea)
 exact⟨x,_,I1.Dc ea ho,r1,q _⟩
end
section
variable {prog:ay}{w:ba}{A:az}{E:av→aw→Prop}{s:aw}{env:Env}
theorem Tb {k v:Expr}{pos:Pos}{Q:av->aw->Prop}(h:wpAny (model prog w) A (evalPairs (pairTrees [some k] [v] env pos)) (λvs bz=>∃x y,vs = [(x,y)]/\wpAny (model prog w) A (dictSet s.heap.objs.size x y) (λ_ s2=>Q (.ref s.heap.objs.size) s2) E bz) E
   { s with heap:=s.heap.push { cls:=.type "dict",data:=.dict #[] } }) :
  wpAny (model prog w) A (eval (.Dict [some k] [v] pos) env) Q E s:=by
 have hn:=pairTrees_length [some k] [v] env pos rfl rfl;have h0:pairTrees [some k] [v] env pos≠[]:=λz=>by rw[z]at hn;cases hn
 have hl:(pairTrees [some k] [v] env pos).length<=15:=by rw[hn];show 1<=15;decide
 rw[arm_eval_Dict,zip_pairTrees [some k] [v] env pos rfl rfl,dictDisplay_pairs _ h0 (by omega)];refine bq (wpAny_standAt (bq ?_));unfold subDict;refine bq (wpAny_alloc ?_);refine bq (Al ?_);rw[if_pos hl];refine bq (qp h (λvs bz oa=>?_) λ_ _ e=>e)
 obtain⟨x,y,rfl,oa⟩:=oa
 refine Al (bq ?_);rw[List.forIn_cons];refine bq (bq (qp oa (λ_ s2 q=>ei ?_) λ_ _ e=>e));show wpAny (model prog w) A (forIn ([]:List (av×av)) PUnit.unit _) _ E s2;rw[List.forIn_nil];exact ei (ei (ei (ei q)))
end
section
variable {X:Cx}{pos:Pos}{k v:Expr}{tk tv:TE}
def Kg (tk tv:TE):TE:=λσ H Q=>∀p,H p=none->u4 [(tk,tv)] σ (upd H p (.dT [])) λps H2=>∃x y,ps = [(x,y)]/\H2 p=some (.dT [])/\∃b ks,x = .ref b/\H2 b=some (.tup (List.map kV ks))/\Q (.ref p) (upd H2 p (.dT [(ks,y)]))
theorem Ta (hu:X.A.units+1<cLine)(hk:PE X k tk)(hv:PE X v tv):PE X (.Dict [some k] [v] pos) (Kg tk tv):=by
 intro ag s σ H Q I q;have hn:=I.cf.fresh (de s.heap.objs.size);have I1:=I.laid (a:=s.heap.objs.size) (o:=.dT []) (h':=s.heap.push { cls:=.type "dict",data:=.dict #[] }) (t':=s.toks) (λ_ _ q=>ic _ q) (de _) (W6 s.heap I.big);refine Tb (aR (X0 hk hv W9 ag _ σ _ _ I1 (q _ hn)) λws s2 h2=>?_)
 obtain⟨ps,H2,I2,rel,x,y,rfl,e,b,ks,rfl,eb,q2⟩:=h2
 cases rel with
 |@cons _ p _ _ r t=>
 cases t
 obtain⟨u,r0⟩:=p
 obtain⟨r1,r2⟩:=r
 cases (show u=Value.ref b from r1);refine⟨_,_,rfl,?_⟩
 obtain⟨z,hd,xs,rel,dd⟩:=V5 I2.cf e
 have hz:xs.length<=sizeLine:=by rw[<- Paired.length rel];exact z
 refine wpAny_dictSet_heap (hsz:=hz) (Nat.lt_of_succ_lt hu) (nV I2.cf eb) dd λh' Br hs=>⟨.ref s.heap.objs.size,_,?_,rfl,q2⟩
 obtain⟨q,es,ep,hq,h2,h3,h4,_,h5⟩:=Br
 cases rel;refine u3 I2 (by rw[e];exact True.intro) hs ⟨q,hq⟩ ⟨by show 1<=sizeLine;rw[sizeLine_eq];omega,hd,_,(KT.put .nil ks eb r2).keeps λc ys ec=>?_,q,es,ep,hq,h2,h3,h4,h5⟩;rw[aK (N7 ec e (λz=>nomatch z))];exact ec
end
section
variable {X:Cx}
def Kf:R2:=λx y H Q=>∃l b xs zs,x = .ref l/\y = .ref b/\Rd H l (.lst xs)/\H b=some (.lst zs)/\xs.length+zs.length<=sizeLine/\∀p,H p=none->Q (.ref p) (upd H p (.lst (xs++zs)))
theorem SY:cQ X (binaryOp .Add) Kf:=by
 intro ag s σ H x y v u Q I rx ry h
 obtain⟨l,b,xs,zs,rfl,rfl,hH,hB,hz,q⟩:=h
 cases rx;cases ry
 obtain⟨_,bh,n,r,e⟩:=(show cB X.prog X.w H s.heap l (.lst xs) from zG I.cf hH)
 obtain⟨_,aq,n2,r2,e2⟩:=(show cB X.prog X.w H s.heap b (.lst zs) from I.cf b _ hB)
 have l1:=aQ.length r;have l2:=aQ.length r2;refine PySem.P.add_list e e2 ?_ (by rw[gg,gg];omega);have ea:bh.toArray++aq.toArray=(bh++aq).toArray:=by simp
 rw[ea]
 exact⟨.ref _,_,I.CD (t':=s.toks) (r.append r2) (by rw[jg];omega),rfl,q _ I.fresh⟩
end
end L2
namespace PP
open PySem L2
section
variable {X:Cx}{e:Expr}{te:aG}{σ:St}{H:Hp}{Q':VK}
def xK (te:aG):aG:=λρ Q=>te ρ λx g=>∃xs,x = .lst xs/\g = .fr/\flats xs=true/\Q (.fL xs) .fr
theorem SX (h:LE X (xK te) σ H Q'):Kh (LE X te) σ H Q':=by
 obtain⟨W,ρ,Q,px,q,k⟩:=h
 refine⟨W,ρ,_,px,q,?_⟩;rintro v H1 x g s r ⟨xs,rfl,rfl,f,q⟩;cases r with
 |@lst a us _ m e r=>
  refine⟨a,us,rfl,e,λo=>k _ _ _ .fr (λb u hb=>?_) (.fL bA ((r.flat (M':=λ_=>False) f).keep (.upd e rfl λb z=>z.elim))) q⟩;have nb:b≠a:=λz=>by have m:H a=none:=m;rw[z,m]at hb;cases hb
  rw[aK nb];exact s b u hb
theorem Ke (h:QE X e te):QE X e (xK te):=cG (Tc h) λ_ _ _=>SX
def M6 (tk tv:aG):aG:=λρ Q=>tk ρ λx _=>tv ρ λy _=>∃ks,x = .tup (List.map kP ks)/\flat y=true/\Q (.dT [(ks,y)]) .fr
theorem SW {tk tv:aG}(h:LE X (M6 tk tv) σ H Q'):Kg (LE X tk) (LE X tv) σ H Q':=by
 obtain⟨W,ρ,Q,px,q,k⟩:=h
 intro p hp;refine⟨W,ρ,_,px.mono (bL hp _),q,?_⟩;intro v H1 x g s r q1;refine⟨W,ρ,_,(px.mono (bL hp _)).mono s,q1,?_⟩;rintro v2 H2 y g2 s2 r2 ⟨ks,rfl,f,q2⟩
 obtain⟨b,us,rfl,hb,rb⟩:=r.qj
 obtain rfl:=uZ rb;have FD:H2 p=some (.dT []):=s2 p _ (s p _ bA);refine⟨_,_,rfl,FD,b,ks,rfl,s2 _ _ hb,?_⟩;have sm:aE H (upd H2 p (.dT [(ks,v2)])):=λc o e=>by
  have nb:c≠p:=λz=>by rw[z,hp]at e;cases e
  rw[aK nb];exact s2 c o (s c o (by rw[aK nb];exact e))
 exact k _ _ _ .fr sm (.dT hp bA rfl (.cons ((r2.flat (M':=λ_=>False) f).keep (.upd FD rfl λb z=>z.elim)) .nil)) q2
theorem SV {pos:Pos}{a b:Expr}{tk tv:aG}(hu:X.A.units+1<cLine)(ha:QE X a tk)(hb:QE X b tv):QE X (.Dict [some a] [b] pos) (M6 tk tv):=cG (Ta hu ha hb) λ_ _ _=>SW
end
section
variable {X:Cx}{a b:Expr}{ta tb:aG}{pos:Pos}
def Kd:PV->Tg->PV->Tg->PK->Prop:=λx _ y _ Q=>∃xs ys,x = .fL xs/\y = .lst ys/\flats xs=true/\flats ys=true/\xs.length+ys.length<=16000000/\Q (.lst (xs++ys)) .fr
abbrev Kc (ta tb:aG):aG:=q2 Kd ta tb
theorem SS:fN X Kd Kf:=by
 rintro W Hs H u v x y g g' Q Q' s n r1 r2 ⟨xs,ys,rfl,rfl,f1,f2,hl,q⟩ k
 obtain⟨b,ws,rfl,_,h2,q2⟩:=r2.oo
 cases r1 with
 |@fL a o us _ h1 q1=>
  have l1:=q1.length;have l2:=q2.length;refine⟨a,b,us,ws,rfl,rfl,.inr ⟨_,h1⟩,h2,lim (by omega),λp hp=>k _ _ _ .fr (bL hp _) (.lst (s.free hp) bA (((q1.flat f1).append (q2.flat f2)).same (bL hp _) λ_ z=>z)) q⟩
theorem SR (ha:QE X a ta)(hb:QE X b tb):QE X (.BinOp a .Add b pos) (Kc ta tb):=kS SY SS ha hb
end
section
def SQ:PV->Option Nat
 |.fL xs=>some xs.length
 |_=>none
def nK (ps:List (List aC×PV))(k:List aC)(n:Nat):Bool:=match bX ps k with
 |none=>true
 |some z=>decide (((SQ z).getD 0)<n)
def iE (ps:List (List aC×PV))(k:List aC)(xs:List PV):List (List aC×PV):=if nK ps k xs.length=true then dF ps k (.fL xs) else ps
def xM (ps:List (List aC×PV)):Prop:=∀p∈ps,∃ys,p.2 = .fL ys/\flats ys=true
theorem Kb {ps:List (List aC×PV)}(h:xM ps):flats (ps.map (·.2))=true:=by
 induction ps with
 |nil=>rfl
 |cons p r ih=>
  obtain⟨ys,e,f⟩:=h p dh
  show (flat p.2&&flats (r.map (·.2)))=true;rw[ih λq hq=>h q (fu _ hq),e,Ak];unfold flat;exact f
theorem Ka {κ:Type}[DecidableEq κ]{ps:List (κ×PV)}{k:κ}{z:PV}(h:bX ps k=some z):(k,z)∈ps:=by
 unfold bX at h
 obtain⟨p,hp,e⟩:=Option.map_eq_some_iff.mp h
 have h1:=List.mem_of_find?_eq_some hp;have h2:=List.find?_some hp
 have:p.1=k:=mw h2
 subst e this;exact h1
theorem M7 {K:ad}{M:ax->Prop}{H:Hp}:∀(ks:List aC),bb K M H (ks.map kV) (ks.map kP)
 |[]=>.nil
 |.inl i::r=>.cons (.int i) (M7 r)
 |.inr x::r=>.cons (.str x) (M7 r)
def JZ (K:ad):Sp:=λvs H Q _=>∃d b y ks bf ps xs,vs = [.ref d,.ref b,y]/\H d=some (.dT bf)/\H b=some (.tup (List.map kV ks))/\bf.map (·.1)=ps.map (·.1)/\bb K (λ_=>True) H (bf.map (·.2)) (ps.map (·.2))/\
 xM ps/\aH K (λ_=>True) H y (.fL xs)/\flats xs=true/\ps.length<16000000/\∀H',aE H H'->Q .bw (if nK ps ks xs.length=true then upd H' d (.dT (fJ bf ks y)) else H')
def PU:dA:=rW (bH (kB true (a5 1) (a5 0))) (bH (q2 (gK λi j=>.bl (decide (j<i))) (aB cC (a6 (a5 2) a9)) (aB cC (a6 (pU (a5 0) (a5 1)) a9))))
structure r6 (P:ay)(w:ba)(K:ad)(mg:Str->Option av)(base:Heap)(k:Nat)(x:Str)(ps:List Str):Prop where
 ex:∃f fd,dW P w K mg base eJ k f fd ps (JZ K)/\jZ K fd ps []/\PySem.W.keepIn K (.ref f)=true/\mg x=some (.ref f)
theorem r6.of {P:ay}{w:ba}{K:ad}{mg:Str->Option av}{base:Heap}{k:Nat}{x:Str}{p1 p2 p3:Str}{st:Stmt}{f:ax}{fd:FuncData}(F:gI K x x st f fd)(m:mg x=some (.ref f))(S:bg [p1,p2,p3] [p1,p2,p3] (aZ st))(hb:∀(kV doc pm:av) (an:Option ax) (cy ct:av) (us:List av),us.length = [p1,p2,p3].length->bindArgs (PySem.W.fnOf x x (kR st) (gC st) (aZ st) .none kV doc pm an cy ct) ⟨us,[]⟩=pure ([p1,p2,p3].zip us))(body:∀(cy:av) (A:az) (outer:List Env) (s:aw) (H:Hp) (E:XK),cW k (A.deeper (PyProof.Rows.envOfC x (aZ st) s.heap.objs.size f cy))->
   fI (eI eJ P w K mg base [p1,p2,p3] x (aZ st) f cy A outer s H E).Bo (gC st) (yD (LT (eI eJ P w K mg base [p1,p2,p3] x (aZ st) f cy A outer s H E).Bo PU) (zI (gA 0) (gA 1) (gA 2)) yA)):r6 P w K mg base (k+1) x [p1,p2,p3]:=by
 refine⟨f,fd,F.ok S (λvs H Q E h=>?_) (λcy A outer s H vs Q E hr h=>⟨_,body cy A outer s H E hr,?_⟩),F.binds hb,F.kp,m⟩
 ·obtain⟨d,b,y,ks,bf,ps,xs,rfl,_⟩:=h
  rfl
 ·obtain⟨d,b,y,ks,bf,ps,xs,rfl,ed,eb,e1,r,al,ry,fx,hl,q⟩:=h
  have px:=vN (N:=[p1,p2,p3]) (K:=K) (H:=H) (vs:=[.ref d,.ref b,y]) (xs:=[.dT ps,.tup (ks.map kP),.fL xs]) (.cons (.dT trivial ed e1 r) (.cons (.tup eb (M7 ks)) (.cons ry .nil)));refine⟨_,_,λc=>c=nK ps ks xs.length,px,?_,λc H1 s1 ec=>?_⟩
  ·refine⟨_,rfl,_,rfl,bX ps ks,.inr ⟨ps,ks,rfl,rfl,rfl⟩,_,rfl,?_⟩
   unfold nK;cases ev:bX ps ks with
   |none=>exact rfl
   |some z=>
    obtain⟨ys,ez,_⟩:=al _ (Ka ev)
    have ez:z = .fL ys:=ez;subst ez;refine⟨_,rfl,_,_,rfl,rfl,_,rfl,_,rfl,_,.inr ⟨ps,ks,rfl,rfl,ev.symm⟩,_,_,rfl,rfl,_,_,rfl,rfl,_,rfl,?_⟩;show decide ((ys.length:Int)<xs.length)=decide (ys.length<xs.length);exact decide_eq_decide.mpr Int.ofNat_lt
  ·subst ec
   have q1:=q H1 s1;cases e:nK ps ks xs.length with
   |false=>rw[if_neg (by simp)];rw[e,if_neg (by simp)]at q1;exact q1
   |true=>
    rw[if_pos rfl];rw[e,if_pos rfl]at q1
    exact⟨y,rfl,.ref d,rfl,.ref b,rfl,d,_,rfl,mK.t (s1 _ _ ed) (s1 _ _ eb) (iS (by rw[v4 e1];omega)),q1⟩
end
section
variable {X:Cx}{σ:St}{H:Hp}{D:dS}{t1 t2:aG}
def xN (i:Nat)(t1 t2:aG):aO:=λD ρ=>∃ps,ρ[i]? = some (some (.own (.dT ps)))/\t1 ρ λy _=>t2 ρ λz _=>∃k xs,y = .tup (List.map kP k)/\z = .fL xs/\flats xs=true/\xM ps/\ps.length<16000000/\D.nx (ρ.set i (some (.own (.dT (iE ps k xs)))))
theorem SN {i:Nat}(h:LS X (xN i t1 t2) D σ H):rB (tY (JZ X.K) [] E0 (iG (gA i) (iG (LE X t1) (iG (LE X t2) kQ)))) D σ H:=by
 obtain⟨W,ρ,D',px,⟨ps,hi,q⟩,k⟩:=h
 obtain⟨v,ev,a,rfl,wa,bf,ea,e1,r⟩:=px.sl i _ hi
 refine⟨_,ev,W,ρ,_,px,q,?_⟩;intro v1 H1 y g s1 r1 q1;refine⟨W,ρ,_,px.mono s1,q1,?_⟩;rintro v2 H2 z g2 s2 r2 ⟨kk,xs,rfl,rfl,fx,al,hl,q2⟩
 obtain⟨b,us,rfl,hb,rb⟩:=r1.qj
 obtain rfl:=uZ rb;have Fq:=s1.trans s2;have AL:=Fq _ _ ea;have yo:=px.mono Fq;have r':=r.same (M':=λ_=>True) Fq λ_ _=>trivial
 refine⟨a,b,v2,kk,bf,ps,xs,rfl,AL,s2 _ _ hb,e1,r',al,r2.same (aE.refl _) λ_ _=>trivial,fx,hl,λH3 s3=>?_⟩;have Eh:=Fq.trans s3;have RH:=s3 _ _ AL;cases e:nK ps kk xs.length with
 |false=>
  rw[if_neg (by simp)]
  have:iE ps kk xs=ps:=by unfold iE;rw[e,if_neg (by simp)]
  rw[this]at q2;have hs:ρ.set i (some (.own (.dT ps)))=ρ:=by
   obtain⟨hl,he⟩:=gv.mp hi
   rw[<- he,List.set_getElem_self]
  rw[hs]at q2;exact k.nx W σ H3 ρ (Ev.same Eh) (px.mono Eh) q2
 |true=>
  rw[if_pos rfl]
  have:iE ps kk xs=dF ps kk (.fL xs):=by unfold iE;rw[e,if_pos rfl]
  rw[this]at q2;refine k.nx W σ _ _ ((Ev.same Eh).trans (Ev.upd wa)) ((px.mono Eh).FP hi ev wa ?_) q2
  obtain⟨h1,h2⟩:=Ou kk (((r2.flat (M':=Ms X.bu W true) (by unfold flat;exact fx))).same s3 λ_ z=>z) e1 (r.same Eh λ_ z=>z)
  exact⟨h1,h2.keep (.upd RH rfl λb m=>⟨mQ wa m,m⟩)⟩
theorem JY {k j:Nat}{x y:Str}{ps:List Str}{a b:Expr}{p2 p3 pos qy:Pos}(d:r6 X.prog X.w X.K X.mg X.base k x ps)(hr:cW j X.A)(i:Nat)(ha:QE X a t1)(hb:QE X b t2)(CM:k<=j:=by decide)(hN:X.N[i]? = some y:=by rfl)(hv:iR X.env.scope y:=by first|exact Or.inl rfl|exact Or.inr (Or.inl rfl)|exact Or.inr (Or.inr rfl))(hd:(y==("__debug__":Str))=false:=by decide)(ko:(y==("__classdict__":Str))=false:=by decide)(hg:Gl X x:=by rfl)(vp:(x==("__debug__":Str))=false:=by decide)(he:starEach [.Name y p3,a,b] X.env=(false,eval (.Name y p3) X.env)::starEach [a,b] X.env:=by rfl)(Hn:starEach [a,b] X.env=(false,eval a X.env)::starEach [b] X.env:=by rfl)(Rq:starEach [b] X.env=(false,eval b X.env)::starEach [] X.env:=by rfl)(hpl:(backTo pos (starEach [a,b] X.env)).any (·.1)=false:=by rfl)(hs:swapsWith (.Call (.Name x p2) [.Name y p3,a,b] [] pos) none qy.line X.env=pure false:=by rfl):QS X (.Expr (.Call (.Name x p2) [.Name y p3,a,b] [] pos) qy) (xN i t1 t2):=by
 obtain⟨f,fd,F,b,kp,m⟩:=d.ex
 exact fC (mF (tZ F (hr.mono CM) hg m kp b .nil X8 (dH (kN hN hv hd ko) (dH ha (dH hb eG Rq) Hn) he) vp he hpl) hs) λ_ _ _=>SN
end
end PP
namespace Core
open PySem L2 PP
def kI (F:af):List aC:=F.map Sum.inl
theorem tM (F:af):(kI F).map kP=ao F:=by
 unfold kI ao;rw[kq];rfl
theorem tN:∀{F G:af},kI F=kI G->F=G
 |[],[],_=>rfl
 |[],_::_,h=>by cases h
 |_::_,[],h=>by cases h
 |a::F,b::G,h=>by
  unfold kI at h;rw[ib,ib]at h;injection h with h1 h2
  injection h1 with h1
  rw[h1,tN (F:=F) (G:=G) h2]
structure GE (n:Nat)(L:ae)(h:Int)(F:af)(Bs:ae):Prop where
 sub:F.Sublist (bj n)
 ge:∀x∈F,h<=x
 mem:∀B∈Bs,B∈L
 vw:Bs.Pairwise λa b=>∀x∈a,x∉b
 off:∀B∈Bs,∀x∈B,x∉F
 len:(Bs.length:Int)<=h
def GD (n:Nat)(L:ae)(h:Int)(ps:List (List aC×PV)):Prop:=(∀p∈ps,∃F Bs,p=(kI F,.fL (bp Bs))/\GE n L h F Bs)/\(ps.map (·.1)).Nodup
theorem GD.all {n:Nat}{L:ae}{h:Int}{ps:List (List aC×PV)}(g:GD n L h ps):xM ps:=λp hp=>by
 obtain⟨F,Bs,rfl,_⟩:=g.1 p hp
 exact⟨_,rfl,jR Bs⟩
theorem xO {α:Type}[DecidableEq α]:∀{xs ys:List α},xs.Nodup->(∀x∈xs,x∈ys)->xs.length<=ys.length
 |[],_,_,_=>ng _
 |x::xs,ys,nd,h=>by
  have hx:=h x dh;have IE:=oy.mp nd
  have:=xO (ys:=ys.erase x) IE.2 λy hy=>(DV (λe=>IE.1 (by rw[<- e];exact hy))).mpr (h y (fu _ hy))
  rw[Ck hx]at this
  have:0<ys.length:=DY hx
  rw[ie];omega
theorem GD.eu {n:Nat}{L:ae}{h:Int}{ps:List (List aC×PV)}(g:GD n L h ps)(hn:n<=12):ps.length<16000000:=by
 have h1:=xO (ys:=(bN (bj n)).map kI) g.2 λk hk=>by
  obtain⟨p,hp,rfl⟩:=dr.mp hk
  obtain⟨F,Bs,rfl,e⟩:=g.1 p hp
  exact dr.mpr ⟨F,(i8 n F).mpr e.sub,rfl⟩
 rw[df,df,oP]at h1
 have:2^n<=2^12:=DX (by decide) hn
 omega
theorem JX (ps:List (List aC×PV))(k:List aC)(z:PV):(k∈ps.map (·.1)/\(dF ps k z).map (·.1)=ps.map (·.1))∨(k∉ps.map (·.1)/\(dF ps k z).map (·.1)=ps.map (·.1)++[k]):=by
 have ea:(ps.any λp=>decide (p.1=k))=true↔k∈ps.map (·.1):=by
  rw[Dk,dr]
  exact⟨λ⟨p,hp,e⟩=>⟨p,hp,mw e⟩,λ⟨p,hp,e⟩=>⟨p,hp,di e⟩⟩
 unfold dF;by_cases h:k∈ps.map (·.1)
 ·refine .inl ⟨h,?_⟩
  rw[if_pos (ea.mpr h),kq];apply zf;intro p hp;show (if p.1=k then (p.1,z) else p).1=p.1;split<;>rfl
 ·refine .inr ⟨h,?_⟩
  rw[if_neg (λc=>h (ea.mp c)),gu];rfl
theorem SM {ps:List (List aC×PV)}{k:List aC}{z:PV}{p:List aC×PV}(h:p∈dF ps k z):p∈ps∨p=(k,z):=by
 unfold dF at h;split at h
 ·obtain⟨q,hq,e⟩:=dr.mp h
  by_cases c:q.1=k
  ·rw[if_pos c]at e;exact .inr (by rw[<- e,c])
  ·rw[if_neg c]at e;exact .inl (by rw[<- e];exact hq)
 ·rcases fi.mp h with h|h
  ·exact .inl h
  ·exact .inr (dt.mp h)
theorem GD.keep {n:Nat}{L:ae}{h:Int}{ps:List (List aC×PV)}{F:af}{Bs:ae}(g:GD n L h ps)(e:GE n L h F Bs):GD n L h (iE ps (kI F) (bp Bs))/\iE ps (kI F) (bp Bs)≠[]:=by
 unfold iE;split
 ·refine⟨⟨λp hp=>?_,?_⟩,λz=>?_⟩
  ·rcases SM hp with hp|rfl
   ·exact g.1 p hp
   ·exact⟨F,Bs,rfl,e⟩
  ·rcases JX ps (kI F) (.fL (bp Bs)) with⟨hk,e⟩|⟨hk,e⟩
   ·rw[e];exact g.2
   ·rw[e]
    exact xj.mpr ⟨g.2,ot _ _,λa ha b hb c=>hk (by rw[dt.mp hb]at c;rw[<- c];exact ha)⟩
  ·have this:=congrArg (List.map (·.1)) z
   rcases JX ps (kI F) (.fL (bp Bs)) with⟨hk,e⟩|⟨hk,e⟩
   ·rw[e]at this
    have this:ps.map (·.1) = []:=this;rw[this]at hk;cases hk
   ·rw[e]at this;simp at this
 ·rename_i hk
  refine⟨g,λz=>hk ?_⟩;rw[z];rfl
theorem xP {ps:List (List aC×PV)}(nd:(ps.map (·.1)).Nodup){k:List aC}{z:PV}(h:(k,z)∈ps):bX ps k=some z:=by
 unfold bX
 induction ps with
 |nil=>cases h
 |cons p r ih=>
  rw[ib,oy]at nd;rw[AN];rcases ff.mp h with h|h
  ·rw[<- h,di rfl];rfl
  ·have:p.1≠k:=λc=>nd.1 (by rw[c];exact dr.mpr ⟨_,h,rfl⟩)
   rw[fk this];exact ih nd.2 h
theorem GE.alone {n:Nat}{L:ae}{h:Int}{F:af}{Bs:ae}(e:GE n L h F Bs):GE n L (h+1) (F.filter λz=>!decide (z∈[h])) Bs:=by
 refine⟨Bf.trans e.sub,λx hx=>?_,e.mem,e.vw,λB hB x hx c=>e.off B hB x hx (cz.mp c).1,by have:=e.len;omega⟩
 obtain⟨h1,h2⟩:=cz.mp hx
 have h3:=e.ge x h1;have h4:x≠h:=λc=>by rw[c]at h2;simp at h2
 omega
theorem GE.Eb {n:Nat}{L:ae}{h:Int}{F:af}{Bs:ae}{B:af}(e:GE n L h F Bs)(hB:B∈L)(hh:h∈B)(hF:∀x∈B,x∈F):GE n L (h+1) (F.filter λz=>!decide (z∈B)) (Bs++[B]):=by
 refine⟨Bf.trans e.sub,λx hx=>?_,λC hC=>?_,?_,λC hC x hx c=>?_,by rw[jg,uy];have:=e.len;omega⟩
 ·obtain⟨h1,h2⟩:=cz.mp hx
  have h3:=e.ge x h1;have h4:x≠h:=λc=>by
   rw[c]at h2
   have:decide (h∈B)=true:=di hh
   rw[this]at h2;cases h2
  omega
 ·rcases fi.mp hC with hC|hC
  ·exact e.mem C hC
  ·rw[dt.mp hC];exact hB
 ·refine List.pairwise_append.mpr ⟨e.vw,ot _ _,λC hC D hD x hx c=>?_⟩
  rw[dt.mp hD]at c;exact e.off C hC x hx (hF x c)
 ·obtain⟨h1,h2⟩:=cz.mp c
  rcases fi.mp hC with hC|hC
  ·exact e.off C hC x hx h1
  ·rw[dt.mp hC]at hx
   have:decide (x∈B)=true:=di hx
   rw[this]at h2;cases h2
theorem SK {ns S:af}(h:fG ns S=0):∀x∈ns,x∈S:=λx hx=>by
 unfold fG at h;have h1:(ns.filter λx=>decide (x∈S)).length=ns.length:=by omega
 have h2:=List.length_filter_eq_length_iff.mp h1 x hx;exact mw h2
theorem JW {n:Nat}{F:af}(h:F.Sublist (bj n)):F.length<=n:=by
 have:=h.length_le
 unfold bj at this;rw[df,Dm]at this;exact this
def SJ:aO:=(aI (e6 3 (qC (.dT [])))
 (aI (xJ 0 (bW 4)
  (aI (b8 5 (aB kU (a6 (a5 4) a9)))
  (aI (xN 3 (aB m6 (a6 (a5 4) (a6 (fA (a6 (a5 1) a9)) a9))) (pU (a5 0) (a5 4)))
  (fB (cD (a5 2)) (bW 6)
   (dO (bH (jO (aB qF (a6 (a5 6) (a6 (a5 5) a9))) (qC (.int 0)))) (xN 3 (aB m6 (a6 (a5 4) (a6 (a5 6) a9))) (xK (Kc (pU (a5 0) (a5 4)) (fA (a6 (a5 6) a9))))) dZ)))))
 (lU 3)))
def nL (A:af):af:=A.filter λz=>!decide (z=0)
def xQ:ae:=(bN (bj 7)).filter λA=>!decide (0∈A)
theorem SI:xQ.length=64:=by decide +kernel
theorem mE {A:af}{x:Int}:x∈nL A↔x∈A/\x≠0:=by
 unfold nL;rw[cz,yz,zg]
theorem SH {n m:Nat}(h:n<=m):(bj n).Sublist (bj m):=by
 unfold bj;refine List.Sublist.map _ ?_;exact List.range_sublist.mpr h
theorem SG {A:af}(h:A.Sublist (bj 7)):nL A∈xQ:=by
 refine cz.mpr ⟨(i8 7 _).mpr (Bf.trans h),?_⟩;rw[yz,zg];exact λc=>(mE.mp c).2 rfl
theorem SF {C:ae}(nd:C.Nodup)(sub:∀A∈C,A.Sublist (bj 7))(Ah:∀A∈C,∀B∈C,(∀x∈A,x∈B)->A=B):C.length<64:=by
 have nm:(C.map nL).Nodup:=by
  refine List.Pairwise.map nL (R:=λa b=>a∈C/\b∈C/\a≠b) (λa b ⟨ha,hb,tu⟩ e=>tu ?_) ?_
  ·by_cases c:(0:Int)∈b
   ·refine Ah a ha b hb λx hx=>?_
    by_cases x0:x=0
    ·rw[x0];exact c
    ·exact (mE.mp (e▸mE.mpr ⟨hx,x0⟩)).1
   ·refine (Ah b hb a ha λx hx=>?_).symm
    have x0:x≠0:=λz=>c (z▸hx)
    exact (mE.mp (e.symm▸mE.mpr ⟨hx,x0⟩)).1
  ·refine List.Pairwise.imp_of_mem (λ{a b} ha hb h=>⟨ha,hb,h⟩) nd
 have key:∀e∈xQ,e∉C.map nL->C.length<64:=λe he hn=>by
  have h1:=xO (ys:=xQ.erase e) nm λx hx=>by
   obtain⟨A,hA,rfl⟩:=dr.mp hx
   exact (DV λz=>hn (by rw[<- z];exact hx)).mpr (SG (sub A hA))
  rw[df,Ck he,SI]at h1;omega
 by_cases c0:([]:af)∈C.map nL
 ·by_cases c1:([1]:af)∈C.map nL
  ·refine key [1,2] (by decide +kernel) λc2=>?_
   obtain⟨P0,h0,e0⟩:=dr.mp c0
   obtain⟨P1,h1,e1⟩:=dr.mp c1
   obtain⟨P2,h2,e2⟩:=dr.mp c2
   have i1:(1:Int)∈P1:=(mE.mp (e1▸dt.mpr rfl)).1;have z0:∀x∈P0,x=0:=λx hx=>Decidable.byContradiction λx0=>by
    have:=mE.mpr ⟨hx,x0⟩
    rw[e0]at this;cases this
   have n1:(0:Int)∉P1:=λc=>by
    have:=Ah P0 h0 P1 h1 λx hx=>by rw[z0 x hx];exact c
    rw[<- this]at i1;exact absurd (z0 1 i1) (by decide)
   have q1:∀x∈P1,x=1:=λx hx=>by
    have x0:x≠0:=λz=>n1 (z▸hx)
    have:=mE.mpr ⟨hx,x0⟩
    rw[e1]at this;exact dt.mp this
   have i2:(1:Int)∈P2:=(mE.mp (e2▸dh)).1;have RK:=Ah P1 h1 P2 h2 λx hx=>by rw[q1 x hx];exact i2
   rw[RK,e2]at e1;cases e1
  ·exact key [1] (by decide +kernel) c1
 ·exact key [] (by decide +kernel) c0
theorem SE {ws:af}{ls:aa}(eu:ws.length<=7):(dP ws ls).length<64:=by
 have sb:∀A∈dP ws ls,A.Sublist (bj ws.length):=λA hA=>(i8 _ A).mp (cz.mp hA).1
 refine SF ((G8 ws.length).filter _) (λA hA=>(sb A hA).trans (SH eu)) λA hA B hB h=>?_
 have lA:=jB.mp (cz.mp hA).2;have lB:=jB.mp (cz.mp hB).2;exact oK (jT.mp (sb A hA)) (jT.mp (sb B hB)) λx=>⟨h x,lB.2.2 A lA.2.1 lA.1 h x⟩
section
variable {ws:af}{ls:aa}{Bs:ae}{S:af}
theorem JV (hB:∀B∈Bs,B∈dP ws ls)(hS:aY ws.length S=true)(f:dE ws ls S=true):∀B∈Bs,∃y∈B,y∈S:=λB hb=>by
 have h:=hB B hb;have sb:=(i8 _ B).mp (cz.mp h).1;have lb:=jB.mp (cz.mp h).2;cases B with
 |nil=>exact absurd rfl lb.1
 |cons x r=>exact KU lb.2.1 dh (sb.subset dh) f λs hs=>bO.mpr ((dD hS).2 s hs)
theorem JU:∀{Bs:ae},Bs.Pairwise (λa b=>∀x∈a,x∉b)->(∀B∈Bs,∃y∈B,y∈S)->∃L:af,L.Nodup/\L.length=Bs.length/\∀x∈L,x∈S/\∃B∈Bs,x∈B
 |[],_,_=>⟨[],wq,rfl,λ_ z=>by cases z⟩
 |q::qs,p,m=>by
  obtain⟨p1,p2⟩:=wt.mp p
  obtain⟨L,l1,l2,l3⟩:=JU p2 λr hr=>m r (fu _ hr)
  obtain⟨y,hy,hs⟩:=m q dh
  refine⟨y::L,oy.mpr ⟨λz=>?_,l1⟩,by rw[ie,ie,l2],λx hx=>?_⟩
  ·obtain⟨_,r,hr,hx⟩:=l3 y z
   exact p1 r hr y hy hx
  ·rcases ff.mp hx with z|z
   ·rw[z];exact⟨hs,q,dh,hy⟩
   ·obtain⟨a,r,hr,hx⟩:=l3 x z
    exact⟨a,r,fu _ hr,hx⟩
theorem SD (hB:∀B∈Bs,B∈dP ws ls)(vw:Bs.Pairwise λa b=>∀x∈a,x∉b)(hS:aY ws.length S=true)(f:dE ws ls S=true):Bs.length<=S.length:=by
 obtain⟨L,l1,l2,l3⟩:=JU vw (JV hB hS f)
 rw[<- l2];exact dJ l1 λx hx=>(l3 x hx).1
end
def Le (lp:List (List aC×PV))(F:af)(m:Nat):Prop:=∃Bs,(kI F,PV.fL (bp Bs))∈lp/\m<=Bs.length
theorem JT (ps:List (List aC×PV))(k:List aC)(z:PV):(k,z)∈dF ps k z:=by
 unfold dF;split
 ·rename_i h
  obtain⟨p,hp,e⟩:=Dk.mp h
  have e:p.1=k:=mw e;exact dr.mpr ⟨p,hp,by rw[if_pos e,e]⟩
 ·exact qt _ dh
theorem SA {ps:List (List aC×PV)}{k:List aC}{z:PV}{p:List aC×PV}(h:p∈ps)(n:p.1≠k):p∈dF ps k z:=by
 unfold dF;split
 ·exact dr.mpr ⟨p,h,by rw[if_neg n]⟩
 ·exact pb _ h
theorem Le.new {n:Nat}{L:ae}{h:Int}{ps:List (List aC×PV)}(g:GD n L h ps)(F:af)(Bs:ae):Le (iE ps (kI F) (bp Bs)) F Bs.length:=by
 unfold iE;split
 ·exact⟨Bs,JT _ _ _,de _⟩
 ·rename_i c
  unfold nK at c;cases e:bX ps (kI F) with
  |none=>rw[e]at c;exact absurd rfl c
  |some z=>
   rw[e]at c;have hm:=Ka e
   obtain⟨F',yi,eq,_⟩:=g.1 _ hm
   injection eq with e1 e2
   subst e2;rw[<- tN e1]at *;refine⟨yi,hm,?_⟩;have c:¬decide ((bp yi).length<(bp Bs).length)=true:=c;rw[lx,cM,cM]at c;omega
theorem Le.keep {n:Nat}{L:ae}{h:Int}{ps:List (List aC×PV)}(g:GD n L h ps){G:af}{m:Nat}(l:Le ps G m)(F:af)(Bs:ae):Le (iE ps (kI F) (bp Bs)) G m:=by
 obtain⟨Cs,hm,lm⟩:=l
 by_cases e:G=F
 ·subst e
  obtain⟨Ds,hd,ld⟩:=Le.new g G Bs
  unfold iE at hd ⊢;split
  ·rename_i c
   refine⟨Bs,JT _ _ _,?_⟩;unfold nK at c;rw[xP g.2 hm]at c;have c:decide ((bp Cs).length<(bp Bs).length)=true:=c;rw[lx,cM,cM]at c;omega
  ·exact⟨Cs,hm,lm⟩
 ·unfold iE
  split
  ·exact⟨Cs,SA hm λz=>e (tN z),lm⟩
  ·exact⟨Cs,hm,lm⟩
def oX (h:Int)(Z:ae)(F:af)(m:Nat)(lp:List (List aC×PV)):Prop:=Le lp (F.filter λz=>!decide (z∈[h])) m/\∀B∈Z,(∀x∈B,x∈F)->Le lp (F.filter λz=>!decide (z∈B)) (m+1)
theorem oX.keep {n:Nat}{L:ae}{h0:Int}{ps:List (List aC×PV)}(g:GD n L h0 ps){h:Int}{Z:ae}{F:af}{m:Nat}(l:oX h Z F m ps)(G:af)(Bs:ae):oX h Z F m (iE ps (kI G) (bp Bs)):=
 ⟨l.1.keep g G Bs,λB hB hF=>(l.2 B hB hF).keep g G Bs⟩
theorem Sz {ns S:af}(h:∀x∈ns,x∈S):fG ns S=0:=by
 unfold fG;rw[xk.mpr λx hx=>di (h x hx)];omega
def xR:bV:=λxs Q=>∃(n:Nat) (L:ae) (ps:List (List aC×PV)) (h:Int) (Z:ae),xs = [.dT ps,.int h,.lst (bp Z)]/\n<=12/\0<=h/\h<=12/\GD n L h ps/\ps≠[]/\(∀B∈Z,B∈L/\B.Sublist (bj n)/\h∈B)/\∀Bk,GD n L (h+1) Bk->Bk≠[]->(∀F Bs,(kI F,PV.fL (bp Bs))∈ps->oX h Z F Bs.length Bk)->Q (.dT Bk)
abbrev JS:aO:=SJ
theorem Sy:dC JS ["most","hearth","blocks","later","free","inside","block"] xR:=by
 rintro xs Q ⟨n,L,ps,h,Z,rfl,hn,h0,h12,gd,tu,hZ,q⟩;refine⟨rfl,rfl,?_⟩;refine⟨.dT ps,_,rfl,rfl,gc (Kb gd.all),λj m hj hm=>?_,λk ρ=>∃lp y4 y5 y6,ρ = [some (.sh false (.fT ps)),si h,some (.sh false (.lst (bp Z))),some (.own (.dT lp)),y4,y5,y6]/\GD n L (h+1) lp/\(0<k->lp≠[])/\∀j F Bs,j<k->ps[j]? = some (kI F,PV.fL (bp Bs))->oX h Z F Bs.length lp,⟨[],none,none,none,rfl,⟨λp hp=>(by cases hp),List.nodup_nil⟩,(λz=>by omega),λj F Bs z=>by omega⟩,?_,?_⟩
 ·match j,hj,hm with
  |1,_,hm=>cases hm;rfl
  |2,_,hm=>cases hm;exact gc (jR Z)
  |3,_,hm=>cases hm;rfl
  |4,_,hm=>cases hm
  |5,_,hm=>cases hm
  |6,_,hm=>cases hm
 ·rintro k y ρ hy ⟨lp,y4,y5,y6,rfl,gl,gk,got⟩
  rw[gf]at hy;cases hp:ps[k]? with
  |none=>rw[hp]at hy;cases hy
  |some pp=>
  rw[hp]at hy;have hm:=fm hp
  obtain⟨F,Bs,rfl,ge⟩:=gd.1 pp hm
  obtain rfl:PV.tup (ao F)=y:=by rw[<- tM];exact jr hy
  have fF:flat (.tup (ao F))=true:=by unfold flat;exact cS F
  have lF:=JW ge.sub;have vF:v0 (.fT ps) (.tup (ao F)) (some (.fL (bp Bs))):=.inr ⟨ps,kI F,rfl,by rw[tM],(xP gd.2 hm).symm⟩;refine wW fF ?_;refine⟨_,rfl,_,F,rfl,.inl rfl,by omega,λds DL=>⟨trivial,?_⟩⟩;refine⟨lp,rfl,_,rfl,_,rfl,(by show 1<=1000;decide),rfl,_,F,_,[h],rfl,.inl rfl,.inr rfl,by omega,(by show 1<=1000;decide),_,rfl,_,rfl,_,vF,kI (F.filter λz=>!decide (z∈[h])),_,by rw[tM],rfl,jR Bs,gl.all,gl.eu hn,?_⟩
  obtain⟨RF,mP⟩:=gl.keep ge.alone
  refine⟨_,rfl,bp Z,rfl,(λz=>by cases z),λj ρ=>∃lp y6,ρ = [some (.sh false (.fT ps)),si h,some (.sh false (.lst (bp Z))),some (.own (.dT lp)),some (.sh true (.tup (ao F))),some (.sh true (.dK ds)),y6]/\GD n L (h+1) lp/\lp≠[]/\(∀j F Bs,j<k->ps[j]? = some (kI F,PV.fL (bp Bs))->oX h Z F Bs.length lp)/\Le lp (F.filter λz=>!decide (z∈[h])) Bs.length/\∀i B,i<j->Z[i]? = some B->(∀x∈B,x∈F)->Le lp (F.filter λz=>!decide (z∈B)) (Bs.length+1),⟨_,y6,rfl,RF,mP,λj F' yi hj e=>(got j F' yi hj e).keep gl _ _,Le.new gl _ _,λi B z=>by omega⟩,?_,?_⟩
  ·rintro j y ρ hy ⟨lp,y6,rfl,gl,ne,got,Fw,Fv⟩
   unfold bp at hy;rw[gf]at hy;cases hB:Z[j]? with
   |none=>rw[hB]at hy;cases hy
   |some B=>
   rw[hB]at hy;cases hy
   obtain⟨b1,b2,b3⟩:=hZ B (fm hB)
   have lB:=JW b2;refine wW (by unfold flat;exact cS B) ?_;refine⟨_,rfl,_,rfl,_,B,ds,F,rfl,.inl rfl,DL,by omega,.inl ⟨_,_,rfl,rfl,_,rfl,?_⟩⟩;show if decide (fG B F=0)=true then _ else _
   by_cases c:fG B F=0
   ·rw[if_pos (di c)]
    refine⟨lp,rfl,_,rfl,_,rfl,_,F,_,B,rfl,.inl rfl,.inl rfl,by omega,by omega,_,rfl,_,rfl,_,vF,_,rfl,(by show 1<=1000;decide),(by show (flat (.tup (ao B))&&true)=true;rw[Ak];unfold flat;exact cS B),bp Bs,[.tup (ao B)],rfl,rfl,jR Bs,(by show (flat (.tup (ao B))&&true)=true;rw[Ak];unfold flat;exact cS B),?_,_,rfl,rfl,?_,?_⟩
    ·have:=ge.len
     show (bp Bs).length+1<=16000000;unfold bp;rw[df];omega
    ·rw[show bp Bs++[PV.tup (ao B)]=bp (Bs++[B]) by unfold bp;rw[gu];rfl]
     exact jR _
    ·obtain⟨RE,pF⟩:=gl.keep (ge.Eb b1 b3 (SK c))
     have e3:bp Bs++[PV.tup (ao B)]=bp (Bs++[B]):=by unfold bp;rw[gu];rfl
     refine⟨kI (F.filter λz=>!decide (z∈B)),bp (Bs++[B]),?_,?_,jR _,gl.all,gl.eu hn,?_⟩
     ·rw[tM]
     ·exact congrArg PV.fL e3
     ·refine⟨iE lp (kI (F.filter λz=>!decide (z∈B))) (bp (Bs++[B])),some (.sh true (.tup (ao B))),rfl,RE,pF,λj F' yi hj e=>(got j F' yi hj e).keep gl _ _,Fw.keep gl _ _,λi B' hi e hF=>?_⟩
      by_cases ij:i=j
      ·subst ij
       rw[hB]at e;cases e
       have:=Le.new gl (F.filter λz=>!decide (z∈B)) (Bs++[B])
       rw[jg]at this;exact this
      ·exact (Fv i B' (by omega) e hF).keep gl _ _
   ·rw[if_neg (by rw[lx];exact c)]
    refine⟨lp,_,rfl,gl,ne,got,Fw,λi B' hi e hF=>?_⟩;by_cases ij:i=j
    ·subst ij
     rw[hB]at e;cases e;exact absurd (Sz hF) c
    ·exact Fv i B' (by omega) e hF
  ·rintro ρ ⟨lp,y6,rfl,gl,ne,got,Fw,Fv⟩
   refine⟨lp,_,_,y6,rfl,gl,λ_=>ne,λj F' yi hj e=>?_⟩;by_cases jk:j=k
   ·subst jk
    rw[hp]at e;injection e with e
    injection e with e1 e2
    injection e2 with e2
    have el:Bs.length=yi.length:=by rw[<- cM Bs,e2,cM]
    rw[<- tN e1,<- el];refine⟨Fw,λB hB hF=>?_⟩
    obtain⟨i,hi⟩:=DW hB
    exact Fv i B (by rw[cM];exact (gv.mp hi).1) hi hF
   ·exact got j F' yi (by omega) e
 ·rintro ρ ⟨lp,y4,y5,y6,rfl,gl,gk,got⟩
  refine⟨[none,none,none,some (.own (.dT lp)),none,none,none],rfl,λj m hm=>?_,?_⟩
  ·match j,hm with
   |0,hm=>cases hm
   |1,hm=>cases hm
   |2,hm=>cases hm
   |3,hm=>cases hm;exact⟨rfl,gc (Kb gl.all)⟩
   |4,hm=>cases hm
   |5,hm=>cases hm
   |6,hm=>cases hm
  ·have hk:0<(ps.map λp=>PV.tup (p.1.map kP)).length:=by
    rw[df];exact List.length_pos_iff.mpr tu
   refine⟨_,rfl,trivial,q lp gl (gk hk) λF Bs hm=>?_⟩
   obtain⟨j,hj⟩:=DW hm
   exact got j F Bs (by rw[df];exact (gv.mp hj).1) hj
def nM (a b:af):Prop:=∀x∈a,x∉b
theorem nM.symm {a b:af}(h:nM a b):nM b a:=λx hx c=>h x c hx
def GM (n:Nat)(L:ae)(k:Int)(ps:List (List aC×PV)):Prop:=∀C:ae,(∀B∈C,B∈L)->C.Pairwise nM->(∀B∈C,B.headD 0<k)->
 ∃F Bs,(kI F,PV.fL (bp Bs))∈ps/\C.length<=Bs.length/\∀x∈bj n,k<=x->(∀B∈C,x∉B)->x∈F
theorem Sx {n:Nat}{b:Int}{r:af}(h:(b::r).Sublist (bj n)):∀x∈b::r,b<=x:=λx hx=>by
 have s:(bj n).Pairwise (·<·):=by
  unfold bj;exact uw.mpr (List.pairwise_lt_range.imp λh=>Int.ofNat_lt.mpr h)
 have:=s.sublist h
 rcases ff.mp hx with e|e
 ·rw[e];exact wo _
 ·exact Int.le_of_lt ((wt.mp this).1 x e)
theorem GM.step {n:Nat}{L:ae}{k:Int}{ps Bk:List (List aC×PV)}{Z:ae}(g:GM n L k ps)(ne:∀B∈L,B≠[]/\B.Sublist (bj n))(hZ:∀B∈L,B.headD 0=k->B∈Z)(got:∀F Bs,(kI F,PV.fL (bp Bs))∈ps->oX k Z F Bs.length Bk):GM n L (k+1) Bk:=by
 intro C hC dj hd;by_cases c:∃B∈C,B.headD 0=k
 ·obtain⟨B,hB,hk⟩:=c
  have pm:C.Perm (B::C.erase B):=List.perm_cons_erase hB;have RL:(B::C.erase B).Pairwise nM:=(pm.pairwise_iff λh=>h.symm).mp dj
  obtain⟨d1,d2⟩:=wt.mp RL
  have mem:∀D∈C.erase B,D∈C:=λD hD=>List.mem_of_mem_erase hD
  obtain⟨nb,sb⟩:=ne B (hC B hB)
  obtain⟨b,r,rfl⟩:∃b r,B=b::r:=by
   cases B with
   |nil=>exact absurd rfl nb
   |cons b r=>exact⟨b,r,rfl⟩
  have hk:b=k:=hk;subst hk
  obtain⟨F,Bs,hm,hl,hx⟩:=g (C.erase (b::r)) (λD hD=>hC D (mem D hD)) d2 λD hD=>by
   have h1:=hd D (mem D hD)
   obtain⟨nD,sD⟩:=ne D (hC D (mem D hD))
   cases D with
   |nil=>exact absurd rfl nD
   |cons d s=>
    have h1:d<b+1:=h1;have h2:d≠b:=λz=>d1 _ hD b dh (by rw[<- z];exact dh)
    show d<b;omega
  have bF:∀x∈b::r,x∈F:=λx GK=>hx x (sb.subset GK) (Sx sb x GK) λD hD=>d1 D hD x GK
  obtain⟨yi,zt,mq⟩:=(got F Bs hm).2 (b::r) (hZ _ (hC _ hB) rfl) bF
  refine⟨_,yi,zt,?_,λx xr kx xn=>?_⟩
  ·have:=pm.length_eq
   rw[ie]at this;omega
  ·have x1:x∈F:=hx x xr (by omega) λD hD=>xn D (mem D hD)
   exact cz.mpr ⟨x1,by rw[fk (xn _ hB)];rfl⟩
 ·obtain⟨F,Bs,hm,hl,hx⟩:=g C hC dj λD hD=>by
   have h1:=hd D hD;have h2:D.headD 0≠k:=λz=>c ⟨D,hD,z⟩
   omega
  obtain⟨yi,zt,mq⟩:=(got F Bs hm).1
  refine⟨_,yi,zt,by omega,λx xr kx xn=>?_⟩;have x1:x∈F:=hx x xr (by omega) xn;have x2:x≠k:=by omega
  exact cz.mpr ⟨x1,by rw[fk (λz=>x2 (dt.mp z))];rfl⟩
def xS:bV:=λxs Q=>∃ws ls,xs = [bG ws ls]/\Wb ws ls/\ws.length<=12/\(dP ws ls).length<64/\∀Bs:ae,(∀B∈Bs,B∈dP ws ls)->Bs.Pairwise nM->Bs.length<=ws.length->(∀C:ae,(∀B∈C,B∈dP ws ls)->C.Pairwise nM->C.length<=Bs.length)->Q (.fL (bp Bs))
def JR:aO:=(aI (b8 1 (aB (Mt λ_=>False) (a6 (a5 0) a9)))
 (aI (b8 2 (M6 (Mq (aB gR (a6 (a5 0) a9))) (xK (fA a9))))
 (aI (fB (o8 (aB gR (a6 (a5 0) a9))) (bW 3)
  (b8 2 (aB xR (a6 (a5 2) (a6 (a5 3) (a6 (c9 (cD (a5 1)) [none,some 3] (bW 0) (bH (jO (bI (a5 0) (qC (.int 0))) (a5 1))) (a5 0)) a9))))))
 (bY (pU (a5 2) (gL a9))))))
theorem Sw:dC JR ["web","blocks","most","hearth"] xS:=by
 rintro xs Q ⟨ws,ls,rfl,wb,hn,eu,q⟩;refine⟨_,rfl,ws,ls,rfl,wb,λ_=>⟨eu,λZ pz _=>?_⟩,λz=>by omega⟩;have zm:∀B,B∈Z↔B∈dP ws ls:=λB=>pz.mem_iff
 refine⟨trivial,?_⟩;refine⟨_,rfl,ws,ls,rfl,_,rfl,by omega,by omega,by show 0<=1000;omega,rfl,[],rfl,rfl,rfl,kI (bj ws.length),?_,rfl,trivial,?_⟩
 ·rw[tM];show PV.tup (eR 0 ws.length)=_;rw[F6]
 have DF:∀B∈dP ws ls,B≠[]/\B.Sublist (bj ws.length):=λB hB=>⟨(jB.mp (cz.mp hB).2).1,(i8 _ B).mp (cz.mp hB).1⟩
 have zl:Z.length<64:=by rw[pz.length_eq];exact eu
 refine⟨_,rfl,ws,ls,rfl,_,rfl,by omega,by omega,λk ρ=>∃ps y3,ρ = [some (.sh (flat (bG ws ls)) (bG ws ls)),some (.sh true (.lst (bp Z))),some (.sh true (.dT ps)),y3]/\GD ws.length (dP ws ls) k ps/\ps≠[]/\GM ws.length (dP ws ls) k ps,⟨[(kI (bj ws.length),.fL [])],none,rfl,⟨λp hp=>?_,ot _ _⟩,(λz=>by cases z),λC hC dj hd=>?_⟩,?_,?_⟩
 ·rw[dt.mp hp]
  exact⟨_,[],rfl,List.Sublist.refl _,λx hx=>(bO.mp hx).1,λB hB=>(by cases hB),wq,λB hB=>(by cases hB),wo _⟩
 ·cases C with
  |nil=>exact⟨bj ws.length,[],dh,de _,λx hx _ _=>hx⟩
  |cons B C=>
   have h1:=hd B dh
   obtain⟨nB,sB⟩:=DF B (hC B dh)
   cases B with
   |nil=>exact absurd rfl nB
   |cons b r=>
    have h1:b<0:=h1
    have:=(bO.mp (sB.subset dh)).1
    omega
 ·rintro k y ρ hy ⟨ps,y3,rfl,gd,ne,gm⟩
  obtain⟨rfl,hk⟩:=mZ hy
  refine wW rfl ?_;refine⟨_,rfl,_,rfl,_,rfl,bp Z,rfl,(λz=>by cases z),by rw[cM];omega,λi acc=>∃A,acc=bp A/\(∀B∈A,B∈Z/\(0+(k:Int))∈B)/\∀j B,j<i->Z[j]? = some B->B.headD 0=(k:Int)->B∈A,⟨[],rfl,(λB hB=>by cases hB),λj B hj=>by omega⟩,?_,?_⟩
  ·rintro i y acc hy ⟨A,rfl,hA,FG⟩
   obtain⟨B,rfl,hB⟩:=oF hy
   have hZ:=fm hB;refine wW (by unfold flat;exact cS B) ?_;have lb:=jB.mp (cz.mp ((zm B).mp hZ)).2;cases B with
   |nil=>exact absurd rfl lb.1
   |cons b r=>
   refine⟨_,rfl,ao (b::r),0,.int b,rfl,rfl,nZ (wo 0) rfl,_,rfl,.inl ⟨_,_,rfl,rfl,_,rfl,?_⟩⟩;show if decide (b=0+(k:Int))=true then _ else _
   by_cases c:b=0+(k:Int)
   ·rw[if_pos (di c)]
    refine⟨_,rfl,trivial,A++[b::r],?_,λB hB=>?_,λj B hj e hk=>?_⟩
    ·unfold bp;rw[gu];rfl
    ·rcases fi.mp hB with hB|hB
     ·exact hA B hB
     ·rw[dt.mp hB]
      exact⟨hZ,by rw[<- c];exact dh⟩
    ·by_cases ij:j=i
     ·subst ij
      rw[hB]at e;cases e;exact qt _ dh
     ·exact pb _ (FG j B (by omega) e hk)
   ·rw[if_neg (by rw[lx];exact c)]
    refine⟨A,rfl,hA,λj B hj e hk=>?_⟩;by_cases ij:j=i
    ·subst ij
     rw[hB]at e;cases e;have hk:b=(k:Int):=hk;exact absurd (by omega) c
    ·exact FG j B (by omega) e hk
  ·rintro acc ⟨A,rfl,hA,FG⟩
   have sb:∀B∈dP ws ls,B.Sublist (bj ws.length):=λB hB=>(i8 _ B).mp (cz.mp hB).1
   refine⟨ws.length,dP ws ls,ps,0+(k:Int),A,rfl,hn,by omega,by omega,by rw[Bz];exact gd,ne,λB hB=>⟨(zm B).mp (hA B hB).1,sb B ((zm B).mp (hA B hB).1),(hA B hB).2⟩,λBk g' ne' got=>⟨trivial,Bk,some (.sh true (.int (0+(k:Int)))),rfl,?_,ne',?_⟩⟩
   ·rw[Bz]at g'
    exact g'
   ·rw[Bz]at got
    refine gm.step DF (λB hB hk=>?_) got
    obtain⟨j,hj⟩:=DW ((zm B).mpr hB)
    exact FG j B (by rw[cM];exact (gv.mp hj).1) hj hk
 ·rintro ρ ⟨ps,y3,rfl,gd,ne,gm⟩
  have lr:(eR 0 ws.length).length=ws.length:=by unfold eR;rw[df,Dm]
  have gd:GD ws.length (dP ws ls) ((eR 0 ws.length).length:Nat) ps:=gd;rw[lr]at gd;have gm:GM ws.length (dP ws ls) ((eR 0 ws.length).length:Nat) ps:=gm;rw[lr]at gm
  obtain⟨p,r,rfl⟩:∃p r,ps=p::r:=by
   cases ps with
   |nil=>exact absurd rfl ne
   |cons p r=>exact⟨p,r,rfl⟩
  obtain⟨F,Bs,rfl,ge⟩:=gd.1 p dh
  obtain rfl:F = []:=by
   cases F with
   |nil=>rfl
   |cons x F=>
    have h1:=ge.ge x dh;have h2:=(bO.mp (ge.sub.subset dh)).2;omega
  have v:=xP gd.2 (dh (a:=(kI [],PV.fL (bp Bs))) (l:=r));refine⟨_,rfl,by show 0<=1000;omega,rfl,_,.inr ⟨_,kI [],rfl,rfl,v.symm⟩,?_⟩
  have:=ge.len
  refine⟨trivial,q Bs ge.mem ge.vw (by omega) λC hC dj=>?_⟩
  obtain⟨F,yi,hm,hl,_⟩:=gm C hC dj λB hB=>by
   obtain⟨nB,sB⟩:=DF B (hC B hB)
   cases B with
   |nil=>exact absurd rfl nB
   |cons b r=>exact (bO.mp (sB.subset dh)).2
  obtain⟨F',Bs2,e,Ji⟩:=gd.1 _ hm
  injection e with e1 e2
  injection e2 with e2
  obtain rfl:F = []:=by
   rw[tN e1];cases F' with
   |nil=>rfl
   |cons x F=>
    have h1:=Ji.ge x dh;have h2:=(bO.mp (Ji.sub.subset dh)).2;omega
  have v2:=xP gd.2 hm;rw[v]at v2;injection v2 with v2
  injection v2 with v2
  have:Bs.length=yi.length:=by rw[<- cM Bs,v2,cM]
  omega
section
variable {ws:af}{ls:aa}{qs:cO}
theorem M8:∀(m:Nat) (S:af),S.length<=m->S.Sublist (bj ws.length)->HC ws ls S->∃B∈dP ws ls,∀x∈B,x∈S
 |0,S,hl,_,hc=>by
  obtain⟨U,_,hU,sub⟩:=hc
  cases U with
  |nil=>exact absurd rfl hU
  |cons x U=>
   have:=DY (sub x dh)
   omega
 |m+1,S,hl,sb,hc=>by
  by_cases c:∃h∈S,HC ws ls (S.filter λz=>!decide (z=h))
  ·obtain⟨h,hh,hc2⟩:=c
   have l2:(S.filter λz=>!decide (z=h)).length<S.length:=by
    refine List.length_filter_lt_length_iff_exists.mpr ⟨h,hh,?_⟩;rw[di rfl];simp
   obtain⟨B,hB,sub⟩:=M8 m _ (by omega) (Bf.trans sb) hc2
   exact⟨B,hB,λx hx=>(cz.mp (sub x hx)).1⟩
  ·exact⟨S,cz.mpr ⟨(i8 _ S).mpr sb,jB.mpr ((MA S).mp ⟨hc,c⟩)⟩,λx hx=>hx⟩
theorem JQ:∀{qs:cO},(∀q∈qs,aY ws.length q.2=true/\q.1∈q.2/\cq ws ls q.2=q.2)->(qs.Pairwise λa b=>∀x∈a.2,x∉b.2)->∃C:ae,C.length=qs.length/\(∀B∈C,B∈dP ws ls/\∃q∈qs,∀x∈B,x∈q.2)/\C.Pairwise nM
 |[],_,_=>⟨[],rfl,(λB hB=>by cases hB),wq⟩
 |q::qs,h,p=>by
  obtain⟨p1,p2⟩:=wt.mp p
  obtain⟨C,c1,c2,c3⟩:=JQ (λr hr=>h r (fu _ hr)) p2
  obtain⟨s1,s2,s3⟩:=h q dh
  obtain⟨B,hB,sub⟩:=M8 (ws:=ws) (ls:=ls) q.2.length q.2 (de _) (jT.mpr s1) ⟨q.2,s3,List.ne_nil_of_mem s2,λx hx=>hx⟩
  refine⟨B::C,by rw[ie,ie,c1],λD hD=>?_,wt.mpr ⟨λD hD x hx c=>?_,c3⟩⟩
  ·rcases ff.mp hD with rfl|hD
   ·exact⟨hB,q,dh,sub⟩
   ·obtain⟨a,r,hr,s⟩:=c2 D hD
    exact⟨a,r,fu _ hr,s⟩
  ·obtain⟨a,r,hr,s⟩:=c2 D hD
   exact p1 r hr x (sub x hx) (s x c)
theorem m9.min (A:m9 ws ls qs):oT ws ls (qs.length:Int):=by
 have kl:(aV qs).length=qs.length:=by unfold aV;rw[df]
 refine⟨⟨aV qs,kJ.mpr ⟨A.vh,A.lit⟩,by rw[kl]⟩,λS hS=>?_⟩
 have:=A.eu (kJ.mp hS).1 (kJ.mp hS).2
 omega
theorem JP (S:af)(n:Nat)(h:∀x∈S,0<=x/\x<(n:Int)):(S.map λs=>(List.replicate n (1:Int)).getD s.toNat 0).sum=(S.length:Int):=by
 induction S with
 |nil=>rfl
 |cons x S ih=>
  rw[ib,ka,ih λy hy=>h y (fu _ hy),ie];have hx:=h x dh
  have:(List.replicate n (1:Int)).getD x.toNat 0=1:=by
   rw[ju,Fc,if_pos (by omega)];rfl
  rw[this];omega
end
def JO:aO:=(aI (b8 4 (bI (aB xG (a6 (a5 1) a9)) (qC (.int 0))))
 (aI (b8 5 (aB (qZ λ_=>False) (a6 (a5 1) (a6 (a5 3) a9))))
 (aI (b8 6 (aB oM (a6 (c9 (o8 (aB cC (a6 (a5 4) a9))) [none,some 4,some 5] (bW 0) (bH (ZI (bI (a5 1) (a5 0)) (qC .bw))) (bI (bI (a5 2) (a5 0)) (qC (.int 1)))) a9)))
 (bY (rX (jO (aB cC (a6 (aB (xI λ_=>False) (a6 (a5 1) (a6 (a5 3) a9))) a9)) (aB cC (a6 (a5 2) a9))) (jO (a5 6) (aB cC (a6 (a5 2) a9))))))))
theorem Sv {ns ws:af}{ls:aa}{qs:cO}{Q:PV->Prop}(n8:ws.length<=8)(wb:Wb ws ls)(lk:e9 ws.length ls)(wd:cF ws.length ls)(nn:NN ws)(A:m9 ws ls qs)(q:Q (.bl true)) :
  JO { nx:=λ_=>Q .bw,rt:=Q } [some (.sh true (.jo ns)),some (.sh true (bG ws ls)),some (.sh true (.tup (ao (aV qs)))),some (.sh true (.lst (ao (List.replicate ws.length 1)))),none,none,none]:=by
 have gp:oU ws.length (List.replicate ws.length (1:Int)):=⟨Cg,λw hw=>by rw[List.eq_of_mem_replicate hw];decide⟩;have pl:=gp.1;have kl:(aV qs).length=qs.length:=by unfold aV;rw[df]
 refine⟨_,rfl,ws,ls,rfl,wb,lk,wd,λfh O B=>⟨_,_,_,rfl,rfl,rfl,trivial,?_⟩⟩;refine⟨_,rfl,_,rfl,ws,ls,_,_,rfl,wb,lk,nn,.inr rfl,by omega,λ_ _ P L R k=>⟨trivial,?_⟩,λ_ z=>absurd gp z,λz=>absurd wd z⟩;have ll:=k.1;have el:(eY fh).length=ws.length:=by unfold eY;rw[df,B.len]
 refine⟨_,rfl,_,_,rfl,rfl,?_⟩;rw[el];refine⟨ws.length,rfl,by omega,by omega,by rw[jN];omega,λj acc=>acc=ao ((((bj ws.length).take j).filter λc=>(eD fh c).isNone).map λr=>(aN L r).2),rfl,?_,?_⟩
 ·rintro j y' acc zq rfl
  obtain⟨rfl,hj⟩:=mZ zq
  have hj:j<ws.length:=by omega
  have tk:=nA (p:=λc=>(eD fh c).isNone) (NS hj);refine kG ?_;rw[Bz];refine⟨_,rfl,_,rfl,_,_,_,rfl,rfl,TX (by omega) (by rw[B.len];omega),rfl,_,rfl,?_⟩;cases hm:eD fh (j:Int) with
  |none=>
   rw[hm]at tk;refine bP ⟨_,rfl,_,rfl,_,_,_,rfl,rfl,L6 (by omega) (by omega),_,_,_,rfl,rfl,rfl,rfl,?_⟩;dsimp only;rw[tk,gu,fE];rfl
  |some x=>
   rw[hm]at tk;refine bK ?_;dsimp only;rw[tk];exact (vb _).symm▸rfl
 rintro acc rfl;rw[jN,qh,qu (by rw[cH];exact de _)];refine⟨_,_,rfl,rfl,trivial,?_⟩;rw[<- m7 ((TJ R B).map λr=>(aN L r).2)];refine⟨_,rfl,_,rfl,ws,ls,_,_,rfl,wb,lk,nn,.inr rfl,by omega,λ_ _ T hT fT sm=>?_,λ_ z=>absurd gp z,λz=>absurd wd z⟩;have s1:=sm P L R k;rw[JP T ws.length (dD hT).2]at s1;have pp:∀k,0<=(List.replicate ws.length (1:Int)).getD k 0:=λk=>by
  rw[ju,Fc];split<;>decide
 have up:=(Td R.toRt0 (lk.fit) nn pp k).1 (aV qs) A.vh A.lit;rw[JP (aV qs) ws.length (dD A.vh).2,kl]at up;have lo:=A.eu hT fT;have eT:(T.length:Int)=(qs.length:Int):=by omega
 refine⟨_,_,rfl,rfl,_,rfl,_,_,rfl,rfl,.inl ⟨_,_,rfl,rfl,_,rfl,?_⟩⟩;rw[bE,bE,kl];show if decide ((T.length:Int)=(qs.length:Int))=true then _ else _
 rw[di eT];refine bP ⟨_,rfl,_,rfl,_,_,rfl,rfl,.inl ⟨_,_,rfl,rfl,trivial,?_⟩⟩;rw[bE,kl];show Q (.bl (decide (_=_)));rw[di (by omega)];exact q
abbrev M9:bV:=Ld
def JN:aO:=(aI (b8 1 (aB i6 (a6 (a5 0) a9)))
 (aI (e6 2 (qC (.dK [])))
 (aI (e6 3 (fA a9))
 (aI (fB (wT (aB (nJ λ_=>False) (a6 (a5 0) a9))) (fO 4 5)
  Lb)
 La))))
theorem Su:dC JN ["web","around","waiting","taken","hearth","elder","children","lacking","block","child","pairs"] M9:=by
 rintro xs Q ⟨ws,ls,rfl,wb,lk,w,q⟩;have eu:=wb.eu;refine⟨_,rfl,ws,ls,rfl,wb,trivial,?_⟩;refine⟨rfl,rfl,?_⟩;refine⟨by decide,rfl,rfl,rfl,?_⟩;refine⟨_,rfl,ws,ls,rfl,wb,lk,λ_ P R=>?_,λz=>absurd w z⟩;have pl:P.length<=ws.length:=by
  have:=dJ R.nd (m:=bj ws.length) λx hx=>(R.mem x).mp hx
  rwa [df,cH]at this
 have e0:(Slot.sh (flat (bG ws ls)) (bG ws ls)) = .sh true (bG ws ls):=by rw[E9]
 refine⟨eC P,rfl,(λz=>by cases z),λi ρ=>∃(W T:cO) (D:af) (y4 y5 y6 y7 y8 y9:Option Slot),ρ = [some (.sh true (bG ws ls)),some (.sh true (.lst (cA ws.length ls))),some (.own (.dK (fV W))),some (.own (.lst (T.map eW))),y4,y5,y6,y7,y8,y9,none]/\dY ws ls P D W T/\(∀y,y∈D↔∃(j:Nat) (q:Option Int),P[j]? = some (y,q)/\P.length<=j+i)/\D.length=i/\T.length<=i/\W.length<=i,?_,?_,?_⟩
 ·refine⟨[],[],[],none,none,none,none,none,none,?_,⟨(λ_ _ z=>by cases z),(λ_ _ z=>by cases z),(λ_ _ _ z=>by cases z),wq,wq⟩,λy=>⟨(λz=>by cases z),λ⟨j,q,hj,hl⟩=>?_⟩,rfl,de _,de _⟩
  ·show [some (Slot.sh (flat (bG ws ls)) (bG ws ls)),_,_,_,_,_,_,_,_,_,_]=_
   rw[e0];rfl
  ·have:=(gv.mp hj).1;omega
 ·rintro i y ρ hy ⟨W,T,D,y4,y5,y6,y7,y8,y9,rfl,A,dm,dl,tl,wl⟩
  have il:i<P.length:=by have:=(gv.mp hy).1;rwa [Dq,jV]at this
  rw[List.getElem?_reverse (by rw[jV];exact il),jV]at hy;unfold eC at hy;rw[gf]at hy
  obtain⟨⟨h,e⟩,hk⟩:∃p,P[P.length-1-i]? = some p:=⟨_,gs (by omega)⟩
  rw[hk]at hy;cases hy;have hD:h∉D:=λz=>by
   obtain⟨j,q,hj,hl⟩:=(dm h).mp z
   have:=(fU R.nd hj hk).1
   omega
  have dk:∀y∈D,(h,some y)∉P:=λy hy z=>by
   obtain⟨j,q,hj,hl⟩:=(dm y).mp hy
   cases iD R.nd z (fm hk)
   obtain⟨j',q',jk,qz,_⟩:=R.par _ h y hk
   have:=(fU R.nd hj qz).1
   omega
  have fe:∀y∈D,y∈bj ws.length:=λy hy=>by
   obtain⟨j,q,hj,hl⟩:=(dm y).mp hy
   exact (R.mem y).mp (dr.mpr ⟨_,fm hj,rfl⟩)
  refine⟨_,_,rfl,?_⟩;refine Ur R lk eu A (fm hk) hD dk fe (by omega) (by omega) (by omega) λW' T' y6 y7 y8 y9 A' tl' wl'=>⟨W',T',h::D,si h,some (.sh true (eN e)),y6,y7,y8,y9,rfl,A',λy=>⟨λz=>?_,λ⟨j,q,hj,hl⟩=>?_⟩,by rw[ie,dl],by omega,by omega⟩
  ·rcases ff.mp z with z|z
   ·rw[z];exact⟨_,e,hk,by omega⟩
   ·obtain⟨j,q,hj,hl⟩:=(dm y).mp z
    exact⟨j,q,hj,by omega⟩
  ·by_cases ej:j=P.length-1-i
   ·subst ej
    rw[hk]at hj;cases hj;exact dh
   ·exact fu _ ((dm y).mpr ⟨j,q,hj,by omega⟩)
 ·rintro ρ ⟨W,T,D,y4,y5,y6,y7,y8,y9,rfl,A,dm,dl,tl,wl⟩
  rw[Dq,jV]at dm dl tl wl;refine Uq (by omega) A.Fu λqs pm so=>q qs (A.En R lk.fit (λh=>?_) pm so)
  rw[dm h,<- R.mem h];constructor
  ·rintro⟨j,q,hj,_⟩;exact dr.mpr ⟨_,fm hj,rfl⟩
  ·intro z
   obtain⟨⟨h',q⟩,hp,rfl⟩:=dr.mp z
   obtain⟨j,hj⟩:=dL hp
   exact⟨j,q,hj,by omega⟩
def dQ (l u:Int)(A:af):af:=A.filter λz=>!decide (z=l)&&!decide (z=u)
theorem xT {l u x:Int}{A:af}:x∈dQ l u A↔x∈A/\x≠l/\x≠u:=by
 unfold dQ;rw[cz,mv,yz,yz,zg,zg]
def T8 (l u:Int):ae:=(bN (bj 8)).filter λA=>!decide (l∈A)&&!decide (u∈A)
theorem Ss:∀l<8,∀u<8,l≠u->(T8 (l:Nat) (u:Nat)).length=64:=by decide +kernel
theorem Sr:∀l<8,∀u<8,∀i<5,l≠u->decide ((dQ (l:Nat) (u:Nat) (bj 8)).take i∈T8 (l:Nat) (u:Nat))=true:=by decide +kernel
theorem So:∀l<8,∀u<8,∀i<5,l≠u->((dQ (l:Nat) (u:Nat) (bj 8)).take i).length=i:=by decide +kernel
theorem Sn {l u:Nat}(l8:l<8)(u8:u<8)(lu:l≠u):(T8 (l:Int) (u:Int)).length=64/\∀i<5,(dQ (l:Int) (u:Int) (bj 8)).take i∈T8 (l:Int) (u:Int)/\((dQ (l:Int) (u:Int) (bj 8)).take i).length=i:=
 ⟨Ss l l8 u u8 lu,λi hi=>⟨mw (Sr l l8 u u8 i hi lu),So l l8 u u8 i hi lu⟩⟩
theorem Sm:∀l<8,∀m<9,((bN (bj 8)).filter λS=>decide (S.length=m)&&decide (((l:Nat):Int)∈S)).length<64:=by decide +kernel
theorem Sl:∀l<8,∀u<8,l≠u->∀m<9,((bN (bj 8)).filter λS=>decide (S.length=m)&&!(decide (((l:Nat):Int)∈S)&&decide (((u:Nat):Int)∈S))).length<64:=by decide +kernel
theorem Sk (o:Nat->Prop)(h:∀a b c d,a<b->b<c->c<d->d<5->o a->o b->o c->o d->False):∃i j,i<j/\j<5/\¬o i/\¬o j:=by
 refine ud λn=>?_
 have p:∀i j,i<j->j<5->¬o i->o j:=λi j a b x=>ud λy=>n ⟨i,j,a,b,x,y⟩
 by_cases c0:o 0
 ·by_cases c1:o 1
  ·by_cases c2:o 2
   ·by_cases c3:o 3
    ·exact h 0 1 2 3 (by decide) (by decide) (by decide) (by decide) c0 c1 c2 c3
    ·exact h 0 1 2 4 (by decide) (by decide) (by decide) (by decide) c0 c1 c2 (p 3 4 (by decide) (by decide) c3)
   ·exact h 0 1 3 4 (by decide) (by decide) (by decide) (by decide) c0 c1 (p 2 3 (by decide) (by decide) c2) (p 2 4 (by decide) (by decide) c2)
  ·exact h 0 2 3 4 (by decide) (by decide) (by decide) (by decide) c0 (p 1 2 (by decide) (by decide) c1) (p 1 3 (by decide) (by decide) c1) (p 1 4 (by decide) (by decide) c1)
 ·exact h 1 2 3 4 (by decide) (by decide) (by decide) (by decide) (p 0 1 (by decide) (by decide) c0) (p 0 2 (by decide) (by decide) c0) (p 0 3 (by decide) (by decide) c0) (p 0 4 (by decide) (by decide) c0)
theorem Sj {C:ae}{l u:Nat}(l8:l<8)(u8:u<8)(lu:l≠u)(nd:C.Nodup)(sub:∀A∈C,A.Sublist (bj 8))(Ah:∀A∈C,∀B∈C,(∀x∈A,x∈B)->A=B)(st:∀A∈C,(l:Int)∈A->A≠[(l:Int)]->(u:Int)∈A):C.length<64:=by
 obtain⟨PY,tp⟩:=Sn l8 u8 lu
 have dm:∀A,A∈C.erase [(l:Int)]↔A≠[(l:Int)]/\A∈C:=λA=>nd.mem_erase_iff
 have dn:(C.erase [(l:Int)]).Nodup:=nd.erase _;have dl:C.length<=(C.erase [(l:Int)]).length+1:=by
  by_cases c:[(l:Int)]∈C
  ·rw[Ck c];omega
  ·rw[List.erase_of_not_mem c];omega
 generalize C.erase [(l:Int)]=D at dm dn dl
 let CG:af->Nat:=λA=>if (l:Int)∈A then 2 else if (u:Int)∈A then 1 else 0
 have Gu:∀A,CG A<=2:=λA=>by
  show (if (l:Int)∈A then 2 else if (u:Int)∈A then 1 else 0)<=2;split
  ·omega
  ·split<;>omega
 have L1:∀A∈D,∀B∈D,CG A<=CG B->(∀x∈dQ l u A,x∈dQ l u B)->A=B:=λA hA B hB le h=>by
  have hA:=(dm A).mp hA;have hB:=(dm B).mp hB;refine Ah A hA.2 B hB.2 λx hx=>?_
  have le:(if (l:Int)∈A then 2 else if (u:Int)∈A then 1 else 0)<=(if (l:Int)∈B then 2 else if (u:Int)∈B then 1 else 0):=le;by_cases xl:x=(l:Int)
  ·subst xl
   rw[if_pos hx]at le;split at le
   ·assumption
   ·split at le<;>omega
  by_cases xu:x=(u:Int)
  ·subst xu
   by_cases lb:(l:Int)∈B
   ·exact st B hB.2 lb hB.1
   ·rw[if_neg lb]at le
    split at le
    ·split at le<;>omega
    ·split at le
     ·assumption
     ·omega
  exact (xT.mp (h x (xT.mpr ⟨hx,xl,xu⟩))).1
 have nm:(D.map (dQ l u)).Nodup:=by
  refine List.Pairwise.map (dQ l u) (R:=λa b=>a∈D/\b∈D/\a≠b) (λa b ⟨ha,hb,tu⟩ e=>tu ?_) (List.Pairwise.imp_of_mem (λ{a b} ha hb h=>⟨ha,hb,h⟩) dn);rcases Nat.le_total (CG a) (CG b) with z|z
  ·exact L1 a ha b hb z λx hx=>e▸hx
  ·exact (L1 b hb a ha z λx hx=>e.symm▸hx).symm
 have lt:∀{A B:af}{i j:Nat},A∈D->B∈D->dQ l u A=(dQ l u (bj 8)).take i->dQ l u B=(dQ l u (bj 8)).take j->i<j->j<5->CG B<CG A:=λ{A B i j} hA hB eA eB ij j5=>by
  refine Nat.lt_of_not_le λle=>?_
  have e:=L1 A hA B hB le λx hx=>by
   rw[eA]at hx;rw[eB];exact (List.take_subset_take_left _ (uv ij)) hx
  rw[e,eB]at eA;have h1:=(tp i (by omega)).2;have h2:=(tp j j5).2;rw[<- eA,h2]at h1;omega
 obtain⟨i,j,ij,j5,ni,nj⟩:=Sk (λi=>(dQ l u (bj 8)).take i∈D.map (dQ l u)) λa b c d ab bc cd d5 ha hb hc hd=>by
  obtain⟨A,hA,eA⟩:=dr.mp ha
  obtain⟨B,hB,eB⟩:=dr.mp hb
  obtain⟨E,hE,eE⟩:=dr.mp hc
  obtain⟨F,hF,eF⟩:=dr.mp hd
  have h1:=lt hA hB eA eB ab (by omega);have h2:=lt hB hE eB eE bc (by omega);have h3:=lt hE hF eE eF cd d5
  have:=Gu A
  omega
 have Qt:(dQ l u (bj 8)).take i∉D.map (dQ l u):=ni;have Qr:(dQ l u (bj 8)).take j∉D.map (dQ l u):=nj
 obtain⟨ti,li⟩:=tp i (by omega)
 obtain⟨tj,lj⟩:=tp j j5
 have Qs:(dQ l u (bj 8)).take j≠(dQ l u (bj 8)).take i:=λz=>by rw[z,li]at lj;omega
 have PM:(dQ l u (bj 8)).take j∈(T8 l u).erase ((dQ l u (bj 8)).take i):=(DV Qs).mpr tj;have h1:=xO (ys:=((T8 l u).erase ((dQ l u (bj 8)).take i)).erase ((dQ l u (bj 8)).take j)) nm λx hx=>by
  have IQ:=hx
  obtain⟨A,hA,rfl⟩:=dr.mp hx
  refine (DV λz=>Qr (by rw[<- z];exact IQ)).mpr ((DV λz=>Qt (by rw[<- z];exact IQ)).mpr (cz.mpr ⟨(i8 8 _).mpr (Bf.trans (sub A ((dm A).mp hA).2)),?_⟩));rw[mv,yz,yz,zg,zg]
  exact⟨λc=>(xT.mp c).2.1 rfl,λc=>(xT.mp c).2.2 rfl⟩
 rw[df,Ck PM,Ck ti,PY]at h1;omega
theorem N0 {a:Int}:∀{L:af},L.Nodup->(L.map λh=>if a=h then 1 else 0).sum=if a∈L then 1 else 0
 |[],_=>rfl
 |x::r,nd=>by
  have nd:=oy.mp nd;rw[ib,ka,N0 nd.2];by_cases c:a=x
  ·subst c
   rw[if_pos rfl,if_neg nd.1,if_pos dh]
  ·rw[if_neg c]
   by_cases d:a∈r
   ·rw[if_pos d,if_pos (fu _ d)]
   ·rw[if_neg d,if_neg λz=>(ff.mp z).elim c d]
theorem N1 {f g:Int->Nat}:∀L:af,(L.map λh=>f h+g h).sum=(L.map f).sum+(L.map g).sum
 |[]=>rfl
 |x::r=>by
  rw[ib,ka,ib,ka,ib,ka,N1 r];omega
theorem JM {n:Nat}:∀{ls:aa},(∀l∈ls,0<=l.1/\l.1<l.2/\l.2<(n:Int))->((bj n).map λh=>(aF ls h).length).sum=2*ls.length
 |[],_=>by
  have:∀L:af,(L.map λh=>(aF [] h).length).sum=0:=λL=>by
   induction L with
   |nil=>rfl
   |cons x r ih=>rw[ib,ka,ih];rfl
  exact this _
 |l::ls,h=>by
  have hl:=h l dh;have e:(λh=>(aF (l::ls) h).length)=λh=>((if l.1=h then 1 else 0)+(if l.2=h then 1 else 0))+(aF ls h).length:=by
   funext k
   unfold aF;rw[List.flatMap_cons,jg,jg];congr 1;congr 1<;>(split<;>rfl)
  rw[e,N1 (f:=λh=>(if l.1=h then 1 else 0)+(if l.2=h then 1 else 0)),N1 (f:=λh=>if l.1=h then 1 else 0),N0 (t6 n),N0 (t6 n),if_pos (bO.mpr (by omega)),if_pos (bO.mpr (by omega)),JM λm hm=>h m (fu _ hm),ie];omega
theorem JL {f:Int->Nat}:∀{L:af},(∀x∈L,2<=f x)->2*L.length<=(L.map f).sum
 |[],_=>de _
 |x::r,h=>by
  have h1:=h x dh;have h2:=JL (L:=r) λy hy=>h y (fu _ hy)
  rw[ib,ka,ie];omega
theorem Si {n:Nat}{ls:aa}(hn:0<n)(w:cF n ls):ls.length<n:=by
 have w:ls.length+(b7 ls (bj n)).length=n:=w;have z:(0:Int)∈b7 ls (bj n):=by
  have z0:(0:Int)∈bj n:=bO.mpr (by omega);refine cz.mpr ⟨z0,di ?_⟩;have c0:=gS (ls:=ls) z0;unfold comp at c0 ⊢;have e:∃r,bj n=0::r:=by
   cases n with
   |zero=>omega
   |succ k=>exact⟨_,by unfold bj;rw[List.range_succ_eq_map,ib];rfl⟩
  obtain⟨r,e⟩:=e
  rw[e]at c0 ⊢;rw[qg,if_pos (cz.mp c0).2];rfl
 have:=DY z
 omega
theorem Sh {n:Nat}{ls:aa}(hn:0<n)(fe:∀l∈ls,0<=l.1/\l.1<l.2/\l.2<(n:Int))(w:cF n ls):∃h∈bj n,(aF ls h).length<=1:=by
 refine ud λno=>?_
 have h1:=JL (f:=λh=>(aF ls h).length) (L:=bj n) λx hx=>Nat.lt_of_not_le λz=>no ⟨x,hx,z⟩
 rw[JM fe,cH]at h1
 have:=Si hn w
 omega
section
variable {ws:af}{ls:aa}
theorem JK {n:Nat}(n8:n=8)(wn:ws.length=n)(fe:∀l∈ls,0<=l.1/\l.1<l.2/\l.2<(n:Int))(w:cF n ls):∃l u:Nat,l<8/\u<8/\l≠u/\∀B∈dP ws ls,(l:Int)∈B->B≠[(l:Int)]->(u:Int)∈B:=by
 subst n8
 obtain⟨h,hr,hd⟩:=Sh (by decide) fe w
 have hb:=bO.mp hr
 obtain⟨u,u8,uh,un⟩:∃u:Nat,u<8/\(u:Int)≠h/\∀x∈aF ls h,x=(u:Int):=by
  cases e:aF ls h with
  |nil=>
   by_cases c:h=0
   ·exact⟨1,by decide,by rw[c];decide,λx hx=>by cases hx⟩
   ·exact⟨0,by decide,λz=>c z.symm,λx hx=>by cases hx⟩
  |cons x r=>
   have hx:x∈aF ls h:=by rw[e];exact dh
   have rn:r = []:=by
    rw[e,ie]at hd;exact Fg (by omega)
   have xb:=YR fe hx;have xh:x≠h:=λz=>by
    rw[z]at hx
    obtain⟨l,hl,c⟩:=eL.mp hx
    have:=fe l hl
    omega
   refine⟨x.toNat,by omega,by omega,λy hy=>?_⟩;rw[rn,dt]at hy;omega
 refine⟨h.toNat,u,by omega,u8,by omega,λB hB hl ne=>ud λnu=>ne ?_⟩;have eh:((h.toNat:Nat):Int)=h:=by omega
 rw[eh]at hl ⊢;have sb:=(i8 _ B).mp (cz.mp hB).1;have lb:=jB.mp (cz.mp hB).2;have st:fH ws ls B h=true:=(xk.mp (show B.filter (fH ws ls B)=B from lb.2.1)) h hl;have no:∀S:af,(u:Int)∉S->(aF ls h).filter (λx=>decide (x∈S)) = []:=λS hS=>DZ.mpr λx hx z=>hS (by rw[<- un x hx];exact mw z)
 have zh:fH ws ls [h] h=true:=by
  unfold fH fG at st ⊢;rw[no B nu]at st;rw[no [h] λz=>uh (dt.mp z)];exact st
 have c:cq ws ls [h] = [h]:=by
  show [h].filter (fH ws ls [h]) = [h];rw[qg,if_pos zh];rfl
 have all:=lb.2.2 [h] c (by simp) λx hx=>by rw[dt.mp hx];exact hl
 have hS:aY ws.length [h]=true:=jT.mp (by rw[wn];exact List.singleton_sublist.mpr hr);exact oK (jT.mp sb) hS λx=>⟨all x,λhx=>by rw[dt.mp hx];exact hl⟩
theorem Sf (n8:ws.length<=8)(fe:∀l∈ls,0<=l.1/\l.1<l.2/\l.2<(ws.length:Int))(w:cF ws.length ls):(dP ws ls).length<64:=by
 by_cases n7:ws.length<=7
 ·exact SE n7
 have e8:ws.length=8:=by omega
 obtain⟨l,u,l8,u8,lu,st⟩:=JK e8 rfl fe w
 have sb:∀A∈dP ws ls,A.Sublist (bj 8):=λA hA=>by rw[<- e8];exact (i8 _ A).mp (cz.mp hA).1
 refine Sj l8 u8 lu ((G8 ws.length).filter _) sb (λA hA B hB h=>?_) st;have lA:=jB.mp (cz.mp hA).2;have lB:=jB.mp (cz.mp hB).2;exact oK (jT.mp (sb A hA)) (jT.mp (sb B hB)) λx=>⟨h x,lB.2.2 A lA.2.1 lA.1 h x⟩
theorem Se {S:af}(wb:Wb ws ls)(hs:aY ws.length S=true)(h:∀B∈dP ws ls,∃y∈B,y∈S):dE ws ls S=true:=by
 rw[Mk wb hs,lx];refine ud λne=>?_
 have g:=wP (ws:=ws) (ls:=ls) (ns:=S)
 obtain⟨B,hB,sub⟩:=M8 (ws:=ws) (ls:=ls) _ (qO ws ls S) (de _) (jT.mpr VJ) ⟨_,g.jz,ne,λx hx=>hx⟩
 obtain⟨y,yB,yS⟩:=h B hB
 exact (j6.mp (g.sub y (sub y yB))).2 yS
theorem Sd {M:Int}(n8:ws.length<=8)(wb:Wb ws ls)(fe:∀l∈ls,0<=l.1/\l.1<l.2/\l.2<(ws.length:Int))(w:cF ws.length ls)(hM:oT ws ls M):(nF ws ls M).length<64:=by
 by_cases n7:ws.length<=7
 ·exact Vz n7 hM
 have e8:ws.length=8:=by omega
 obtain⟨l,u,l8,u8,lu,st⟩:=JK e8 rfl fe w
 obtain⟨⟨S0,Ry,e0⟩,mn⟩:=hM
 have sl:=oG (kJ.mp Ry).1;have met:∀S∈eV ws ls,∀B∈dP ws ls,∃y∈B,y∈S:=λS hS B hB=>JV (Bs:=[B]) (λC hC=>by rw[dt.mp hC];exact hB) (kJ.mp hS).1 (kJ.mp hS).2 B dh
 have cnt:∀p:af->Bool,(∀S∈eV ws ls,(S.length:Int)=M->p S=true)->(nF ws ls M).length<=((bN (bj 8)).filter λS=>decide (S.length=S0.length)&&p S).length:=λp hp=>by
  unfold nF;refine og (m:=((eV ws ls).filter λS=>decide (S.length=S0.length)&&p S).length) (wQ λT hT h=>?_) ?_
  ·rw[lx]at h
   rw[mv,lx]
   exact⟨by omega,hp T hT h⟩
  ·unfold eV
   rw[List.filter_filter,e8];refine wQ λT _ h=>?_
   rw[mv]at h;exact h.1
 by_cases c:[(l:Int)]∈dP ws ls
 ·refine Dp (cnt (λS=>decide ((l:Int)∈S)) λS hS _=>?_) (Sm l l8 S0.length (by omega))
  obtain⟨y,hy,yS⟩:=met S hS _ c
  rw[dt.mp hy]at yS;exact di yS
 ·refine Dp (cnt (λS=>!(decide ((l:Int)∈S)&&decide ((u:Int)∈S))) λS hS eS=>?_) (Sl l l8 u u8 lu S0.length (by omega))
  rw[yz,Ce];intro z;rw[mv,lx,lx]at z;have hs:=(kJ.mp hS).1;have mb:∀x,x∈eU S (l:Int)↔x∈S/\x≠(l:Int):=λx=>by
   unfold eU;rw[cz,yz,zg,dt]
  have f:=Se wb (qP (h:=(l:Int)) hs) λB hB=>by
   obtain⟨y,yB,yS⟩:=met S hS B hB
   by_cases yl:y=(l:Int)
   ·subst yl
    exact⟨_,st B hB yB λe=>c (e▸hB),(mb _).mpr ⟨z.2,by omega⟩⟩
   ·exact⟨y,yB,(mb y).mpr ⟨yS,yl⟩⟩
  have h1:=mn _ (kJ.mpr ⟨qP hs,f⟩);have nd:S.Nodup:=(jT.mpr hs).nodup (t6 _)
  have:=K1 nd z.1
  omega
end
def N3:bV:=Nt
def JJ:aO:=(aI (b8 1 (aB xC (a6 (a5 0) (a6 (qC (.int 8)) a9))))
 (aI (b8 2 (bI (aB Ld (a6 (a5 1) a9)) (qC (.int 0))))
 (aI (b8 3 (qE (fA (a6 (qC (.int 1)) a9)) (aB cC (a6 (bI (a5 1) (qC (.int 0))) a9))))
 (aI (dO (rW (bH (C5 (aB (wS λ_=>False) (a6 (a5 1) a9)) (aB cC (a6 (a5 2) a9)))) (rW (bH (C5 (aB cC (a6 (aB xS (a6 (a5 1) a9)) a9)) (aB cC (a6 (a5 2) a9)))) (bH (q2 J2 (a5 2) (aB (Md λ_=>False) (a6 (a5 1) a9)))))) (bY (qC (.bl false))) dZ)
 JO))))
theorem Sb:dC JJ ["script","web","seeds","prices","elders","ledger","total"] N3:=by
 rintro xs Q ⟨ns,rfl,hl,q⟩;refine⟨_,rfl,ns,8,rfl,hl,by decide,by decide,λn ws ls n1 w lk wd=>⟨trivial,?_⟩⟩;have wl:=w.many;have wb:Wb ws ls:=w.wb (by omega);have n8:ws.length<=8:=by omega
 have en:ws.length=n:=by omega
 subst en;refine⟨_,rfl,ws,ls,rfl,wb,lk,wd,λqs A=>⟨_,_,_,rfl,rfl,rfl,trivial,?_⟩⟩;have kl:(aV qs).length=qs.length:=by unfold aV;rw[df]
 refine⟨by show 1<=1000;decide,rfl,_,rfl,_,_,_,rfl,rfl,rfl,_,_,rfl,rfl,_,_,rfl,rfl,rfl,?_,?_,by show 1<=10;decide,trivial,?_⟩
 ·rw[bE];omega
 ·rw[bE];omega
 have er:(List.replicate ((ao ws).length:Int).toNat [PV.int 1]).flatten=ao (List.replicate ws.length 1):=by rw[bE,qh];exact t9 ws.length 1
 show (aI _ _) _ [_,_,_,some (Slot.sh true (.lst (List.replicate ((ao ws).length:Int).toNat [PV.int 1]).flatten)),_,_,_];rw[er];refine⟨_,rfl,ws,ls,rfl,wb,λ_ M hM=>?_,λz=>absurd z (by omega)⟩;obtain rfl:=Mb hM A.min;refine⟨_,rfl,_,_,rfl,rfl,.inl ⟨_,_,rfl,rfl,_,rfl,?_⟩⟩;rw[bE,kl];show if (!decide ((qs.length:Int)=(qs.length:Int)))=true then _ else _
 rw[di rfl];refine bK ?_;refine⟨_,rfl,ws,ls,rfl,wb,by omega,Sf n8 lk.1 wd,λBs hB vw bl mx=>?_⟩;have b1:=SD hB vw A.vh A.lit
 obtain⟨C,c1,c2,c3⟩:=JQ A.sets A.apart
 have b2:=mx C (λB h=>(c2 B h).1) c3;refine⟨_,_,rfl,rfl,_,rfl,_,_,rfl,rfl,.inl ⟨_,_,rfl,rfl,_,rfl,?_⟩⟩;rw[cM,bE,kl];show if (!decide ((Bs.length:Int)=(qs.length:Int)))=true then _ else _
 rw[di (by omega)];refine bK ?_;refine⟨_,rfl,_,rfl,ws,ls,rfl,wb,λ_ M hM=>⟨Sd n8 wb lk.1 wd hM,λZ pz _=>?_⟩,λz=>absurd z (by omega)⟩;obtain rfl:=Mb hM A.min;refine⟨aV qs,Z,rfl,rfl,_,rfl,?_⟩;have hm:aV qs∈Z:=pz.mem_iff.mpr (cz.mpr ⟨kJ.mpr ⟨A.vh,A.lit⟩,di (by rw[kl])⟩);show if (!decide (aV qs∈Z))=true then _ else _
 rw[di hm];exact bK (Sv n8 wb lk wd w.pos A q)
end Core
namespace L2
open PySem PySem.Spec PyProof.Rows
theorem by4 {X:Cx}:dU X (.builtin "sorted") (λxs H Q=>∃(a:ax) (ys:List V),xs = [.ref a]/\aM X.K H a ys/\ys.length<2/\∀l,H l=none->Q (.ref l) (upd H l (.lst ys))):=by
 intro ag s σ H xs us Q I r h
 obtain⟨a,ys,rfl,hs,h2,q⟩:=h
 obtain⟨u,rfl,ru⟩:=iF r
 cases ru
 obtain⟨bh,rv,p,hz⟩:=I.list hs
 refine zY p.isList (by rw[<- rv.length];exact h2) ?_
 obtain⟨e,he⟩:=sortedAll_at s.heap bh bh.toArray
 have hn:s.heap.objs.size<=s.heap.objs.size+1:=Nat.le_succ _
 exact⟨.ref (s.heap.objs.size+1),upd H (s.heap.objs.size+1) (.lst ys),I.laid (t':=s.toks) (λ_ _=>sortedAll_old) hn ⟨hz,bh,e,rv,he⟩,rfl,q _ (I.cf.fresh hn)⟩
end L2
namespace PP
open PySem L2
section
variable {X:Cx}{e:Expr}{tr:dI}{pos p2:Pos}
def N4:List PV->(PV->Prop)->Prop:=λxs Q=>oH xs Q∨∃ys:ae,xs = [.lst (ys.map λr=>PV.tup (ao r))]/\ys.length<2/\Q (.lst (ys.map λr=>PV.tup (ao r)))
theorem Sa:dU X (.builtin "sorted") (λxs H Q=>uO X.K xs H Q∨∃(a:ax) (ys:List V),xs = [.ref a]/\aM X.K H a ys/\ys.length<2/\∀l,H l=none->Q (.ref l) (upd H l (.lst ys))):=by
 intro ag s σ H xs us Q I r h;rcases h with h|h
 ·exact OT ag s σ H xs us Q I r h
 ·exact by4 ag s σ H xs us Q I r h
theorem RZ:gU X N4 (λxs H Q=>uO X.K xs H Q∨∃(a:ax) (ys:List V),xs = [.ref a]/\aM X.K H a ys/\ys.length<2/\∀l,H l=none->Q (.ref l) (upd H l (.lst ys))):=by
 intro H vs xs Q Q' r h k;rcases h with h|⟨ys,rfl,hl,q⟩
 ·exact .inl (Nz H vs xs Q Q' r h k)
 ·obtain⟨v,rfl,r1⟩:=r.one
  obtain⟨a,us,rfl,_,h,r2⟩:=r1.oo
  have lr:=r2.length;rw[df]at lr;exact .inr ⟨a,us,rfl,aM.of h,by omega,λl mq=>k _ _ _ (bL mq _) (.lst mq bA ((r2.flat (Core.jR ys)).same (bL mq _) λ_ z=>z)) q⟩
theorem RY (B:Bt X.mg)(ha:QA X [e] tr)(hg:Gl X "sorted":=by rfl)(he:starEach [e] X.env=(false,eval e X.env)::starEach [] X.env:=by rfl)(hpl:(backTo pos (starEach [] X.env)).any (·.1)=false:=by rfl):QE X (.Call (.Name "sorted" p2) [e] [] pos) (aB N4 tr):=
 jP Sa RZ hg B.sorted Fd ha (he:=he) (hpl:=hpl)
end
end PP
namespace Core
open PySem L2 PP
abbrev N5:dX:=Md
def JI (Ep:Str->Prop):aO:=(aI (b8 1 (i7 Ep qQ (a6 (a5 0) a9)))
 (aI (b8 2 (aB wR (a6 (c9 (cD (a5 1)) [none] (bW 0) dB (aB cC (a6 (a5 0) a9))) a9)))
 (bY (aB N4 (a6 (c9 (cD (a5 1)) [none,some 2] (bW 0) (bH (jO (aB cC (a6 (a5 0) a9)) (a5 1))) (a5 0)) a9)))))
theorem RX:j8 JI ["web","lighting","fewest"] N5:=by
 rintro Ep xs Q ⟨ws,ls,rfl,wb,q,qe⟩;refine⟨_,rfl,ws,ls,rfl,wb,λeu=>⟨trivial,?_⟩,qe⟩;have ll:=Me (ls:=ls) eu;have Ew:=Mf ws ls;have qq:∀M:Int,(∃S∈eV ws ls,(S.length:Int)=M)->(∀S∈eV ws ls,M<=(S.length:Int))->_:=λM m1 m2=>q eu M ⟨m1,m2⟩
 have IG:(eV ws ls).Nodup:=(G8 _).filter _;unfold nF at qq;generalize eV ws ls=L at ll Ew qq IG ⊢;refine⟨_,rfl,_,rfl,(λz=>by cases z),by rw[cM];omega,λi acc=>acc=ao ((L.take i).map λS=>(S.length:Int)),rfl,?_,?_⟩
 ·rintro i y acc hy rfl
  obtain⟨S,rfl,hS⟩:=oF hy
  refine⟨_,rfl,_,_,rfl,rfl,trivial,?_⟩;dsimp only;rw[bE,nq,hS,gu,fE];rfl
 rintro acc rfl;rw[cM,qr];refine⟨_,rfl,λz=>Ew (DU.mp z),λM m1 m2=>⟨trivial,?_⟩⟩
 obtain⟨QB,q⟩:=qq M (by obtain⟨S,hS,e⟩:=dr.mp m1;exact⟨S,hS,e⟩) λS hS=>m2 _ (dr.mpr ⟨S,hS,rfl⟩)
 refine⟨_,rfl,_,rfl,(λz=>by cases z),by rw[cM];omega,λi acc=>acc=bp ((L.take i).filter λS=>decide ((S.length:Int)=M)),rfl,?_,?_⟩
 ·rintro i y acc hy rfl
  obtain⟨S,rfl,hS⟩:=oF hy
  have tk:=nA (p:=λS:af=>decide ((S.length:Int)=M)) hS;refine⟨_,rfl,_,_,rfl,rfl,_,rfl,.inl ⟨_,_,rfl,rfl,_,rfl,?_⟩⟩;show if decide (((ao S).length:Int)=M)=true then _ else _
  rw[bE];cases hm:decide ((S.length:Int)=M) with
  |true=>
   rw[hm]at tk;refine bP ⟨_,rfl,G7 _ (sV S),?_⟩;dsimp only;rw[tk];unfold bp;rw[gu];rfl
  |false=>
   rw[hm]at tk;refine bK ?_;dsimp only;rw[tk];simp
 rintro acc rfl;rw[cM,qr];by_cases h0:M=0
 ·have CH:(L.filter λS=>decide ((S.length:Int)=M)).length<2:=by
   have nd:=IG.filter λS=>decide ((S.length:Int)=M)
   have al:∀y∈L.filter (λS=>decide ((S.length:Int)=M)),y = []:=λy hy=>by
    have:=mw (cz.mp hy).2
    exact Fg (by omega)
   generalize L.filter (λS=>decide ((S.length:Int)=M))=F at nd al
   match F,nd,al with
   |[],_,_=>exact (by decide:0<2)
   |[_],_,_=>exact (by decide:1<2)
   |a::b::r,nd,al=>
    have e1:=al a dh;have e2:=al b (fu _ dh);rw[e1,e2]at nd;exact absurd dh (oy.mp nd).1
  refine .inr ⟨_,rfl,CH,trivial,q _ (Bc _) ?_⟩;generalize L.filter (λS=>decide ((S.length:Int)=M))=F at CH
  match F,CH with
  |[],_=>exact wq
  |[_],_=>exact ot _ _
  |_::_::_,h=>simp only[ie]at h;omega
 ·refine .inl ⟨_,rfl,QB,λy hy z=>?_,λZ pz so=>⟨trivial,q Z pz so⟩⟩
  have:=mw (cz.mp hy).2
  rw[z]at this;exact h0 this.symm
end Core
namespace K_k52
open PySem PySem.W L2 PP Core
theorem _root_.L2.bg.au {N P:List Str}{s:Scope}(a:s.kind=.function:=by rfl)(b:s.isCoroutine=false:=by rfl)(c:s.isGenerator=false:=by rfl)(d:N.Nodup:=by decide +kernel)(e:N.take P.length=P:=by rfl)(f:∀x∈P,s.names.lookup x=some .local∨s.names.lookup x=some .cell:=by decide +kernel)(g:∀y∈s.names,y.2≠.free:=by decide +kernel):bg N P s:=⟨a,b,c,d,e,f,g⟩
def b9 (i:Nat):Stmt:=PySem.Challenge.pw_kindleweb_k52_whole_woods_and_small_webs.main.body.getD i (.Pass ⟨0,0,0,0⟩)
structure FK (K:Frag)(n:Str)(i:Nat)(f:ax)(d:FuncData):Prop where
 a:nsIn K mainGlobals n=some (some (.ref f))
 F:gI K n n (b9 i) f d
structure FM (K:Frag)(mg:Str->Option av)(n:Str)(i:Nat)(f:ax)(d:FuncData):Prop where
 F:gI K n n (b9 i) f d
 m:mg n=some (.ref f)
theorem FK.M {K:Frag}{mg:Str->Option av}{n:Str}{i:Nat}{f:ax}{d:FuncData}{h:Heap}(z:FK K n i f d)(X:K.In h)(G:h.Ns mainGlobals mg):FM K mg n i f d:=⟨z.F,mg_of X G z.a⟩
abbrev Hb (x:Str)(ps:List Str)(i:Nat):Prop:=∀(kV doc pm:av) (an:Option ax) (cy ct:av) (us:List av),us.length=ps.length->bindArgs (fnOf x x (kR (b9 i)) (gC (b9 i)) (aZ (b9 i)) .none kV doc pm an cy ct) ⟨us,[]⟩=pure (ps.zip us)
theorem JH {A:az}{k:Nat}(hr:cW k A):A.units+3<cLine:=by have:=hr.units;omega
section
variable {P:ay}{w:ba}{K:Frag}{mg:Str→Option av}{base:Heap}{f:ax}{fd:FuncData}{k i:Nat}{x:Str}{ps N:List Str}
theorem Df.au {p:bV}(F:FM K mg x i f fd)(S:bg N ps (aZ (b9 i)))(body:∀(cy:av) (A:az) (outer:List Env) (s:aw) (H:Hp) (E:XK),cW k (A.deeper (PyProof.Rows.envOfC x (aZ (b9 i)) s.heap.objs.size f cy))->∃t,gN (eI eJ P w K mg base N x (aZ (b9 i)) f cy A outer s H E).Bo (gC (b9 i)) t/\∀xs Q,p xs Q->t { nx:=λ_=>Q .bw,rt:=Q } (iM N xs))(hb:Hb x ps i:=by intro _ _ _ _ _ _ us hl;first|(obtain⟨_,rfl⟩:=yj hl;rfl)|(obtain⟨_,_,rfl⟩:=Aq hl;rfl)|(obtain⟨_,_,_,rfl⟩:=G2 hl;rfl)|(obtain⟨_,_,_,_,rfl⟩:=PD hl;rfl)|(obtain⟨_,_,_,_,_,rfl⟩:=PB hl;rfl))(len:∀xs Q,p xs Q->xs.length=ps.length:=by intro xs Q h;repeat (first|(obtain⟨rfl,_⟩:=h;rfl)|(obtain⟨_,h⟩:=h))):Df P w K mg base (k+1) x ps p:=
 Df.of F.F F.m S hb len body
theorem bM.au {p:dX}(F:FM K mg x i f fd)(S:bg N ps (aZ (b9 i)))(t:(Str->Prop)->aO)(rd:∀Ep xs Q,p Ep xs Q->t Ep { nx:=λ_=>Q .bw,rt:=Q } (iM N xs))(body:∀(cy:av) (A:az) (outer:List Env) (s:aw) (H:Hp) (E:XK) (Ep:Str->Prop),cW k (A.deeper (PyProof.Rows.envOfC x (aZ (b9 i)) s.heap.objs.size f cy))->qD (eI (gZ P w) P w K mg base N x (aZ (b9 i)) f cy A outer s H E) (EX K H Ep)->gN (eI (gZ P w) P w K mg base N x (aZ (b9 i)) f cy A outer s H E) (gC (b9 i)) (t Ep))(hb:Hb x ps i:=by intro _ _ _ _ _ _ us hl;first|(obtain⟨_,rfl⟩:=yj hl;rfl)|(obtain⟨_,_,rfl⟩:=Aq hl;rfl)|(obtain⟨_,_,_,rfl⟩:=G2 hl;rfl)|(obtain⟨_,_,_,_,rfl⟩:=PD hl;rfl)|(obtain⟨_,_,_,_,_,rfl⟩:=PB hl;rfl))(len:∀Ep xs Q,p Ep xs Q->xs.length=ps.length:=by intro Ep xs Q h;repeat (first|(obtain⟨rfl,_⟩:=h;rfl)|(obtain⟨_,h⟩:=h))):bM P w K mg base (k+1) x ps p:=
 bM.of F.F F.m S hb t len rd body
end
section
variable {P:ay}{w:ba}{K:Frag}{mg:Str→Option av}{base:Heap}{f:ax}{fd:FuncData}
theorem BR:(["ahead","behind"]:List Str).Nodup:=by decide +kernel
abbrev JG:Stmt:=b9 7
theorem Qd:bg ["things"] ["things"] (aZ JG):=.au
theorem N6 {ns:af}{i:Nat}{x y:V}(h1:(ns.map V.int)[i]? = some x)(h2:((ns.map V.int).drop 1)[i]? = some y):∃p q:Int,x = .int p/\y = .int q/\(ns.zip (ns.drop 1))[i]? = some (p,q):=by
 rw[gf]at h1;rw[<- List.map_drop,gf]at h2;cases e1:ns[i]? with
 |none=>rw[e1]at h1;cases h1
 |some p=>
  cases e2:(ns.drop 1)[i]? with
  |none=>rw[e2]at h2;cases h2
  |some q=>
   rw[e1]at h1;rw[e2]at h2
   exact⟨p,q,(jr h1).symm,(jr h2).symm,List.getElem?_zip_eq_some.mpr ⟨e1,e2⟩⟩
theorem RW (B:Bt mg)(F:gI K "rises" "rises" JG f fd):dW P w K mg base eJ 1 f fd ["things"] (Ny K):=by
 refine F.ok Qd (λvs H Q E h=>?_) (λcy A outer s H vs Q E hr h=>?_)
 ·obtain⟨a,ns,rfl,_⟩:=h
  rfl
 obtain⟨a,ns,rfl,hS,hn,q⟩:=h
 have lz:((ns.map V.int).drop 1).length<=sizeLine:=uv (iS (by rw[BE,df];omega));have Gs:((ns.map V.int).drop 1).length<=(ns.map V.int).length:=by rw[BE];omega
 have Gr:(ns.zip (ns.drop 1)).length=((ns.map V.int).drop 1).length:=by rw[List.length_zip,BE,BE,df];omega
 rcases hS with hS|hS
 ·refine⟨_,lI (oZ (yT (A4 rfl) rfl B.all PyProof.Rows.boot_all (dH (Y1 (N:=["ahead","behind"]) (fr:=[none,none]) rfl (cX.of rfl rfl) (aO5 rfl B.zip (dH (pv 0) (dH (yX OM (pv 0) (yW nN) yV) eG)))
   ⟨λ_ _ _ _=>show PG _ _ (lK K 2 (gG (cZ 0) (gG (cZ 1) lJ))) from p6 rfl (jG (gF (i:=0) BR rfl (Or.inl rfl) (.inr rfl)) (jG (gF (i:=1) BR rfl (Or.inl rfl) (.inr rfl)) p5)),λ_ _ _ _=>rP,λ_ _ _ _=>yM tW (pv 0) (pv 1) (i3 _)⟩) eG))),?_⟩
  refine⟨_,rfl,_,rfl,1,rfl,a,_,rfl,hS,λp hp=>?_,λe=>?_⟩
  ·have s1:=bL hp (.tup (gH (ns.map V.int) (some 1) none))
   have hb:aW K (upd H p (.tup (gH (ns.map V.int) (some 1) none))) p ((ns.map V.int).drop 1):=aW.of (by rw[bA,A7]);refine⟨a,p,_,_,rfl,s1.tup hS,hb,A6 (ON (s1.tup hS) hb Gs) (λi acc _=>acc=((ns.zip (ns.drop 1)).take i).map λ(p:Int×Int)=>V.bl (decide (p.1<p.2))) lz (λ_ _=>rfl) (λ_ _ _ _ _ h=>h) (λi x acc D H' hi hR c hP=>?_) (λD acc H' hD sm uo aj hP=>?_)⟩
   ·obtain⟨T,x1,y1,rfl,hT,h1,h2⟩:=hR
    obtain⟨m,k,rfl,rfl,hz⟩:=N6 h1 h2
    refine⟨T,_,rfl,aW.of hT,rfl,_,_,rfl,_,_,rfl,rfl,((Wk.refl _).set (i:=0) rfl).set (i:=1) rfl,rU ⟨_,rfl,_,rfl,_,_,rfl,rfl,c.yes (aE.refl _) ?_⟩⟩;rw[vR hz,hP]
   ·refine⟨D,(ns.zip (ns.drop 1)).map λ(p:Int×Int)=>decide (p.1<p.2),rfl,aM.of ?_,q _ (s1.trans sm)⟩
    rw[uo,hP,<- Gr,qr,kq];rfl
  ·have hb:aW K H a ((ns.map V.int).drop 1):=by
    have:(ns.map V.int).drop 1=ns.map V.int:=by rw[<- A7];exact e
    rw[this];exact hS
   refine⟨a,a,_,_,rfl,hS,hb,A6 (ON hS hb Gs) (λi acc _=>acc=((ns.zip (ns.drop 1)).take i).map λ(p:Int×Int)=>V.bl (decide (p.1<p.2))) lz (λ_ _=>rfl) (λ_ _ _ _ _ h=>h) (λi x acc D H' hi hR c hP=>?_) (λD acc H' hD sm uo aj hP=>?_)⟩
   ·obtain⟨T,x1,y1,rfl,hT,h1,h2⟩:=hR
    obtain⟨m,k,rfl,rfl,hz⟩:=N6 h1 h2
    refine⟨T,_,rfl,aW.of hT,rfl,_,_,rfl,_,_,rfl,rfl,((Wk.refl _).set (i:=0) rfl).set (i:=1) rfl,rU ⟨_,rfl,_,rfl,_,_,rfl,rfl,c.yes (aE.refl _) ?_⟩⟩;rw[vR hz,hP]
   ·refine⟨D,(ns.zip (ns.drop 1)).map λ(p:Int×Int)=>decide (p.1<p.2),rfl,aM.of ?_,q _ sm⟩
    rw[uo,hP,<- Gr,qr,kq];rfl
 ·refine⟨_,lI (oZ (yT (A4 rfl) rfl B.all PyProof.Rows.boot_all (dH (Y1 (N:=["ahead","behind"]) (fr:=[none,none]) rfl (cX.of rfl rfl) (aP1 rfl B.zip (dH (pv 0) (dH (yX U1 (pv 0) (yW nN) yV) eG)))
   ⟨λ_ _ _ _=>show PG _ _ (lK K 2 (gG (cZ 0) (gG (cZ 1) lJ))) from p6 rfl (jG (gF (i:=0) BR rfl (Or.inl rfl) (.inr rfl)) (jG (gF (i:=1) BR rfl (Or.inl rfl) (.inr rfl)) p5)),λ_ _ _ _=>rP,λ_ _ _ _=>yM tW (pv 0) (pv 1) (i3 _)⟩) eG))),?_⟩
  refine⟨_,rfl,_,rfl,1,rfl,a,_,rfl,hS,λp hp=>?_⟩;have s1:=bL hp (.lst (gH (ns.map V.int) (some 1) none));have hb:aM K (upd H p (.lst (gH (ns.map V.int) (some 1) none))) p ((ns.map V.int).drop 1):=aM.of (by rw[bA,A7]);refine⟨a,p,_,_,rfl,s1.seq hS,hb,A6 (aP2 (s1.seq hS) hb Gs) (λi acc _=>acc=((ns.zip (ns.drop 1)).take i).map λ(p:Int×Int)=>V.bl (decide (p.1<p.2))) lz (λ_ _=>rfl) (λ_ _ _ _ _ h=>h) (λi x acc D H' hi hR c hP=>?_) (λD acc H' hD sm uo aj hP=>?_)⟩
  ·obtain⟨T,x1,y1,rfl,hT,h1,h2⟩:=hR
   obtain⟨m,k,rfl,rfl,hz⟩:=N6 h1 h2
   refine⟨T,_,rfl,aW.of hT,rfl,_,_,rfl,_,_,rfl,rfl,((Wk.refl _).set (i:=0) rfl).set (i:=1) rfl,rU ⟨_,rfl,_,rfl,_,_,rfl,rfl,c.yes (aE.refl _) ?_⟩⟩;rw[vR hz,hP]
  ·refine⟨D,(ns.zip (ns.drop 1)).map λ(p:Int×Int)=>decide (p.1<p.2),rfl,aM.of ?_,q _ (s1.trans sm)⟩
   rw[uo,hP,<- Gr,qr,kq];rfl
abbrev JF:Stmt:=b9 9
theorem xV:bg ["web","around","one","other"] ["web"] (aZ JF):=.au
theorem RV (F:gI K "near_lists" "near_lists" JF f fd):dW P w K mg base eJ 1 f fd ["web"] w4:=by
 refine F.ok xV (λvs H Q E h=>?_) (λcy A outer s H vs Q E hr h=>?_)
 ·obtain⟨v,ws,ls,rfl,_⟩:=h
  rfl
 obtain⟨v,ws,ls,rfl,W,hn,hm,yw,q⟩:=h
 refine⟨_,nO (Y2 (i:=1) (N:=["want"]) (fr:=[none]) rfl (cX.of rfl rfl) (tQ (lN rL (pv 0) nN (λ_ _=>rfl)))
   ⟨λ_ _ _ _=>gF (i:=0) (ot _ _) rfl (Or.inl rfl) (.inr rfl),λ_ _ _ _=>rP,λ_ _ _ _=>yQ eG⟩ xV.nd rfl rfl rfl)
  (nO (tT Di rfl (tQ (lN rL (pv 0) nN (λ_ _=>rfl))) (p6 (n:=2) rfl (jG (gF (i:=2) xV.nd rfl (Or.inl rfl) (.inr rfl)) (jG (gF (i:=3) xV.nd rfl (Or.inl rfl) (.inr rfl)) p5)) )
   (nO (mF (nQ Cj Ff Fe pC (lN rK (pv 1) (pv 2) (λ_ _=>rfl)) (dH (pv 3) eG)))
   (lI (mF (nQ Cj Ff Fe pC (lN rK (pv 1) (pv 3) (λ_ _=>rfl)) (dH (pv 2) eG))))))
  (lI (oZ (pv 1)))),?_⟩
 obtain⟨a,p,q',ys,rfl,ha,hp,hq,hL⟩:=W.at_
 have lw:(ws.map V.int).length=ws.length:=df _
 refine⟨_,rfl,a,_,_,_,rfl,rfl,aW.of ha,rfl,p,rfl,⟨_,aW.of hp⟩,Y6 (Y4 (aW.of hp)) (λi acc H'=>∃bs:List ax,acc=bs.map V.ref/\bs.length=i/\bs.Nodup/\∀b∈bs,H b=none/\H' b=some (.lst [])) (by rw[lw];exact uv (rO hn))
  (λD hD=>⟨[],rfl,rfl,List.nodup_nil,λ_ z=>nomatch z⟩) (λi x acc D H' hx c CY=>?_) (λD acc H' hD sm uo aj CY=>?_)⟩
 ·obtain⟨bs,rfl,Bp,nd,hb⟩:=CY
  refine⟨Ih (n:=none),rU ⟨ng _,λr xx=>?_⟩⟩;have GS:r≠D:=λz=>by rw[z,c.acc]at xx;cases xx
  have GR:H r=none:=c.same.free xx;refine c.yes (bL xx _) ⟨bs++[r],by simp,by simp[Bp],?_,λb hm=>?_⟩
  ·refine xj.mpr ⟨nd,ot _ _,λb EJ b' DM e=>?_⟩
   rw[dt.mp DM]at e;rw[e]at EJ;rw[(hb r EJ).2]at xx;cases xx
  ·rcases fi.mp hm with hm|hm
   ·have Hu:b≠D:=λz=>by
     rw[z]at hm
     have:=(hb D hm).2
     rw[c.acc]at this
     have:bs.map V.ref = []:=by injection this with e1;injection e1
     have:bs = []:=DU.mp this
     rw[this]at hm;simp at hm
    refine⟨(hb b hm).1,?_⟩;rw[aK Hu,aK (dR (hb b hm).2 xx)];exact (hb b hm).2
   ·rw[dt.mp hm]
    exact⟨GR,by rw[aK GS,bA]⟩
 ·obtain⟨bs,rfl,Bp,nd,hb⟩:=CY
  rw[lw]at Bp;have R0:k7 H H' D bs (λk=>aF (ls.take 0) k):=by
   refine⟨hD,λb hm=>⟨(hb b hm).1,λz=>?_⟩,nd,uo,λk b hk=>(hb b (fm hk)).2,sm⟩;rw[z]at hm
   have:=(hb D hm).2
   rw[uo]at this
   have:bs.map V.ref = []:=by injection this with e1;injection e1
   have:bs = []:=DU.mp this
   rw[this]at hm;simp at hm
  have lL:=hL.length
  refine⟨_,rfl,a,_,_,_,rfl,rfl,aW.of (sm _ _ ha),rfl,q',rfl,⟨_,aW.of (sm _ _ hq)⟩,Q3 (K:=K) (a:=q') (xs:=ys) (λi σ H2=>∃x y:Option V,σ = [some (.ref a),some (.ref D),x,y]/\k7 H H2 D bs (λk=>aF (ls.take i) k))
   ⟨none,none,rfl,R0⟩ (λi σ H2 _ ⟨_,_,_,R⟩=>aW.of (R.same _ _ hq)) ?_ ?_⟩
  ·rintro i y σ H2 hi ⟨x1,x2,rfl,R⟩
   obtain⟨l,b,hl,rfl,Hr⟩:=hL.get hi
   have DJ:l∈ls:=fm hl
   obtain⟨⟨h1,h2⟩,h3,h4⟩:=yw l DJ
   have k1:l.1.toNat<bs.length:=by omega
   have k2:l.2.toNat<bs.length:=by omega
   have e1:bs[l.1.toNat]? = some (bs[l.1.toNat]):=gs k1;have e2:bs[l.2.toNat]? = some (bs[l.2.toNat]):=gs k2;refine⟨b,_,rfl,aW.of (R.same _ _ Hr),rfl,_,_,rfl,_,_,rfl,rfl,?_⟩;refine⟨_,rfl,_,rfl,D,_,_,.ref bs[l.1.toNat],rfl,rfl,aM.of R.row,nZ h1 (by rw[gf,e1];rfl),mO (aM.of (R.rows _ _ e1)),_,rfl,_,_,_,rfl,rfl,R.rows _ _ e1,?_,?_⟩
   ·rw[df]
    have:=rT (ls.take i) (l.1.toNat:Nat)
    rw[xi]at this;exact iS (by omega)
   ·have R1:=R.app e1 l.2
    refine⟨_,rfl,_,rfl,D,_,_,.ref bs[l.2.toNat],rfl,rfl,aM.of R1.row,nZ h3 (by rw[gf,e2];rfl),mO (aM.of (R1.rows _ _ e2)),_,rfl,_,_,_,rfl,rfl,R1.rows _ _ e2,?_,?_⟩
    ·rw[df]
     have:=rT (ls.take i) (l.2.toNat:Nat)
     rw[xi]at this;split
     ·rw[jg,uy];exact iS (by omega)
     ·exact iS (by omega)
    ·have R2:=R1.app e2 l.1
     refine⟨_,_,rfl,R2.congr λk hk=>?_⟩;rw[OP hl];have c1:(k=l.1.toNat)↔l.1=(k:Int):=by omega
     have c2:(k=l.2.toNat)↔l.2=(k:Int):=by omega
     by_cases d1:k=l.1.toNat
     ·by_cases d2:k=l.2.toNat
      ·rw[if_pos d2,if_pos d1,if_pos (c1.mp d1),if_pos (c2.mp d2)];simp
      ·rw[if_neg d2,if_pos d1,if_pos (c1.mp d1),if_neg (λz=>d2 (c2.mpr z))];simp
     ·by_cases d2:k=l.2.toNat
      ·rw[if_pos d2,if_neg d1,if_neg (λz=>d1 (c1.mpr z)),if_pos (c2.mp d2)];simp
      ·rw[if_neg d2,if_neg d1,if_neg (λz=>d1 (c1.mpr z)),if_neg (λz=>d2 (c2.mpr z))];simp
  ·
   rintro σ H2 ⟨x1,x2,rfl,R⟩;refine⟨_,rfl,q D bs H2 Bp ?_⟩;rw[lL,qr]at R;exact R
abbrev JE:Stmt:=b9 57
theorem xW:bg ["web","beside","one","other"] ["web"] (aZ JE):=.au
theorem RU (F:gI K "_law_beside" "_law_beside" JE f fd):dW P w K mg base eJ 1 f fd ["web"] w4:=by
 refine F.ok xW (λvs H Q E h=>?_) (λcy A outer s H vs Q E hr h=>?_)
 ·obtain⟨v,ws,ls,rfl,_⟩:=h
  rfl
 obtain⟨v,ws,ls,rfl,W,hn,hm,yw,q⟩:=h
 refine⟨_,nO (Y2 (i:=1) (N:=["hearth"]) (fr:=[none]) rfl (cX.of rfl rfl) (tQ (lN rL (pv 0) nN (λ_ _=>rfl)))
   ⟨λ_ _ _ _=>gF (i:=0) (ot _ _) rfl (Or.inl rfl) (.inr rfl),λ_ _ _ _=>rP,λ_ _ _ _=>yQ eG⟩ xW.nd rfl rfl rfl)
  (nO (tT Di rfl (tQ (lN rL (pv 0) nN (λ_ _=>rfl))) (p6 (n:=2) rfl (jG (gF (i:=2) xW.nd rfl (Or.inl rfl) (.inr rfl)) (jG (gF (i:=3) xW.nd rfl (Or.inl rfl) (.inr rfl)) p5)) )
   (nO (mF (nQ Cj Ff Fe pC (lN rK (pv 1) (pv 2) (λ_ _=>rfl)) (dH (pv 3) eG)))
   (lI (mF (nQ Cj Ff Fe pC (lN rK (pv 1) (pv 3) (λ_ _=>rfl)) (dH (pv 2) eG))))))
  (lI (oZ (pv 1)))),?_⟩
 obtain⟨a,p,q',ys,rfl,ha,hp,hq,hL⟩:=W.at_
 have lw:(ws.map V.int).length=ws.length:=df _
 refine⟨_,rfl,a,_,_,_,rfl,rfl,aW.of ha,rfl,p,rfl,⟨_,aW.of hp⟩,Y6 (Y4 (aW.of hp)) (λi acc H'=>∃bs:List ax,acc=bs.map V.ref/\bs.length=i/\bs.Nodup/\∀b∈bs,H b=none/\H' b=some (.lst [])) (by rw[lw];exact uv (rO hn))
  (λD hD=>⟨[],rfl,rfl,List.nodup_nil,λ_ z=>nomatch z⟩) (λi x acc D H' hx c CY=>?_) (λD acc H' hD sm uo aj CY=>?_)⟩
 ·obtain⟨bs,rfl,Bp,nd,hb⟩:=CY
  refine⟨Ih (n:=none),rU ⟨ng _,λr xx=>?_⟩⟩;have GS:r≠D:=λz=>by rw[z,c.acc]at xx;cases xx
  have GR:H r=none:=c.same.free xx;refine c.yes (bL xx _) ⟨bs++[r],by simp,by simp[Bp],?_,λb hm=>?_⟩
  ·refine xj.mpr ⟨nd,ot _ _,λb EJ b' DM e=>?_⟩
   rw[dt.mp DM]at e;rw[e]at EJ;rw[(hb r EJ).2]at xx;cases xx
  ·rcases fi.mp hm with hm|hm
   ·have Hu:b≠D:=λz=>by
     rw[z]at hm
     have:=(hb D hm).2
     rw[c.acc]at this
     have:bs.map V.ref = []:=by injection this with e1;injection e1
     have:bs = []:=DU.mp this
     rw[this]at hm;simp at hm
    refine⟨(hb b hm).1,?_⟩;rw[aK Hu,aK (dR (hb b hm).2 xx)];exact (hb b hm).2
   ·rw[dt.mp hm]
    exact⟨GR,by rw[aK GS,bA]⟩
 ·obtain⟨bs,rfl,Bp,nd,hb⟩:=CY
  rw[lw]at Bp;have R0:k7 H H' D bs (λk=>aF (ls.take 0) k):=by
   refine⟨hD,λb hm=>⟨(hb b hm).1,λz=>?_⟩,nd,uo,λk b hk=>(hb b (fm hk)).2,sm⟩;rw[z]at hm
   have:=(hb D hm).2
   rw[uo]at this
   have:bs.map V.ref = []:=by injection this with e1;injection e1
   have:bs = []:=DU.mp this
   rw[this]at hm;simp at hm
  have lL:=hL.length
  refine⟨_,rfl,a,_,_,_,rfl,rfl,aW.of (sm _ _ ha),rfl,q',rfl,⟨_,aW.of (sm _ _ hq)⟩,Q3 (K:=K) (a:=q') (xs:=ys) (λi σ H2=>∃x y:Option V,σ = [some (.ref a),some (.ref D),x,y]/\k7 H H2 D bs (λk=>aF (ls.take i) k))
   ⟨none,none,rfl,R0⟩ (λi σ H2 _ ⟨_,_,_,R⟩=>aW.of (R.same _ _ hq)) ?_ ?_⟩
  ·rintro i y σ H2 hi ⟨x1,x2,rfl,R⟩
   obtain⟨l,b,hl,rfl,Hr⟩:=hL.get hi
   have DJ:l∈ls:=fm hl
   obtain⟨⟨h1,h2⟩,h3,h4⟩:=yw l DJ
   have k1:l.1.toNat<bs.length:=by omega
   have k2:l.2.toNat<bs.length:=by omega
   have e1:bs[l.1.toNat]? = some (bs[l.1.toNat]):=gs k1;have e2:bs[l.2.toNat]? = some (bs[l.2.toNat]):=gs k2;refine⟨b,_,rfl,aW.of (R.same _ _ Hr),rfl,_,_,rfl,_,_,rfl,rfl,?_⟩;refine⟨_,rfl,_,rfl,D,_,_,.ref bs[l.1.toNat],rfl,rfl,aM.of R.row,nZ h1 (by rw[gf,e1];rfl),mO (aM.of (R.rows _ _ e1)),_,rfl,_,_,_,rfl,rfl,R.rows _ _ e1,?_,?_⟩
   ·rw[df]
    have:=rT (ls.take i) (l.1.toNat:Nat)
    rw[xi]at this;exact iS (by omega)
   ·have R1:=R.app e1 l.2
    refine⟨_,rfl,_,rfl,D,_,_,.ref bs[l.2.toNat],rfl,rfl,aM.of R1.row,nZ h3 (by rw[gf,e2];rfl),mO (aM.of (R1.rows _ _ e2)),_,rfl,_,_,_,rfl,rfl,R1.rows _ _ e2,?_,?_⟩
    ·rw[df]
     have:=rT (ls.take i) (l.2.toNat:Nat)
     rw[xi]at this;split
     ·rw[jg,uy];exact iS (by omega)
     ·exact iS (by omega)
    ·have R2:=R1.app e2 l.1
     refine⟨_,_,rfl,R2.congr λk hk=>?_⟩;rw[OP hl];have c1:(k=l.1.toNat)↔l.1=(k:Int):=by omega
     have c2:(k=l.2.toNat)↔l.2=(k:Int):=by omega
     by_cases d1:k=l.1.toNat
     ·by_cases d2:k=l.2.toNat
      ·rw[if_pos d2,if_pos d1,if_pos (c1.mp d1),if_pos (c2.mp d2)];simp
      ·rw[if_neg d2,if_pos d1,if_pos (c1.mp d1),if_neg (λz=>d2 (c2.mpr z))];simp
     ·by_cases d2:k=l.2.toNat
      ·rw[if_pos d2,if_neg d1,if_neg (λz=>d1 (c1.mpr z)),if_pos (c2.mp d2)];simp
      ·rw[if_neg d2,if_neg d1,if_neg (λz=>d1 (c1.mpr z)),if_neg (λz=>d2 (c2.mpr z))];simp
  ·
   rintro σ H2 ⟨x1,x2,rfl,R⟩;refine⟨_,rfl,q D bs H2 Bp ?_⟩;rw[lL,qr]at R;exact R
theorem RT:bg ["web"] ["web"] (aZ (b9 8)):=.au
theorem RS (B:Bt mg)(F:FM K mg "hearths_in" 8 f fd) :Df P w K mg base 1 "hearths_in" ["web"] gR:=
 Df.au F RT (λcy A outer s H E hr=>by
  exact⟨(NR),(aX (c6 (cL B (a7 (bJ (qv 0) aT) aA)))),Zh⟩)
theorem JD:bg ["hearths","chosen","hearth"] ["hearths"] (aZ (b9 13)):=.au
theorem RR (B:Bt mg)(F:FM K mg "sets_among" 13 f fd) :Df P w K mg base 1 "sets_among" ["hearths"] wL:=
 Df.au F JD (λcy A outer s H E hr=>by
  have nd:=JD.nd
  exact⟨(Mz),(aJ (bD (i:=1) nd (fY (a7 (iO aA) aA)))
   (aJ (j3 2 nd (cT (qv 0))
    (aX (bD (i:=1) nd (YL (qv 1) (mX (N:=["some","hearth"]) (fr:=[none,some 2]) (cT (qv 1)) (λ_ _ _ _=>(Xq (qv 0) (iO (a7 (qv 1) aA)))))))))
   (aX (oC 1)))),Wr⟩)
theorem JC:bg ["hearths","inside","hearth"] ["hearths"] (aZ (b9 14)):=.au
theorem RQ (B:Bt mg)(F:FM K mg "marked" 14 f fd) :Df P w K mg base 1 "marked" ["hearths"] kU:=
 Df.au F JC (λcy A outer s H E hr=>by
  have nd:=JC.nd;have hu:=lQ hr
  exact⟨(NK),(aJ (fP (i:=1) nd C9)
   (aJ (j3 2 nd (cT (qv 0))
    (aX (vJ hu (i:=1) (qv 2) sI)))
   (aX (oC 1)))),Za⟩)
theorem RP:bg ["hearths","inside"] ["hearths","inside"] (aZ (b9 15)):=.au
theorem RO (B:Bt mg)(F:FM K mg "count_inside" 15 f fd) :Df P w K mg base 1 "count_inside" ["hearths","inside"] vW:=
 Df.au F RP (λcy A outer s H E hr=>by
  have hu:=lQ hr
  exact⟨(NJ),(aX (c6 (cL B (a7 (mY (N:=["hearth","inside"]) (fr:=[none,some 1]) (cT (qv 0)) (λ_ _ _ _=>(Oe hu (qv 0) (qv 1))) (λ_ _ _ _=>(qv 0))) aA)))),YZ⟩)
theorem RN:bg ["around","hearth","elder"] ["around","hearth","elder"] (aZ (b9 28)):=.au
theorem RM (B:Bt mg)(F:FM K mg "children_of" 28 f fd) :Df P w K mg base 1 "children_of" ["around","hearth","elder"] lC:=
 Df.au F RN (λcy A outer s H E hr=>by
  exact⟨(Lz),(aX (c6 (mY (N:=["other","elder"]) (fr:=[none,some 2]) (cT (bJ (qv 0) (qv 1))) (λ_ _ _ _=>(Wd (qv 0) (qv 1))) (λ_ _ _ _=>(qv 0))))),UL⟩)
theorem YF:bg ["holds","place","some"] ["holds","place","some"] (aZ (b9 35)):=.au
theorem YE (B:Bt mg)(F:FM K mg "holds_without_one" 35 f fd) :Df P w K mg base 1 "holds_without_one" ["holds","place","some"] qL:=
 Df.au F YF (λcy A outer s H E hr=>by
  exact⟨(My),(aX (c6 (MR B rfl (a7 (mX (N:=["hearth","holds","place"]) (fr:=[none,some 0,some 1]) (cT (qv 2)) (λ_ _ _ _=>(bJ (qv 1) (iZ (qv 2) (ZH aT (qv 0)))))) aA)))),Wq⟩)
theorem YD:bg ["prices","many"] ["prices","many"] (aZ (b9 37)):=.au
theorem YC (B:Bt mg)(F:FM K mg "made_prices" 37 f fd)(jh:Xc K mg base "BadPrices"):bM P w K mg base 1 "made_prices" ["prices","many"] wU:=
 bM.au F YD LW Vr (λcy A outer s H E Ep hr hX=>by
  exact (aJ (eM (C6 (cL B (a7 (qv 0) aA)) (qv 1)) (aX (t7 hX jh (a7 sK aA))) fD)
   (aJ (eM (vC (MR B rfl (a7 (mX (N:=["price"]) (fr:=[none]) (cT (qv 0)) (λ_ _ _ _=>(Oh (qv 0) aT))) aA))) (aX (t7 hX jh (a7 sK aA))) fD)
   (aX (c6 (jQ B (a7 (qv 0) aA)))))))
theorem YB:bg ["most","free","blocks"] ["most","free","blocks"] (aZ (b9 44)):=.au
theorem YA (B:Bt mg)(F:FM K mg "keep_longer" 44 f fd):r6 P w K mg base 1 "keep_longer" ["most","free","blocks"]:=
 r6.of F.F F.m YB (λ_ _ _ _ _ _ us hl=>by obtain⟨_,_,_,rfl⟩:=G2 hl;rfl) (λcy A outer s H E hr=>by
  have hu:=lQ hr
  exact lI (P4 (oB (C7 (sM hu (qv 1) (qv 0)) (Od (vB (cL B (a7 (qv 2) aA)) (cL B (a7 (vG hu (qv 0) (qv 1)) aA)))))) (lI (W0 hu (pv 0) (pv 1) (pv 2) rfl)) P3))
theorem Yz:bg ["want"] ["want"] (aZ (b9 48)):=.au
theorem Yy (B:Bt mg)(F:FM K mg "one_less" 48 f fd) :Df P w K mg base 1 "one_less" ["want"] qW:=
 Df.au F Yz (λcy A outer s H E hr=>by
  exact⟨(KR),(aX (c6 (vL B rfl (a7 aT (a7 (iZ (qv 0) aT) aA))))),Um⟩)
theorem JB:bg ["want","price","below","gaps","dearer"] ["want","price","below"] (aZ (b9 49)):=.au
theorem Yx (B:Bt mg)(F:FM K mg "most_for" 49 f fd) :Df P w K mg base 1 "most_for" ["want","price","below"] tJ:=
 Df.au F JB (λcy A outer s H E hr=>by
  have nd:=JB.nd
  exact⟨(KQ),(aJ (bD (i:=3) nd (E2 B (a7 (sZ (N:=["a","b"]) (fr:=[none,none]) (cT (qv 2)) (λ_ _ _ _=>(iZ (qv 1) (qv 0)))) aA)))
   (aJ (bD (i:=4) nd (qv 1))
   (aJ (eM (Og (cL B (a7 (qv 3) aA)) (qv 0)) (aX (bD (i:=4) nd (vK B rfl (a7 (qv 1) (a7 (wE B rfl (a7 (vM (qv 3) E4 (sQ (qv 0))) aA)) aA))))) fD)
   (aX (c6 (gP (wE B rfl (a7 (sZ (N:=["a","b"]) (fr:=[none,none]) (cT (qv 2)) (λ_ _ _ _=>(qv 0))) aA)) (qv 4))))))),Ul⟩)
theorem Yw:bg ["script","k"] ["script","k"] (aZ (b9 52)):=.au
theorem Yv (B:Bt mg)(F:FM K mg "_law_cell_at" 52 f fd) :Df P w K mg base 1 "_law_cell_at" ["script","k"] jS:=
 Df.au F Yw (λcy A outer s H E hr=>by
  exact⟨(NH),(aJ (eM (vA (qv 1) (cL B (a7 (qv 0) aA))) (aX (c6 (bJ (qv 0) (qv 1)))) fD)
   (aX (c6 aT))),YX⟩)
theorem JA:bg ["number","k","turn"] ["number","k"] (aZ (b9 53)):=.au
theorem Yu (B:Bt mg)(F:FM K mg "_law_mixed" 53 f fd) :Df P w K mg base 1 "_law_mixed" ["number","k"] oR:=
 Df.au F JA (λcy A outer s H E hr=>by
  have nd:=JA.nd
  exact⟨(Mp),(aJ (bD (i:=2) nd (gY (gP (gP (gP (gY (qv 0) aT) (sL (sL aT (qv 1)) (qv 1))) (sL aT (qv 1))) aT) aT))
   (aJ (bD (i:=2) nd (gY (sL (qv 2) aT) aT))
   (aX (c6 (gY (sL (qv 2) (qv 2)) aT))))),VS⟩)
theorem Yt:bg ["web","number"] ["web","number"] (aZ (b9 10)):=.au
theorem Ys (B:Bt mg)(F:FM K mg "is_hearth" 10 f fd)(bx:Df P w K mg base 1 "hearths_in" ["web"] gR):Df P w K mg base 2 "is_hearth" ["web","number"] vT:=
 Df.au F Yt (λcy A outer s H E hr=>by
  exact⟨(NQ),(aX (c6 (C8 (ZG (qv 1) aT) (vE (Oh (qv 1) (bC bx hr (a7 (qv 0) aA))))))),Zg⟩)
theorem Yr:bg ["hearths","inside"] ["hearths","inside"] (aZ (b9 16)):=.au
theorem Yq (B:Bt mg)(F:FM K mg "count_outside" 16 f fd)(qa:Df P w K mg base 1 "count_inside" ["hearths","inside"] vW):Df P w K mg base 2 "count_outside" ["hearths","inside"] qF:=
 Df.au F Yr (λcy A outer s H E hr=>by
  exact⟨(Nf),(aX (c6 (iZ (cL B (a7 (qv 0) aA)) (bC qa hr (a7 (qv 0) (a7 (qv 1) aA)))))),Xl⟩)
theorem Jz:bg ["hearths","some","gone"] ["hearths","some"] (aZ (b9 17)):=.au
theorem Yp (B:Bt mg)(F:FM K mg "without" 17 f fd)(je:Df P w K mg base 1 "marked" ["hearths"] kU):Df P w K mg base 2 "without" ["hearths","some"] m6:=
 Df.au F Jz (λcy A outer s H E hr=>by
  have nd:=Jz.nd;have hu:=lQ hr
  exact⟨(Nd),(aJ (bD (i:=2) nd (bC je hr (a7 (qv 1) aA)))
   (aX (c6 (jQ B (a7 (mY (N:=["hearth","gone"]) (fr:=[none,some 2]) (cT (qv 0)) (λ_ _ _ _=>(sM hu (qv 0) (qv 1))) (λ_ _ _ _=>(qv 0))) aA))))),Xk⟩)
theorem Jy:bg ["around","hearths","inside","reached","waiting","hearth","other"] ["around","hearths"] (aZ (b9 23)):=.au
theorem Yo (B:Bt mg)(F:FM K mg "first_piece" 23 f fd)(je:Df P w K mg base 1 "marked" ["hearths"] kU):Df P w K mg base 2 "first_piece" ["around","hearths"] wK:=
 Df.au F Jy (λcy A outer s H E hr=>by
  have nd:=Jy.nd;have hu:=lQ hr
  exact⟨(ME),(aJ (bD (i:=2) nd (bC je hr (a7 (qv 1) aA)))
   (aJ (fP (i:=3) nd (Wz (bJ (qv 1) aT)))
   (aJ (fP (i:=4) nd (fY (a7 (bJ (qv 1) aT) aA)))
   (aJ (vI Di (qA (qv 4))
    (aJ (Wy nd 4 5)
    (aX (j3 6 nd (cT (bJ (qv 0) (qv 5)))
     (aX (eM (oB (sO (Oe hu (qv 6) (qv 2)) (sN (sM hu (qv 6) (qv 3))))) (aJ (vJ hu (i:=3) (qv 6) sI)
      (aX (lW 4 (qv 6)))) fD))))))
   (aX (c6 (jQ B (a7 (WU B rfl (a7 (qv 3) aA)) aA)))))))),Wu⟩)
theorem Yn:bg ["web"] ["web"] (aZ (b9 33)):=.au
theorem Ym (B:Bt mg)(F:FM K mg "searched_sets" 33 f fd)(bx:Df P w K mg base 1 "hearths_in" ["web"] gR)(ur:Df P w K mg base 1 "sets_among" ["hearths"] wL)(nr:Xc K mg base "TooMany"){ig:Nat}(iq:mg "MOST_SEARCHED" = some (.int 12 ig)):bM P w K mg base 2 "searched_sets" ["web"] qM:=
 bM.au F Yn Mx Wo (λcy A outer s H E Ep hr hX=>by
  exact (aJ (eM (vB (bC bx hr (a7 (qv 0) aA)) (Xs rfl iq)) (aX (t7 hX nr (a7 sK aA))) fD)
   (aX (c6 (bC ur hr (a7 (F1 B (bC bx hr (a7 (qv 0) aA))) aA))))))
theorem Yl:bg ["want","price","below"] ["want","price","below"] (aZ (b9 47)):=.au
theorem Yk (B:Bt mg)(F:FM K mg "most_pair" 47 f fd)(pj:Df P w K mg base 1 "most_for" ["want","price","below"] tJ)(lh:Df P w K mg base 1 "one_less" ["want"] qW):Df P w K mg base 2 "most_pair" ["want","price","below"] xE:=
 Df.au F Yl (λcy A outer s H E hr=>by
  exact⟨(KO),(aX (c6 (iO (a7 (bC pj hr (a7 (bC lh hr (a7 (qv 0) aA)) (a7 (qv 1) (a7 (qv 2) aA)))) (a7 (bC pj hr (a7 (qv 0) (a7 (qv 1) (a7 (qv 2) aA)))) aA))))),Uk⟩)
theorem Jx:bg ["script","most","number"] ["script","most"] (aZ (b9 54)):=.au
theorem Yj (B:Bt mg)(F:FM K mg "_law_hearths" 54 f fd)(cw:Df P w K mg base 1 "_law_cell_at" ["script","k"] jS):Df P w K mg base 2 "_law_hearths" ["script","most"] wO:=
 Df.au F Jx (λcy A outer s H E hr=>by
  have nd:=Jx.nd
  exact⟨(Mo),(aJ (bD (i:=2) nd (bC cw hr (a7 (qv 0) (a7 aT aA))))
   (aJ (eM (mW (gY (qv 2) aT) aT) (aX (c6 (vK B rfl (a7 (qv 1) (a7 (vL B rfl (a7 aT (a7 (iZ (cL B (a7 (qv 0) aA)) aT) aA))) aA))))) fD)
   (aJ (eM (mW (gY (qv 2) aT) aT) (aX (c6 (gY (gP (mV (qv 2) aT) aT) (gP (qv 1) aT)))) fD)
   (aX (c6 (gY (gP (mV (qv 2) aT) aT) (gP (vK B rfl (a7 aT (a7 (qv 1) aA))) aT))))))),VR⟩)
theorem Jw:bg ["script","many","digits","places","number","k","spot"] ["script","many","digits"] (aZ (b9 55)):=.au
theorem Yi (B:Bt mg)(F:FM K mg "_law_places" 55 f fd)(cw:Df P w K mg base 1 "_law_cell_at" ["script","k"] jS)(jc:Df P w K mg base 1 "_law_mixed" ["number","k"] oR):Df P w K mg base 2 "_law_places" ["script","many","digits"] x8:=
 Df.au F Jw (λcy A outer s H E hr=>by
  have nd:=Jw.nd
  exact⟨(Ls),(aJ (fP (i:=3) nd (F1 B (qv 1)))
   (aJ (bD (i:=4) nd (bC cw hr (a7 (qv 0) (a7 aT aA))))
   (aJ (eM (mW (gY (mV (bC cw hr (a7 (qv 0) (a7 aT aA))) aT) aT) aT) (aJ (fP (i:=3) nd (fY aA))
    (aX (j3 5 nd (sP rfl B.range (qv 1))
     (aJ (bD (i:=6) nd (bC jc hr (a7 (bC cw hr (a7 (qv 0) (a7 aT aA))) (a7 (gP (qv 5) aT) aA))))
     (aJ (eM (qA (qv 2)) (aJ (bD (i:=6) nd (qv 4))
      (aX (bD (i:=4) nd (mV (qv 4) (gP (qv 5) aT))))) fD)
     (aX (WH 3 (gY (qv 6) (gP (qv 5) aT)) (qv 5)))))))) fD)
   (aX (oC 3))))),UD⟩)
theorem Jv:bg ["web","beside","elders","order","root","at","other"] ["web"] (aZ (b9 58)):=.au
theorem Yh (B:Bt mg)(F:FM K mg "_law_elders" 58 f fd)(sx:Df P w K mg base 1 "_law_beside" ["web"] Mm):Df P w K mg base 2 "_law_elders" ["web"] xG:=
 Df.au F Jv (λcy A outer s H E hr=>by
  have nd:=Jv.nd
  exact⟨(KD),(aJ (bD (i:=1) nd (bC sx hr (a7 (qv 0) aA)))
   (aJ (fP (i:=2) nd (t4 (fY (a7 sJ aA)) (cL B (a7 (bJ (qv 0) aT) aA))))
   (aJ (fP (i:=3) nd (fY aA))
   (aJ (j3 4 nd (sP rfl B.range (cL B (a7 (bJ (qv 0) aT) aA)))
    (aX (eM (NY (qv 4) (qv 3)) (aJ (lW 3 (qv 4))
     (aJ (bD (i:=5) nd (iZ (cL B (a7 (qv 3) aA)) aT))
     (aX (vI Di (vA (qv 5) (cL B (a7 (qv 3) aA)))
      (aJ (j3 6 nd (cT (bJ (qv 1) (bJ (qv 3) (qv 5))))
       (aX (eM (NY (qv 6) (qv 3)) (aJ (sT (i:=2) (qv 6) (bJ (qv 3) (qv 5)))
        (aX (lW 3 (qv 6)))) fD)))
      (aX (bD (i:=5) nd (gP (qv 5) aT)))))))) fD)))
   (aX (vH 2 (vH 3 (c6 (ZC (a7 (qv 2) (a7 (qv 3) aA))))))))))),TY⟩)
theorem Yg:bg ["web","numbers"] ["web","numbers"] (aZ (b9 11)):=.au
theorem Yf (B:Bt mg)(F:FM K mg "is_set" 11 f fd)(Bu:Df P w K mg base 1 "rises" ["things"] F0)(we:Df P w K mg base 2 "is_hearth" ["web","number"] vT):Df P w K mg base 3 "is_set" ["web","numbers"] vU:=
 Df.au F Yg (λcy A outer s H E hr=>by
  exact⟨(NP),(aX (c6 (C8 (bC Bu hr (a7 (qv 1) aA)) (vE (Zx B rfl (a7 (mX (N:=["number","web"]) (fr:=[none,some 0]) (cT (qv 1)) (λ_ _ _ _=>(bC we hr (a7 (qv 1) (a7 (qv 0) aA))))) aA)))))),Zf⟩)
theorem Ye:bg ["web","some"] ["web","some"] (aZ (b9 18)):=.au
theorem Yd (B:Bt mg)(F:FM K mg "all_but" 18 f fd)(jd:Df P w K mg base 2 "without" ["hearths","some"] m6)(bx:Df P w K mg base 1 "hearths_in" ["web"] gR):Df P w K mg base 3 "all_but" ["web","some"] wJ:=
 Df.au F Ye (λcy A outer s H E hr=>by
  exact⟨(MJ),(aX (c6 (bC jd hr (a7 (F1 B (bC bx hr (a7 (qv 0) aA))) (a7 (qv 1) aA))))),WD⟩)
theorem Ju:bg ["web","around","block","inside"] ["web","around","block"] (aZ (b9 21)):=.au
theorem Yc (B:Bt mg)(F:FM K mg "staying" 21 f fd)(je:Df P w K mg base 1 "marked" ["hearths"] kU)(ja:Df P w K mg base 2 "count_outside" ["hearths","inside"] qF):Df P w K mg base 3 "staying" ["web","around","block"] wB:=
 Df.au F Ju (λcy A outer s H E hr=>by
  have nd:=Ju.nd
  exact⟨(Nc),(aJ (bD (i:=3) nd (bC je hr (a7 (qv 2) aA)))
   (aX (c6 (jQ B (a7 (mY (N:=["hearth","inside","around","web"]) (fr:=[none,some 3,some 1,some 0]) (cT (qv 2)) (λ_ _ _ _=>(vA (bC ja hr (a7 (bJ (qv 2) (qv 0)) (a7 (qv 1) aA))) (bJ (bJ (qv 3) aT) (qv 0)))) (λ_ _ _ _=>(qv 0))) aA))))),Xj⟩)
theorem Jt:bg ["most","hearth","blocks","later","free","inside","block"] ["most","hearth","blocks"] (aZ (b9 43)):=.au
theorem Yb (B:Bt mg)(F:FM K mg "passed_on" 43 f fd)(je:Df P w K mg base 1 "marked" ["hearths"] kU)(ku:r6 P w K mg base 1 "keep_longer" ["most","free","blocks"] )(jd:Df P w K mg base 2 "without" ["hearths","some"] m6)(ja:Df P w K mg base 2 "count_outside" ["hearths","inside"] qF):Df P w K mg base 3 "passed_on" ["most","hearth","blocks"] xR:=
 Df.au F Jt (λcy A outer s H E hr=>by
  have nd:=Jt.nd;have hu:=lQ hr
  exact⟨(JS),(aJ (fP (i:=3) nd ZA)
   (aJ (Th 0 4 nd (λ_=>
    (aJ (bD (i:=5) nd (bC je hr (a7 (qv 4) aA)))
    (aJ (JY ku hr 3 (bC jd hr (a7 (qv 4) (a7 (fY (a7 (qv 1) aA)) aA))) (vG hu (qv 0) (qv 4)))
    (aX (j3 6 nd (cT (qv 2))
     (aX (eM (mW (bC ja hr (a7 (qv 6) (a7 (qv 5) aA))) aT) (aX (JY ku hr 3 (bC jd hr (a7 (qv 4) (a7 (qv 6) aA))) (Ke (SR (vG hu (qv 0) (qv 4)) (fY (a7 (qv 6) aA)))))) fD))))))))
   (aX (oC 3)))),Sy⟩)
theorem Js:bg ["script","most","many","digits","links","counts","cells","k","number","elder","places","wants","pairs"] ["script","most"] (aZ (b9 56)):=.au
theorem Ya (B:Bt mg)(F:FM K mg "_law_wood" 56 f fd)(qd:Df P w K mg base 2 "_law_hearths" ["script","most"] wO)(cw:Df P w K mg base 1 "_law_cell_at" ["script","k"] jS)(jc:Df P w K mg base 1 "_law_mixed" ["number","k"] oR)(sk:Df P w K mg base 2 "_law_places" ["script","many","digits"] x8):Df P w K mg base 3 "_law_wood" ["script","most"] xC:=
 Df.au F Js (λcy A outer s H E hr=>by
  have nd:=Js.nd
  exact⟨(KW),(aJ (bD (i:=2) nd (bC qd hr (a7 (qv 0) (a7 (qv 1) aA))))
   (aJ (bD (i:=3) nd (v9 (gY (mV (bC cw hr (a7 (qv 0) (a7 aT aA))) aT) aT) aT))
   (aJ (fP (i:=4) nd (fY aA))
   (aJ (fP (i:=5) nd (t4 (fY (a7 aT aA)) (qv 2)))
   (aJ (fP (i:=6) nd (vM (qv 0) (sQ aT) (sQ (gP aT (qv 2)))))
   (aJ (j3 7 nd (E1 rfl B.range (cL B (a7 (qv 6) aA)) (qv 2))
    (aX (lW 6 (bC jc hr (a7 (bC cw hr (a7 (qv 0) (a7 aT aA))) (a7 (qv 7) aA))))))
   (aJ (j3 7 nd (E1 rfl B.range aT (qv 2))
    (aJ (bD (i:=8) nd (bC jc hr (a7 (bJ (qv 6) (qv 7)) (a7 (qv 7) aA))))
    (aJ (eM (qA (qv 3)) (aX (bD (i:=8) nd (mV (bJ (qv 6) (qv 7)) aT))) fD)
    (aX (eM (vB (gY (qv 8) aT) aT) (aJ (bD (i:=9) nd (gY (mV (qv 8) aT) (qv 7)))
     (aJ (eM (mW (gY (bC cw hr (a7 (qv 0) (a7 aT aA))) aT) aT) (aX (bD (i:=9) nd (vL B rfl (a7 aT (a7 (iZ (iZ (qv 7) aT) (gY (mV (qv 8) aT) aT)) aA))))) fD)
     (aJ (lW 4 (iO (a7 (qv 9) (a7 (qv 7) aA))))
     (aJ (sT (i:=5) (qv 9) (gP (bJ (qv 5) (qv 9)) aT))
     (aX (sT (i:=5) (qv 7) (gP (bJ (qv 5) (qv 7)) aT))))))) fD)))))
   (aJ (bD (i:=10) nd (bC sk hr (a7 (qv 0) (a7 (qv 2) (a7 (qv 3) aA)))))
   (aJ (fP (i:=11) nd (t4 (fY (a7 aT aA)) (qv 2)))
   (aJ (j3 7 nd (sP rfl B.range (qv 2))
    (aX (sT (i:=11) (bJ (qv 10) (qv 7)) (gY (bJ (qv 6) (qv 7)) (gP (bJ (qv 5) (qv 7)) aT)))))
   (aJ (vH 4 (Xv (i:=12) nd (N:=["one","other","places"]) (fr:=[none,none,some 10]) (cT (qv 4)) (λ_ _ _ _=>(iO (a7 (vK B rfl (a7 (bJ (qv 2) (qv 0)) (a7 (bJ (qv 2) (qv 1)) aA))) (a7 (vL B rfl (a7 (bJ (qv 2) (qv 0)) (a7 (bJ (qv 2) (qv 1)) aA))) aA))))))
   (aX (c6 (iO (a7 (jQ B (a7 (qv 11) aA)) (a7 (jQ B (a7 (F4 B (a7 (qv 12) aA)) aA)) aA)))))))))))))))),Up⟩)
theorem XZ:bg ["web","hearths"] ["web","hearths"] (aZ (b9 12)):=.au
theorem XY (B:Bt mg)(F:FM K mg "made_set" 12 f fd)(AM:Df P w K mg base 3 "is_set" ["web","numbers"] vU)(pe:Xc K mg base "BadSet"):bM P w K mg base 4 "made_set" ["web","hearths"] qI:=
 bM.au F XZ MM WJ (λcy A outer s H E Ep hr hX=>by
  exact (aJ (eM (vD (vC (bC AM hr (a7 (qv 0) (a7 (qv 1) aA))))) (aX (t7 hX pe (a7 sK aA))) fD)
   (aX (c6 (jQ B (a7 (qv 1) aA))))))
theorem Jr:bg ["web","block","chosen"] ["web","block"] (aZ (b9 20)):=.au
theorem XX (B:Bt mg)(F:FM K mg "is_cold" 20 f fd)(lq:bM P w K mg base 4 "made_set" ["web","hearths"] qI)(zx:Df P w K mg base 3 "staying" ["web","around","block"] wB)(cu:Df P w K mg base 1 "near_lists" ["web"] i6):bM P w K mg base 5 "is_cold" ["web","block"] wI:=
 bM.au F Jr MK WG (λcy A outer s H E Ep hr hX=>by
  have nd:=Jr.nd;have GO:=JH hr
  exact (aJ (bD (i:=2) nd (j7 hX lq hr (a7 (qv 0) (a7 (qv 1) aA))))
   (aX (c6 (Zt GO (bC zx hr (a7 (qv 0) (a7 (bC cu hr (a7 (qv 0) aA)) (a7 (qv 2) aA)))) (qv 2))))))
theorem Jq:bg ["web","block","around","left","pieces","piece"] ["web","block"] (aZ (b9 22)):=.au
theorem XW (B:Bt mg)(F:FM K mg "cold_pieces" 22 f fd)(cu:Df P w K mg base 1 "near_lists" ["web"] i6)(lq:bM P w K mg base 4 "made_set" ["web","hearths"] qI)(se:Df P w K mg base 2 "first_piece" ["around","hearths"] wK)(jd:Df P w K mg base 2 "without" ["hearths","some"] m6):bM P w K mg base 5 "cold_pieces" ["web","block"] wN:=
 bM.au F Jq Wg Wf (λcy A outer s H E Ep hr hX=>by
  have nd:=Jq.nd
  exact (aJ (bD (i:=2) nd (bC cu hr (a7 (qv 0) aA)))
   (aJ (bD (i:=3) nd (j7 hX lq hr (a7 (qv 0) (a7 (qv 1) aA))))
   (aJ (fP (i:=4) nd (fY aA))
   (aJ (vI hX.own (qA (qv 3))
    (aJ (bD (i:=5) nd (bC se hr (a7 (qv 2) (a7 (qv 3) aA))))
    (aJ (lW 4 (qv 5))
    (aX (bD (i:=3) nd (bC jd hr (a7 (qv 3) (a7 (qv 5) aA))))))))
   (aX (oC 4)))))))
theorem XU:bg ["web"] ["web"] (aZ (b9 26)):=.au
theorem XT (B:Bt mg)(F:FM K mg "all_pieces" 26 f fd)(sg:bM P w K mg base 5 "cold_pieces" ["web","block"] wN)(Ab:Df P w K mg base 3 "all_but" ["web","some"] wJ):Df P w K mg base 6 "all_pieces" ["web"] qS:=
 Df.au F XU (λcy A outer s H E hr=>by
  exact⟨(LL),(aX (c6 (oN sg hr (a7 (qv 0) (a7 (bC Ab hr (a7 (qv 0) (a7 (iO aA) aA))) aA))))),Va⟩)
theorem Pd:bg ["web","chosen","holds","place"] ["web","chosen"] (aZ (b9 34)):=.au
theorem XS (B:Bt mg)(F:FM K mg "holding_cold" 34 f fd)(fo:Df P w K mg base 1 "holds_without_one" ["holds","place","some"] qL)(Aa:bM P w K mg base 5 "is_cold" ["web","block"] wI):bM P w K mg base 6 "holding_cold" ["web","chosen"] qN:=
 bM.au F Pd Mw Wn (λcy A outer s H E Ep hr hX=>by
  have nd:=Pd.nd
  exact (aJ (fP (i:=2) nd (fY (a7 sI aA)))
   (aJ (j3 3 (hp:=hX.own) nd (E1 rfl B.range aT (cL B (a7 (qv 1) aA)))
    (aX (lW 2 (ZD (bC fo hr (a7 (qv 2) (a7 (qv 3) (a7 (bJ (qv 1) (qv 3)) aA)))) (vE (j7 hX Aa hr (a7 (qv 0) (a7 (bJ (qv 1) (qv 3)) aA))))))))
   (aX (oC 2)))))
theorem XR:bg ["web"] ["web"] (aZ (b9 25)):=.au
theorem XQ (B:Bt mg)(F:FM K mg "is_wood" 25 f fd)(bx:Df P w K mg base 1 "hearths_in" ["web"] gR)(js:Df P w K mg base 6 "all_pieces" ["web"] qS):Df P w K mg base 7 "is_wood" ["web"] x5:=
 Df.au F XR (λcy A outer s H E hr=>by
  exact⟨(LB),(aX (c6 (v9 (cL B (a7 (bJ (qv 0) aT) aA)) (iZ (bC bx hr (a7 (qv 0) aA)) (cL B (a7 (bC js hr (a7 (qv 0) aA)) aA)))))),UM⟩)
theorem Pc:bg ["web","chosen","holds","found"] ["web"] (aZ (b9 32)):=.au
theorem XO (B:Bt mg)(F:FM K mg "least_colds" 32 f fd)(iw:bM P w K mg base 2 "searched_sets" ["web"] qM)(jf:bM P w K mg base 6 "holding_cold" ["web","chosen"] qN)(fo:Df P w K mg base 1 "holds_without_one" ["holds","place","some"] qL):bM P w K mg base 7 "least_colds" ["web"] J4:=
 bM.au F Pc LR Vo (λcy A outer s H E Ep hr hX=>by
  have nd:=Pc.nd
  exact (aJ (bD (i:=1) nd (j7 hX iw hr (a7 (qv 0) aA)))
   (aJ (bD (i:=2) nd (j7 hX jf hr (a7 (qv 0) (a7 (qv 1) aA))))
   (aJ (Xu (i:=3) nd (N:=["place","some","holds"]) (fr:=[none,none,some 2]) (Nl rfl B.enum (qv 1)) (λ_ _ _ _=>(oB (sO (qA (bJ (qv 2) (qv 0))) (sN (vD (vC (bC fo hr (a7 (qv 2) (a7 (qv 0) (a7 (qv 1) aA)))))))))) (λ_ _ _ _=>(qv 1)))
   (aX (c6 (F4 B (a7 (qv 3) aA))))))))
theorem Pb:bg ["web","chosen","holds","last"] ["web"] (aZ (b9 40)):=.au
theorem XM (B:Bt mg)(F:FM K mg "lighting_sets" 40 f fd)(iw:bM P w K mg base 2 "searched_sets" ["web"] qM)(jf:bM P w K mg base 6 "holding_cold" ["web","chosen"] qN):bM P w K mg base 7 "lighting_sets" ["web"] qQ:=
 bM.au F Pb Mh VC (λcy A outer s H E Ep hr hX=>by
  have nd:=Pb.nd
  exact (aJ (bD (i:=1) nd (j7 hX iw hr (a7 (qv 0) aA)))
   (aJ (bD (i:=2) nd (j7 hX jf hr (a7 (qv 0) (a7 (qv 1) aA))))
   (aJ (bD (i:=3) nd (iZ (cL B (a7 (qv 1) aA)) aT))
   (aX (c6 (Xw (N:=["place","seeds","holds","last"]) (fr:=[none,none,some 2,some 3]) (Nl rfl B.enum (qv 1)) (λ_ _ _ _=>(vD (qA (bJ (qv 2) (iZ (qv 3) (qv 0)))))) (λ_ _ _ _=>(qv 1)))))))))
theorem Pa:bg ["web","around","pairs","turn","hearth"] ["web"] (aZ (b9 27)):=.au
theorem XJ (B:Bt mg)(F:FM K mg "from_roots" 27 f fd)(zy:Df P w K mg base 7 "is_wood" ["web"] x5)(cu:Df P w K mg base 1 "near_lists" ["web"] i6)(js:Df P w K mg base 6 "all_pieces" ["web"] qS)(dv:Df P w K mg base 1 "children_of" ["around","hearth","elder"] lC)(nt:Xc K mg base "NotWood"):bM P w K mg base 8 "from_roots" ["web"] nJ:=
 bM.au F Pa Kp Tx (λcy A outer s H E Ep hr hX=>by
  have nd:=Pa.nd
  exact (aJ (eM (vD (vC (bC zy hr (a7 (qv 0) aA)))) (aX (t7 hX nt (a7 sK aA))) fD)
   (aJ (bD (i:=1) nd (bC cu hr (a7 (qv 0) aA)))
   (aJ (Zr (i:=2) nd (N:=["piece"]) (fr:=[none]) (cT (bC js hr (a7 (qv 0) aA))) (λ_ _ _ _=>(iO (a7 (bJ (qv 0) aT) (a7 sJ aA)))))
   (aJ (bD (i:=3) nd aT)
   (aJ (vI hX.own (vA (qv 3) (cL B (a7 (qv 2) aA)))
    (aJ (bD (i:=4) nd (bJ (bJ (qv 2) (qv 3)) aT))
    (aJ (NW 2 (mX (N:=["child","hearth"]) (fr:=[none,some 4]) (cT (bC dv hr (a7 (qv 1) (a7 (qv 4) (a7 (bJ (bJ (qv 2) (qv 3)) aT) aA))))) (λ_ _ _ _=>(iO (a7 (qv 0) (a7 (qv 1) aA))))))
    (aX (bD (i:=3) nd (gP (qv 3) aT))))))
   (aX (oC 2))))))))
theorem XI:bg ["web"] ["web"] (aZ (b9 39)):=.au
theorem XH (B:Bt mg)(F:FM K mg "least_many" 39 f fd)(iz:bM P w K mg base 7 "lighting_sets" ["web"] qQ):bM P w K mg base 8 "least_many" ["web"] wS:=
 bM.au F XI Mc VB (λcy A outer s H E Ep hr hX=>by
  exact (aX (c6 (Mi B rfl (a7 (mX (N:=["seeds"]) (fr:=[none]) (cT (j7 hX iz hr (a7 (qv 0) aA))) (λ_ _ _ _=>(cL B (a7 (qv 0) aA)))) aA)))))
theorem OZ:bg ["web","lighting","fewest"] ["web"] (aZ (b9 41)):=.au
theorem XG (B:Bt mg)(F:FM K mg "all_least" 41 f fd)(iz:bM P w K mg base 7 "lighting_sets" ["web"] qQ):bM P w K mg base 8 "all_least" ["web"] N5:=
 bM.au F OZ JI RX (λcy A outer s H E Ep hr hX=>by
  have nd:=OZ.nd
  exact (aJ (bD (i:=1) nd (j7 hX iz hr (a7 (qv 0) aA)))
   (aJ (bD (i:=2) nd (Mi B rfl (a7 (mX (N:=["seeds"]) (fr:=[none]) (cT (qv 1)) (λ_ _ _ _=>(cL B (a7 (qv 0) aA)))) aA)))
   (aX (c6 (RY B (a7 (mY (N:=["seeds","fewest"]) (fr:=[none,some 2]) (cT (qv 1)) (λ_ _ _ _=>(mW (cL B (a7 (qv 0) aA)) (qv 1))) (λ_ _ _ _=>(qv 0))) aA)))))))
theorem OY:bg ["web","blocks","most","hearth"] ["web"] (aZ (b9 42)):=.au
theorem XF (B:Bt mg)(F:FM K mg "blocks_apart" 42 f fd)(rj:bM P w K mg base 7 "least_colds" ["web"] J4)(bx:Df P w K mg base 1 "hearths_in" ["web"] gR)(vx:Df P w K mg base 3 "passed_on" ["most","hearth","blocks"] xR):Df P w K mg base 8 "blocks_apart" ["web"] xS:=
 Df.au F OY (λcy A outer s H E hr=>by
  have nd:=OY.nd;have hu:=lQ hr
  exact⟨(JR),(aJ (bD (i:=1) nd (oN rj hr (a7 (qv 0) aA)))
   (aJ (bD (i:=2) nd (SV hu (VW B (bC bx hr (a7 (qv 0) aA))) (Ke (fY aA))))
   (aJ (j3 3 nd (sP rfl B.range (bC bx hr (a7 (qv 0) aA)))
    (aX (bD (i:=2) nd (bC vx hr (a7 (qv 2) (a7 (qv 3) (a7 (mY (N:=["block","hearth"]) (fr:=[none,some 3]) (cT (qv 1)) (λ_ _ _ _=>(mW (bJ (qv 0) aT) (qv 1))) (λ_ _ _ _=>(qv 0))) aA)))))))
   (aX (c6 (vG hu (qv 2) (iO aA))))))),Sw⟩)
theorem OX:bg ["web","around","waiting","taken","hearth","elder","children","lacking","block","child","pairs"] ["web"] (aZ (b9 29)):=.au
theorem XE (B:Bt mg)(F:FM K mg "apart_paper" 29 f fd)(cu:Df P w K mg base 1 "near_lists" ["web"] i6)(gq:bM P w K mg base 8 "from_roots" ["web"] nJ)(dv:Df P w K mg base 1 "children_of" ["around","hearth","elder"] lC)(rv:mg "reversed" = none):Df P w K mg base 9 "apart_paper" ["web"] M9:=
 Df.au F OX (λcy A outer s H E hr=>by
  have nd:=OX.nd;have hu:=lQ hr
  exact⟨(JN),(aJ (bD (i:=1) nd (bC cu hr (a7 (qv 0) aA)))
   (aJ (fP (i:=2) nd C9)
   (aJ (fP (i:=3) nd (fY aA))
   (aJ (vO 4 5 nd (LX rv (oN gq hr (a7 (qv 0) aA)))
    (aJ (bD (i:=6) nd (bC dv hr (a7 (qv 1) (a7 (qv 4) (a7 (qv 5) aA)))))
    (aJ (bD (i:=7) nd (iZ (bJ (bJ (qv 0) aT) (qv 4)) (cL B (a7 (mY (N:=["child","waiting"]) (fr:=[none,some 2]) (cT (qv 6)) (λ_ _ _ _=>(sM hu (qv 0) (qv 1))) (λ_ _ _ _=>(qv 0))) aA))))
    (aJ (fP (i:=8) nd (fY (a7 (qv 4) aA)))
    (aJ (j3 9 nd (cT (qv 6))
     (aX (NW 8 (UN hu (qv 2) (qv 9) (fY aA)))))
    (aX (eM (oB (sO (mW (qv 7) aT) (sN (Of (qv 5) sJ)))) (aX (vH 8 (vJ hu (i:=2) (qv 4) (qv 8)))) (aX (eM (vB (qv 7) aT) (aX (lW 3 (iO (a7 (qv 4) (a7 (jQ B (a7 (E2 B (a7 (qv 8) aA)) aA)) aA))))) fD)))))))))
   (aJ (bD (i:=10) nd (UP B (a7 (qv 3) aA)))
   (aX (c6 (iO (a7 (jQ B (a7 (sZ (N:=["seed","block"]) (fr:=[none,none]) (cT (qv 10)) (λ_ _ _ _=>(qv 0))) aA)) (a7 (jQ B (a7 (sZ (N:=["seed","block"]) (fr:=[none,none]) (cT (qv 10)) (λ_ _ _ _=>(qv 1))) aA)) aA)))))))))),Su⟩)
theorem OW:bg ["web","prices","pairs","known","around","ledger","hearth","elder","below"] ["web","prices"] (aZ (b9 46)):=.au
theorem XD (B:Bt mg)(F:FM K mg "best_ledger" 46 f fd)(gq:bM P w K mg base 8 "from_roots" ["web"] nJ)(rg:bM P w K mg base 1 "made_prices" ["prices","many"] wU)(bx:Df P w K mg base 1 "hearths_in" ["web"] gR)(cu:Df P w K mg base 1 "near_lists" ["web"] i6)(dv:Df P w K mg base 1 "children_of" ["around","hearth","elder"] lC)(vz:Df P w K mg base 2 "most_pair" ["want","price","below"] xE)(rv:mg "reversed" = none):bM P w K mg base 9 "best_ledger" ["web","prices"] qZ:=
 bM.au F OW Ko Tw (λcy A outer s H E Ep hr hX=>by
  have nd:=OW.nd
  exact (aJ (bD (i:=2) nd (j7 hX gq hr (a7 (qv 0) aA)))
   (aJ (bD (i:=3) nd (j7 hX rg hr (a7 (qv 1) (a7 (bC bx hr (a7 (qv 0) aA)) aA))))
   (aJ (bD (i:=4) nd (bC cu hr (a7 (qv 0) aA)))
   (aJ (fP (i:=5) nd (t4 (fY (a7 (iO (a7 aT (a7 aT aA))) aA)) (bC bx hr (a7 (qv 0) aA))))
   (aJ (vO 6 7 (hp:=hX.own) nd (LX rv (qv 2))
    (aJ (Zs (i:=8) nd (N:=["child","ledger"]) (fr:=[none,some 5]) (cT (bC dv hr (a7 (qv 4) (a7 (qv 6) (a7 (qv 7) aA))))) (λ_ _ _ _=>(bJ (qv 1) (qv 0))))
    (aX (sT (i:=5) (qv 6) (bC vz hr (a7 (bJ (bJ (qv 0) aT) (qv 6)) (a7 (bJ (qv 3) (qv 6)) (a7 (qv 8) aA))))))))
   (aX (c6 (jQ B (a7 (qv 5) aA))))))))))
theorem OV:bg ["web","prices","ledger","around","alone","seeds","hearth","elder","want","gaps","gap","child"] ["web","prices"] (aZ (b9 50)):=.au
theorem XC (B:Bt mg)(F:FM K mg "wood_cheapest" 50 f fd)(jn:bM P w K mg base 9 "best_ledger" ["web","prices"] qZ)(cu:Df P w K mg base 1 "near_lists" ["web"] i6)(gq:bM P w K mg base 8 "from_roots" ["web"] nJ)(lh:Df P w K mg base 1 "one_less" ["want"] qW)(dv:Df P w K mg base 1 "children_of" ["around","hearth","elder"] lC):bM P w K mg base 10 "wood_cheapest" ["web","prices"] xI:=
 bM.au F OV M5 Ts (λcy A outer s H E Ep hr hX=>by
  have nd:=OV.nd;have hu:=lQ hr
  exact (aJ (bD (i:=2) nd (j7 hX jn hr (a7 (qv 0) (a7 (qv 1) aA))))
   (aJ (bD (i:=3) nd (bC cu hr (a7 (qv 0) aA)))
   (aJ (fP (i:=4) nd C9)
   (aJ (fP (i:=5) nd (fY aA))
   (aJ (vO 6 7 (hp:=hX.own) nd (cT (j7 hX gq hr (a7 (qv 0) aA)))
    (aJ (bD (i:=8) nd (bJ (bJ (qv 0) aT) (qv 6)))
    (aJ (eM (oB (sO (Of (qv 7) sJ) (sN (sM hu (qv 6) (qv 4))))) (aX (bD (i:=8) nd (bC lh hr (a7 (qv 8) aA)))) fD)
    (aJ (bD (i:=9) nd (F4 B (a7 (mX (N:=["child","ledger"]) (fr:=[none,some 2]) (cT (bC dv hr (a7 (qv 3) (a7 (qv 6) (a7 (qv 7) aA))))) (λ_ _ _ _=>(iO (a7 (iZ (bJ (bJ (qv 1) (qv 0)) aT) (bJ (bJ (qv 1) (qv 0)) aT)) (a7 (qv 0) aA))))) aA)))
    (aX (eM (oB (sO (Og (cL B (a7 (qv 9) aA)) (qv 8)) (sN (ZF (wE B rfl (a7 (sZ (N:=["gap","child"]) (fr:=[none,none]) (cT (vM (qv 9) E4 (sQ (qv 8)))) (λ_ _ _ _=>(qv 0))) aA)) (bJ (qv 1) (qv 6)))))) (aX (vO 10 11 (hp:=hX.own) nd (cT (vM (qv 9) E4 (sQ (qv 8))))
      (aX (vJ hu (i:=4) (qv 11) sI)))) (aX (lW 5 (qv 6)))))))))
   (aX (c6 (jQ B (a7 (E2 B (a7 (qv 5) aA)) aA))))))))))
theorem OU:bg ["script","web","seeds","prices","elders","ledger","total"] ["script"] (aZ (b9 59)):=.au
theorem XB (B:Bt mg)(F:gI K "law" "law" (b9 59) f fd)(wj:Df P w K mg base 3 "_law_wood" ["script","most"] xC)(sj:Df P w K mg base 9 "apart_paper" ["web"] M9)(uu:bM P w K mg base 8 "least_many" ["web"] wS)(qc:Df P w K mg base 8 "blocks_apart" ["web"] xS)(wg:bM P w K mg base 8 "all_least" ["web"] N5)(su:Df P w K mg base 2 "_law_elders" ["web"] xG)(jn:bM P w K mg base 9 "best_ledger" ["web","prices"] qZ)(oq:bM P w K mg base 10 "wood_cheapest" ["web","prices"] xI):dW P w K mg base eJ 11 f fd ["script"] (rZ K N3):=
 YQ F OU (λxs Q h=>by unfold N3 at h;repeat (first|(obtain⟨rfl,_⟩:=h;rfl)|(obtain⟨_,h⟩:=h))) (λcy A outer s H E hr=>by
  have nd:=OU.nd;have GO:=JH hr
  exact⟨(JJ),(aJ (bD (i:=1) nd (bC wj hr (a7 (qv 0) (a7 aT aA))))
   (aJ (bD (i:=2) nd (bJ (bC sj hr (a7 (qv 1) aA)) aT))
   (aJ (bD (i:=3) nd (t4 (fY (a7 aT aA)) (cL B (a7 (bJ (qv 1) aT) aA))))
   (aJ (eM (oB (C7 (C6 (oN uu hr (a7 (qv 1) aA)) (cL B (a7 (qv 2) aA))) (C7 (C6 (cL B (a7 (bC qc hr (a7 (qv 1) aA)) aA)) (cL B (a7 (qv 2) aA))) (Od (Vv GO (qv 2) (oN wg hr (a7 (qv 1) aA))))))) (aX (c6 sI)) fD)
   (aJ (bD (i:=4) nd (bJ (bC su hr (a7 (qv 1) aA)) aT))
   (aJ (bD (i:=5) nd (oN jn hr (a7 (qv 1) (a7 (qv 3) aA))))
   (aJ (bD (i:=6) nd (wE B rfl (a7 (mY (N:=["hearth","elders","ledger"]) (fr:=[none,some 4,some 5]) (sP rfl B.range (cL B (a7 (qv 4) aA))) (λ_ _ _ _=>(ZE (bJ (qv 1) (qv 0)) sJ)) (λ_ _ _ _=>(bJ (bJ (qv 2) (qv 0)) aT))) aA)))
   (aX (c6 (C8 (v9 (cL B (a7 (oN oq hr (a7 (qv 1) (a7 (qv 3) aA))) aA)) (cL B (a7 (qv 2) aA))) (vE (v9 (qv 6) (cL B (a7 (qv 2) aA)))))))))))))),Sb⟩)
end
set_option autoImplicit true in
theorem bF2 {l:OpenLaw}{w:ba}{K:Frag}{h:Heap}{mg:Str->Option av}(X:K.In h)(G:h.Ns mainGlobals mg)(Rp:mg "law" = some (.ref fa))(h0:FK K "rises" 7 f0 d0)(h1:FK K "hearths_in" 8 f1 d1)(h2:FK K "near_lists" 9 f2 d2)(h3:FK K "sets_among" 13 f3 d3)(h4:FK K "marked" 14 f4 d4)(h5:FK K "count_inside" 15 f5 d5)(h6:FK K "children_of" 28 f6 d6)(h7:FK K "holds_without_one" 35 f7 d7)(h8:FK K "made_prices" 37 f8 d8)(h9:FK K "keep_longer" 44 f9 d9)(h10:FK K "one_less" 48 f10 d10)(h11:FK K "most_for" 49 f11 d11)(h12:FK K "_law_cell_at" 52 f12 d12)(h13:FK K "_law_mixed" 53 f13 d13)(h14:FK K "_law_beside" 57 f14 d14)(h15:FK K "is_hearth" 10 f15 d15)(h16:FK K "count_outside" 16 f16 d16)(h17:FK K "without" 17 f17 d17)(h18:FK K "first_piece" 23 f18 d18)(h19:FK K "searched_sets" 33 f19 d19)(h20:FK K "most_pair" 47 f20 d20)(h21:FK K "_law_hearths" 54 f21 d21)(h22:FK K "_law_places" 55 f22 d22)(h23:FK K "_law_elders" 58 f23 d23)(h24:FK K "is_set" 11 f24 d24)(h25:FK K "all_but" 18 f25 d25)(h26:FK K "staying" 21 f26 d26)(h27:FK K "passed_on" 43 f27 d27)(h28:FK K "_law_wood" 56 f28 d28)(h29:FK K "made_set" 12 f29 d29)(h30:FK K "is_cold" 20 f30 d30)(h31:FK K "cold_pieces" 22 f31 d31)(h32:FK K "all_pieces" 26 f32 d32)(h33:FK K "holding_cold" 34 f33 d33)(h34:FK K "is_wood" 25 f34 d34)(h35:FK K "least_colds" 32 f35 d35)(h36:FK K "lighting_sets" 40 f36 d36)(h37:FK K "from_roots" 27 f37 d37)(h38:FK K "least_many" 39 f38 d38)(h39:FK K "all_least" 41 f39 d39)(h40:FK K "blocks_apart" 42 f40 d40)(h41:FK K "apart_paper" 29 f41 d41)(h42:FK K "best_ledger" 46 f42 d42)(h43:FK K "wood_cheapest" 50 f43 d43)(a44:nsIn K mainGlobals "law" = some (some (.ref Jj)))(l44:K.lookup Jj=some ⟨Qm,Ql,.func (fnOf "law" "law" (kR (b9 59)) (gC (b9 59)) (aZ (b9 59)) .none GA HQ Gi HW EW HR),PZ⟩)(c44:codeIn K EW "law" = true)(k44:keepIn K (.ref Jj)=true)(z_len:nsIn K mainGlobals "len" = some none)(z_range:nsIn K mainGlobals "range" = some none)(z_tuple:nsIn K mainGlobals "tuple" = some none)(z_list:nsIn K mainGlobals "list" = some none)(z_sorted:nsIn K mainGlobals "sorted" = some none)(z_all:nsIn K mainGlobals "all" = some none)(z_any:nsIn K mainGlobals "any" = some none)(z_zip:nsIn K mainGlobals "zip" = some none)(z_min:nsIn K mainGlobals "min" = some none)(z_max:nsIn K mainGlobals "max" = some none)(z_sum:nsIn K mainGlobals "sum" = some none)(z_isinstance:nsIn K mainGlobals "isinstance" = some none)(z_int:nsIn K mainGlobals "int" = some none)(z_bool:nsIn K mainGlobals "bool" = some none)(z_enumerate:nsIn K mainGlobals "enumerate" = some none)(z_reversed:nsIn K mainGlobals "reversed" = some none){ig:Nat}(z_MOST_SEARCHEDx:nsIn K mainGlobals "MOST_SEARCHED" = some (some (.int 12 ig))){da fj dc dz dw:ax}(aX_HE:nsIn K mainGlobals "HearthError" = some (some (.ref da)))(aX_BS:nsIn K mainGlobals "BadSet" = some (some (.ref fj)))(aX_BP:nsIn K mainGlobals "BadPrices" = some (some (.ref dc)))(aX_NW:nsIn K mainGlobals "NotWood" = some (some (.ref dz)))(aX_TM:nsIn K mainGlobals "TooMany" = some (some (.ref dw)))(zX_BW:nsIn K mainGlobals "BadWeb" = some none)(zX_BO:nsIn K mainGlobals "BadOrder" = some none)(zX_BB:nsIn K mainGlobals "BadBoard" = some none)(zX_BD:nsIn K mainGlobals "BadDeed" = some none)(zX_NP:nsIn K mainGlobals "NoPaper" = some none)(zX_NS:nsIn K mainGlobals "NoSuch" = some none)(zX_NT:nsIn K mainGlobals "NoText" = some none)(zX_OR:nsIn K mainGlobals "OddRound" = some none)(y_fg:specialIn K (.builtin "object.__class__") "__get__" = some (some (.builtin "getset_descriptor.__get__")))(y_ft:takesIn K (.builtin "object.__class__")=some true)(z_VE:nsIn K mainGlobals "ValueError" = some none)(y1_HE:isClsIn K da=true)(y2_HE:typeIn K (.ref da)=some (.type "type"))(y3_HE:findIn K (.ref da) "__getattribute__" = some (some (.builtin "BaseException.__getattribute__")))(y4_HE:findIn K (.ref da) "__getattr__" = some none)(y5_HE:findIn K (.ref da) "__class__" = some (some (.builtin "object.__class__")))(y6_HE:mroIn K da (.type "object")=some true)(y7_HE:mroIn K da (.type "BaseException")=some true)(y1_BS:isClsIn K fj=true)(y2_BS:typeIn K (.ref fj)=some (.type "type"))(y3_BS:findIn K (.ref fj) "__getattribute__" = some (some (.builtin "BaseException.__getattribute__")))(y4_BS:findIn K (.ref fj) "__getattr__" = some none)(y5_BS:findIn K (.ref fj) "__class__" = some (some (.builtin "object.__class__")))(y6_BS:mroIn K fj (.type "object")=some true)(y7_BS:mroIn K fj (.type "BaseException")=some true)(y1_BP:isClsIn K dc=true)(y2_BP:typeIn K (.ref dc)=some (.type "type"))(y3_BP:findIn K (.ref dc) "__getattribute__" = some (some (.builtin "BaseException.__getattribute__")))(y4_BP:findIn K (.ref dc) "__getattr__" = some none)(y5_BP:findIn K (.ref dc) "__class__" = some (some (.builtin "object.__class__")))(y6_BP:mroIn K dc (.type "object")=some true)(y7_BP:mroIn K dc (.type "BaseException")=some true)(y1_NW:isClsIn K dz=true)(y2_NW:typeIn K (.ref dz)=some (.type "type"))(y3_NW:findIn K (.ref dz) "__getattribute__" = some (some (.builtin "BaseException.__getattribute__")))(y4_NW:findIn K (.ref dz) "__getattr__" = some none)(y5_NW:findIn K (.ref dz) "__class__" = some (some (.builtin "object.__class__")))(y6_NW:mroIn K dz (.type "object")=some true)(y7_NW:mroIn K dz (.type "BaseException")=some true)(y1_TM:isClsIn K dw=true)(y2_TM:typeIn K (.ref dw)=some (.type "type"))(y3_TM:findIn K (.ref dw) "__getattribute__" = some (some (.builtin "BaseException.__getattribute__")))(y4_TM:findIn K (.ref dw) "__getattr__" = some none)(y5_TM:findIn K (.ref dw) "__class__" = some (some (.builtin "object.__class__")))(y6_TM:mroIn K dw (.type "object")=some true)(y7_TM:mroIn K dw (.type "BaseException")=some true)(q_BP:excIn K dc [.type "ValueError",.type "Exception",.type "BaseException",.type "object"] "ValueError.__new__" = true)(q_BS:excIn K fj [.type "ValueError",.type "Exception",.type "BaseException",.type "object"] "ValueError.__new__" = true)(q_NW:excIn K dz [.type "ValueError",.type "Exception",.type "BaseException",.type "object"] "ValueError.__new__" = true)(q_TM:excIn K dw [.type "ValueError",.type "Exception",.type "BaseException",.type "object"] "ValueError.__new__" = true)
 :∃fd:FuncData,(∀(s:aw) (v:av),BindsTo s fd ⟨[v],[]⟩ [("script",v)])/\∀base:Heap,K.In base->base.Ns mainGlobals mg->dW l.prog w K mg base eJ 11 fa fd ["script"] (w6 K):=by
 have e:=Rp.symm.trans (mg_of X G a44);cases e;have F44:=aL9 (st:=b9 59) l44 c44 k44;have m44:=mg_of X G a44;have B:Bt mg:=⟨mg_none_of X G z_len,mg_none_of X G z_range,mg_none_of X G z_tuple,mg_none_of X G z_list,mg_none_of X G z_sorted,mg_none_of X G z_all,mg_none_of X G z_any,mg_none_of X G z_zip,mg_none_of X G z_min,mg_none_of X G z_max,mg_none_of X G z_sum,mg_none_of X G z_isinstance,mg_none_of X G z_int,mg_none_of X G z_bool,mg_none_of X G z_enumerate⟩;have rv:=mg_none_of X G z_reversed;have iq:=mg_of X G z_MOST_SEARCHEDx;refine⟨fnOf "law" "law" (kR (b9 59)) (gC (b9 59)) (aZ (b9 59)) .none GA HQ Gi HW EW HR,λs v=>.of_eq rfl,λbase KB _=>?_⟩;have AU:t8 K da:=⟨y1_HE,y2_HE,y3_HE,y4_HE,y5_HE,y_fg,y_ft,y6_HE,y7_HE⟩;have Ea:t8 K fj:=⟨y1_BS,y2_BS,y3_BS,y4_BS,y5_BS,y_fg,y_ft,y6_BS,y7_BS⟩;have BJ:t8 K dc:=⟨y1_BP,y2_BP,y3_BP,y4_BP,y5_BP,y_fg,y_ft,y6_BP,y7_BP⟩;have Dy:t8 K dz:=⟨y1_NW,y2_NW,y3_NW,y4_NW,y5_NW,y_fg,y_ft,y6_NW,y7_NW⟩;have Dx:t8 K dw:=⟨y1_TM,y2_TM,y3_TM,y4_TM,y5_TM,y_fg,y_ft,y6_TM,y7_TM⟩;have jh:Xc K mg base "BadPrices":=⟨dc,_,_,_,_,wG KB (mg_of X G aX_BP) q_BP,FJ,aX_BP⟩;have pe:Xc K mg base "BadSet":=⟨fj,_,_,_,_,wG KB (mg_of X G aX_BS) q_BS,FJ,aX_BS⟩;have nt:Xc K mg base "NotWood":=⟨dz,_,_,_,_,wG KB (mg_of X G aX_NW) q_NW,FJ,aX_NW⟩;have nr:Xc K mg base "TooMany":=⟨dw,_,_,_,_,wG KB (mg_of X G aX_TM) q_TM,FJ,aX_TM⟩;have D0:=YU (RW (P:=l.prog) (w:=w) (base:=base) B h0.F) (h0.F.binds (ps:=["things"]) λ_ _ _ _ _ _ us hl=>by obtain⟨_,rfl⟩:=yj hl;rfl) h0.F.kp (mg_of X G h0.a);have D1:=RS (P:=l.prog) (w:=w) (base:=base) B (h1.M X G);have D2:=YT (RV (P:=l.prog) (w:=w) (mg:=mg) (base:=base) h2.F) (h2.F.binds (ps:=["web"]) λ_ _ _ _ _ _ us hl=>by obtain⟨_,rfl⟩:=yj hl;rfl) h2.F.kp (mg_of X G h2.a);have D3:=RR (P:=l.prog) (w:=w) (base:=base) B (h3.M X G);have D4:=RQ (P:=l.prog) (w:=w) (base:=base) B (h4.M X G)
 have D5:=RO (P:=l.prog) (w:=w) (base:=base) B (h5.M X G);have D6:=RM (P:=l.prog) (w:=w) (base:=base) B (h6.M X G);have D7:=YE (P:=l.prog) (w:=w) (base:=base) B (h7.M X G);have D8:=YC (P:=l.prog) (w:=w) (base:=base) B (h8.M X G)  jh;have D9:=YA (P:=l.prog) (w:=w) (base:=base) B (h9.M X G);have Pt:=Yy (P:=l.prog) (w:=w) (base:=base) B (h10.M X G);have D11:=Yx (P:=l.prog) (w:=w) (base:=base) B (h11.M X G);have Ib:=Yv (P:=l.prog) (w:=w) (base:=base) B (h12.M X G);have Pr:=Yu (P:=l.prog) (w:=w) (base:=base) B (h13.M X G);have D14:=VP (RU (P:=l.prog) (w:=w) (mg:=mg) (base:=base) h14.F) (h14.F.binds (ps:=["web"]) λ_ _ _ _ _ _ us hl=>by obtain⟨_,rfl⟩:=yj hl;rfl) h14.F.kp (mg_of X G h14.a);have D15:=Ys (P:=l.prog) (w:=w) (base:=base) B (h15.M X G) D1;have Pq:=Yq (P:=l.prog) (w:=w) (base:=base) B (h16.M X G) D5;have Ia:=Yp (P:=l.prog) (w:=w) (base:=base) B (h17.M X G) D4;have D18:=Yo (P:=l.prog) (w:=w) (base:=base) B (h18.M X G) D4;have Pp:=Ym (P:=l.prog) (w:=w) (base:=base) B (h19.M X G) D1 D3 nr iq;have D20:=Yk (P:=l.prog) (w:=w) (base:=base) B (h20.M X G) D11 Pt;have D21:=Yj (P:=l.prog) (w:=w) (base:=base) B (h21.M X G) Ib;have D22:=Yi (P:=l.prog) (w:=w) (base:=base) B (h22.M X G) Ib Pr;have D23:=Yh (P:=l.prog) (w:=w) (base:=base) B (h23.M X G) D14;have D24:=Yf (P:=l.prog) (w:=w) (base:=base) B (h24.M X G) D0 D15;have D25:=Yd (P:=l.prog) (w:=w) (base:=base) B (h25.M X G) Ia D1;have D26:=Yc (P:=l.prog) (w:=w) (base:=base) B (h26.M X G) D4 Pq;have D27:=Yb (P:=l.prog) (w:=w) (base:=base) B (h27.M X G) D4 D9 Ia Pq;have D28:=Ya (P:=l.prog) (w:=w) (base:=base) B (h28.M X G) D21 Ib Pr D22;have Po:=XY (P:=l.prog) (w:=w) (base:=base) B (h29.M X G) D24 pe;have D30:=XX (P:=l.prog) (w:=w) (base:=base) B (h30.M X G) Po D26 D2;have D31:=XW (P:=l.prog) (w:=w) (base:=base) B (h31.M X G) D2 Po D18 Ia;have Pn:=XT (P:=l.prog) (w:=w) (base:=base) B (h32.M X G) D31 D25;have Pm:=XS (P:=l.prog) (w:=w) (base:=base) B (h33.M X G) D7 D30
 have D34:=XQ (P:=l.prog) (w:=w) (base:=base) B (h34.M X G) D1 Pn;have D35:=XO (P:=l.prog) (w:=w) (base:=base) B (h35.M X G) Pp Pm D7;have Pk:=XM (P:=l.prog) (w:=w) (base:=base) B (h36.M X G) Pp Pm;have HZ:=XJ (P:=l.prog) (w:=w) (base:=base) B (h37.M X G) D34 D2 Pn D6 nt;have D38:=XH (P:=l.prog) (w:=w) (base:=base) B (h38.M X G) Pk;have D39:=XG (P:=l.prog) (w:=w) (base:=base) B (h39.M X G) Pk;have D40:=XF (P:=l.prog) (w:=w) (base:=base) B (h40.M X G) D35 D1 D27;have D41:=XE (P:=l.prog) (w:=w) (base:=base) B (h41.M X G) D2 HZ D6 rv;have Pj:=XD (P:=l.prog) (w:=w) (base:=base) B (h42.M X G) HZ D8 D1 D2 D6 D20 rv;have D43:=XC (P:=l.prog) (w:=w) (base:=base) B (h43.M X G) Pj D2 HZ Pt D6;exact YO (XB B F44 D28 D41 D38 D40 D39 D23 Pj D43)
theorem bF3 {l:OpenLaw}{q:ay}{loose:List Str}{XP:(Str->Option av)->Heap->Prop}{YP:ba->Heap->Prop}{d:DefRec}{K:Params->Frag}(hn:l.most=some 63)(CO:d.params.defaults = [])(hY:∀(w:ba) (h:Heap),YP w h->(K w.params).In h)(F:∀(w:ba) (mg:Str->Option av) (fa:ax) (h:Heap),(K w.params).In h->h.Ns mainGlobals mg->mg d.name=some (.ref fa)->
   ∃fd:FuncData,(∀(s:aw) (u:av),BindsTo s fd ⟨[u],[]⟩ [("script",u)])/\∀base:Heap,(K w.params).In base->base.Ns mainGlobals mg->dW l.prog w (K w.params) mg base eJ 11 fa fd ["script"] (w6 (K w.params))) :
  WalkO q loose XP YP l.row.toRowW d [] (λf vs=>PySem.call f vs):=
 L2.aL8 (n:=63) (k:=11) (x:="script") (CX:=λ_=>eJ) (sp:=λw=>w6 (K w.params)) hn (by decide) CO ⟨rfl,by decide,by decide⟩ hY F (λ_ _ a ns hl hO hS=>⟨a,ns,rfl,YN hO hS,hl,λ_=>rfl⟩) λ_ _ _ _ _ z=>z
end K_k52
open PySem PySem.W PyProof.Rows
theorem PySem.W.Fast.te13052408679150730464 : True := trivial
theorem PySem.W.Fast.te16555476440528808052 : True := trivial
theorem PySem.W.Fast.te5369427470323729400 : True := trivial
set_option maxRecDepth 100000 in
set_option maxHeartbeats 0 in
theorem PySem.Challenge.cw_kindleweb_k52_whole_woods_and_small_webs_holds : PySem.Challenge.rw_kindleweb_k52_whole_woods_and_small_webs.Holds := by
 w_on;o_law;k_head;(case hw => w_witness2)
 k_fill
 refine K_k52.bF3 (l := PySem.Challenge.rw_kindleweb_k52_whole_woods_and_small_webs) rfl rfl (λw h Y => PySem.W.kIn_of Y) ?F
 case F =>
  intro w mg fa h KX G hmg
  refine' K_k52.bF2 KX G hmg ?h0 ?h1 ?h2 ?h3 ?h4 ?h5 ?h6 ?h7 ?h8 ?h9 ?h10 ?h11 ?h12 ?h13 ?h14 ?h15 ?h16 ?h17 ?h18 ?h19 ?h20 ?h21 ?h22 ?h23 ?h24 ?h25 ?h26 ?h27 ?h28 ?h29 ?h30 ?h31 ?h32 ?h33 ?h34 ?h35 ?h36 ?h37 ?h38 ?h39 ?h40 ?h41 ?h42 ?h43 ?a44 ?l44 ?c44 ?k44 ?z_len ?z_range ?z_tuple ?z_list ?z_sorted ?z_all ?z_any ?z_zip ?z_min ?z_max ?z_sum ?z_isinstance ?z_int ?z_bool ?z_enumerate ?z_reversed ?z_MOST_SEARCHEDx ?aX_HE ?aX_BS ?aX_BP ?aX_NW ?aX_TM ?zX_BW ?zX_BO ?zX_BB ?zX_BD ?zX_NP ?zX_NS ?zX_NT ?zX_OR ?y_fg ?y_ft ?z_VE ?y1_HE ?y2_HE ?y3_HE ?y4_HE ?y5_HE ?y6_HE ?y7_HE ?y1_BS ?y2_BS ?y3_BS ?y4_BS ?y5_BS ?y6_BS ?y7_BS ?y1_BP ?y2_BP ?y3_BP ?y4_BP ?y5_BP ?y6_BP ?y7_BP ?y1_NW ?y2_NW ?y3_NW ?y4_NW ?y5_NW ?y6_NW ?y7_NW ?y1_TM ?y2_TM ?y3_TM ?y4_TM ?y5_TM ?y6_TM ?y7_TM ?q_BP ?q_BS ?q_NW ?q_TM
  (case h0|h1|h2|h3|h4|h5|h6|h7|h8|h9|h10|h11|h12|h13|h14|h15|h16|h17|h18|h19|h20|h21|h22|h23|h24|h25|h26|h27|h28|h29|h30|h31|h32|h33|h34|h35|h36|h37|h38|h39|h40|h41|h42|h43 => exact⟨by k_is, ⟨⟨_, _, _, _, _, _, _, _, _, rfl, by k_is, by k_is⟩, by k_is⟩⟩)
  (case a44|l44|c44|k44|z_len|z_range|z_tuple|z_list|z_sorted|z_all|z_any|z_zip|z_min|z_max|z_sum|z_isinstance|z_int|z_bool|z_enumerate|z_reversed|z_MOST_SEARCHEDx|aX_HE|aX_BS|aX_BP|aX_NW|aX_TM|zX_BW|zX_BO|zX_BB|zX_BD|zX_NP|zX_NS|zX_NT|zX_OR|y_fg|y_ft|z_VE|y1_HE|y2_HE|y3_HE|y4_HE|y5_HE|y6_HE|y7_HE|y1_BS|y2_BS|y3_BS|y4_BS|y5_BS|y6_BS|y7_BS|y1_BP|y2_BP|y3_BP|y4_BP|y5_BP|y6_BP|y7_BP|y1_NW|y2_NW|y3_NW|y4_NW|y5_NW|y6_NW|y7_NW|y1_TM|y2_TM|y3_TM|y4_TM|y5_TM|y6_TM|y7_TM => k_is)
  (case q_BP|q_BS|q_NW|q_TM => k_exc)


