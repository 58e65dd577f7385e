import PyProof.Rows.All
import Wide.All
import OpenK.AllK
import Wide.FinOn
import Lean
import PyProof.EqAt
import PyProof.EqKinds
import PyProof.TupleCall
import PyProof.NeKinds
import PyProof.Draws
import PyProof.ZipIter
import PyProof.DictUpdate
import PyProof.AutoSeq1
import PyProof.ListRange
import PyProof.ListMulRoad
import PyProof.FactsAll.tuple_2
import PyProof.Rows.SortShell
import PyProof.EnumFor
import PyProof.EnumMake
import PyProof.EnumStmt
import PyProof.Rows.SortWalk
import KE.KDictList
import PyProof.SumAny
import PyProof.ConsumeWalk
import PyProof.WalksMore
import PyProof.Rows.TupAssign
import PyProof.ExcArgsOwn
import Wide.Seal
import PyProof.TupleKey
import KE.KLam
import PySem.Challenge.RW_kindleweb_k82_seeds_of_strips_counted
set_option Elab.async false
set_option linter.all false
set_option maxRecDepth 100000
set_option maxHeartbeats 4000000
section
open PySem PySem.Spec PyProof.Rows
def bw:=@wpAny_bind
def ez:=@Heap.get?_push_of_some
def dv:=@List.mem_cons_self
def eh:=@List.mem_singleton
def dm:=@decide_eq_false
def dt:=@List.length_map
def gc:=@List.mem_cons_of_mem
def da:=@Nat.le_refl
def fu:=@List.size_toArray
def cy:=@wpAny_pure
def gq:=@List.length_append
def eu:=@decide_eq_true
def gu:=@Bool.false_ne_true
def eg:=@List.mem_cons
def kg:=@List.getElem?_eq_getElem
def kz:=@List.getD_eq_getElem?_getD
def ij:=@List.getElem?_map
def iu:=@Nat.lt_of_lt_of_le
def cw:=@wpS_bind
def jw:=@Heap.get?_push_size
def fm:=@Heap.lt_size
def og:=@List.getElem?_eq_some_iff
def gg:=@List.map_cons
def ip:=@Option.some.inj
def dk:=@wpS_pure
def iz:=@List.map_append
def kf:=@decide_eq_true_eq
def jk:=@List.mem_append
def gs:=@List.mem_map
def ny:=@List.mem_append_right
def mf:=@Bool.false_eq_true
def jv:=@List.mem_filter
def me:=@List.append_assoc
def ky:=@List.not_mem_nil
def iw:=@Nat.le_trans
def mz:=@Int.toNat_natCast
def my:=@Bool.and_eq_true
def sr:=@List.mem_of_getElem?
def nv:=@List.append_nil
def uc:=@List.mem_append_left
def ma:=@List.sum_cons
def vb:=@List.getElem?_set_ne
def lj:=@Nat.ne_of_lt
def tu:=@List.filter_append
def va:=@List.map_congr_left
def vt:=@PySem.mem_of_lookup
def sj:=@List.length_cons
def lh:=@Nat.zero_le
def qu:=@List.nodup_cons
def qt:=@List.find?_cons
def yc:=@List.take_append_drop
def tm:=@List.lookup_cons
def xm:=@List.replicate_succ
def yb:=@List.pairwise_append
def vq:=@List.take_add_one
def vp:=@Array.getElem_mem
def qa:=@Nat.zero_add
def pq:=@List.map_map
def zj:=@List.length_replicate
def Az:=@List.getElem?_append_left
def ya:=@Array.toList_append
def qr:=@Nat.lt_irrefl
def mw:=@wpAny_mono
def qp:=@Nat.lt_or_ge
def kc:=@if_false
def Bb:=@List.pairwise_iff_getElem
def xj:=@List.take_length
def uz:=@List.mem_range
def Ay:=@List.take_of_length_le
def zi:=@wpAny_setField_rec
def xi:=@List.length_set
def zh:=@of_decide_eq_true
def zg:=@List.length_range
def qq:=@wpAny_field
def kx:=@or_false
def Dc:=@List.eq_nil_of_length_eq_zero
def Ba:=@List.getElem?_set_self
def tj:=@wpS_forRange
def xh:=@wpAny_seqItems
def xy:=@PySem.W.kia_one
def xg:=@Heap.size_push
def xx:=@Nat.two_pow_pos
def zf:=@wpAny_call_entry
def ze:=@Nat.le_add_right
def uw:=@Nat.le_of_lt
def uv:=@Nat.ne_of_gt
def zy:=@List.flatten_cons
def zx:=@List.foldl_append
def Cf:=@wpAny_callSpecial?_slot
def Ce:=@List.getElem?_cons_succ
def Ax:=@wpAny_pyIter_tuple
def CZ:=@List.getElem?_append_right
def xw:=@List.nodup_nil
def xf:=@wpAny_holding
def xc:=@Bool.true_and
def vo:=@Nat.mul_comm
def Cd:=@PySem.F.plain_min_loop
def CY:=@List.mem_of_find?_eq_some
def Aw:=@wpAny_truthy_bool
def Av:=@Bool.eq_false_iff
def Cc:=@List.length_filter_le
def CV:=@PySem.F.plainAttrs_list
def CU:=@decide_eq_false_iff_not
def CT:=@List.pairwise_singleton
def AZ:=@wpAny_newObj_type
def AY:=@List.pairwise_map
def Au:=@Bool.eq_iff_iff
def As:=@Nat.not_lt_zero
def CQ:=@Array.getElem?_toList
def Cb:=@Int.natCast_nonneg
def vn:=@call_meets
def Ca:=@of_decide_eq_false
def AX:=@List.all_eq_true
def AW:=@List.getElem_mem
def AV:=@List.filter_cons
def AU:=@List.mem_flatMap
def EO:=@Array.eq_empty_of_size_eq_zero
def xu:=@Int.le_refl
def CP:=@List.mem_of_mem_take
def AS:=@List.foldl_cons
def AR:=@F.slot_int_rmul
def AQ:=@Int.natCast_mul
def AO:=@List.range_succ
def CO:=@beq_eq_false_iff_ne
def CN:=@List.getElem?_range
def CM:=@List.mem_map_of_mem
def EN:=@PyProof.Rows.callWith_type1
def Ef:=@Nat.le_mul_of_pos_left
def BZ:=@wpAny_isInstance
def BY:=@List.any_eq_true
def CL:=@wpAny_Call_Name_kw
def CK:=@Nat.eq_or_lt_of_le
def Ee:=@Heap.get?_update_self
def BX:=@wpAny_passesOwn
def BW:=@PassesOwn.never
def BV:=@List.sum_append
def uu:=@wpS_mono
def AN:=@Bool.not_true
def zd:=@wpAny_rule
def BU:=@List.drop_take
def zw:=@True.intro
end
abbrev ax:=PySem.Value
abbrev ay:=PySem.Shared
abbrev az:=PySem.Addr
abbrev ba:=PySem.Program
abbrev bc:=PySem.Around
abbrev bd:=PySem.World
abbrev aa:=List (Int×Int)
abbrev ad:=PySem.W.Frag
abbrev ae:=List (List Int)
abbrev ag:=List Int
namespace L2
open PySem PySem.Spec PyProof.Rows
def mB (k:Int):ax->Bool
 |.int i _=>i==k
 |.bool b=>(if b then 1 else 0)==k
 |_=>false
theorem pY {k:Int}{v:ax}(h:mB k v=true):(∃t,v = .int k t)∨∃b:Bool,v = .bool b/\k=if b then 1 else 0:=by
 cases v with
 |int i t=>exact .inl ⟨t,by rw[show i=k from eq_of_beq h]⟩
 |bool b=>exact .inr ⟨b,rfl,(eq_of_beq h).symm⟩
 |_=>cases h
theorem aC8 (b:Bool):reduceHash (if b then 1 else 0)=hashInt (if b then 1 else 0):=by cases b<;>decide +kernel
theorem aC9 {prog:ba}{w:bd}{A:bc}{E:ax->ay->Prop}{s:ay}{b:Bool}{Q:Int->ay->Prop}(h:Q (hashInt (if b then 1 else 0)) { s with toks:=s.toks+1 }) :
  wpAny (model prog w) A (PySem.pyHash (.bool b)) Q E s:=by
 refine PySem.W.pyHash_slot (T:="bool") rfl F.slot_bool_hash entry_int_hash (args_int_hash _) (beq_builtin_none _) (.inl rfl) ?_;rw[<- aC8]at h;cases b
 ·exact (show wpAny _ _ (do ret (<- mkInt 0)) _ _ s from bw (wpAny_mkInt (cy ⟨_,_,rfl,h⟩)))
 ·exact (show wpAny _ _ (do ret (<- mkInt 1)) _ _ s from bw (wpAny_mkInt (cy ⟨_,_,rfl,h⟩)))
def jJ (prog:ba)(w:bd):KeyKind prog w Int where
 is:=mB
 hash:=hashInt
 inj:=λv a b h1 h2=>by
  rcases pY h1 with⟨t,rfl⟩|⟨x,rfl,e⟩
  ·exact eq_of_beq h2
  ·rw[e];exact eq_of_beq h2
 byValue:=λk v h=>by
  rcases pY h with⟨t,rfl⟩|⟨x,rfl,e⟩<;>rfl
 pyHash:=λhv h=>by
  rcases pY hv with⟨t,rfl⟩|⟨x,rfl,e⟩
  ·exact wpAny_pyHash_int h
  ·exact aC9 (by rw[<- e];exact h)
 eqBool:=λ{A E s a b u v Q} hu hv h=>by
  rcases pY hu with⟨t,rfl⟩|⟨x,rfl,e⟩<;>rcases pY hv with⟨t',rfl⟩|⟨y,rfl,e'⟩
  ·exact SeqAt.EqAt.int_int a t b t' prog w E Q h
  ·exact SeqAt.EqAt.int_bool a t y prog w E Q (by rw[<- e'];exact h)
  ·exact SeqAt.EqAt.bool_int x b t' prog w E Q (by rw[<- e];exact h)
  ·refine SeqAt.EqAt.bool_bool x y prog w E Q ?_
   have:(x==y)=decide (a=b):=by rw[e,e'];cases x<;>cases y<;>rfl
   rw[this];exact h
 «strs»:=λk x t v h=>by cases h
theorem x3 {α β:Type}{F G:α->β->Prop}:∀{yq:List α}{l₂:List β},Paired F yq l₂->(∀a b,F a b->G a b)->Paired G yq l₂
 |_,_,.nil,_=>.nil
 |_,_,.cons r t,f=>.cons (f _ _ r) (x3 t f)
section
variable {prog:ba}{w:bd}{K:Type}[DecidableEq K]{knd:KeyKind prog w K}
def gE (knd:KeyKind prog w K)(h:Heap)(ks:List (List K))(a:az):Prop:=∃o items n,h.get? a=some o/\o.cls = .type "tuple"/\o.data = .seq items n/\Paired (λk v=>∃b,v=Value.ref b/\IsTupleKey knd h k b) ks items.toList
def R4 (knd:KeyKind prog w K)(ks:List (List K)):Int:=reduceHash (Builtin.Tuple.tupleHashOf (ks.map (tupleKeyHash knd)))
def R5 (ks:List (List K)):Nat:=(ks.map λk=>k.length+1).sum+1
theorem gE.typeIs {s:ay}{ks:List (List K)}{a:az}(x:gE knd s.heap ks a):s.TypeIs (.ref a) "tuple":=let ⟨o,_,_,ho,hc,_⟩:=x;⟨o,ho,hc⟩
theorem R6 {h:Heap}:∀{x y:List (List K)}{vs:List ax},Paired (λk v=>∃b,v=Value.ref b/\IsTupleKey knd h k b) x vs->Paired (λk v=>∃b,v=Value.ref b/\IsTupleKey knd h k b) y vs->x=y
 |_,_,_,.nil,.nil=>rfl
 |_,_,_,.cons ⟨b,e,r⟩ t,.cons ⟨b',e',r'⟩ t'=>by
  rw[e]at e';cases e';rw[r.inj r',R6 t t']
theorem gE.inj {h:Heap}{a:az}{x y:List (List K)}(hx:gE knd h x a)(hy:gE knd h y a):x=y:=by
 obtain⟨o,items,n,ho,_,hd,hi⟩:=hx
 obtain⟨o',Ft,n',xr,_,AI,jf⟩:=hy
 obtain rfl:o=o':=ip (ho.symm.trans xr);rw[hd]at AI;injection AI with h1 _
 subst h1;exact R6 hi jf
theorem gE.keeps {h h':Heap}{ks:List (List K)}{a d:az}{o:Obj}{es ep}(x:gE knd h ks a)(ho:h.get? d=some o)(hd:o.data = .dict es ep)(hs:Heap.SameBut d h h'):gE knd h' ks a:=by
 obtain⟨o',items,n,xr,hc,AI,hi⟩:=x
 have oo:a≠d:=by
  rintro rfl;obtain rfl:o'=o:=ip (xr.symm.trans ho);rw[hd]at AI;exact nomatch AI
 exact⟨o',items,n,(hs.2 a oo).trans xr,hc,AI,x3 hi λk v ⟨b,e,r⟩=>⟨b,e,r.keeps ho hd hs⟩⟩
variable {A:bc}{E:ax→ay→Prop}{s:ay}
theorem R7:∀{ks:List (List K)}{vs:List ax}{A:bc}{s:ay}{b:Array Int}{Q:Array Int->ay->Prop},A.units<cLine->Paired (λk v=>∃b,v=Value.ref b/\IsTupleKey knd s.heap k b) ks vs->
  (∀b':Array Int,b'.toList=b.toList++ks.map (tupleKeyHash knd)->Q b' { s with toks:=s.toks+(ks.map λk=>k.length+1).sum })->
  wpAny (model prog w) A (forIn vs b λx r=>do let h <- pyHash x;pure PUnit.unit;pure (ForInStep.yield (r.push h))) Q E s
 |[],_,A,s,b,Q,_,.nil,h=>cy (h b (by simp))
 |k::ks,_,A,s,b,Q,hu,.cons ⟨p,e,r⟩ t,h=>by
  subst e;rw[List.forIn_cons];refine bw (bw (wpAny_pyHash_tuple hu r ?_));refine bw (cy (cy ?_));exact R7 (s:={ s with toks:=s.toks+(k.length+1) }) hu t λb' hb=>by
   have:=h b' (by rw[hb];simp)
   simpa[Nat.add_assoc] using this
theorem aD0 {ks:List (List K)}{a:az}{Q:Int->ay->Prop}(hu:A.units+1<cLine)(hk:gE knd s.heap ks a)(h:Q (R4 knd ks) { s with toks:=s.toks+R5 ks }) :
  wpAny (model prog w) A (pyHash (.ref a)) Q E s:=by
 have hT:=hk.typeIs
 obtain⟨o,items,n,ho,_,hd,hi⟩:=hk
 refine PySem.W.pyHash_slot (T:="tuple") hT F.slot_tuple_hash F.entry_tuple_hash (F.args_tuple_hash_1 _) (beq_builtin_none _) (.inr (by lia)) ?_;show wpAny _ _ (Builtin.Tuple.tupleItemsOf (.ref a) >>= _) _ _ s;refine bw (wpAny_tupleItemsOf ho hd ?_);refine bw ?_;rw[<- Array.forIn_toList];refine R7 (by show A.units+1<cLine;exact hu) hi λb hb=>?_
 show wpAny _ _ (retInt (Builtin.Tuple.tupleHashOf b.toList)) _ _ _;rw[hb];exact bw (wpAny_mkInt (cy ⟨_,_,rfl,h⟩))
theorem aD1 {x y:List (List K)}{a b:az}{P:Fin->ay->Prop}(hu:A.units<cLine)(hx:gE knd s.heap x a)(hy:gE knd s.heap y b)(h:P (.done (.ret (.bool (decide (x=y))))) s) :
  wpAny (model prog w) A (Builtin.«tuple.__eq__» ⟨[.ref a,.ref b],[]⟩) P E s:=by
 have RV:=hy.typeIs
 obtain⟨oa,xs,na,Rq,_,RO,RF⟩:=hx
 obtain⟨ob,ys,nb,Rp,_,jy,RE⟩:=hy
 show wpAny _ _ (isInstance (.ref b) (.type "tuple") >>= _) _ _ s;refine bw (BZ RV isSubtype_tuple_tuple ?_);simp only[AN,mf,kc];refine bw (wpAny_tupleItemsOf Rq RO ?_);refine bw (wpAny_tupleItemsOf Rp jy ?_);refine bw ?_;refine wpAny_forIn_list _
  (λrest r s'=>r.1=none/\s'=s/\∃x' y' vx Cn,rest=List.zip vx Cn/\Paired (λk v=>∃b,v=Value.ref b/\IsTupleKey knd s.heap k b) x' vx/\Paired (λk v=>∃b,v=Value.ref b/\IsTupleKey knd s.heap k b) y' Cn/\decide (x'=y')=decide (x=y)/\(vx.length==Cn.length)=(xs.size==ys.size))
  _ ?_ ?_ _ _ ⟨rfl,rfl,x,y,xs.toList,ys.toList,rfl,RF,RE,rfl,by simp⟩
 ·rintro⟨u,v⟩ rest r s' ⟨hr,rfl,x',y',vx,Cn,hz,yu,Cw,Ak,ao⟩
  cases yu with
  |nil=>simp at hz
  |@cons k1 u' Hj ET h1 FD=>
   cases Cw with
   |nil=>simp at hz
   |@cons k2 v' Hi ES h2 FC=>
    simp only[List.zip_cons_cons,List.cons.injEq,Prod.mk.injEq]at hz
    obtain⟨⟨rfl,rfl⟩,rfl⟩:=hz
    obtain⟨b1,rfl,q1⟩:=h1
    obtain⟨b2,rfl,q2⟩:=h2
    refine bw (wpAny_eqBool_tuple (x:=k1) (y:=k2) hu q1 q2 ?_);by_cases hk:k1=k2
    ·subst hk
     rw[eu rfl];simp only[AN,mf,kc];refine cy ⟨rfl,rfl,Hj,Hi,ET,ES,rfl,FD,FC,?_,by simpa using ao⟩;rw[<- Ak];by_cases Ig:Hj=Hi
     ·simp[Ig]
     ·simp[Ig]
    ·rw[dm hk]
     simp only[Bool.not_false,if_true];have hf:decide (x=y)=false:=by rw[<- Ak];simp[hk]
     rw[hf]at h;exact bw (cy (cy (cy h)))
 ·rintro⟨r1,r2⟩ s' ⟨hr,rfl,x',y',vx,Cn,hz,yu,Cw,Ak,ao⟩
  simp only at hr;subst hr;refine cy ?_;have Ge:(xs.size==ys.size)=decide (x=y):=by
   rw[<- Ak,<- ao];cases yu with
   |nil=>
    cases Cw with
    |nil=>simp
    |cons _ _=>simp
   |cons _ _=>
    cases Cw with
    |nil=>simp
    |cons _ _=>simp at hz
  show P (.done (.ret (.bool (xs.size==ys.size)))) s';rw[Ge];exact h
theorem aD2 {x y:List (List K)}{a b:az}{Q:Bool->ay->Prop}(hu:A.units+8<cLine)(hx:gE knd s.heap x a)(hy:gE knd s.heap y b)(h:Q (decide (x=y)) s) :
  wpAny (model prog w) A (eqBool (.ref a) (.ref b)) Q E s:=by
 unfold eqBool
 try with_reducible refine xf ?_
 show wpAny _ _ (if (Value.ref a==Value.ref b)=true then _ else _) Q E s;by_cases Gm:(Value.ref a==Value.ref b)=true
 ·rw[if_pos Gm]
  have e:a=b:=by have:=eq_of_beq Gm;injection this
  subst e;obtain rfl:=hx.inj hy;exact bw (zd (cy (by simpa using h)))
 ·rw[if_neg Gm]
  exact bw (wpAny_richCompare_same_room (op:=.Eq) hx.typeIs hy.typeIs F.slot_tuple_eq
   (zf F.slot_tuple_eq hx.typeIs F.entry_tuple_eq (aD1 (by show A.units+1+0<cLine;lia) hx hy ⟨_,rfl,(λe=>nomatch e),Aw h⟩) (F.args_tuple_eq_2 _ _)) (by lia))
theorem aD3 {ks:List K}{a:az}{n:Nat}{Q:Bool->ay->Prop}(hk:IsTupleKey knd s.heap ks a)(h:Q true s):wpAny (model prog w) A (eqIsQuiet (n+1) (.ref a)) Q E s:=by
 have hT:=hk.typeIs
 obtain⟨o,items,m,ho,_,hd,hi⟩:=hk
 unfold eqIsQuiet;refine bw (wpAny_specialOf hT F.slot_tuple_eq.lookup ?_);show wpAny _ _ (isInstance (.ref a) (.type "tuple") >>= _) _ _ s;refine bw (BZ hT isSubtype_tuple_tuple ?_);simp only[AN,mf,kc];refine bw (xh ho hd ?_);refine bw ?_;show wpAny _ _ (forIn items _ _) _ _ s;rw[<- Array.forIn_toList];refine wpAny_forIn_list _ (λrest r s'=>r.1=none/\s'=s/\∀v∈rest,carriedByValue v=true) _ ?_ ?_ _ _ ⟨rfl,rfl,hi.byValue⟩
 ·rintro v rest r s' ⟨hr,rfl,ur⟩
  rw[eqIsQuiet_byValue _ (ur v dv)];refine bw (cy ?_);simp only[AN,mf,kc];exact cy ⟨rfl,rfl,λu Cz=>ur u (gc _ Cz)⟩
 ·rintro⟨r1,r2⟩ s' ⟨hr,rfl,_⟩
  simp only at hr;subst hr;exact cy h
theorem R8 {h:Heap}:∀{x:List (List K)}{vs:List ax},Paired (λk v=>∃b,v=Value.ref b/\IsTupleKey knd h k b) x vs->∀v∈vs,∃k b,v = .ref b/\IsTupleKey knd h k b
 |_,_,.nil,v,hv=>by simp at hv
 |_,_,.cons ⟨b,e,r⟩ t,v,hv=>by
  rcases eg.mp hv with rfl|hv
  ·exact⟨_,b,e,r⟩
  ·exact R8 t v hv
theorem aD4 {ks:List (List K)}{a:az}{n:Nat}{Q:Bool->ay->Prop}(hk:gE knd s.heap ks a)(h:Q true s):wpAny (model prog w) A (eqIsQuiet (n+2) (.ref a)) Q E s:=by
 have hT:=hk.typeIs
 obtain⟨o,items,m,ho,_,hd,hi⟩:=hk
 unfold eqIsQuiet;refine bw (wpAny_specialOf hT F.slot_tuple_eq.lookup ?_);show wpAny _ _ (isInstance (.ref a) (.type "tuple") >>= _) _ _ s;refine bw (BZ hT isSubtype_tuple_tuple ?_);simp only[AN,mf,kc];refine bw (xh ho hd ?_);refine bw ?_;show wpAny _ _ (forIn items _ _) _ _ s;rw[<- Array.forIn_toList];refine wpAny_forIn_list _ (λrest r s'=>r.1=none/\s'=s/\∀v∈rest,∃k b,v = .ref b/\IsTupleKey knd s.heap k b) _ ?_ ?_ _ _ ⟨rfl,rfl,R8 hi⟩
 ·rintro v rest r s' ⟨hr,rfl,ur⟩
  obtain⟨k,b,rfl,q⟩:=ur v dv
  refine bw (aD3 q ?_);simp only[AN,mf,kc];exact cy ⟨rfl,rfl,λu Cz=>ur u (gc _ Cz)⟩
 ·rintro⟨r1,r2⟩ s' ⟨hr,rfl,_⟩
  simp only at hr;subst hr;exact cy h
end
def pZ {prog:ba}{w:bd}{K:Type}[DecidableEq K](knd:KeyKind prog w K):HeapKind prog w (List (List K)) where
 is:=gE knd
 hash:=R4 knd
 draws:=R5
 room:=λA=>A.units+8<cLine
 inj:=λhx hy=>hx.inj hy
 keeps:=λx ho hd hs=>x.keeps ho hd hs
 pyHash:=λhu hk h=>aD0 (Nat.lt_of_le_of_lt (Nat.add_le_add_left (by decide) _) hu) hk h
 eqBool:=λhu hx hy h=>aD2 hu hx hy h
 quiet:=λhk h=>aD4 hk h
def eD (k:List (Int×Bool)):ae:=k.map λp=>[p.1,if p.2 then 1 else 0]
theorem x4:∀{k k':List (Int×Bool)},eD k=eD k'->k=k'
 |[],[],_=>rfl
 |[],_::_,h=>by simp[eD]at h
 |_::_,[],h=>by simp[eD]at h
 |(i,b)::r,(j,c)::r',h=>by
  simp only[eD,gg,List.cons.injEq]at h
  obtain⟨⟨rfl,h2,_⟩,h3⟩:=h
  have:b=c:=by cases b<;>cases c<;>simp_all
  subst this;rw[x4 h3]
abbrev bZ:=Sum Int Str
def R9:bZ->ax->Bool
 |.inl k,v=>Value.isInt k v
 |.inr x,v=>Value.isStrOf x v
def aD5 (w:bd):bZ->Int
 |.inl k=>hashInt k
 |.inr x=>hashStr w x
theorem kB:∀{k:bZ}{v:ax},R9 k v=true->(∃i t,k=Sum.inl i/\v=Value.int i t)∨(∃x t,k=Sum.inr x/\v=Value.str x t)
 |.inl i,v,h=>by
  obtain⟨t,e⟩:=Value.isInt_shape (k:=i) (v:=v) h
  exact .inl ⟨i,t,rfl,e⟩
 |.inr x,v,h=>by
  obtain⟨t,e⟩:=Value.isStrOf_shape (x:=x) (v:=v) h
  exact .inr ⟨x,t,rfl,e⟩
theorem aD6 (a b:Int):decide ((Sum.inl a:bZ)=Sum.inl b)=(a==b):=by
 by_cases e:a=b
 ·subst e;simp
 ·have h:¬(Sum.inl a:bZ)=Sum.inl b:=λq=>e (Sum.inl.inj q)
  rw[dm h];exact (CO.mpr e).symm
theorem aD7 (a b:Str):decide ((Sum.inr a:bZ)=Sum.inr b)=decide (a=b):=by
 by_cases e:a=b
 ·subst e;simp
 ·have h:¬(Sum.inr a:bZ)=Sum.inr b:=λq=>e (Sum.inr.inj q)
  rw[dm h,dm e]
theorem aD8 (a:Int)(b:Str):decide ((Sum.inl a:bZ)=Sum.inr b)=false:=dm (λq=>nomatch q)
theorem aD9 (a:Str)(b:Int):decide ((Sum.inr a:bZ)=Sum.inl b)=false:=dm (λq=>nomatch q)
def t6 (prog:ba)(w:bd):PySem.KeyKind prog w bZ where
 is:=R9
 hash:=aD5 w
 inj:=λv a b ha hb=>by
  rcases kB ha with⟨i,t,rfl,rfl⟩|⟨x,t,rfl,rfl⟩
  ·rcases kB hb with⟨j,u,rfl,e⟩|⟨y,u,rfl,e⟩
   ·injection e with e1 _;rw[e1]
   ·exact nomatch e
  ·rcases kB hb with⟨j,u,rfl,e⟩|⟨y,u,rfl,e⟩
   ·exact nomatch e
   ·injection e with e1 _;rw[e1]
 byValue:=λk v h=>by
  rcases kB h with⟨i,t,rfl,rfl⟩|⟨x,t,rfl,rfl⟩<;>rfl
 pyHash:=λhv h=>by
  rcases kB hv with⟨i,t,rfl,rfl⟩|⟨x,t,rfl,rfl⟩
  ·exact wpAny_pyHash_int h
  ·exact wpAny_pyHash_str h
 eqBool:=λhu hv h=>by
  rcases kB hu with⟨i,t,rfl,rfl⟩|⟨x,t,rfl,rfl⟩
  ·rcases kB hv with⟨j,u,rfl,rfl⟩|⟨y,u,rfl,rfl⟩
   ·rw[aD6]at h;exact wpAny_eqBool_int h
   ·rw[aD8]at h;exact SeqAt.EqAt.int_str i t y u _ _ _ _ h
  ·rcases kB hv with⟨j,u,rfl,rfl⟩|⟨y,u,rfl,rfl⟩
   ·rw[aD9]at h;exact SeqAt.EqAt.str_int x t j u _ _ _ _ h
   ·rw[aD7]at h;exact wpAny_eqBool_str h
 «strs»:=λk x t v h=>by
  rcases kB h with⟨i,u,rfl,e⟩|⟨y,u,rfl,e⟩
  ·exact nomatch e
  ·injection e with e1 _
   subst e1;cases v<;>rfl
inductive V where
 |cq|bl (b:Bool)|int (i:Int)|str (x:Str)|xb (b:Array UInt8)|CG (b:UInt64)|ref (a:az)|ty (n:String)
 deriving DecidableEq
def aO:V->ax->Prop
 |.cq,u=>u=Value.none
 |.bl b,u=>u=Value.bool b
 |.int i,u=>∃t,u=Value.int i t
 |.str x,u=>∃t,u=Value.str x t
 |.xb b,u=>∃t,u=Value.bytes b t
 |.CG b,u=>∃t,u=Value.float b t
 |.ref a,u=>u=Value.ref a
 |.ty n,u=>u=Value.type n
abbrev aI:List V->List ax->Prop:=Paired aO
theorem aI.length {xs:List V}{us:List ax}(r:aI xs us):xs.length=us.length:=Paired.length r
theorem aI.get:∀{xs:List V}{us:List ax}{i:Nat}{x:V},aI xs us->xs[i]? = some x->∃u,us[i]? = some u/\aO x u
 |_,_,_,_,.nil,e=>by simp at e
 |_,_,0,_,.cons r _,e=>by simp at e;subst e;exact⟨_,rfl,r⟩
 |_,_,i+1,x,.cons _ t,e=>by
  obtain⟨u,h1,h2⟩:=aI.get (i:=i) (x:=x) t (by simpa using e)
  exact⟨u,by simpa using h1,h2⟩
theorem aI.set {x:V}{u:ax}(r:aO x u):∀{xs:List V}{us:List ax} (i:Nat),aI xs us->aI (xs.set i x) (us.set i u)
 |_,_,_,.nil=>.nil
 |_,_,0,.cons _ t=>.cons r t
 |_,_,i+1,.cons q t=>.cons q (aI.set r i t)
theorem aI.append:∀{xs ys:List V}{us ws:List ax},aI xs us->aI ys ws->aI (xs++ys) (us++ws)
 |_,_,_,_,.nil,s=>s
 |_,_,_,_,.cons r t,s=>.cons r (aI.append t s)
theorem aI.take:∀{xs:List V}{us:List ax} (n:Nat),aI xs us->aI (xs.take n) (us.take n)
 |_,_,0,_=>.nil
 |_,_,_+1,.nil=>.nil
 |_,_,n+1,.cons r t=>.cons r (aI.take n t)
theorem aI.drop:∀{xs:List V}{us:List ax} (n:Nat),aI xs us->aI (xs.drop n) (us.drop n)
 |_,_,0,r=>r
 |_,_,_+1,.nil=>.nil
 |_,_,n+1,.cons _ t=>aI.drop n t
def iX:Option V->Option ax->Prop
 |some v,some u=>aO v u
 |none,none=>True
 |_,_=>False
def KV {κ:Type}:List (κ×V)->List (κ×ax)->Prop:=Paired λ(p:κ×V) (q:κ×ax)=>p.1=q.1/\aO p.2 q.2
def kV:bZ->V
 |.inl i=>.int i
 |.inr x=>.str x
inductive HO where
 |lst (xs:List V)
 |tup (xs:List V)
 |dK (bq:List (bZ×V))|dT (bq:List (List bZ×V))
 |set (S:Int->Bool) (n:Nat)
 |ins (C dx:az) (fs:List (Str×V))
 |own (x:az)
 |xd (fs:List (Str×V))
 |met (f x:az)
 |de (lo hi:Int)
 |dq (o:Obj) (u:HO)
 |qb (ps:Array ax)
 |code (q:Str)
 |cd (c:az) (q:Str)
 |dA (bq:List (List (Int×Bool)×V))|dB (bq:List (Int×V))
 |ext (φ:Heap->Prop)
abbrev Hp:=az->Option HO
def upd (H:Hp)(a:az)(o:HO):Hp:=λb=>if b=a then some o else H b
theorem bE {H:Hp}{a:az}{o:HO}:upd H a o a=some o:=by unfold upd;rw[if_pos rfl]
theorem aH {H:Hp}{a b:az}{o:HO}(h:b≠a):upd H a o b=H b:=by unfold upd;rw[if_neg h]
theorem S0 {H:Hp}{a b:az}{o u:HO}(h:H a=some o)(h':H b=some u)(d:o≠u):a≠b:=by
 intro e;subst e;rw[h]at h';exact d (ip h')
theorem dL {H:Hp}{a b:az}{o:HO}(h:H a=some o)(h':H b=none):a≠b:=by
 intro e;subst e;rw[h]at h';cases h'
def iY (h:Heap)(a:az):Prop:=∀o,h.get? a=some o->o.dict=none
theorem iY.new (h:Heap)(o:Obj)(d:o.dict=none)(s:o.isFreed=false:=by rfl):iY (h.push o) h.objs.size:=λu e=>by
 rw[jw h (o:=o) s]at e;cases e;exact d
theorem iY.fw {h h':Heap}{a:az}{o:Obj}(n:iY h a)(e:h.get? a=some o)(e':h'.get? a=some o):iY h' a:=λu hu=>by
 rw[e']at hu;cases hu;exact n _ e
def gF (H:Hp)(k:List (Int×Bool))(b:az):Prop:=∃us:List V,H b=some (.tup us)/\Paired (λ(p:Int×Bool) (u:V)=>∃c,u = .ref c/\H c=some (.tup [.int p.1,.bl p.2])) k us
theorem gF.keeps {H H':Hp}{k:List (Int×Bool)}{b:az}(ht:∀b xs,H b=some (.tup xs)->H' b=some (.tup xs))(x:gF H k b):gF H' k b:=
 let ⟨us,e,r⟩:=x;⟨us,ht _ _ e,x3 r λ_ _ ⟨c,q,z⟩=>⟨c,q,ht _ _ z⟩⟩
section
variable (P:ba)(w:bd)
def bK (H:Hp)(h:Heap)(a:az):HO->Prop
 |.lst xs=>xs.length<=sizeLine/\∃(bo:List ax) (n:Nat),aI xs bo/\h.get? a=some { cls:=.type "list",data:=.seq bo.toArray n }
 |.tup xs=>xs.length<=sizeLine/\∃bo:List ax,aI xs bo/\IsTup h a bo.toArray/\iY h a
 |.dK bq=>bq.length<=sizeLine/\(a==sysModules)=false/\∃vs,KV bq vs/\h.DictOf (t6 P w) a vs
 |.dT bq=>bq.length<=sizeLine/\(a==sysModules)=false/\∃xs:List (List bZ×az×ax),
   Paired (λ(p:List bZ×V) (q:List bZ×az×ax)=>p.1=q.1/\H q.2.1=some (.tup (p.1.map kV))/\aO p.2 q.2.2) bq xs/\
   ∃o es ep,h.get? a=some o/\o.ExactDict/\o.data = .dict es ep/\es.toList=xs.map (entryOfKey (tupleKind (t6 P w)))/\(xs.map (·.1)).Nodup
 |.set S n=>h.SetOf (intKind P w) a S n
 |.ins C dx fs=>H dx=some (.own a)/\fs.length<=1000/\dx≠a/\h.get? a=some (PySem.W.instObj C dx)/\
   ∃mA,h.Ns1 dx mA/\(∀f,iX (fs.lookup f) (mA f))/\PySem.Within mA (fs.map (·.1))
 |.own _=>∃o,h.get? a=some o
 |.xd fs=>∃mA,h.Ns1 a mA/\∀f,iX (fs.lookup f) (mA f)
 |.de lo hi=>∃t u v,h.get? a=some { cls:=.type "range",data:=.fields #[.int lo t,.int hi u,.int 1 v] }
 |.dq o u=>h.get? a=some o/\bK H h a u
 |.qb ps=>∃qs:Array ax,h.get? a=some { cls:=.none,data:=.fields qs }/\TriplesOk qs.toList/\∀(pos:Pos) (cv:ax),codeAmong pos qs.toList=some cv->∃(c:az) (q:Str) (t:Tok),cv = .ref c/\H c=some (.code q)/\ps = #[.str q t]
 |.code q=>∃(oc:Obj) (vs:Array ax) (t:Tok),h.get? a=some oc/\oc.data = .fields vs/\vs[1]? = some (.str q t)
 |.cd c q=>(∃o,h.get? a=some o)/\H c=some (.code q)
 |.dA bq=>bq.length<=sizeLine/\(a==sysModules)=false/\∃xs:List (ae×az×ax),
   Paired (λ(p:List (Int×Bool)×V) (q:ae×az×ax)=>eD p.1=q.1/\gF H p.1 q.2.1/\aO p.2 q.2.2) bq xs/\
   ∃o es ep,h.get? a=some o/\o.ExactDict/\o.data = .dict es ep/\es.toList=xs.map (entryOfKey (pZ (jJ P w)))/\(xs.map (·.1)).Nodup
 |.dB bq=>bq.length<=sizeLine/\(a==sysModules)=false/\∃vs,KV bq vs/\h.DictOf (jJ P w) a vs
 |.met f x=>h.get? a=some (PySem.W.methodObj (.ref f) (.ref x))
 |.ext φ=>φ h/\(∃o,h.get? a=some o)/\∀h1 h2:Heap,φ h1->(∀o,h1.get? a=some o->h2.get? a=some o)->φ h2
def bS (H:Hp)(h:Heap):Prop:=∀a o,H a=some o->bK P w H h a o
end
section
variable {P:ba}{w:bd}{H H':Hp}{h h':Heap}{a:az}{o:HO}
theorem bK.lt (x:bK P w H h a o):a<h.objs.size:=by
 cases o with
 |lst xs=>obtain⟨_,_,_,_,e⟩:=x;exact fm e
 |tup xs=>obtain⟨_,_,_,p,_⟩:=x;exact p.lt
 |dK bq=>obtain⟨_,_,_,_,o,_,_,e,_⟩:=x;exact fm e
 |dT bq=>obtain⟨_,_,_,_,o,_,_,e,_⟩:=x;exact fm e
 |set S n=>obtain⟨o,_,_,_,e,_⟩:=x;exact fm e
 |ins C dx fs=>obtain⟨_,_,_,e,_⟩:=x;exact fm e
 |own y=>obtain⟨_,e⟩:=x;exact fm e
 |xd fs=>obtain⟨_,⟨_,_,_,e,_⟩,_⟩:=x;exact fm e
 |de lo hi=>obtain⟨_,_,_,e⟩:=x;exact fm e
 |dq ob u=>obtain⟨e,_⟩:=x;exact fm e
 |qb ps=>obtain⟨_,e,_⟩:=x;exact fm e
 |code q=>obtain⟨_,_,_,e,_⟩:=x;exact fm e
 |cd c q=>obtain⟨⟨_,e⟩,_⟩:=x;exact fm e
 |dA bq=>obtain⟨_,_,_,_,o,_,_,e,_⟩:=x;exact fm e
 |dB bq=>obtain⟨_,_,_,_,o,_,_,e,_⟩:=x;exact fm e
 |met f y=>exact fm (show h.get? a=some _ from x)
 |ext φ=>obtain⟨_,⟨_,e⟩,_⟩:=x;exact fm e
theorem Paired.Aj {α β:Type}{F G:α->β->Prop}:∀{yq:List α}{l₂:List β},Paired F yq l₂->(∀a b,F a b->G a b)->Paired G yq l₂
 |_,_,.nil,_=>.nil
 |_,_,.cons r t,f=>.cons (f _ _ r) (Paired.Aj t f)
theorem bK.fw (x:bK P w H h a o)(k:∀b u,(b=a∨H b=some (.own a))->h.get? b=some u->h'.get? b=some u)(ho:∀b,H b=some (.own a)->H' b=some (.own a))(ht:∀b xs,H b=some (.tup xs)->H' b=some (.tup xs))(hc:∀b q,H b=some (.code q)->H' b=some (.code q):=by
   first
    |exact λ_ _ e=>e
    |(intro c q e;rw[aH (dL e (by assumption))];exact e)
    |(intro c q e;rw[aH (λz=>by subst z;simp_all)];exact e)):bK P w H' h' a o:=by
 induction o with
 |lst xs=>obtain⟨z,bo,n,r,e⟩:=x;exact⟨z,bo,n,r,k _ _ (.inl rfl) e⟩
 |tup xs=>obtain⟨z,bo,r,⟨ob,e,c⟩,nd⟩:=x;exact⟨z,bo,r,⟨ob,k _ _ (.inl rfl) e,c⟩,nd.fw e (k _ _ (.inl rfl) e)⟩
 |dK bq=>obtain⟨z,y,vs,r,ob,es,ep,e,c⟩:=x;exact⟨z,y,vs,r,ob,es,ep,k _ _ (.inl rfl) e,c⟩
 |dT bq=>
  obtain⟨z,y,xs,r,ob,es,ep,e,c⟩:=x
  exact⟨z,y,xs,Paired.Aj r λp q z=>⟨z.1,ht _ _ z.2.1,z.2.2⟩,ob,es,ep,k _ _ (.inl rfl) e,c⟩
 |set S n=>obtain⟨ob,es,ep,t,e,c⟩:=x;exact⟨ob,es,ep,t,k _ _ (.inl rfl) e,c⟩
 |ins C dx fs=>
  obtain⟨d,z,ne,e,mA,⟨od,es,ep,e2,c⟩,r⟩:=x
  exact⟨ho _ d,z,ne,k _ _ (.inl rfl) e,mA,⟨od,es,ep,k _ _ (.inr d) e2,c⟩,r⟩
 |own y=>obtain⟨ob,e⟩:=x;exact⟨ob,k _ _ (.inl rfl) e⟩
 |xd fs=>obtain⟨mA,⟨od,es,ep,e,c⟩,r⟩:=x;exact⟨mA,⟨od,es,ep,k _ _ (.inl rfl) e,c⟩,r⟩
 |de lo hi=>obtain⟨t,u,v,e⟩:=x;exact⟨t,u,v,k _ _ (.inl rfl) e⟩
 |dq ob u ih=>obtain⟨e,q⟩:=x;exact⟨k _ _ (.inl rfl) e,ih q⟩
 |qb ps=>
  obtain⟨qs,e,tr,cs⟩:=x
  exact⟨qs,k _ _ (.inl rfl) e,tr,λpos cv z=>let ⟨c,q,t,e1,e2,e3⟩:=cs pos cv z;⟨c,q,t,e1,hc _ _ e2,e3⟩⟩
 |code q=>obtain⟨oc,vs,t,e,r⟩:=x;exact⟨oc,vs,t,k _ _ (.inl rfl) e,r⟩
 |cd c q=>obtain⟨⟨o,e⟩,r⟩:=x;exact⟨⟨o,k _ _ (.inl rfl) e⟩,hc _ _ r⟩
 |dA bq=>
  obtain⟨z,y,xs,r,ob,es,ep,e,c⟩:=x
  exact⟨z,y,xs,Paired.Aj r λp q z=>⟨z.1,z.2.1.keeps ht,z.2.2⟩,ob,es,ep,k _ _ (.inl rfl) e,c⟩
 |dB bq=>obtain⟨z,y,vs,r,ob,es,ep,e,c⟩:=x;exact⟨z,y,vs,r,ob,es,ep,k _ _ (.inl rfl) e,c⟩
 |met f y=>
  have e:h.get? a=some (PySem.W.methodObj (.ref f) (.ref y)):=x;show h'.get? a=some (PySem.W.methodObj (.ref f) (.ref y));exact k a _ (.inl rfl) e
 |ext φ=>obtain⟨p,⟨o,e⟩,st⟩:=x;exact⟨st _ _ p λo q=>k _ _ (.inl rfl) q,⟨o,k _ _ (.inl rfl) e⟩,st⟩
theorem bS.lt (x:bS P w H h)(e:H a=some o):a<h.objs.size:=(x a o e).lt
theorem bS.fresh (x:bS P w H h)(e:h.objs.size<=a):H a=none:=by
 cases q:H a with
 |none=>rfl
 |some u=>exact absurd (iu (x.lt q) e) (qr _)
theorem bS.kept (x:bS P w H h)(k:∀b u,h.get? b=some u->h'.get? b=some u):bS P w H h':=λa o e=>
 (x a o e).fw (λb u _ q=>k b u q) (λ_ q=>q) λ_ _ q=>q
theorem bS.laid (x:bS P w H h)(k:∀b u,h.get? b=some u->h'.get? b=some u)(hp:h.objs.size<=a)(new:bK P w (upd H a o) h' a o):bS P w (upd H a o) h':=λb u e=>by
 have hn:=x.fresh hp;by_cases hb:b=a
 ·subst hb;rw[bE]at e;cases e;exact new
 ·rw[aH hb]at e
  exact (x b u e).fw (λc v _ q=>k c v q) (λc q=>by rw[aH (dL q hn)];exact q) (λc xs q=>by rw[aH (dL q hn)];exact q) (λc r q=>by rw[aH (dL q hn)];exact q)
end
def Rd (H:Hp)(a:az)(u:HO):Prop:=H a=some u∨∃o,H a=some (.dq o u)
theorem Rd.ok {P:ba}{w:bd}{H:Hp}{h:Heap}{a:az}{u:HO}(r:Rd H a u)(x:bS P w H h):bK P w H h a u:=by
 rcases r with r|⟨o,r⟩
 ·exact x a u r
 ·obtain⟨_,q⟩:=x a _ r
  exact q
def qA:Option HO->Prop
 |some (.lst _)=>True
 |some (.dK _)=>True
 |some (.dT _)=>True
 |some (.dA _)=>True
 |some (.dB _)=>True
 |some (.set _ _)=>True
 |some (.ins _ _ _)=>True
 |some (.ext _)=>True
 |_=>False
section
variable {P:ba}{w:bd}{H:Hp}{h h':Heap}{x e:az}{o':HO}
theorem bS.write (ok:bS P w H h)(mu:qA (H x))(he:e=x∨H e=some (.own x))(k:∀b u,b≠e->h.get? b=some u->h'.get? b=some u)(CC:∃u,h'.get? e=some u)(new:bK P w (upd H x o') h' x o'):bS P w (upd H x o') h':=λb u q=>by
 have Dm:∀c y,H c=some (.own y)->c≠x:=λc y r z=>by subst z;rw[r]at mu;exact mu
 have Fj:∀c xs,H c=some (.tup xs)->c≠x:=λc xs r z=>by subst z;rw[r]at mu;exact mu
 by_cases hb:b=x
 ·subst hb;rw[bE]at q;cases q;exact new
 ·rw[aH hb]at q
  by_cases BF:b=e
  ·have q':H b=some (.own x):=by
    rcases he with z|z
    ·exact absurd (BF.trans z) hb
    ·rw[BF];exact z
   rw[q]at q';cases q'
   obtain⟨v,hv⟩:=CC
   exact⟨v,by rw[BF];exact hv⟩
  ·refine (ok b u q).fw (λc v hc r=>k c v ?_ r) (λc r=>by rw[aH (Dm c b r)];exact r) (λc xs r=>by rw[aH (Fj c xs r)];exact r) (λc y r=>by rw[aH (λz=>by subst z;rw[r]at mu;exact mu)];exact r)
   rcases hc with rfl|hc
   ·exact BF
   ·rintro rfl
    rcases he with z|z
    ·exact Dm c b hc z
    ·rw[hc]at z;cases z;exact hb rfl
end
structure Un (fs ex:List az)(H H':Hp)(h h':Heap):Prop where
 keep:∀b o,h.get? b=some o->H b=none->b∉fs->b∉ex->h'.get? b=some o
 slot:∀b o,h.get? b=some o->H b=none->b∈fs->b∉ex->∃sl,h'.get? b=some { o with slots:=sl }
 free:∀b o,h.get? b=some o->H b=none->b∉ex->H' b=none
 there:∀b o,h.get? b=some o->b∉ex->∃o',h'.get? b=some o'
 fq:∀b xs,H b=some (.tup xs)->H' b=some (.tup xs)
 mh:∀b o u,H b=some (.dq o u)->H' b=some (.dq o u)
 nc:∀b ps,H b=some (.qb ps)->∃more,H' b=some (.qb (ps++more))
section
variable {fs RZ ex ex':List az}{H H1 H2:Hp}{h h1 h2 h':Heap}{a x e:az}{o:HO}
theorem Un.any (u:Un fs ex H H1 h h1){b:az}{ob:Obj}(q:h.get? b=some ob)(n:H b=none)(hx:b∉ex):∃sl,h1.get? b=some { ob with slots:=sl }:=by
 by_cases hb:b∈fs
 ·exact u.slot b ob q n hb hx
 ·exact⟨ob.slots,u.keep b ob q n hb hx⟩
theorem Un.kept (k:∀b u,h.get? b=some u->h'.get? b=some u):Un fs ex H H h h':=
 ⟨λb ob q _ _ _=>k b ob q,λb ob q _ _ _=>⟨ob.slots,k b ob q⟩,λ_ _ _ n _=>n,λb ob q _=>⟨ob,k b ob q⟩,λ_ _ q=>q,λ_ _ _ q=>q,λ_ ps q=>⟨#[],by rw[q];simp⟩⟩
theorem Un.refl:Un fs ex H H h h:=Un.kept λ_ _ q=>q
theorem Un.laid (k:∀b u,h.get? b=some u->h'.get? b=some u)(hp:h.objs.size<=a)(hn:H a=none):Un fs ex H (upd H a o) h h' where
 keep:=λb u q _ _ _=>k b u q
 slot:=λb u q _ _ _=>⟨u.slots,k b u q⟩
 free:=λb u q n _=>by rw[aH (lj (iu (fm q) hp))];exact n
 there:=λb u q _=>⟨u,k b u q⟩
 fq:=λb xs q=>by rw[aH (dL q hn)];exact q
 mh:=λb u xs q=>by rw[aH (dL q hn)];exact q
 nc:=λb ps q=>⟨#[],by rw[aH (dL q hn),q];simp⟩
theorem Un.write (mu:qA (H x))(he:e=x∨H e=some (.own x))(k:∀b u,b≠e->h.get? b=some u->h'.get? b=some u)(CC:∃u,h'.get? e=some u):Un fs ex H (upd H x o) h h':=by
 have hx:∀b,H b=none->b≠x:=λb n z=>by subst z;rw[n]at mu;exact mu
 have hb:∀b,H b=none->b≠e:=λb n z=>by
  subst z;rcases he with r|r
  ·exact hx b n r
  ·rw[n]at r;cases r
 have hm:∀b u,H b=some u->¬qA (some u)->b≠x:=λb u q nm z=>by subst z;rw[q]at mu;exact nm mu
 refine⟨λb u q n _ _=>k b u (hb b n) q,λb u q n _ _=>⟨u.slots,k b u (hb b n) q⟩,λb u q n _=>by rw[aH (hx b n)];exact n,λb u q _=>?_,
  λb xs q=>by rw[aH (hm b _ q λz=>z)];exact q,λb u xs q=>by rw[aH (hm b _ q λz=>z)];exact q,λb ps q=>⟨#[],by rw[aH (hm b _ q λz=>z),q];simp⟩⟩
 by_cases BF:b=e
 ·subst BF;exact CC
 ·exact⟨u,k b u BF q⟩
end
def t7 (h:Heap)(H:Hp):List az:=(List.range h.objs.size).filter λa=>(H a).isSome
def iZ (h:Heap)(H:Hp):Heap:=PySem.W.hideAll h (t7 h H)
theorem S2 (h:Heap)(H:Hp):(iZ h H).objs.size=h.objs.size:=PySem.W.hideAll_size _ _
theorem S3 {h:Heap}{H:Hp}{b:az}{o:Obj}(e:h.get? b=some o)(n:H b=none):(iZ h H).get? b=some o:=
 PySem.W.hideAll_get _ e λhm=>by
  have q:(H b).isSome=true:=(jv.mp hm).2;rw[n]at q;simp at q
theorem S4 {h:Heap}{H:Hp}{b:az}{o:Obj}(e:(iZ h H).get? b=some o):h.get? b=some o/\H b=none:=by
 have e':h.get? b=some o:=PySem.W.of_hideAll (t7 h H) e;refine⟨e',?_⟩;cases q:H b with
 |none=>rfl
 |some x=>
  have hm:b∈t7 h H:=jv.mpr ⟨uz.mpr (fm e'),by simp[q]⟩;have z:(iZ h H).get? b=none:=PySem.W.hideAll_none (t7 h H) hm;rw[z]at e;cases e
structure Mod (K:ad)(mg:Str->Option ax)(base:Heap):Prop where
 mq:K.In base
 glob:base.Ns mainGlobals mg
 blt:∃mb,base.Ns builtinsNs mb/\∀x:Str,x≠"__name__"->mb x=bootBuiltins x
 nolimit:base.NoLimit
structure Cx where
 prog:ba
 w:bd
 K:ad
 mg:Str->Option ax
 base:Heap
 A:bc
 N:List Str
 fh:ay
 cz:Hp
 env:Env
 outer:List Env
 stack:List Env
 ex:List az
 fn:Str->Bool
 calm:Bool
 pn:List (az×Obj)
 xe:ax->ay->Prop
def gW (l:List Env):List az:=l.filterMap (·.frame)
abbrev Cx.fs (X:Cx):List az:=gW X.outer
def dM (sc:Scope)(x:Str):Prop:=sc.names.lookup x=some .local∨sc.names.lookup x=some .cell∨sc.names.lookup x=some .free
def hZ (sc:Scope)(x:Str):Prop:=sc.names.lookup x=some .local∨sc.names.lookup x=some .cell
def aE0 (env:Env)(h:Heap)(m:Str->Option ax)(x:Str)(u:ax):Prop:=
 (env.kindOf x=some .local/\m x=some u)∨((env.kindOf x=some .cell∨env.kindOf x=some .free)/\∃c,env.cells.lookup x=some c/\h.IsCell c (some u))
structure Cx.Ok (X:Cx):Prop where
 mod:Mod X.K X.mg X.base
 kind:X.env.scope.kind = .function
 glob:X.env.globals=mainGlobals
 blt:X.env.builtins=builtinsNs
 above:X.fh.heap.objs.size<=X.env.locals
 inj:∀x y c,X.env.cells.lookup x=some c->X.env.cells.lookup y=some c->x=y
 has:∀x,(X.env.kindOf x=some .cell∨X.env.kindOf x=some .free)->∃c,X.env.cells.lookup x=some c
 CJ:∀x c,X.fn x=true->X.env.cells.lookup x=some c->X.fh.heap.objs.size<=c
 hd:X.calm=true->X.A.handled=none
 frames:X.A.frames=some X.stack
 Es:X.stack=X.outer∨(X.stack=X.env::X.outer/\X.env.frame=some X.env.locals)
 IH:∀b∈X.ex,b≠X.env.locals/\∀x c,X.env.cells.lookup x=some c->c≠b
 bs:∀b o,X.base.get? b=some o->X.fh.heap.get? b=some o/\X.cz b=none
 xt:X.base.objs.size<=X.fh.heap.objs.size
 we:∀b o,X.base.get? b=some o->b∉X.ex
 An:∀b∈X.ex,b∉X.fs
 kj:X.fh.heap.FunFrames X.base X.outer
 AJ:∀b∈X.fs,X.cz b=none
structure a6 (X:Cx)(ai:List (az×Obj))(σ:List (Option V))(H:Hp)(s:ay):Prop where
 ok:X.Ok
 os:s.os=X.fh.os
 bare:AllBare s.gens
 base:Un X.fs X.ex X.cz H X.fh.heap s.heap
 loc:∃m,s.heap.Ns X.env.locals m/\∀(i:Nat) (x:Str) (v:V),X.N[i]? = some x->σ[i]? = some (some v)->dM X.env.scope x->∃u,aO v u/\aE0 X.env s.heap m x u
 cell:∀x c,X.env.cells.lookup x=some c->∃v,s.heap.IsCell c v
 free:H X.env.locals=none
 ig:∀x c,X.env.cells.lookup x=some c->H c=none
 pin:∀p∈X.pn++ai,s.heap.get? p.1=some p.2/\H p.1=none/\p.1≠X.env.locals/\p.1∉X.fs/\∀v,p.2.data≠.cell v
 cj:bS X.prog X.w H s.heap
 len:σ.length=X.N.length
section
variable {X:Cx}{ai:List (az×Obj)}{σ:List (Option V)}{H H':Hp}{s:ay}{h':Heap}
theorem Cx.Ok.Fm (ok:X.Ok){b:az}{o:Obj}(e:X.base.get? b=some o):b∉X.fs:=λhb=>by
 have:=(ok.kj.mem hb).1
 rw[e]at this;cases this
theorem a6.bs (I:a6 X ai σ H s):∀b o,X.base.get? b=some o->s.heap.get? b=some o/\H b=none:=λb o e=>
 ⟨I.base.keep b o (I.ok.bs b o e).1 (I.ok.bs b o e).2 (I.ok.Fm e) (I.ok.we b o e),I.base.free b o (I.ok.bs b o e).1 (I.ok.bs b o e).2 (I.ok.we b o e)⟩
theorem a6.bk (I:a6 X ai σ H s):∀b o,X.base.get? b=some o->s.heap.get? b=some o:=λb o e=>(I.bs b o e).1
theorem a6.mod (I:a6 X ai σ H s):Mod X.K X.mg X.base:=I.ok.mod
theorem a6.nj (I:a6 X ai σ H s):X.K.In s.heap:=I.ok.mod.mq.keeps I.bk
theorem a6.fr (I:a6 X ai σ H s):∃m,Fr X.base X.env.locals s.heap m:=
 let ⟨m,hn,_⟩:=I.loc
 ⟨m,hn,I.bk,iw I.ok.xt I.ok.above⟩
theorem a6.lt (I:a6 X ai σ H s):X.env.locals<s.heap.objs.size:=let ⟨_,hn,_⟩:=I.loc;hn.lt
theorem a6.sz (I:a6 X ai σ H s):X.fh.heap.objs.size<=s.heap.objs.size:=iw I.ok.above (uw I.lt)
theorem a6.Fl (I:a6 X ai σ H s){a:az}(h:s.heap.objs.size<=a):a∉X.fs:=λhb=>by
 obtain⟨_,o,ho,_⟩:=I.ok.kj.mem hb
 exact absurd (iu (fm ho) (iw I.sz h)) (qr _)
theorem a6.AL (I:a6 X ai σ H s):∀x c,X.env.cells.lookup x=some c->c≠X.env.locals:=λx c e z=>by
 obtain⟨v,o,ho,hd⟩:=I.cell x c e
 obtain⟨m,⟨o',es,ep,xr,AI,_⟩,_⟩:=I.loc
 rw[z,xr]at ho;cases ho;rw[AI]at hd;cases hd
theorem a6.kj (I:a6 X ai σ H s):s.heap.FunFrames X.base X.outer:=by
 have all:∀(l:List Env),(∀b∈gW l,b∈X.fs)->X.fh.heap.FunFrames X.base l->s.heap.FunFrames X.base l:=by
  intro l
  induction l with
  |nil=>intro _ _;trivial
  |cons env r ih=>
   intro hs hl
   obtain⟨hk,⟨L,o,hf,hn,ho,hd⟩,hr⟩:=hl
   have hL:L∈X.fs:=hs L (by unfold gW;rw[List.filterMap_cons,hf];exact dv)
   obtain⟨sl,e⟩:=I.base.slot L o ho (I.ok.AJ L hL) hL λz=>I.ok.An L z hL
   exact⟨hk,⟨L,_,hf,hn,e,hd⟩,ih (λb hb=>hs b (by unfold gW;rw[List.filterMap_cons,hf];exact gc _ hb)) hr⟩
 exact all X.outer (λ_ hb=>hb) I.ok.kj
theorem a6.stack (I:a6 X ai σ H s):s.heap.FunFrames X.base X.stack:=by
 rcases I.ok.Es with e|⟨e,hf⟩
 ·rw[e];exact I.kj
 ·rw[e]
  obtain⟨m,hn,_⟩:=I.loc
  refine .cons (by rw[I.ok.kind];decide) hf hn ?_ I.kj;exact Heap.get?_none_of_le (iw I.ok.xt I.ok.above)
theorem a6.ng (I:a6 X ai σ H s):∀b∈gW X.stack,b∈X.env.locals::X.fs:=λb hb=>by
 rcases I.ok.Es with e|⟨e,hf⟩
 ·rw[e]at hb;exact gc _ hb
 ·rw[e]at hb
  unfold gW at hb;rw[List.filterMap_cons,hf]at hb;exact hb
theorem a6.qg (I:a6 X ai σ H s):∀b∈gW X.stack,H b=none:=λb hb=>by
 rcases eg.mp (I.ng b hb) with e|hb
 ·rw[e];exact I.free
 ·obtain⟨_,o,ho,_⟩:=I.ok.kj.mem hb
  exact I.base.free b o ho (I.ok.AJ b hb) λz=>I.ok.An b z hb
theorem a6.step {g':Array GenState}{t':Nat}{d':Drawn}{ch:List az}(I:a6 X ai σ H s)(zv:∀b∈ch,(b∈X.ex∨X.fh.heap.objs.size<=b)/\b≠X.env.locals/\(∀x c,X.env.cells.lookup x=some c->c≠b)/\∀p∈X.pn++ai,p.1≠b)(keep:∀b o,b≠X.env.locals->b∉X.fs->b∉ch->s.heap.get? b=some o->H b=none->h'.get? b=some o)(slot:∀b o,b≠X.env.locals->b∈X.fs->b∉ch->s.heap.get? b=some o->H b=none->∃sl,h'.get? b=some { o with slots:=sl })(free:∀b o,b∉ch->s.heap.get? b=some o->H b=none->H' b=none)(there:∀b o,b∉ch->s.heap.get? b=some o->∃o',h'.get? b=some o')(fq:∀b xs,H b=some (.tup xs)->H' b=some (.tup xs))(mh:∀b o u,H b=some (.dq o u)->H' b=some (.dq o u))(nc:∀b ps,H b=some (.qb ps)->∃more,H' b=some (.qb (ps++more)))(ns:∀m,s.heap.Ns X.env.locals m->h'.Ns X.env.locals m)(cj:bS X.prog X.w H' h')(hg:AllBare g') :
  a6 X ai σ H' { s with heap:=h',gens:=g',drawn:=d',toks:=t' }:=by
 have HJ:∀b o,X.fh.heap.get? b=some o->b≠X.env.locals:=λb o e=>lj (iu (fm e) I.ok.above)
 have Ey:∀b o,X.fh.heap.get? b=some o->b∉X.ex->b∉ch:=λb o e hx hb=>by
  rcases (zv b hb).1 with z|z
  ·exact hx z
  ·exact absurd (iu (fm e) z) (qr _)
 have cellK:∀x c,X.env.cells.lookup x=some c->∀v,s.heap.IsCell c v->h'.IsCell c v:=λx c e v ⟨o,ho,hd⟩=>by
  have Dr:c∉ch:=λz=>(zv c z).2.2.1 x c e rfl
  by_cases hc:c∈X.fs
  ·obtain⟨sl,q⟩:=slot c o (I.AL x c e) hc Dr ho (I.ig x c e)
   exact⟨_,q,hd⟩
  ·exact⟨o,keep c o (I.AL x c e) hc Dr ho (I.ig x c e),hd⟩
 refine⟨I.ok,I.os,hg,⟨λb o e n hb hx=>?_,λb o e n hb hx=>?_,λb o e n hx=>?_,λb o e hx=>?_,λb xs e=>fq b xs (I.base.fq b xs e),λb o xs e=>mh b o xs (I.base.mh b o xs e),λb ps e=>?_⟩,?_,λx c e=>?_,?_,λx c e=>?_,λp hp=>?_,cj,I.len⟩
 ·exact keep b o (HJ b o e) hb (Ey b o e hx) (I.base.keep b o e n hb hx) (I.base.free b o e n hx)
 ·obtain⟨sl,e1⟩:=I.base.slot b o e n hb hx
  obtain⟨PM,e2⟩:=slot b _ (HJ b o e) hb (Ey b o e hx) e1 (I.base.free b o e n hx)
  exact⟨PM,e2⟩
 ·obtain⟨o',e1⟩:=I.base.there b o e hx
  exact free b o' (Ey b o e hx) e1 (I.base.free b o e n hx)
 ·obtain⟨o',e1⟩:=I.base.there b o e hx
  exact there b o' (Ey b o e hx) e1
 ·obtain⟨m1,e1⟩:=I.base.nc b ps e
  obtain⟨m2,e2⟩:=nc b _ e1
  exact⟨m1++m2,by rw[e2,Array.append_assoc]⟩
 ·obtain⟨m,hn,hl⟩:=I.loc
  refine⟨m,ns m hn,λi x v e1 e2 e3=>?_⟩
  obtain⟨u,r,l⟩:=hl i x v e1 e2 e3
  refine⟨u,r,?_⟩;rcases l with l|⟨k,c,e,z⟩
  ·exact .inl l
  ·exact .inr ⟨k,c,e,cellK x c e _ z⟩
 ·obtain⟨v,z⟩:=I.cell x c e
  exact⟨v,cellK x c e v z⟩
 ·obtain⟨m,⟨o,_,_,ho,_⟩,_⟩:=I.loc
  exact free _ o (λz=>(zv _ z).2.1 rfl) ho I.free
 ·obtain⟨v,o,ho,hd⟩:=I.cell x c e
  exact free c o (λz=>(zv c z).2.2.1 x c e rfl) ho (I.ig x c e)
 ·obtain⟨e,n,ne,nf,d⟩:=I.pin p hp
  have Dr:p.1∉ch:=λz=>(zv p.1 z).2.2.2 p hp rfl
  exact⟨keep p.1 p.2 ne nf Dr e n,free p.1 p.2 Dr e n,ne,nf,d⟩
theorem a6.un {t':Nat}(I:a6 X ai σ H s)(u:Un X.fs [] H H' s.heap h')(cj:bS X.prog X.w H' h'):a6 X ai σ H' { s with heap:=h',toks:=t' }:=by
 obtain⟨m,⟨o,es,ep,ho,r⟩,_⟩:=id I.loc
 obtain⟨sl,hL⟩:=u.any ho I.free (by simp)
 exact I.step (g':=s.gens) (d':=s.drawn) (ch:=[]) (λ_ z=>nomatch z) (λb o _ hb _ e n=>u.keep b o e n hb (by simp)) (λb o _ hb _ e n=>u.slot b o e n hb (by simp)) (λb o _ e n=>u.free b o e n (by simp)) (λb o _ e=>u.there b o e (by simp)) u.fq u.mh u.nc (λm' hm=>by
  obtain⟨o',GK,GL,xr,r'⟩:=hm
  rw[ho]at xr;cases xr
  exact⟨_,GK,GL,hL,r'⟩) cj I.bare
theorem a6.call {g':Array GenState}{t':Nat}{d':Drawn}{ch:List az}(I:a6 X ai σ H s)(u:Un (gW X.stack) ch H H' s.heap h')(cj:bS X.prog X.w H' h')(hg:AllBare g')(zv:∀b∈ch,(b∈X.ex∨X.fh.heap.objs.size<=b)/\b≠X.env.locals/\(∀x c,X.env.cells.lookup x=some c->c≠b)/\∀p∈X.pn++ai,p.1≠b) :
  a6 X ai σ H' { s with heap:=h',gens:=g',drawn:=d',toks:=t' }:=by
 obtain⟨m,⟨o,es,ep,ho,r⟩,_⟩:=id I.loc
 obtain⟨sl,hL⟩:=u.any ho I.free λz=>(zv _ z).2.1 rfl
 exact I.step (ch:=ch) zv (λb o hL hb hc e n=>u.keep b o e n (λz=>(eg.mp (I.ng b z)).elim hL hb) hc) (λb o _ _ hc e n=>u.any e n hc) (λb o hc e n=>u.free b o e n hc) (λb o hc e=>u.there b o e hc) u.fq u.mh u.nc (λm' hm=>by
  obtain⟨o',GK,GL,xr,r'⟩:=hm
  rw[ho]at xr;cases xr
  exact⟨_,GK,GL,hL,r'⟩) cj hg
theorem a6.turned {t':Nat}{it:az}(I:a6 X ai σ H s)(k:∀b o,b≠it->s.heap.get? b=some o->h'.get? b=some o)(hn:H it=none)(hL:it≠X.env.locals)(h1:it∈X.ex∨X.fh.heap.objs.size<=it)(h2:∀x c,X.env.cells.lookup x=some c->c≠it)(h3:∀p∈X.pn++ai,p.1≠it):a6 X ai σ H { s with heap:=h',toks:=t' }:=by
 have HG:∀b u,H b=some u->b≠it:=λb u e z=>by rw[z,hn]at e;cases e
 refine I.step (g':=s.gens) (d':=s.drawn) (ch:=[it]) (λb hb=>?_) (λb o _ _ hc e _=>k b o (λz=>hc (by simp[z])) e) (λb o _ _ hc e _=>⟨o.slots,k b o (λz=>hc (by simp[z])) e⟩) (λ_ _ _ _ n=>n)
  (λb o hc e=>⟨o,k b o (λz=>hc (by simp[z])) e⟩) (λ_ _ e=>e) (λ_ _ _ e=>e) (λb ps e=>⟨#[],by rw[e];simp⟩) (λm hm=>?_) (λb u e=>?_) I.bare
 ·have e:b=it:=by simpa using hb
  subst e
  exact⟨h1,hL,h2,h3⟩
 ·obtain⟨o,es,ep,ho,r⟩:=hm
  exact⟨o,es,ep,k _ o (Ne.symm hL) ho,r⟩
 ·refine (I.cj b u e).fw (λc v hc q=>k c v ?_ q) (λ_ q=>q) λ_ _ q=>q
  rcases hc with z|z
  ·rw[z];exact HG b u e
  ·exact HG c _ z
theorem a6.tok (I:a6 X ai σ H s)(t:Nat):a6 X ai σ H { s with toks:=t }:=I.un (h':=s.heap) (t':=t) Un.refl I.cj
theorem a6.kept {t':Nat}(I:a6 X ai σ H s)(k:∀b u,s.heap.get? b=some u->h'.get? b=some u):a6 X ai σ H { s with heap:=h',toks:=t' }:=I.un (Un.kept k) (I.cj.kept k)
theorem a6.laid {a:az}{o:HO}{t':Nat}(I:a6 X ai σ H s)(k:∀b u,s.heap.get? b=some u->h'.get? b=some u)(hp:s.heap.objs.size<=a)(new:bK X.prog X.w (upd H a o) h' a o) :
  a6 X ai σ (upd H a o) { s with heap:=h',toks:=t' }:=I.un (Un.laid k hp (I.cj.fresh hp)) (I.cj.laid k hp new)
theorem a6.write {x e:az}{o:HO}{t':Nat}(I:a6 X ai σ H s)(mu:qA (H x))(he:e=x∨H e=some (.own x))(k:∀b u,b≠e->s.heap.get? b=some u->h'.get? b=some u)(CC:∃u,h'.get? e=some u)(new:bK X.prog X.w (upd H x o) h' x o):a6 X ai σ (upd H x o) { s with heap:=h',toks:=t' }:=I.un (Un.write mu he k CC) (I.cj.write mu he k CC new)
theorem a6.weak {cn:List (Option V)}(I:a6 X ai σ H s)(hl:cn.length=σ.length)(w:∀(i:Nat) v,cn[i]? = some (some v)->σ[i]? = some (some v)):a6 X ai cn H s:=
 ⟨I.ok,I.os,I.bare,I.base,let ⟨m,hn,DI⟩:=I.loc;⟨m,hn,λi x v e1 e2 e3=>DI i x v e1 (w i v e2) e3⟩,I.cell,I.free,I.ig,I.pin,I.cj,hl.trans I.len⟩
theorem a6.vf {qc:List (az×Obj)}(I:a6 X ai σ H s)(h:∀p∈qc,s.heap.get? p.1=some p.2/\H p.1=none/\p.1≠X.env.locals/\p.1∉X.fs/\∀v,p.2.data≠.cell v):a6 X qc σ H s:=
 ⟨I.ok,I.os,I.bare,I.base,I.loc,I.cell,I.free,I.ig,λp hp=>(jk.mp hp).elim (λz=>I.pin p (uc _ z)) (h p),I.cj,I.len⟩
theorem S5 {N:List Str}(hN:N.Nodup){i j:Nat}{x:Str}(a:N[i]? = some x)(b:N[j]? = some x):i=j:=by
 obtain⟨h1,e1⟩:=og.mp a
 obtain⟨h2,e2⟩:=og.mp b
 exact (List.getElem_inj hN).mp (e1.trans e2.symm)
theorem x6 {M:Model}{A:bc}{E:ax->ay->Prop}{i:Nat}{x:Str}{v:V}{u:ax}{Q:Unit->ay->Prop}(I:a6 X ai σ H s)(hN:X.N.Nodup)(hi:X.N[i]? = some x)(hx:hZ X.env.scope x)(r:aO v u)(h:∀s',a6 X ai (σ.set i (some v)) H s'->(∃a,Heap.SameBut a s.heap s'.heap/\(a=X.env.locals∨X.env.cells.lookup x=some a))->Q () s')(hf:X.fn x=true∨X.env.scope.names.lookup x=some .local:=by first|exact .inl rfl|exact .inr rfl|assumption):wpAny M A (storeName X.env x u) Q E s:=by
 obtain⟨m,hn,hl⟩:=id I.loc
 have Gi:(X.env.scope.kind==.class||(X.env.scope.kind==.module&&X.env.locals != X.env.globals))=false:=by rw[I.ok.kind];rfl
 have DJ:i<σ.length:=by rw[I.len];exact (og.mp hi).1
 have AL:=I.AL;have tracked:∀{a:az}{h':Heap},(∃o,s.heap.get? a=some o/\H a=none)->Heap.SameBut a s.heap h'->bS X.prog X.w H h':=λ{a h'} ha hs b ob e=>by
  obtain⟨_,_,AH⟩:=ha
  refine (I.cj b ob e).fw (λc w' hc q=>(hs.2 c ?_).trans q) (λ_ q=>q) λ_ _ q=>q
  rintro rfl;rcases hc with rfl|hc
  ·rw[AH]at e;cases e
  ·rw[AH]at hc;cases hc
 rcases hx with hk|hk
 ·refine wpAny_storeName_local hk hn (λh' Rv hs=>?_) Gi
  obtain⟨oL,_,_,Rt,_⟩:=id hn
  refine h _ ⟨I.ok,I.os,I.bare,⟨λb o e n hb hx=>?_,λb o e n hb hx=>?_,I.base.free,λb o e hx=>?_,I.base.fq,I.base.mh,I.base.nc⟩,⟨_,Rv,λj y v' e1 e2 e3=>?_⟩,λy c e=>?_,I.free,I.ig,λp hp=>?_,tracked ⟨oL,Rt,I.free⟩ hs,by simpa using I.len⟩ ⟨_,hs,.inl rfl⟩
  ·exact (hs.2 b (lj (iu (fm e) I.ok.above))).trans (I.base.keep b o e n hb hx)
  ·obtain⟨sl,e1⟩:=I.base.slot b o e n hb hx
   exact⟨sl,(hs.2 b (lj (iu (fm e) I.ok.above))).trans e1⟩
  ·obtain⟨o',e1⟩:=I.base.there b o e hx
   exact⟨o',(hs.2 b (lj (iu (fm e) I.ok.above))).trans e1⟩
  ·by_cases hj:j=i
   ·subst hj
    rw[hi]at e1;cases e1;rw[Ba DJ]at e2;cases e2
    exact⟨u,r,.inl ⟨hk,by simp⟩⟩
   ·rw[vb (Ne.symm hj)]at e2
    obtain⟨u',r',q⟩:=hl j y v' e1 e2 e3
    refine⟨u',r',?_⟩;rcases q with⟨k,e⟩|⟨k,c,e,z⟩
    ·refine .inl ⟨k,?_⟩
     have:y≠x:=λe=>hj (S5 hN e1 (e▸hi))
     simp[this,e]
    ·exact .inr ⟨k,c,e,z.sameBut hs (AL y c e)⟩
  ·obtain⟨w',z⟩:=I.cell y c e
   exact⟨w',z.sameBut hs (AL y c e)⟩
  ·obtain⟨e,n,ne,nf,d⟩:=I.pin p hp
   exact⟨(hs.2 p.1 ne).trans e,n,ne,nf,d⟩
 ·have Gb:X.fn x=true:=by
   rcases hf with z|z
   ·exact z
   ·rw[z]at hk;cases hk
  obtain⟨c,hc⟩:=I.ok.has x (.inl hk)
  obtain⟨w',z⟩:=I.cell x c hc
  refine wpAny_storeName_cell I.ok.kind hk hc z (λh' dj hs=>?_)
  obtain⟨oc,AG,FT⟩:=id z
  refine h { s with heap:=h' } ⟨I.ok,I.os,I.bare,⟨λb o e n hb hx=>?_,λb o e n hb hx=>?_,I.base.free,λb o e hx=>?_,I.base.fq,I.base.mh,I.base.nc⟩,⟨m,hn.sameBut hs (Ne.symm (AL x c hc)),λj y v' e1 e2 e3=>?_⟩,λy c' e=>?_,I.free,I.ig,λp hp=>?_,tracked ⟨oc,AG,I.ig x c hc⟩ hs,by simpa using I.len⟩ ⟨c,hs,.inr hc⟩
  ·exact (hs.2 b (lj (iu (fm e) (I.ok.CJ x c Gb hc)))).trans (I.base.keep b o e n hb hx)
  ·obtain⟨sl,e1⟩:=I.base.slot b o e n hb hx
   exact⟨sl,(hs.2 b (lj (iu (fm e) (I.ok.CJ x c Gb hc)))).trans e1⟩
  ·obtain⟨o',e1⟩:=I.base.there b o e hx
   exact⟨o',(hs.2 b (lj (iu (fm e) (I.ok.CJ x c Gb hc)))).trans e1⟩
  ·by_cases hj:j=i
   ·subst hj
    rw[hi]at e1;cases e1;rw[Ba DJ]at e2;cases e2
    exact⟨u,r,.inr ⟨.inl hk,c,hc,dj⟩⟩
   ·rw[vb (Ne.symm hj)]at e2
    obtain⟨u',r',q⟩:=hl j y v' e1 e2 e3
    refine⟨u',r',?_⟩;rcases q with q|⟨k,c',e,z'⟩
    ·exact .inl q
    ·refine .inr ⟨k,c',e,z'.sameBut hs ?_⟩
     rintro rfl;exact hj (S5 hN e1 (I.ok.inj _ _ _ e hc▸hi))
  ·by_cases EH:c'=c
   ·subst EH;exact⟨_,dj⟩
   ·obtain⟨w2,z2⟩:=I.cell y c' e
    exact⟨w2,z2.sameBut hs EH⟩
  ·obtain⟨e,n,ne,nf,d⟩:=I.pin p hp
   refine⟨(hs.2 p.1 ?_).trans e,n,ne,nf,d⟩;intro q;rw[q,AG]at e;have q':oc=p.2:=ip e;exact d w' (by rw[<- q'];exact FT)
theorem S6 {M:Model}{A:bc}{E:ax->ay->Prop}{i:Nat}{x:Str}{v:V}{u:ax}{Q:Unit->ay->Prop}(I:a6 X ai σ H s)(hN:X.N.Nodup)(hi:X.N[i]? = some x)(hx:hZ X.env.scope x)(r:aO v u)(h:∀s',a6 X ai (σ.set i (some v)) H s'->Q () s')(hf:X.fn x=true∨X.env.scope.names.lookup x=some .local:=by first|exact .inl rfl|exact .inr rfl|assumption):wpAny M A (storeName X.env x u) Q E s:=
 x6 I hN hi hx r (λs' I' _=>h s' I') hf
theorem a6.Ec {s':ay}{ch:List az}(I:a6 X ai σ H s)(ho:s'.os=s.os)(u:Un (gW X.stack) ch H H' s.heap s'.heap)(cj:bS X.prog X.w H' s'.heap)(hg:AllBare s'.gens)(zv:∀b∈ch,(b∈X.ex∨X.fh.heap.objs.size<=b)/\b≠X.env.locals/\(∀x c,X.env.cells.lookup x=some c->c≠b)/\∀p∈X.pn++ai,p.1≠b):a6 X ai σ H' s':=by
 obtain⟨h',g',d',t',o'⟩:=s'
 have e:o'=s.os:=ho;subst e;exact I.call (g':=g') (t':=t') (d':=d') u cj hg zv
end
abbrev XK:=ax->Option az->Hp->Prop
abbrev St:=List (Option V)
abbrev VK:=V->Hp->Prop
abbrev TE:=St->Hp->VK->Prop
abbrev TT:=St->Hp->(Bool->Hp->Prop)->Prop
abbrev TA:=St->Hp->(List V->Hp->Prop)->Prop
structure fN where
 nx:St->Hp->Prop
 rt:VK
 bk:St->Hp->Prop:=λ_ _=>False
 ct:St->Hp->Prop:=λ_ _=>False
abbrev TS:=fN->St->Hp->Prop
def EP (X:Cx)(ai:List (az×Obj))(σ:St)(Q:VK)(u:ax)(s':ay):Prop:=∃v H',a6 X ai σ H' s'/\aO v u/\Q v H'
def TP (X:Cx)(ai:List (az×Obj))(σ:St)(Q:Bool->Hp->Prop)(b:Bool)(s':ay):Prop:=∃H',a6 X ai σ H' s'/\Q b H'
def AP (X:Cx)(ai:List (az×Obj))(σ:St)(Q:List V->Hp->Prop)(us:List ax)(s':ay):Prop:=∃vs H',a6 X ai σ H' s'/\aI vs us/\Q vs H'
def SP (X:Cx)(ai:List (az×Obj))(D:fN)(f:Flow)(s':ay):Prop:=
 match f with
 |.next=>∃cn H',a6 X ai cn H' s'/\D.nx cn H'
 |.brk=>∃cn H',a6 X ai cn H' s'/\D.bk cn H'
 |.cont=>∃cn H',a6 X ai cn H' s'/\D.ct cn H'
 |.ret u=>∃v cn H',a6 X ai cn H' s'/\aO v u/\D.rt v H'
def PE (X:Cx)(e:Expr)(t:TE):Prop:=
 ∀(ai:List (az×Obj)) (s:ay) (σ:St) (H:Hp) (Q:VK),a6 X ai σ H s->t σ H Q->wpAny (model X.prog X.w) X.A (eval e X.env) (EP X ai σ Q) X.xe s
def PT (X:Cx)(e:Expr)(t:TT):Prop:=
 ∀(ai:List (az×Obj)) (s:ay) (σ:St) (H:Hp) (Q:Bool->Hp->Prop),a6 X ai σ H s->t σ H Q->wpAny (model X.prog X.w) X.A (isTrue e X.env (eval e X.env)) (TP X ai σ Q) X.xe s
def PW (X:Cx)(e:Expr)(t:TT):Prop:=
 ∀(whole:Sem ax) (ai:List (az×Obj)) (s:ay) (σ:St) (H:Hp) (Q:Bool->Hp->Prop),a6 X ai σ H s->t σ H Q->wpAny (model X.prog X.w) X.A (isTrue e X.env whole) (TP X ai σ Q) X.xe s
theorem PW.pt {X:Cx}{e:Expr}{t:TT}(h:PW X e t):PT X e t:=h _
def PA (X:Cx)(es:List Expr)(t:TA):Prop:=
 ∀(pos:Pos) (ai:List (az×Obj)) (s:ay) (σ:St) (H:Hp) (Q:List V->Hp->Prop),a6 X ai σ H s->t σ H Q->wpAny (model X.prog X.w) X.A (spliced (backTo pos (starEach es X.env))) (AP X ai σ Q) X.xe s
def PS (X:Cx)(st:Stmt)(t:TS):Prop:=
 ∀(ai:List (az×Obj)) (s:ay) (σ:St) (H:Hp) (D:fN),a6 X ai σ H s->t D σ H->wpAny (model X.prog X.w) X.A (exec st X.env) (SP X ai D) X.xe s
def eN (X:Cx)(st:List Stmt)(t:TS):Prop:=
 ∀(ai:List (az×Obj)) (s:ay) (σ:St) (H:Hp) (D:fN),a6 X ai σ H s->t D σ H->wpAny (model X.prog X.w) X.A (execs st X.env) (SP X ai D) X.xe s
theorem aL {α:Type}{t:Sem α}{Q Q':α->ay->Prop}{M:Model}{A:bc}{E:ax->ay->Prop}{s:ay}(h:wpAny M A t Q E s)(hQ:∀a s,Q a s->Q' a s):wpAny M A t Q' E s:=mw h hQ λ_ _ x=>x
section
variable {X:Cx}
theorem bin {a b:Expr}{ta tb:TE}(ha:PE X a ta)(hb:PE X b tb){ai:List (az×Obj)}{s:ay}{σ:St}{H:Hp}{R:V->V->Hp->Prop}(I:a6 X ai σ H s)(h:ta σ H λx H1=>tb σ H1 λy H2=>R x y H2){α:Type}{Q:α->ay->Prop}{f:ax->ax->Sem α}(hf:∀v u s2 x y H2,a6 X ai σ H2 s2->aO x v->aO y u->R x y H2->wpAny (model X.prog X.w) X.A (f v u) Q X.xe s2) :
  wpAny (model X.prog X.w) X.A (eval a X.env) (λv cg=>wpAny (model X.prog X.w) X.A (eval b X.env) (λu ot=>wpAny (model X.prog X.w) X.A (f v u) Q X.xe ot) X.xe cg) X.xe s:=by
 refine aL (ha ai s σ H _ I h) λv s1 ⟨x,H1,I1,r1,q1⟩=>?_
 refine aL (hb ai s1 σ H1 _ I1 q1) λu s2 ⟨y,H2,I2,r2,q2⟩=>?_
 exact hf v u s2 x y H2 I2 r1 r2 q2
def cZ (i:Nat):TE:=λσ H Q=>∃v,σ[i]? = some (some v)/\Q v H
def tC (v:V):TE:=λ_ H Q=>Q v H
theorem gX {i:Nat}{x:Str}{pos:Pos}(hN:X.N[i]? = some x)(hv:dM X.env.scope x)(hd:(x==("__debug__":Str))=false:=by decide)(gf:(x==("__classdict__":Str))=false:=by decide):PE X (.Name x pos) (cZ i):=by
 intro ai s σ H Q I h
 obtain⟨v,e,h⟩:=h
 obtain⟨m,hn,hl⟩:=I.loc
 obtain⟨u,r,l⟩:=hl i x v hN e hv
 have fin:EP X ai σ Q u s:=⟨v,H,I,r,h⟩;rcases l with⟨hk,hm⟩|⟨hk,c,hc,iq⟩
 ·exact wpAny_Name (wpAny_loadName_local I.ok.kind hk hn hm fin) hd
 ·rcases hk with hk|hk
  ·exact wpAny_Name (wpAny_loadName_cell I.ok.kind hk hc iq fin) hd
  ·exact wpAny_Name (wpAny_loadName_free I.ok.kind hk hc iq fin gf) hd
theorem x8 {i j pos}:PE X (.Constant (.int i) j pos) (tC (.int i)):=λ_ _ _ H _ I h=>wpAny_Constant_int ⟨.int i,H,I.tok _,⟨_,rfl⟩,h⟩
theorem aE1 {b j pos}:PE X (.Constant (.bool b) j pos) (tC (.bl b)):=λ_ _ _ H _ I h=>Constant_bool ⟨.bl b,H,I,rfl,h⟩
def Gl (X:Cx)(x:Str):Prop:=X.env.kindOf x=some .globalImplicit
theorem t8 {E:ax->ay->Prop}{ai:List (az×Obj)}{s:ay}{σ:St}{H:Hp}{x:Str}{u:ax}{pos:Pos}{Q:ax->ay->Prop}(I:a6 X ai σ H s)(hg:Gl X x)(hm:X.mg x=some u)(h:Q u s)(hd:(x==("__debug__":Str))=false:=by decide):wpAny (model X.prog X.w) X.A (eval (.Name x pos) X.env) Q E s:=
 Calls.Name_function_global I.ok.kind hg (Calls.loadGlobal_global (by rw[I.ok.glob];exact I.mod.glob.keeps I.bk) hm h) hd
theorem nX {E:ax->ay->Prop}{ai:List (az×Obj)}{s:ay}{σ:St}{H:Hp}{x:Str}{u:ax}{pos:Pos}{Q:ax->ay->Prop}(I:a6 X ai σ H s)(hg:Gl X x)(hm:X.mg x=none)(hv:bootBuiltins x=some u)(h:Q u s)(hn:x≠"__name__":=by decide)(hd:(x==("__debug__":Str))=false:=by decide):wpAny (model X.prog X.w) X.A (eval (.Name x pos) X.env) Q E s:=by
 obtain⟨mb,h1,h2⟩:=I.mod.blt
 exact Calls.Name_function_global I.ok.kind hg (Calls.loadGlobal_builtin (by rw[I.ok.glob];exact I.mod.glob.keeps I.bk) hm (by rw[I.ok.blt];exact h1.keeps I.bk) ((h2 x hn).trans hv) h) hd
theorem aE2 {x:Str}{v:V}{u:ax}{pos:Pos}(hg:Gl X x)(hm:X.mg x=some u)(r:aO v u)(hd:(x==("__debug__":Str))=false:=by decide):PE X (.Name x pos) (tC v):=
 λ_ _ _ H _ I h=>t8 I hg hm ⟨v,H,I,r,h⟩ hd
theorem aE3 {x:Str}{v:V}{u:ax}{pos:Pos}(hg:Gl X x)(hm:X.mg x=none)(hv:bootBuiltins x=some u)(r:aO v u)(hn:x≠"__name__":=by decide)(hd:(x==("__debug__":Str))=false:=by decide):PE X (.Name x pos) (tC v):=
 λ_ _ _ H _ I h=>nX I hg hm hv ⟨v,H,I,r,h⟩ hn hd
variable {a b:Expr}{ta tb:TE}{pos:Pos}
def PC (X:Cx)(op:CmpOp)(a b:Expr)(t:TE):Prop:=
 ∀(ai:List (az×Obj)) (s:ay) (σ:St) (H:Hp) (Q:VK),a6 X ai σ H s->t σ H Q->
  wpAny (model X.prog X.w) X.A (eval a X.env) (λv cg=>wpAny (model X.prog X.w) X.A (eval b X.env) (λu ot=>wpAny (model X.prog X.w) X.A (compareOp op v u) (EP X ai σ Q) X.xe ot) X.xe cg) X.xe s
def tB (t:TE):TT:=λσ H Q=>t σ H λx H1=>∃c,x = .bl c/\Q c H1
theorem S7 {op:CmpOp}{t:TE}(h:PC X op a b t)(h1:behindInMarks op b=false:=by first|exact Dp _ (by decide) (by decide)|rfl):PT X (.Compare a [op] [b] pos) (tB t):=by
 intro ai s σ H Q I hw;refine wpAny_isTrue_Compare1 (aL (h ai s σ H _ I hw) λv s1 h1=>aL h1 λu s2 h2=>aL h2 λc s3 ⟨x,H1,I1,r1,q1⟩=>?_) h1
 obtain⟨d,rfl,q⟩:=q1
 cases r1;exact Aw ⟨H1,I1,q⟩
theorem aE4 {e:Expr}{t:TE}(h:PE X e t)(he:∀whole,isTrue e X.env whole=(do let v <- whole;standAt e.pos;holding [v] (truthy v)):=by intro _;rfl):PT X e (tB t):=by
 intro ai s σ H Q I hw;refine isTrue_plain (aL (h ai s σ H _ I hw) λv s1 ⟨x,H1,I1,r1,q1⟩=>?_) (he _)
 obtain⟨d,rfl,q⟩:=q1
 cases r1;exact Aw ⟨H1,I1,q⟩
variable {tA yh:TT}{rest:List Expr}
def S8 (t u:TT):TT:=λσ H Q=>t σ H λc H1=>if c=true then u σ H1 Q else Q false H1
def S9 (t u:TT):TT:=λσ H Q=>t σ H λc H1=>if c=true then Q true H1 else u σ H1 Q
def T0 (t:TT):TT:=λσ H Q=>t σ H λc H1=>Q (!c) H1
theorem aE5 (ha:PT X a tA):PW X (.BoolOp .And [a] pos) tA:=by
 intro wh ai s σ H Q I h;refine isTrue_and (aL (ha ai s σ H Q I h) λc s1 e=>?_);cases c with
 |true=>exact isTrue_and_nil e
 |false=>exact e
theorem aE6 (ha:PT X a tA):PW X (.BoolOp .Or [a] pos) tA:=by
 intro wh ai s σ H Q I h;refine isTrue_or (aL (ha ai s σ H Q I h) λc s1 e=>?_);cases c with
 |false=>exact isTrue_or_nil e
 |true=>exact e
theorem aE7 (ha:PT X a tA)(hb:PW X (.BoolOp .And (b::rest) pos) yh):PW X (.BoolOp .And (a::b::rest) pos) (S8 tA yh):=by
 intro wh ai s σ H Q I h;refine isTrue_and (aL (ha ai s σ H _ I h) λc s1 ⟨H1,I1,q1⟩=>?_);cases c with
 |true=>exact hb wh ai s1 σ H1 Q I1 q1
 |false=>exact⟨H1,I1,q1⟩
theorem aE8 (ha:PT X a tA)(hb:PW X (.BoolOp .Or (b::rest) pos) yh):PW X (.BoolOp .Or (a::b::rest) pos) (S9 tA yh):=by
 intro wh ai s σ H Q I h;refine isTrue_or (aL (ha ai s σ H _ I h) λc s1 ⟨H1,I1,q1⟩=>?_);cases c with
 |true=>exact⟨H1,I1,q1⟩
 |false=>exact hb wh ai s1 σ H1 Q I1 q1
theorem aE9 (ha:PT X a tA):PT X (.UnaryOp .Not a pos) (T0 tA):=by
 intro ai s σ H Q I h;exact isTrue_not (ha ai s σ H (λc H1=>Q (!c) H1) I h)
def T1 (ta tb:TE):TE:=λσ H Q=>ta σ H λx H1=>∃c,x = .bl c/\if c=true then tb σ H1 Q else Q (.bl false) H1
def T4 (ta:TE):TE:=λσ H Q=>ta σ H λx H1=>∃c,x = .bl c/\Q (.bl (!c)) H1
theorem aF0 {op}{t:TE}(h:PE X a t):PE X (.BoolOp op [a] pos) t:=λai s σ H Q I hw=>BoolOp_one (h ai s σ H Q I hw)
theorem aF1 (ha:PE X a ta)(hb:PE X (.BoolOp .And (b::rest) pos) tb):PE X (.BoolOp .And (a::b::rest) pos) (T1 ta tb):=by
 intro ai s σ H Q I h;refine BoolOp_and (aL (ha ai s σ H _ I h) λv s1 ⟨x,H1,I1,r1,q1⟩=>?_)
 obtain⟨c,rfl,q1⟩:=q1
 cases r1;refine Aw ?_;cases c with
 |true=>exact hb ai s1 σ H1 Q I1 q1
 |false=>exact⟨.bl false,H1,I1,rfl,q1⟩
theorem aF2 (ha:PE X a ta):PE X (.UnaryOp .Not a pos) (T4 ta):=by
 intro ai s σ H Q I h;refine UnaryOp_ (aL (ha ai s σ H _ I h) λv s1 ⟨x,H1,I1,r1,q1⟩=>?_)
 obtain⟨c,rfl,q1⟩:=q1
 cases r1;exact not_of (Aw ⟨.bl (!c),H1,I1,rfl,q1⟩)
end
def aN (K:ad)(H:Hp)(a:az)(xs:List V):Prop:=
 Rd H a (.lst xs) ∨
  ∃(o:Obj) (bo:Array ax) (n:Nat),K.lookup a=some o/\o.cls = .type "list"/\o.dict=none/\o.data = .seq bo n/\bo.size<=sizeLine/\aI xs bo.toList
def aM (K:ad)(H:Hp)(a:az)(xs:List V):Prop:=
 Rd H a (.tup xs) ∨
  ∃(o:Obj) (bo:Array ax) (n:Nat),K.lookup a=some o/\o.cls = .type "tuple"/\o.data = .seq bo n/\bo.size<=sizeLine/\aI xs bo.toList
def aF3:ax->Option V
 |.none=>some .cq
 |.bool b=>some (.bl b)
 |.int i _=>some (.int i)
 |.str x _=>some (.str x)
 |.bytes b _=>some (.xb b)
 |.float b _=>some (.CG b)
 |.ref a=>some (.ref a)
 |.type n=>some (.ty n)
 |_=>none
theorem aO.abs {x:V}{u:ax}(r:aO x u):aF3 u=some x:=by
 cases x with
 |cq=>cases r;rfl
 |bl _=>cases r;rfl
 |int _=>obtain⟨t,rfl⟩:=r;rfl
 |str _=>obtain⟨t,rfl⟩:=r;rfl
 |xb _=>obtain⟨t,rfl⟩:=r;rfl
 |CG _=>obtain⟨t,rfl⟩:=r;rfl
 |ref _=>cases r;rfl
 |ty _=>cases r;rfl
theorem aO.inj {x y:V}{u:ax}(r:aO x u)(q:aO y u):x=y:=ip (r.abs.symm.trans q.abs)
theorem aI.inj:∀{xs ys:List V}{us:List ax},aI xs us->aI ys us->xs=ys
 |_,_,_,.nil,.nil=>rfl
 |_,_,_,.cons r t,.cons r' t'=>by rw[r.inj r',aI.inj t t']
section
variable {X:Cx}{ai:List (az×Obj)}{σ:St}{H:Hp}{s:ay}{a:az}{xs ys:List V}
theorem aN.of {K:ad}(h:H a=some (.lst xs)):aN K H a xs:=.inl (.inl h)
theorem aM.of {K:ad}(h:H a=some (.tup xs)):aM K H a xs:=.inl (.inl h)
theorem a6.list (I:a6 X ai σ H s)(h:aN X.K H a xs):∃bo:List ax,aI xs bo/\PlainL s.heap a bo.toArray/\xs.length<=sizeLine:=by
 rcases h with h|⟨o,bo,n,hk,hc,hd,hs,hz,r⟩
 ·obtain⟨z,bo,n,r,e⟩:=h.ok I.cj
  exact⟨bo,r,⟨_,n,e,rfl,rfl,rfl⟩,z⟩
 ·refine⟨bo.toList,r,⟨o,n,I.nj a o hk,hc,hd,by simpa using hs⟩,?_⟩
  have e:=r.length;simp only[Array.length_toList]at e;lia
theorem a6.tuple (I:a6 X ai σ H s)(h:aM X.K H a xs):∃bo:List ax,aI xs bo/\IsTup s.heap a bo.toArray/\xs.length<=sizeLine:=by
 rcases h with h|⟨o,bo,n,hk,hc,hs,hz,r⟩
 ·obtain⟨z,bo,r,p,_⟩:=h.ok I.cj
  exact⟨bo,r,p,z⟩
 ·refine⟨bo.toList,r,⟨o,I.nj a o hk,hc,n,by simpa using hs⟩,?_⟩
  have e:=r.length;simp only[Array.length_toList]at e;lia
theorem a6.ni (I:a6 X ai σ H s)(h:aN X.K H a xs)(h':aN X.K H a ys):xs=ys:=by
 obtain⟨bo,r,⟨o,n,e,_,_,d⟩,_⟩:=I.list h
 obtain⟨its',r',⟨o',n',e',_,_,d'⟩,_⟩:=I.list h'
 rw[e]at e';cases e';rw[d]at d';injection d' with d1 _
 have:bo=its':=by simpa using congrArg Array.toList d1
 subst this;exact r.inj r'
theorem a6.kq (I:a6 X ai σ H s)(h:aM X.K H a xs)(h':aM X.K H a ys):xs=ys:=by
 obtain⟨bo,r,⟨o,e,_,n,d⟩,_⟩:=I.tuple h
 obtain⟨its',r',⟨o',e',_,n',d'⟩,_⟩:=I.tuple h'
 rw[e]at e';cases e';rw[d]at d';injection d' with d1 _
 have:bo=its':=by simpa using congrArg Array.toList d1
 subst this;exact r.inj r'
end
abbrev Cx.oq (X:Cx)(E:ax->ay->Prop):Cx:={ X with xe:=E }
abbrev Cx.sv (X:Cx):Cx:=X.oq λ_ _=>False
theorem Cx.Ok.oq {X:Cx}(ok:X.Ok)(E:ax->ay->Prop):(X.oq E).Ok:=
 ⟨ok.mod,ok.kind,ok.glob,ok.blt,ok.above,ok.inj,ok.has,ok.CJ,ok.hd,ok.frames,ok.Es,ok.IH,ok.bs,ok.xt,ok.we,ok.An,ok.kj,ok.AJ⟩
theorem Cx.Ok.ja {X:Cx}{E:ax->ay->Prop}(ok:(X.oq E).Ok):X.Ok:=
 ⟨ok.mod,ok.kind,ok.glob,ok.blt,ok.above,ok.inj,ok.has,ok.CJ,ok.hd,ok.frames,ok.Es,ok.IH,ok.bs,ok.xt,ok.we,ok.An,ok.kj,ok.AJ⟩
section
variable {X:Cx}{ai:List (az×Obj)}{σ:St}{H:Hp}{s:ay}{E:ax→ay→Prop}
theorem a6.oq (I:a6 X ai σ H s)(E:ax->ay->Prop):a6 (X.oq E) ai σ H s:=⟨I.ok.oq E,I.os,I.bare,I.base,I.loc,I.cell,I.free,I.ig,I.pin,I.cj,I.len⟩
theorem a6.ja (I:a6 (X.oq E) ai σ H s):a6 X ai σ H s:=⟨I.ok.ja,I.os,I.bare,I.base,I.loc,I.cell,I.free,I.ig,I.pin,I.cj,I.len⟩
theorem SP.ja {D:fN}{f:Flow}{s':ay}(h:SP (X.oq E) ai D f s'):SP X ai D f s':=by
 cases f with
 |next=>obtain⟨cn,H',I,q⟩:=h;exact⟨cn,H',I.ja,q⟩
 |brk=>obtain⟨cn,H',I,q⟩:=h;exact⟨cn,H',I.ja,q⟩
 |cont=>obtain⟨cn,H',I,q⟩:=h;exact⟨cn,H',I.ja,q⟩
 |ret u=>obtain⟨v,cn,H',I,r,q⟩:=h;exact⟨v,cn,H',I.ja,r,q⟩
theorem eN.sv {st:List Stmt}{t:TS}(h:eN X.sv st t):eN X st t:=λai s σ H D I hw=>
 mw (h ai s σ H D (I.oq _) hw) (λ_ _ q=>q.ja) λ_ _ z=>False.elim z
end
section
variable {X:Cx}{st:Stmt}{rest:List Stmt}{t u:TS}{e:Expr}{te:TE}{pos:Pos}
def x9:TS:=λD σ H=>D.nx σ H
def T5 (t u:TS):TS:=λD σ H=>t { D with nx:=u D } σ H
theorem T6:eN X [] x9:=λ_ _ σ H _ I h=>wpAny_execs_nil ⟨σ,H,I,h⟩
theorem t9 (h1:PS X st t)(h2:eN X rest u):eN X (st::rest) (T5 t u):=by
 intro ai s σ H D I h;refine wpAny_execs_cons (aL (h1 ai s σ H { D with nx:=u D } I h) λf s1 q=>?_);cases f with
 |next=>
  obtain⟨cn,H',I',q⟩:=q
  exact h2 ai s1 cn H' D I' q
 |ret v=>exact q
 |brk=>exact q
 |cont=>exact q
theorem d6 (h1:PS X st t):eN X [st] t:=by
 intro ai s σ H D I h;refine wpAny_execs_cons (aL (h1 ai s σ H D I h) λf s1 q=>?_);cases f with
 |next=>exact wpAny_execs_nil q
 |ret v=>exact q
 |brk=>exact q
 |cont=>exact q
theorem a6.quiet {ai:List (az×Obj)}{σ:St}{H:Hp}{s:ay}(I:a6 X ai σ H s):interactive X.env=false:=by simp[interactive,I.ok.kind]
def mC (te:TE):TS:=λD σ H=>te σ H λ_ H1=>D.nx σ H1
theorem kZ (he:PE X e te)(hs:swapsWith e none pos.line X.env=pure false:=by rfl):PS X (.Expr e pos) (mC te):=by
 intro ai s σ H D I h;exact wpAny_Expr_any (aL (he ai s σ H _ I h) λv s1 ⟨x,H1,I1,r1,q1⟩=>⟨σ,H1,I1,q1⟩) I.quiet hs
def tD (te:TE):TS:=λD σ H=>te σ H D.rt
theorem tE (he:PE X e te):PS X (.Return (some e) pos) (tD te):=by
 intro ai s σ H D I h;exact wpAny_Return_some (aL (he ai s σ H _ I h) λv s1 ⟨x,H1,I1,r1,q1⟩=>⟨x,σ,H1,I1,r1,q1⟩)
def qB (c:TT)(t u:TS):TS:=λD σ H=>c σ H λb H1=>if b=true then t D σ H1 else u D σ H1
theorem l5 {c:Expr}{a b:List Stmt}{tc:TT}(hc:PT X c tc)(ha:eN X a t)(hb:eN X b u):PS X (.If c a b pos) (qB tc t u):=by
 intro ai s σ H D I h;refine wpAny_If (aL (hc ai s σ H _ I h) λd s1 ⟨H1,I1,q1⟩=>?_);cases d with
 |true=>exact ha ai s1 σ H1 D I1 q1
 |false=>exact hb ai s1 σ H1 D I1 q1
def aF4:TS:=λ_ _ _=>False
theorem aF5:PS X st aF4:=λ_ _ _ _ _ _ h=>h.elim
end
abbrev TG:=V->St->Hp->(St->Hp->Prop)->Prop
abbrev mD:=List V->St->Hp->(St->Hp->Prop)->Prop
def PG (X:Cx)(target:Expr)(t:TG):Prop:=
 ∀(ai:List (az×Obj)) (s:ay) (σ:St) (H:Hp) (v:V) (u:ax) (Q:St->Hp->Prop),a6 X ai σ H s->aO v u->t v σ H Q->
  wpAny (model X.prog X.w) X.A (assign target X.env u) (λ_ s'=>∃cn H',a6 X ai cn H' s'/\Q cn H') X.xe s
def tF (X:Cx)(ts:List Expr)(t:mD):Prop:=
 ∀(ai:List (az×Obj)) (s:ay) (σ:St) (H:Hp) (vs:List V) (us:List ax) (Q:St->Hp->Prop),a6 X ai σ H s->aI vs us->t vs σ H Q->
  wpAny (model X.prog X.w) X.A (assignInOrder ((assignEach ts X.env).map (·.2)) us) (λ_ s'=>∃cn H',a6 X ai cn H' s'/\Q cn H') X.xe s
abbrev xA:=V->V->V->Hp->(Hp->Prop)->Prop
def T7 (X:Cx)(t:xA):Prop:=
 ∀(ai:List (az×Obj)) (s:ay) (σ:St) (H:Hp) (o i v:V) (ov iv u:ax) (Q:Hp->Prop),a6 X ai σ H s->aO o ov->aO i iv->aO v u->t o i v H Q->
  wpAny (model X.prog X.w) X.A (setItem ov iv u) (λ_ s'=>∃H',a6 X ai σ H' s'/\Q H') X.xe s
section
variable {X:Cx}{pos:Pos}
def dN (i:Nat):TG:=λv σ H Q=>Q (σ.set i (some v)) H
theorem jK {i:Nat}{x:Str}(hN:X.N.Nodup)(hi:X.N[i]? = some x)(hx:hZ X.env.scope x)(hf:X.fn x=true∨X.env.scope.names.lookup x=some .local:=by first|exact .inl rfl|exact .inr rfl|assumption):PG X (.Name x pos) (dN i):=by
 intro ai s σ H v u Q I r h;exact wpAny_assign_Name (S6 I hN hi hx r (λs' I'=>⟨_,H,I',h⟩) hf)
def tG:mD:=λvs σ H Q=>vs = []/\Q σ H
def mF (t:TG)(u:mD):mD:=λvs σ H Q=>∃v r,vs=v::r/\t v σ H λcn H'=>u r cn H' Q
theorem xB:tF X [] tG:=by
 intro ai s σ H vs us Q I r h
 obtain⟨e,h⟩:=h
 subst e;cases r;exact assignInOrder_nil ⟨σ,H,I,h⟩
theorem nY {e:Expr}{es:List Expr}{t:TG}{u:mD}(h1:PG X e t)(h2:tF X es u)(hs:(assignEach (e::es) X.env).map (·.2)=assign e X.env::(assignEach es X.env).map (·.2):=by rfl):tF X (e::es) (mF t u):=by
 intro ai s σ H vs us Q I r h
 obtain⟨v,vr,e1,h⟩:=h
 subst e1;cases r with
 |cons r rr=>
  rw[hs];refine assignInOrder_cons (aL (h1 ai s σ H _ _ _ I r h) λ_ s1 ⟨Cj,H1,I1,q1⟩=>?_);exact h2 ai s1 Cj H1 _ _ Q I1 rr q1
def tH (K:ad)(n:Nat)(t:mD):TG:=λv σ H Q=>∃a xs,v = .ref a/\aM K H a xs/\xs.length=n/\t xs σ H Q
theorem xC {es:List Expr}{k:Nat}{t:mD}{n:Nat}(hc:X.calm=true)(h:tF X es t)(hn:(assignEach es X.env).length=n:=by rfl)(Bv:(assignEach es X.env).findIdx? (·.1)=none:=by rfl):PG X (.Tuple es k pos) (tH X.K n t):=by
 intro ai s σ H v u Q I r hw
 obtain⟨a,xs,e1,hq,hl,hw⟩:=hw
 subst e1;cases r
 obtain⟨bo,rv,ht,hz⟩:=I.tuple hq
 refine assign_Tuple_tuple (I.ok.hd hc) ht (by simp[hn,<- hl,rv.length]) Bv λh' hx=>?_
 have I1:a6 X ai σ H { s with heap:=h' }:=I.kept (t':=s.toks) λb o e=>hx b o (lj (fm e)) e
 exact h ai _ σ H xs _ Q I1 (by simpa using rv) hw
def xD (to ti:TE)(t:xA):TG:=λv σ H Q=>to σ H λo H1=>ti σ H1 λi H2=>t o i v H2 λH3=>Q σ H3
theorem aF6 {o i:Expr}{to ti:TE}{t:xA}(ho:PE X o to)(hi:PE X i ti)(hs:T7 X t)(ha:∀v,assign (.Subscript o i pos) X.env v=(do
   let ov <- holding [v] (eval o X.env)
   let iv <- holding [v,ov] (eval i X.env)
   standAt pos
   holding [v,ov,iv] (setItem ov iv v)
   release [v,ov,iv] []):=by intro _;rfl):PG X (.Subscript o i pos) (xD to ti t):=by
 intro ai s σ H v u Q I r h;rw[ha];refine bw (xf (aL (ho ai s σ H _ I h) λov s1 ⟨x,H1,I1,r1,q1⟩=>?_));refine bw (xf (aL (hi ai s1 σ H1 _ I1 q1) λiv s2 ⟨y,H2,I2,r2,q2⟩=>?_));refine bw (wpAny_standAt (bw (xf (aL (hs ai s2 σ H2 x y v ov iv u _ I2 r1 r2 r q2) λ_ s3 ⟨H3,I3,q3⟩=>?_))));exact wpAny_release ⟨σ,H3,I3,q3⟩
def jL (te:TE)(g:TG):TS:=λD σ H=>te σ H λx H1=>g x σ H1 D.nx
theorem aF7 {tg e:Expr}{te:TE}{g:TG}(he:PE X e te)(hg:PG X tg g)(hs:swapsWithSole [tg] e pos.line X.env=pure false:=by rfl)(hw:swappedStores [tg] e X.env=pure none:=by rfl)(h1:(assignEach [tg] X.env).map (·.2) = [assign tg X.env]:=by rfl):PS X (.Assign [tg] e pos) (jL te g):=by
 intro ai s σ H D I h;refine wpAny_Assign_stores (aL (he ai s σ H _ I h) λv s1 ⟨x,H1,I1,r1,q1⟩=>?_) hs hw;rw[h1];exact aL (hg ai s1 σ H1 x v _ I1 r1 q1) λ_ s2 q=>q
theorem qD {i:Nat}{x:Str}{e:Expr}{te:TE}{pos':Pos}(hN:X.N.Nodup)(hi:X.N[i]? = some x)(hx:hZ X.env.scope x)(he:PE X e te)(hs:swapsWith e (some (.Name x pos')) pos.line X.env=pure false:=by rfl)(hf:X.fn x=true∨X.env.scope.names.lookup x=some .local:=by first|exact .inl rfl|exact .inr rfl|assumption) :
  PS X (.Assign [.Name x pos'] e pos) (jL te (dN i)):=by
 intro ai s σ H D I h;refine wpAny_Assign_Name (aL (he ai s σ H _ I h) λv s1 ⟨y,H1,I1,r1,q1⟩=>?_) hs;exact S6 I1 hN hi hx r1 (λs2 I2=>⟨_,H1,I2,q1⟩) hf
end
section
variable {X:Cx}{pos:Pos}
def T8 (c:TT)(tb:TS):TS:=λD σ H=>∃W:Nat->St->Hp->Prop,(∃m,W m σ H)/\∀m σ H,W m σ H->
 c σ H λb H1=>if b=true then ∃N:St->Hp->Prop,(∀cn H',N cn H'->∃m',m'<m/\W m' cn H')/\tb { D with nx:=N,ct:=N,bk:=D.nx } σ H1 else D.nx σ H1
theorem aF8 {c:Expr}{body:List Stmt}{tc:TT}{tb:TS}(hp:PassesOwn (model X.prog X.w) X.A X.env X.xe)(hc:PT X c tc)(hb:eN X body tb):PS X (.While c body [] pos) (T8 tc tb):=by
 intro ai s σ H D I h
 obtain⟨W,⟨m0,w0⟩,turn⟩:=h
 refine wpAny_While (codeAny_whileLoop (λn s'=>∃cn H',a6 X ai cn H' s'/\W n cn H') ?_ m0 ⟨σ,H,I,w0⟩);rintro n s1 ⟨Cj,H1,I1,w1⟩;refine BX hp (aL (hc ai s1 Cj H1 _ I1 (turn n Cj H1 w1)) λb s2 ⟨H2,I2,q2⟩=>?_);cases b with
 |true=>
  obtain⟨N,hN,q2⟩:=q2
  rw[if_pos rfl];refine BX hp (aL (hb ai s2 Cj H2 _ I2 q2) λf s3 q3=>?_);cases f with
  |next=>
   obtain⟨qw,H3,I3,n3⟩:=q3
   obtain⟨m',hm,w3⟩:=hN qw H3 n3
   exact⟨m',hm,qw,H3,I3,w3⟩
  |cont=>
   obtain⟨qw,H3,I3,n3⟩:=q3
   obtain⟨m',hm,w3⟩:=hN qw H3 n3
   exact⟨m',hm,qw,H3,I3,w3⟩
  |brk=>exact q3
  |ret v=>exact q3
 |false=>
  rw[if_neg gu];exact wpAny_execs_nil ⟨Cj,H2,I2,q2⟩
end
structure It where
 go:Nat->Hp->Prop
 xn:Nat->Hp->V->Hp->Prop
 stop:Nat->Hp->Prop
def i5 (X:Cx)(ai:List (az×Obj))(H:Hp)(b:az):Prop:=
 H b=none/\b≠X.env.locals/\b∉X.fs/\(b∈X.ex∨X.fh.heap.objs.size<=b)/\(∀x c,X.env.cells.lookup x=some c->c≠b)/\∀p∈X.pn++ai,p.1≠b
theorem a6.kn {X:Cx}{ai:List (az×Obj)}{σ:St}{H H':Hp}{s:ay}{b:az}(I:a6 X ai σ H s)(hb:s.heap.objs.size<=b)(hn:H' b=none):i5 X ai H' b:=by
 refine⟨hn,uv (iu I.lt hb),I.Fl hb,.inr (iw I.sz hb),λx c e z=>?_,λp hp z=>?_⟩
 ·obtain⟨v,q⟩:=I.cell x c e
  exact absurd (iu q.lt (by rw[z];exact hb)) (qr _)
 ·exact absurd (iu (fm (I.pin p hp).1) (by rw[z];exact hb)) (qr _)
structure iH (P:ba)(w:bd)(K:ad)(tg:Expr)(J:It)(fp:List az)(it:az)(tn:Nat->Heap->Prop):Prop where
 mem:it∈fp
 obj:∀i h,tn i h->∀b∈fp,∃o,h.get? b=some o/\∀v,o.data≠.cell v
 keep:∀i h h',tn i h->(∀b∈fp,∀o,h.get? b=some o->h'.get? b=some o)->tn i h'
 item:∀(X:Cx),X.prog=P->X.w=w->X.K=K->X.calm=true->∀(i:Nat) (ai:List (az×Obj)) (s:ay) (σ:St) (H:Hp) (E:ax->ay->Prop),a6 X ai σ H s->(∀b∈fp,i5 X ai H b)->tn i s.heap->J.go i H->
  wpAny (model P w) X.A (pyNext (.ref it)) (λr s1=>∃u,r=some u/\
   wpAny (model P w) X.A (letOwnedTupleGo tg (.ref it) u) (λ_ s2=>∃x H',a6 X ai σ H' s2/\aO x u/\J.xn i H x H'/\tn (i+1) s2.heap/\∀b∈fp,H' b=none) E s1) E s
 done:∀(X:Cx),X.prog=P->X.w=w->X.K=K->X.calm=true->∀(i:Nat) (ai:List (az×Obj)) (s:ay) (σ:St) (H:Hp) (E:ax->ay->Prop),a6 X ai σ H s->(∀b∈fp,i5 X ai H b)->tn i s.heap->J.stop i H->
  wpAny (model P w) X.A (pyNext (.ref it)) (λr s1=>r=none/\a6 X ai σ H s1) E s
 self:∀(A:bc) (i:Nat) (s:ay) (Q:ax->ay->Prop) (E:ax->ay->Prop),tn i s.heap->Q (.ref it) s->wpAny (model P w) A (pyIter (.ref it)) Q E s
abbrev TI:=St->Hp->(It->Hp->Prop)->Prop
def T9 (X:Cx)(ai:List (az×Obj))(σ:St)(tg:Expr)(R:It->Hp->Prop)(Dz:ax)(s2:ay):Prop:=
 ∃(it:az) (fp:List az) (tn:Nat->Heap->Prop) (J:It) (H':Hp),Dz = .ref it/\a6 X ai σ H' s2/\iH X.prog X.w X.K tg J fp it tn/\tn 0 s2.heap/\(∀b∈fp,i5 X ai H' b)/\R J H'
def PI (X:Cx)(tg iter:Expr)(wi:TI):Prop:=
 ∀(ai:List (az×Obj)) (s:ay) (σ:St) (H:Hp) (R:It->Hp->Prop),a6 X ai σ H s->wi σ H R->
  wpAny (model X.prog X.w) X.A (eval iter X.env) (λv s1=>wpAny (model X.prog X.w) X.A (pyIter v) (T9 X ai σ tg R) X.xe s1) X.xe s
theorem tI {M:Model}{A:bc}{E:ax->ay->Prop}{s:ay}{tg:Expr}{it:az}{u:ax}{o:Obj}{n:String}{vs:Array ax}{Q:Unit->ay->Prop}(ho:s.heap.get? it=some o)(hc:o.cls = .type n)(hd:o.data = .fields vs)(hn:["enumerate","zip","dict_itemiterator","dict_reverseitemiterator","odict_iterator","itertools.zip_longest","itertools.pairwise"].contains n=false)(hQ:Q () s):wpAny M A (letOwnedTupleGo tg (.ref it) u) Q E s:=by
  unfold letOwnedTupleGo;cases tg<;>first
    |exact cy hQ
    |(cases u<;>first
        |exact cy hQ
        | (refine bw (wpAny_load ho ?_)
           rw[hc,hd];show wpAny M A (if (["enumerate","zip","dict_itemiterator","dict_reverseitemiterator","odict_iterator","itertools.zip_longest","itertools.pairwise"].contains n&&vs[0]?==some (rawInt _))=true then _ else _) Q E s;rw[if_neg (by intro h;rw[hn,Bool.false_and]at h;cases h)]
           exact cy hQ))
def nZ (K:ad)(a:az):It:=
 ⟨λi H=>∃xs x,aN K H a xs/\xs[i]? = some x,λi H x H'=>H'=H/\∀xs,aN K H a xs->xs[i]? = some x,λi H=>∃xs,aN K H a xs/\xs.length<=i⟩
def l6 (K:ad)(a:az):It:=
 ⟨λi H=>∃xs x,aM K H a xs/\xs[i]? = some x,λi H x H'=>H'=H/\∀xs,aM K H a xs->xs[i]? = some x,λi H=>∃xs,aM K H a xs/\xs.length<=i⟩
def tJ (lo:Int)(n:Nat):It:=⟨λi _=>i<n,λi H x H'=>H'=H/\x = .int (lo+i),λi _=>n<=i⟩
theorem aF9 {P:ba}{w:bd}{K:ad}{tg:Expr}(a it:az):iH P w K tg (nZ K a) [it] it (λi h=>h.IsListIter it a i) where
 mem:=by simp
 obj:=λi h st b hb=>by
  have e:b=it:=by simpa using hb
  subst e
  obtain⟨o,e,c,d⟩:=st
  exact⟨o,e,λv z=>by rw[d]at z;cases z⟩
 keep:=λi h h' st k=>st.at λo e=>k it (by simp) o e
 item:=by
  intro X hP hw hK hc i ai s σ H E I hf st hg;subst hP hw hK
  obtain⟨xs,x,hq,hx⟩:=hg
  obtain⟨bo,rv,p,hz⟩:=I.list hq
  obtain⟨u,hu,ru⟩:=rv.get hx
  obtain⟨f0,f1,f2,f3,f4,f5⟩:=hf it (by simp)
  refine wpAny_pyNext_list_item st p.isList (x:=u) (by simpa using hu) λh' bz sb=>?_
  have I1:a6 X ai σ H { s with heap:=h' }:=I.turned (t':=s.toks) (λb o hb e=>(sb.2 b hb).trans e) f0 f1 f3 f4 f5
  obtain⟨o,e,c,d⟩:=id bz
  exact⟨u,rfl,tI (s:={ s with heap:=h' }) e c d (by decide) ⟨x,H,I1,ru,⟨rfl,λys hy=>by rw[I.ni hy hq];exact hx⟩,bz,λb hb=>(hf b hb).1⟩⟩
 done:=by
  intro X hP hw hK hc i ai s σ H E I hf st hg;subst hP hw hK
  obtain⟨xs,hq,hx⟩:=hg
  obtain⟨bo,rv,p,hz⟩:=I.list hq
  obtain⟨f0,f1,f2,f3,f4,f5⟩:=hf it (by simp)
  have hl:=rv.length;exact wpAny_pyNext_list_end (I.ok.hd hc) st p.isList (by simp;lia) λh' eb=>⟨rfl,I.turned (t':=s.toks) (λb o hb e=>eb b o hb e) f0 f1 f3 f4 f5⟩
 self:=λ_ _ _ _ _ st h=>wpAny_pyIter_listiter st h
theorem U0 {P:ba}{w:bd}{K:ad}{tg:Expr}(a it:az):iH P w K tg (l6 K a) [it] it (λi h=>h.IsTupleIter it a i) where
 mem:=by simp
 obj:=λi h st b hb=>by
  have e:b=it:=by simpa using hb
  subst e
  obtain⟨o,e,c,d⟩:=st
  exact⟨o,e,λv z=>by rw[d]at z;cases z⟩
 keep:=λi h h' st k=>st.at λo e=>k it (by simp) o e
 item:=by
  intro X hP hw hK hc i ai s σ H E I hf st hg;subst hP hw hK
  obtain⟨xs,x,hq,hx⟩:=hg
  obtain⟨bo,rv,p,hz⟩:=I.tuple hq
  obtain⟨u,hu,ru⟩:=rv.get hx
  obtain⟨f0,f1,f2,f3,f4,f5⟩:=hf it (by simp)
  refine wpAny_pyNext_tuple_item st (show s.heap.IsTuple a bo.toArray from p) (x:=u) (by simpa using hu) λh' bz sb=>?_
  have I1:a6 X ai σ H { s with heap:=h' }:=I.turned (t':=s.toks) (λb o hb e=>(sb.2 b hb).trans e) f0 f1 f3 f4 f5
  obtain⟨o,e,c,d⟩:=id bz
  exact⟨u,rfl,tI (s:={ s with heap:=h' }) e c d (by decide) ⟨x,H,I1,ru,⟨rfl,λys hy=>by rw[I.kq hy hq];exact hx⟩,bz,λb hb=>(hf b hb).1⟩⟩
 done:=by
  intro X hP hw hK hc i ai s σ H E I hf st hg;subst hP hw hK
  obtain⟨xs,hq,hx⟩:=hg
  obtain⟨bo,rv,p,hz⟩:=I.tuple hq
  obtain⟨f0,f1,f2,f3,f4,f5⟩:=hf it (by simp)
  have hl:=rv.length;exact wpAny_pyNext_tuple_end (I.ok.hd hc) st (show s.heap.IsTuple a bo.toArray from p) (by simp;lia) λh' eb=>⟨rfl,I.turned (t':=s.toks) (λb o hb e=>eb b o hb e) f0 f1 f3 f4 f5⟩
 self:=λ_ _ _ _ _ st h=>wpAny_pyIter_tupleiter st h
theorem aG0 {P:ba}{w:bd}{K:ad}{tg:Expr}(it:az)(lo:Int)(n:Nat):iH P w K tg (tJ lo n) [it] it (λi h=>IsRangeIter h it (lo+(i:Nat)*1) ((n:Int)-(i:Nat)) 1) where
 mem:=by simp
 obj:=λi h st b hb=>by
  have e:b=it:=by simpa using hb
  subst e
  exact⟨_,st,λv z=>by
   have z':Data.fields _=Data.cell v:=z
   cases z'⟩
 keep:=λi h h' st k=>k it (by simp) _ st
 item:=by
  intro X hP hw hK hc i ai s σ H E I hf st hg;subst hP hw hK
  obtain⟨f0,f1,f2,f3,f4,f5⟩:=hf it (by simp)
  have W:=Walks.range (prog:=X.prog) (w:=X.w) (I.ok.hd hc) it lo 1 n;refine W.item i s _ _ hg st λv h' tk hv bz kk=>?_
  obtain⟨t,rfl⟩:=hv
  have I1:a6 X ai σ H { s with heap:=h',toks:=tk }:=I.turned (λb o hb e=>kk b o (by simpa using hb) e) f0 f1 f3 f4 f5;refine⟨_,rfl,tI (s:={ s with heap:=h',toks:=tk }) (n:="range_iterator") bz rfl rfl (by decide) ⟨.int (lo+i),H,I1,⟨t,?_⟩,⟨rfl,rfl⟩,bz,λb hb=>(hf b hb).1⟩⟩;rw[Int.mul_one]
 done:=by
  intro X hP hw hK hc i ai s σ H E I hf st hg;subst hP hw hK
  obtain⟨f0,f1,f2,f3,f4,f5⟩:=hf it (by simp)
  exact wpAny_pyNext_range_end (I.ok.hd hc) st (by have:n<=i:=hg;lia) λh' eb=>⟨rfl,I.turned (t':=s.toks) (λb o hb e=>eb b o hb e) f0 f1 f3 f4 f5⟩
 self:=λ_ _ _ _ _ st h=>wpAny_pyIter_rangeiter st h
section
variable {X:Cx}{tg:Expr}
def aG1 (K:ad)(tl:TE):TI:=λσ H R=>tl σ H λx H1=>∃a,x = .ref a/\(∃xs,aM K H1 a xs)/\R (l6 K a) H1
theorem U1 {l:Expr}{tl:TE}(hl:PE X l tl):PI X tg l (aG1 X.K tl):=by
 intro ai s σ H R I h;refine aL (hl ai s σ H _ I h) λv s1 ⟨x,H1,I1,r1,q1⟩=>?_
 obtain⟨a,e,⟨xs,hq⟩,q⟩:=q1
 subst e;cases r1
 obtain⟨bo,rv,p,hz⟩:=I1.tuple hq
 refine Ax (show s1.heap.IsTuple a bo.toArray from p) ?_;refine⟨s1.heap.objs.size,[s1.heap.objs.size],_,_,H1,rfl,I1.kept (t':=s1.toks) λb o e=>ez _ e,U0 a _,⟨_,jw _ rfl,rfl,rfl⟩,λb hb=>?_,q⟩;have e:b=s1.heap.objs.size:=by simpa using hb
 subst e;exact I1.kn (da _) (I1.cj.fresh (da _))
theorem aG2 {ai:List (az×Obj)}{σ:St}{H:Hp}{s:ay}{R:It->Hp->Prop}{E:ax->ay->Prop}{lo hi:Int}{t u v:Tok}{tk:Nat}(I:a6 X ai σ H s)(h1:-(2^62)<=lo)(h2:lo<2^62)(h3:-(2^62)<=hi)(h4:hi<2^62)(q:R (tJ lo (hi-lo).toNat) H):wpAny (model X.prog X.w) X.A (pyIter (.ref s.heap.objs.size)) (T9 X ai σ tg R) E { s with heap:=s.heap.push { cls:=.type "range",data:=.fields #[.int lo t,.int hi u,.int 1 v] },toks:=tk }:=by
 refine wpAny_pyIter_range (IsRange.new ..) (small_one h1 h2 h3 h4) ?_;have I1:a6 X ai σ H { s with heap:=s.heap.push { cls:=.type "range",data:=.fields #[.int lo t,.int hi u,.int 1 v] },toks:=tk }:=I.kept λb o e=>ez _ e
 refine⟨(s.heap.push { cls:=.type "range",data:=.fields #[.int lo t,.int hi u,.int 1 v] }).objs.size,[(s.heap.push { cls:=.type "range",data:=.fields #[.int lo t,.int hi u,.int 1 v] }).objs.size],_,_,H,rfl,
  I1.kept (t':=tk) λb o e=>ez _ e,aG0 _ lo (hi-lo).toNat,?_,λb hb=>?_,q⟩
 ·have e1:lo+((0:Nat):Int)*1=lo:=by simp
  have e2:(((hi-lo).toNat:Nat):Int)-((0:Nat):Int)=Builtin.Range.rangeSize lo hi 1:=by rw[rangeSize_one];split<;>lia
  show IsRangeIter _ _ (lo+((0:Nat):Int)*1) ((((hi-lo).toNat:Nat):Int)-((0:Nat):Int)) 1;rw[e1,e2];exact jw _ rfl
 ·have e:b=(s.heap.push { cls:=.type "range",data:=.fields #[.int lo t,.int hi u,.int 1 v] }).objs.size:=by simpa using hb
  subst e;exact I1.kn (da _) (I1.cj.fresh (da _))
def U2 (ta:TA):TI:=λσ H R=>ta σ H λvs H1=>∃j:Int,vs = [.int j]/\-(2^62)<=j/\j<2^62/\R (tJ 0 j.toNat) H1
theorem aG3 {a:Expr}{ta:TA}{p pos:Pos}(hg:Gl X "range")(hm:X.mg "range" = none)(ha:PA X [a] ta)(hs:starEach [a] X.env = [(false,eval a X.env)]:=by rfl):PI X tg (.Call (.Name "range" p) [a] [] pos) (U2 ta):=by
 intro ai s σ H R I h;refine Call_ (nX I hg hm boot_range (EN (aL (ha pos ai s σ H _ I h) λus s1 ⟨vs,H1,I1,r1,q1⟩=>?_) hs rfl))
 obtain⟨j,e,q1,q2,q⟩:=q1
 subst e;cases r1 with
 |cons r rr=>
  cases rr
  obtain⟨t,rfl⟩:=r
  exact call_range_1 (aG2 I1 (by lia) (by lia) q1 q2 (by simpa using q))
def xE (wi:TI)(g:TG)(tb:TS):TS:=λD σ H=>wi σ H λJ H1=>∃W:Nat->Nat->St->Hp->Prop,(∃m,W 0 m σ H1)/\∀i m σ H,W i m σ H->
 (J.stop i H/\D.nx σ H)∨(J.go i H/\∃N:St->Hp->Prop,(∀cn H',N cn H'->∃m',m'<m/\W (i+1) m' cn H')/\∀x H',J.xn i H x H'->g x σ H' λjx H2=>tb { D with nx:=N,ct:=N,bk:=D.nx } jx H2)
def qE (fp:List az)(h:Heap):List (az×Obj):=fp.filterMap λb=>(h.get? b).map λo=>(b,o)
theorem tK {fp:List az}{h:Heap}{b:az}{o:Obj}(hb:b∈fp)(e:h.get? b=some o):(b,o)∈qE fp h:=List.mem_filterMap.mpr ⟨b,hb,by rw[e];rfl⟩
theorem aG4 {fp:List az}{h:Heap}{p:az×Obj}(hp:p∈qE fp h):p.1∈fp/\h.get? p.1=some p.2:=by
 obtain⟨b,hb,e⟩:=List.mem_filterMap.mp hp
 cases q:h.get? b with
 |none=>rw[q]at e;cases e
 |some o=>
  rw[q]at e;have e':(b,o)=p:=ip e;subst e'
  exact⟨hb,q⟩
theorem a6.pinned {ai:List (az×Obj)}{σ:St}{H:Hp}{s:ay}{fp:List az}(I:a6 X ai σ H s)(hf:∀b∈fp,i5 X ai H b)(ho:∀b∈fp,∃o,s.heap.get? b=some o/\∀v,o.data≠.cell v):a6 X (ai++qE fp s.heap) σ H s:=
 I.vf λp hp=>(jk.mp hp).elim (λz=>I.pin p (ny _ z)) λz=>by
  obtain⟨hb,e⟩:=aG4 z
  obtain⟨f0,f1,f2,_⟩:=hf p.1 hb
  obtain⟨o,e',d⟩:=ho p.1 hb
  rw[e]at e';cases e'
  exact⟨e,f0,f1,f2,d⟩
theorem a6.kh {ai pl:List (az×Obj)}{σ:St}{H:Hp}{s:ay}(I:a6 X (ai++pl) σ H s):a6 X ai σ H s:=I.vf λp hp=>I.pin p (ny _ (uc _ hp))
theorem xF {iter:Expr}{body:List Stmt}{wi:TI}{g:TG}{tb:TS}{pos:Pos}(hp:PassesOwn (model X.prog X.w) X.A X.env X.xe)(hc:X.calm=true)(hi:PI X tg iter wi)(hg:PG X tg g)(hb:eN X body tb)(hs:∀x,foldedSetIterable iter X.env x=pure x:=by intro _;rfl):PS X (.For tg iter body [] pos) (xE wi g tb):=by
 intro ai s σ H D I h;refine wpAny_For (aL (hi ai s σ H _ I h) λv s1 h1=>aL h1 λDz s2 h2=>?_) hs
 obtain⟨it,fp,tn,J,H2,e,I2,T,fe,f2,W,⟨m0,w0⟩,turn⟩:=h2
 subst e;have rf:∀{H':Hp},(∀b∈fp,H' b=none)->∀b∈fp,i5 X ai H' b:=λhn b hb=>⟨hn b hb,(f2 b hb).2⟩
 refine codeAny_forLoop_any (λn s'=>∃i cn H',a6 X ai cn H' s'/\tn i s'.heap/\(∀b∈fp,H' b=none)/\W i n cn H') ?_ m0 ⟨0,σ,H2,I2,fe,λb hb=>(f2 b hb).1,w0⟩;rintro n s3 ⟨i,qw,H3,I3,vz,DT,w3⟩;rcases turn i n qw H3 w3 with⟨stop,qn⟩|⟨go,N,hN,step⟩
 ·refine BX hp (aL (T.done X rfl rfl rfl hc i ai s3 qw H3 X.xe I3 (rf DT) vz stop) λr s4 ⟨hr,I4⟩=>?_)
  subst hr;exact wpAny_execs_nil ⟨qw,H3,I4,qn⟩
 ·refine BX hp (aL (T.item X rfl rfl rfl hc i ai s3 qw H3 X.xe I3 (rf DT) vz go) λr s4 ⟨u,hr,h4⟩=>?_)
  subst hr;refine BX hp (aL h4 λ_ s5 ⟨x,H5,I5,r5,y5,AE,GC⟩=>?_);have Hb:=I5.pinned (rf GC) (T.obj _ _ AE);refine BX hp (aL (hg _ s5 qw H5 x u _ Hb r5 (step x H5 y5)) λ_ s6 ⟨Ci,H6,I6,q6⟩=>?_);refine BX hp (aL (hb _ s6 Ci H6 _ I6 q6) λf s7 q7=>?_);have again:∀{yd:St}{H7:Hp},a6 X (ai++qE fp s5.heap) yd H7 s7->N yd H7->∃m,m<n/\∃i cn H',a6 X ai cn H' s7/\tn i s7.heap/\(∀b∈fp,H' b=none)/\W i m cn H':=λ{yd H7} I7 n7=>by
   obtain⟨m',hm,w7⟩:=hN yd H7 n7
   refine⟨m',hm,i+1,yd,H7,I7.kh,T.keep _ _ _ AE λb hb o e=>(I7.pin (b,o) (ny _ (ny _ (tK hb e)))).1,λb hb=>?_,w7⟩
   obtain⟨o,e,d⟩:=T.obj _ _ AE b hb
   exact (I7.pin (b,o) (ny _ (ny _ (tK hb e)))).2.1
  cases f with
  |next=>obtain⟨yd,H7,I7,n7⟩:=q7;exact again I7 n7
  |cont=>obtain⟨yd,H7,I7,n7⟩:=q7;exact again I7 n7
  |brk=>obtain⟨yd,H7,I7,q7⟩:=q7;exact⟨yd,H7,I7.kh,q7⟩
  |ret v=>obtain⟨x7,yd,H7,I7,r7,q7⟩:=q7;exact⟨x7,yd,H7,I7.kh,r7,q7⟩
end
theorem bG4 {K:ad}{a:az}{xs:List V}{g:TG}{tb:TS}{D:fN}{σ:St}{H:Hp}(Pv:Nat->St->Hp->Prop)(h0:Pv 0 σ H)(hl:∀i σ H,i<=xs.length->Pv i σ H->aN K H a xs)(hs:∀i x σ H,xs[i]? = some x->Pv i σ H->g x σ H λjx H2=>tb { D with nx:=Pv (i+1),ct:=Pv (i+1),bk:=D.nx } jx H2)(hd:∀σ H,Pv xs.length σ H->D.nx σ H) :
  ∃W:Nat->Nat->St->Hp->Prop,(∃m,W 0 m σ H)/\∀i m σ H,W i m σ H->
   ((nZ K a).stop i H/\D.nx σ H)∨((nZ K a).go i H/\∃N:St->Hp->Prop,(∀cn H',N cn H'->∃m',m'<m/\W (i+1) m' cn H')/\∀x H',(nZ K a).xn i H x H'->g x σ H' λjx H2=>tb { D with nx:=N,ct:=N,bk:=D.nx } jx H2):=by
 refine⟨λi m σ H=>m=xs.length-i/\i<=xs.length/\Pv i σ H,⟨xs.length,by simp,lh _,h0⟩,?_⟩;rintro i m σ H ⟨rfl,hi,p⟩;have q:=hl i σ H hi p;by_cases jq:i<xs.length
 ·refine .inr ⟨⟨xs,xs[i],q,by simp[jq]⟩,Pv (i+1),λcn H' p'=>⟨xs.length-(i+1),by lia,rfl,jq,p'⟩,λx H' y=>?_⟩
  obtain⟨e,y⟩:=y
  subst e;exact hs i x σ _ (y xs q) p
 ·have e:i=xs.length:=by lia
  subst e;exact .inl ⟨⟨xs,q,da _⟩,hd σ H p⟩
theorem aG5 {K:ad}{a:az}{xs:List V}{g:TG}{tb:TS}{D:fN}{σ:St}{H:Hp}(Pv:Nat->St->Hp->Prop)(h0:Pv 0 σ H)(hl:∀i σ H,i<=xs.length->Pv i σ H->aM K H a xs)(hs:∀i x σ H,xs[i]? = some x->Pv i σ H->g x σ H λjx H2=>tb { D with nx:=Pv (i+1),ct:=Pv (i+1),bk:=D.nx } jx H2)(hd:∀σ H,Pv xs.length σ H->D.nx σ H) :
  ∃W:Nat->Nat->St->Hp->Prop,(∃m,W 0 m σ H)/\∀i m σ H,W i m σ H->
   ((l6 K a).stop i H/\D.nx σ H)∨((l6 K a).go i H/\∃N:St->Hp->Prop,(∀cn H',N cn H'->∃m',m'<m/\W (i+1) m' cn H')/\∀x H',(l6 K a).xn i H x H'->g x σ H' λjx H2=>tb { D with nx:=N,ct:=N,bk:=D.nx } jx H2):=by
 refine⟨λi m σ H=>m=xs.length-i/\i<=xs.length/\Pv i σ H,⟨xs.length,by simp,lh _,h0⟩,?_⟩;rintro i m σ H ⟨rfl,hi,p⟩;have q:=hl i σ H hi p;by_cases jq:i<xs.length
 ·refine .inr ⟨⟨xs,xs[i],q,by simp[jq]⟩,Pv (i+1),λcn H' p'=>⟨xs.length-(i+1),by lia,rfl,jq,p'⟩,λx H' y=>?_⟩
  obtain⟨e,y⟩:=y
  subst e;exact hs i x σ _ (y xs q) p
 ·have e:i=xs.length:=by lia
  subst e;exact .inl ⟨⟨xs,q,da _⟩,hd σ H p⟩
abbrev R2:=V->V->Hp->VK->Prop
def bT (X:Cx)(f:ax->ax->Sem ax)(r:R2):Prop:=
 ∀(ai:List (az×Obj)) (s:ay) (σ:St) (H:Hp) (x y:V) (v u:ax) (Q:VK),a6 X ai σ H s->aO x v->aO y u->r x y H Q->
  wpAny (model X.prog X.w) X.A (f v u) (EP X ai σ Q) X.xe s
def xG (X:Cx)(f:ax->Sem ax)(r:V->Hp->VK->Prop):Prop:=
 ∀(ai:List (az×Obj)) (s:ay) (σ:St) (H:Hp) (x:V) (v:ax) (Q:VK),a6 X ai σ H s->aO x v->r x H Q->
  wpAny (model X.prog X.w) X.A (f v) (EP X ai σ Q) X.xe s
def dO (X:Cx)(f:ax)(r:List V->Hp->VK->Prop):Prop:=
 ∀(ai:List (az×Obj)) (s:ay) (σ:St) (H:Hp) (xs:List V) (us:List ax) (Q:VK),a6 X ai σ H s->aI xs us->r xs H Q->
  wpAny (model X.prog X.w) X.A (call f us) (EP X ai σ Q) X.xe s
def aG6 (X:Cx)(r:V->Hp->(Bool->Hp->Prop)->Prop):Prop:=
 ∀(ai:List (az×Obj)) (s:ay) (σ:St) (H:Hp) (x:V) (v:ax) (Q:Bool->Hp->Prop),a6 X ai σ H s->aO x v->r x H Q->
  wpAny (model X.prog X.w) X.A (truthy v) (TP X ai σ Q) X.xe s
def qF (r:R2)(ta tb:TE):TE:=λσ H Q=>ta σ H λx H1=>tb σ H1 λy H2=>r x y H2 Q
def PJ (r:V->Hp->VK->Prop)(ta:TE):TE:=λσ H Q=>ta σ H λx H1=>r x H1 Q
def rI (C:Int->Int->Prop)(g:Int->Int->V):R2:=λx y H Q=>∃i j,x = .int i/\y = .int j/\C i j/\Q (g i j) H
def iI (g:Int->Int->V):R2:=λx y H Q=>∃i j,x = .int i/\y = .int j/\Q (g i j) H
def rU (g:Int->V):V->Hp->VK->Prop:=λx H Q=>∃i,x = .int i/\Q (g i) H
section
variable {X:Cx}{a b c:Expr}{ta tb tc:TE}{pos:Pos}
theorem xH (ha:PE X a ta)(hb:PE X b tb){ai:List (az×Obj)}{s:ay}{σ:St}{H:Hp}{R:V->V->Hp->Prop}(I:a6 X ai σ H s)(h:ta σ H λx H1=>tb σ H1 λy H2=>R x y H2){Q:ax->ay->Prop}{f:ax->ax->Sem ax}(hf:∀v u s2 x y H2,a6 X ai σ H2 s2->aO x v->aO y u->R x y H2->wpAny (model X.prog X.w) X.A (f v u) Q X.xe s2) :
  wpAny (model X.prog X.w) X.A (eval a X.env) (λv cg=>wpAny (model X.prog X.w) X.A (eval b X.env) (λu ot=>wpAny (model X.prog X.w) X.A (f v u) Q X.xe ot) X.xe cg) X.xe s:=by
 refine aL (ha ai s σ H _ I h) λv s1 ⟨x,H1,I1,r1,q1⟩=>?_
 refine aL (hb ai s1 σ H1 _ I1 q1) λu s2 ⟨y,H2,I2,r2,q2⟩=>?_
 exact hf v u s2 x y H2 I2 r1 r2 q2
theorem aG7 {op:Operator}{r:R2}(ho:bT X (binaryOp op) r)(ha:PE X a ta)(hb:PE X b tb):PE X (.BinOp a op b pos) (qF r ta tb):=by
 intro ai s σ H Q I h;exact wpAny_BinOp (xH ha hb I h λv u s2 x y H2 I2 rx ry q=>ho ai s2 σ H2 x y v u Q I2 rx ry q)
theorem aG8 {op:UnaryOp}{r:V->Hp->VK->Prop}(ho:xG X (unaryOp op) r)(ha:PE X a ta):PE X (.UnaryOp op a pos) (PJ r ta):=by
 intro ai s σ H Q I h;exact UnaryOp_ (aL (ha ai s σ H _ I h) λv s1 ⟨x,H1,I1,r1,q1⟩=>ho ai s1 σ H1 x v Q I1 r1 q1)
theorem qG {f:ax->ax->Sem ax}{C:Int->Int->Prop}{g:Int->Int->Int}(rule:∀(i j:Int) (t u:Tok) (s:ay) (Q:ax->ay->Prop) (E:ax->ay->Prop),C i j->Q (.int (g i j) s.toks) { s with toks:=s.toks+1 }->wpAny (model X.prog X.w) X.A (f (.int i t) (.int j u)) Q E s) :
  bT X f (rI C λi j=>.int (g i j)):=by
 intro ai s σ H x y v u Q I rx ry h
 obtain⟨i,j,rfl,rfl,hc,q⟩:=h
 obtain⟨t,rfl⟩:=rx
 obtain⟨t',rfl⟩:=ry
 exact rule i j t t' s _ _ hc ⟨.int (g i j),H,I.tok _,⟨_,rfl⟩,q⟩
theorem tL {f:ax->ax->Sem ax}{g:Int->Int->Int}(rule:∀(i j:Int) (t u:Tok) (s:ay) (Q:ax->ay->Prop) (E:ax->ay->Prop),Q (.int (g i j) s.toks) { s with toks:=s.toks+1 }->wpAny (model X.prog X.w) X.A (f (.int i t) (.int j u)) Q E s) :
  bT X f (iI λi j=>.int (g i j)):=by
 intro ai s σ H x y v u Q I rx ry h
 obtain⟨i,j,rfl,rfl,q⟩:=h
 obtain⟨t,rfl⟩:=rx
 obtain⟨t',rfl⟩:=ry
 exact rule i j t t' s _ _ ⟨.int (g i j),H,I.tok _,⟨_,rfl⟩,q⟩
theorem tM {f:ax->ax->Sem ax}{g:Int->Int->Bool}(rule:∀(i j:Int) (t u:Tok) (s:ay) (Q:ax->ay->Prop) (E:ax->ay->Prop),Q (.bool (g i j)) s->wpAny (model X.prog X.w) X.A (f (.int i t) (.int j u)) Q E s) :
  bT X f (iI λi j=>.bl (g i j)):=by
 intro ai s σ H x y v u Q I rx ry h
 obtain⟨i,j,rfl,rfl,q⟩:=h
 obtain⟨t,rfl⟩:=rx
 obtain⟨t',rfl⟩:=ry
 exact rule i j t t' s _ _ ⟨.bl (g i j),H,I,rfl,q⟩
def xI (i j:Int):Prop:=0<j/\j<1073741824
def xJ (i j:Int):Prop:=0<=j/\j<=1000000/\i.natAbs<2^64
def qH (i j:Int):Prop:=(-(2^64)<i/\i<2^64)∨(-(2^64)<j/\j<2^64)
theorem qH.ok {i j:Int}(h:qH i j):IntMulOk i j:=by
 rcases h with⟨h1,h2⟩|⟨h1,h2⟩
 ·exact .of_left (intBits_le_64 h1 h2)
 ·exact .of_right (intBits_le_64 h1 h2)
theorem aG9 (k:Nat):(0:Int)<=2^k:=by
 rw[two_pow_cast];exact Cb _
theorem aH0:bT X (binaryOp .Add) (iI λi j=>.int (i+j)):=tL λ_ _ _ _ _ _ _ q=>add_int q
theorem aH1:bT X (binaryOp .Sub) (iI λi j=>.int (i-j)):=tL λ_ _ _ _ _ _ _ q=>sub_int q
theorem aH2:bT X (binaryOp .Mult) (rI qH λi j=>.int (i*j)):=qG λ_ _ _ _ _ _ _ hc q=>mul_int q hc.ok
theorem aH3:bT X (binaryOp .FloorDiv) (rI xI λi j=>.int (i/j)):=qG λi j _ _ _ _ _ hc q=>by
 have h1:(0:Int)<j:=hc.1;have h2:j<1073741824:=hc.2;exact floordiv_int (by lia) (by rw[Int.fdiv_eq_ediv_of_nonneg i (by lia)];exact q) (.inl (PyProof.noPylong_small (by lia)))
theorem aH4:bT X (binaryOp .Mod) (rI (λ_ j=>0<j) λi j=>.int (i%j)):=qG λi j _ _ _ _ _ hc q=>by
 have h1:(0:Int)<j:=hc;exact mod_int' (by lia) (by rw[Int.fmod_eq_emod_of_nonneg i (by lia)];exact q)
theorem aH5:bT X (binaryOp .LShift) (rI xJ λi j=>.int (i*2^j.toNat)):=qG λ_ _ _ _ _ _ _ hc q=>lshift_int_small hc.1 hc.2.1 hc.2.2 q
theorem aH6:bT X (binaryOp .RShift) (rI (λ_ j=>0<=j) λi j=>.int (i/2^j.toNat)):=qG λi j _ _ _ _ _ hc q=>
 rshift_int hc (by rw[Int.fdiv_eq_ediv_of_nonneg i (aG9 _)];exact q)
theorem aH7:bT X (binaryOp .BitAnd) (iI λi j=>.int (Builtin.bitAnd i j)):=tL λ_ _ _ _ _ _ _ q=>and_int q
theorem aH8:bT X (binaryOp .BitOr) (iI λi j=>.int (Builtin.bitOr i j)):=tL λ_ _ _ _ _ _ _ q=>or_int q
theorem Pw {f:ax->Sem ax}{g:Int->Int}(rule:∀(i:Int) (t:Tok) (s:ay) (Q:ax->ay->Prop) (E:ax->ay->Prop),Q (.int (g i) s.toks) { s with toks:=s.toks+1 }->wpAny (model X.prog X.w) X.A (f (.int i t)) Q E s) :
  xG X f (rU λi=>.int (g i)):=by
 intro ai s σ H x v Q I rx h
 obtain⟨i,rfl,q⟩:=h
 obtain⟨t,rfl⟩:=rx
 exact rule i t s _ _ ⟨.int (g i),H,I.tok _,⟨_,rfl⟩,q⟩
theorem aH9:xG X (unaryOp .USub) (rU λi=>.int (-i)):=Pw λ_ _ _ _ _ q=>neg_int q
end
def U3:V->V->Bool
 |.cq,.cq=>true|.cq,.int _=>true|.int _,.cq=>true|.cq,.bl _=>true|.bl _,.cq=>true|.cq,.str _=>true|.str _,.cq=>true
 |.int _,.int _=>true|.bl _,.bl _=>true|.str _,.str _=>true|.xb _,.xb _=>true
 |.int _,.str _=>true|.str _,.int _=>true|.bl _,.str _=>true|.str _,.bl _=>true
 |_,_=>false
def U4:R2:=λx y H Q=>U3 x y=true/\Q (.bl (decide (x=y))) H
def U5:R2:=λx y H Q=>U3 x y=true/\Q (.bl (!decide (x=y))) H
theorem U6 {i j:Int}:decide (V.int i=V.int j)=(i==j):=by
 rw[Au];simp
theorem U7 {i j:Bool}:decide (V.bl i=V.bl j)=(i==j):=by
 rw[Au];simp
theorem U8 {i j:Str}:decide (V.str i=V.str j)=(i==j):=by
 rw[Au];simp
theorem U9 {i j:Array UInt8}:decide (V.xb i=V.xb j)=(i.toList==j.toList):=by
 rw[Au];cases i;cases j;simp
section
variable {X:Cx}{a b c:Expr}{ta tb tc:TE}{pos:Pos}
theorem cJ {ai:List (az×Obj)}{σ:St}{H:Hp}{s:ay}{Q:VK}{k k':Bool}(I:a6 X ai σ H s)(q:Q (.bl k) H)(e:k=k'):EP X ai σ Q (.bool k') s:=by
 subst e
 exact⟨.bl k,H,I,rfl,q⟩
theorem V0:bT X (compareOp .Eq) U4:=by
 intro ai s σ H x y v u Q I rx ry h
 obtain⟨hs,q⟩:=h
 cases x with
 |cq=>
  cases rx;cases y with
  |cq=>cases ry;exact PySem.EqNone.eq_none_none (cJ I q (by simp))
  |bl j=>cases ry;exact PySem.EqNone.eq_none_bool (cJ I q (by simp))
  |int j=>obtain⟨t',rfl⟩:=ry;exact PySem.EqNone.eq_none_int (cJ I q (by simp))
  |str j=>obtain⟨t',rfl⟩:=ry;exact PySem.EqNone.eq_none_str (cJ I q (by simp))
  |_=>exact absurd (show false=true from hs) gu
 |bl i=>
  cases rx;cases y with
  |cq=>cases ry;exact PySem.EqNone.eq_bool_none (cJ I q (by simp))
  |bl j=>cases ry;exact eq_bool (cJ I q U7)
  |str j=>obtain⟨t',rfl⟩:=ry;exact PySem.EqMixed.eq_bool_str (cJ I q (by simp))
  |_=>exact absurd (show false=true from hs) gu
 |int i=>
  obtain⟨t,rfl⟩:=rx
  cases y with
  |cq=>cases ry;exact PySem.EqNone.eq_int_none (cJ I q (by simp))
  |int j=>obtain⟨t',rfl⟩:=ry;exact eq_int (cJ I q U6)
  |str j=>obtain⟨t',rfl⟩:=ry;exact PySem.EqMixed.eq_int_str (cJ I q (by simp))
  |_=>exact absurd (show false=true from hs) gu
 |str i=>
  obtain⟨t,rfl⟩:=rx
  cases y with
  |cq=>cases ry;exact PySem.EqNone.eq_str_none (cJ I q (by simp))
  |bl j=>cases ry;exact PySem.EqMixed.eq_str_bool (cJ I q (by simp))
  |int j=>obtain⟨t',rfl⟩:=ry;exact PySem.EqMixed.eq_str_int (cJ I q (by simp))
  |str j=>obtain⟨t',rfl⟩:=ry;exact eq_str (cJ I q U8)
  |_=>exact absurd (show false=true from hs) gu
 |xb i=>
  obtain⟨t,rfl⟩:=rx
  cases y with
  |xb j=>obtain⟨t',rfl⟩:=ry;exact PySem.W.eq_bytes (cJ I q U9)
  |_=>exact absurd (show false=true from hs) gu
 |_=>cases y<;>exact absurd (show false=true from hs) gu
theorem aI0:bT X (compareOp .NotEq) U5:=by
 intro ai s σ H x y v u Q I rx ry h
 obtain⟨hs,q⟩:=h
 cases x with
 |cq=>
  cases rx;cases y with
  |cq=>cases ry;exact PySem.EqNone.ne_none_none (cJ I q (by simp))
  |bl j=>cases ry;exact PySem.EqNone.ne_none_bool (cJ I q (by simp))
  |int j=>obtain⟨t',rfl⟩:=ry;exact PySem.EqNone.ne_none_int (cJ I q (by simp))
  |str j=>obtain⟨t',rfl⟩:=ry;exact PySem.EqNone.ne_none_str (cJ I q (by simp))
  |_=>exact absurd (show false=true from hs) gu
 |bl i=>
  cases rx;cases y with
  |cq=>cases ry;exact PySem.EqNone.ne_bool_none (cJ I q (by simp))
  |bl j=>cases ry;exact ne_bool (cJ I q (congrArg not U7))
  |str j=>obtain⟨t',rfl⟩:=ry;exact PySem.EqMixed.ne_bool_str (cJ I q (by simp))
  |_=>exact absurd (show false=true from hs) gu
 |int i=>
  obtain⟨t,rfl⟩:=rx
  cases y with
  |cq=>cases ry;exact PySem.EqNone.ne_int_none (cJ I q (by simp))
  |int j=>obtain⟨t',rfl⟩:=ry;exact ne_int (cJ I q (congrArg not U6))
  |str j=>obtain⟨t',rfl⟩:=ry;exact PySem.EqMixed.ne_int_str (cJ I q (by simp))
  |_=>exact absurd (show false=true from hs) gu
 |str i=>
  obtain⟨t,rfl⟩:=rx
  cases y with
  |cq=>cases ry;exact PySem.EqNone.ne_str_none (cJ I q (by simp))
  |bl j=>cases ry;exact PySem.EqMixed.ne_str_bool (cJ I q (by simp))
  |int j=>obtain⟨t',rfl⟩:=ry;exact PySem.EqMixed.ne_str_int (cJ I q (by simp))
  |str j=>obtain⟨t',rfl⟩:=ry;exact ne_str (cJ I q (congrArg not U8))
  |_=>exact absurd (show false=true from hs) gu
 |xb i=>
  obtain⟨t,rfl⟩:=rx
  cases y with
  |xb j=>obtain⟨t',rfl⟩:=ry;exact PySem.W.ne_bytes (cJ I q (congrArg not U9))
  |_=>exact absurd (show false=true from hs) gu
 |_=>cases y<;>exact absurd (show false=true from hs) gu
theorem aI1:bT X (compareOp .Lt) (iI λi j=>.bl (decide (i<j))):=tM λ_ _ _ _ _ _ _ q=>lt_int q
theorem aI2:bT X (compareOp .LtE) (iI λi j=>.bl (decide (i<=j))):=tM λ_ _ _ _ _ _ _ q=>le_int q
theorem aI3:bT X (compareOp .Gt) (iI λi j=>.bl (decide (j<i))):=tM λ_ _ _ _ _ _ _ q=>gt_int q
theorem aI4:bT X (compareOp .GtE) (iI λi j=>.bl (decide (j<=i))):=tM λ_ _ _ _ _ _ _ q=>ge_int q
theorem kC (b:Expr){op:CmpOp}(h:op≠.In:=by decide)(h2:op≠.NotIn:=by decide):behindInMarks op b=false:=by
 have e1:(op==CmpOp.In)=false:=by cases op<;>first|rfl|exact absurd rfl h
 have e2:(op==CmpOp.NotIn)=false:=by cases op<;>first|rfl|exact absurd rfl h2
 cases b<;>simp[behindInMarks,e1,e2]
theorem aI5 {op:CmpOp}{r:R2}(ho:bT X (compareOp op) r)(ha:PE X a ta)(hb:PE X b tb)(hm:behindInMarks op b=false):PE X (.Compare a [op] [b] pos) (qF r ta tb):=by
 intro ai s σ H Q I h;exact wpAny_Compare1 (xH ha hb I h λv u s2 x y H2 I2 rx ry q=>ho ai s2 σ H2 x y v u Q I2 rx ry q) hm
def aI6 (t:TE):TT:=λσ H Q=>t σ H λx H'=>∃k,x = .bl k/\Q k H'
theorem aI7 {op:CmpOp}{r:R2}(ho:bT X (compareOp op) r)(ha:PE X a ta)(hb:PE X b tb)(hm:behindInMarks op b=false):PT X (.Compare a [op] [b] pos) (aI6 (qF r ta tb)):=by
 intro ai s σ H Q I h
 refine wpAny_isTrue_Compare1 (aL (ha ai s σ H _ I h) λv s1 ⟨x,H1,I1,r1,q1⟩=>aL (hb ai s1 σ H1 _ I1 q1) λu s2 ⟨y,H2,I2,r2,q2⟩=>
  aL (ho ai s2 σ H2 x y v u _ I2 r1 r2 q2) λc s3 ⟨z,H3,I3,r3,k,e,q3⟩=>?_) hm
 subst e;cases r3;exact Aw ⟨H3,I3,q3⟩
def xK (K:ad)(x:V)(H:Hp)(k:Bool):Prop:=
 match x with
 |.cq=>k=false
 |.bl b=>k=b
 |.int i=>k=(i != 0)
 |.str y=>y.length<=sizeLine/\k=((y.length:Int) != 0)
 |.xb y=>y.size<=sizeLine/\k=((y.size:Int) != 0)
 |.ref p=>(∃xs,aN K H p xs/\k = !xs.isEmpty)∨(∃xs,aM K H p xs/\k = !xs.isEmpty)∨∃bq,H p=some (.dK bq)/\k = !bq.isEmpty
 |_=>False
theorem aI8 {κ:Type}{bq:List (κ×V)}{vs:List (κ×ax)}(r:KV bq vs):(!vs.isEmpty) = !bq.isEmpty:=by
 cases r<;>rfl
theorem V1 {xs:List V}{bo:List ax}(r:aI xs bo):(!bo.toArray.isEmpty) = !xs.isEmpty:=by
 cases r<;>simp
theorem o0:(sizeLine:Nat)<2^63:=by rw[sizeLine_eq];decide
theorem aI9:aG6 X (λx H Q=>∃k,xK X.K x H k/\Q k H):=by
 intro ai s σ H x v Q I rx h
 obtain⟨k,e,q⟩:=h
 have hl:=o0;have hs:sizeLine=16777216:=sizeLine_eq;cases x with
 |cq=>
  cases rx;have e':k=false:=e;subst e';exact truthy_none ⟨H,I,q⟩
 |bl b=>
  cases rx;have e':k=b:=e;subst e';exact Aw ⟨H,I,q⟩
 |int i=>
  obtain⟨t,rfl⟩:=rx
  have e':k=(i != 0):=e;subst e';exact PySem.P.truthy_int ⟨H,I,q⟩
 |str y=>
  obtain⟨t,rfl⟩:=rx
  obtain⟨hy,e'⟩:y.length<=sizeLine/\k=((y.length:Int) != 0):=e
  subst e';exact PySem.P.truthy_str (by lia) ⟨H,I.tok _,q⟩
 |xb y=>
  obtain⟨t,rfl⟩:=rx
  obtain⟨hy,e'⟩:y.size<=sizeLine/\k=((y.size:Int) != 0):=e
  subst e';exact PySem.W.truthy_bytes (by lia) ⟨H,I.tok _,q⟩
 |ref p=>
  cases rx;have e':(∃xs,aN X.K H p xs/\k = !xs.isEmpty)∨(∃xs,aM X.K H p xs/\k = !xs.isEmpty)∨∃bq,H p=some (.dK bq)/\k = !bq.isEmpty:=e
  rcases e' with⟨xs,hx,e'⟩|⟨xs,hx,e'⟩|⟨bq,hx,e'⟩
  ·subst e'
   obtain⟨bo,r,pl,hz⟩:=I.list hx
   have ao:=r.length;exact wpAny_truthy_list pl.isList (by simp only[fu];lia) ⟨H,I.tok _,by rw[V1 r];exact q⟩
  ·subst e'
   obtain⟨bo,r,pl,hz⟩:=I.tuple hx
   have ao:=r.length;exact truthy_tuple pl (by simp only[fu];lia) ⟨H,I.tok _,by rw[V1 r];exact q⟩
  ·subst e'
   obtain⟨hz,hS,vs,r,m⟩:bq.length<=sizeLine/\(p==sysModules)=false/\∃vs,KV bq vs/\s.heap.DictOf (t6 X.prog X.w) p vs:=I.cj p _ hx
   have ao:bq.length=vs.length:=Paired.length r;exact wpAny_truthy_dict hS m (by lia) ⟨H,I.tok _,by rw[aI8 r];exact q⟩
 |_=>exact (show False from e).elim
theorem aJ0 (ha:PE X a ta)(he:∀whole,isTrue a X.env whole=(do let v <- whole;standAt a.pos;holding [v] (truthy v))) :
  PT X a (λσ H Q=>ta σ H λx H'=>∃k,xK X.K x H' k/\Q k H'):=by
 intro ai s σ H Q I h;exact isTrue_plain (aL (ha ai s σ H _ I h) λv s1 ⟨x,H1,I1,r1,q1⟩=>aI9 ai s1 σ H1 x v Q I1 r1 q1) (he _)
theorem jM {x:V}{us:List ax}(r:aI [x] us):∃u,us = [u]/\aO x u:=by
 cases r with
 |cons r1 r2=>cases r2;exact⟨_,rfl,r1⟩
theorem xL {x y:V}{us:List ax}(r:aI [x,y] us):∃u w',us = [u,w']/\aO x u/\aO y w':=by
 cases r with
 |cons r1 r2=>
  cases r2 with
  |cons r3 r4=>cases r4;exact⟨_,_,rfl,r1,r3⟩
end
structure xM (h:Heap)(x dx C:az)(mA:Str->Option ax):Prop where
 obj:h.get? x=some (PySem.W.instObj C dx)
 ns:h.Ns1 dx mA
 ne:dx≠x
theorem aJ1 {h:Heap}{dx:az}{mA:Str->Option ax}(n:h.Ns1 dx mA):∃od,h.get? dx=some od/\∀name,PySem.W.lookIn name od=some (mA name):=by
 obtain⟨o,es,ep,ho,hd,hk,_,hm⟩:=n
 refine⟨o,ho,λname=>?_⟩;have e:=hm name;unfold nsFind findBy at e;rw[<- Array.find?_toList]at e;unfold PySem.W.lookIn;rw[hd];dsimp only;split
 ·rename_i y q
  rw[q]at e;exact congrArg some e
 ·rename_i q
  rw[q]at e;have a:es.toList.any (·.refKey)=false:=by
   rw[List.any_eq_false];intro y hy
   obtain⟨z,t,uo⟩:=hk y (Array.mem_toList_iff.mp hy)
   simp[DictEntry.refKey,uo]
  have a':¬es.toList.any (·.refKey)=true:=by rw[a];exact gu
  rw[if_neg a'];exact congrArg some e
theorem xM.look {h:Heap}{x dx C:az}{mA:Str->Option ax}(I:xM h x dx C mA):∃od,PySem.W.InstAt h x (PySem.W.instObj C dx) C (some od)/\∀name,PySem.W.lookIn name od=some (mA name):=
 let ⟨od,ho,hl⟩:=aJ1 I.ns
 ⟨od,⟨I.obj,rfl,rfl,ho⟩,hl⟩
theorem iX.some_of {v:V}{o:Option ax}(r:iX (some v) o):∃u,o=some u/\aO v u:=by
 cases o with
 |none=>exact (show False from r).elim
 |some u=>exact⟨u,rfl,r⟩
section
variable {P:ba}{w:bd}{H H':Hp}{h h':Heap}{a C dx:az}{fs RZ:List (Str×V)}
theorem aJ2 (cj:bS P w H h)(e:H a=some (.ins C dx fs)):∃mA,xM h a dx C mA/\(∀f,iX (fs.lookup f) (mA f))/\PySem.Within mA (fs.map (·.1))/\fs.length<=1000/\H dx=some (.own a):=by
 obtain⟨d,z,ne,ob,mA,n,r,q⟩:=(show bK P w H h a (.ins C dx fs) from cj a _ e)
 exact⟨mA,⟨ob,n,ne⟩,r,q,z,d⟩
end
structure xN (K:ad)(C:az):Prop where
 pg:PySem.W.plainGet K C Str.empty=true
 hd:PySem.W.hasDictIn K C=true
 po:PySem.W.plainOver K C=true
 sa:PySem.W.findIn K (.ref C) "__setattr__" = some (some (.builtin "object.__setattr__"))
theorem xN.get {K:ad}{C:az}(c:xN K C)(f:Str):PySem.W.plainGet K C f=true:=c.pg
section
variable {X:Cx}{ai:List (az×Obj)}{σ:St}{H:Hp}{s:ay}{A:bc}{E:ax→ay→Prop}{Q:ax→ay→Prop}{c:ax}{b:Bool}
inductive gY (K:ad)(H:Hp):V->ax->Prop where
 |cq:gY K H .cq (.type "NoneType")
 |bl (x:Bool):gY K H (.bl x) (.type "bool")
 |int (i:Int):gY K H (.int i) (.type "int")
 |str (x:Str):gY K H (.str x) (.type "str")
 |CG (x:UInt64):gY K H (.CG x) (.type "float")
 |lst {a:az}{xs:List V} (e:H a=some (.lst xs)):gY K H (.ref a) (.type "list")
 |dq {a:az}{o:Obj}{xs:List V} (e:H a=some (.dq o (.lst xs))):gY K H (.ref a) (.type "list")
 |tup {a:az}{xs:List V} (e:H a=some (.tup xs)):gY K H (.ref a) (.type "tuple")
 |dK {a:az}{bq:List (bZ×V)} (e:H a=some (.dK bq)):gY K H (.ref a) (.type "dict")
 |dT {a:az}{bq:List (List bZ×V)} (e:H a=some (.dT bq)):gY K H (.ref a) (.type "dict")
 |ins {a C dx:az}{fs:List (Str×V)} (e:H a=some (.ins C dx fs)) (cl:xN K C) (ha:PySem.W.findIn K (.ref C) "__class__" = some (some (.builtin "object.__class__")))
   (hn:PySem.W.specialIn K (.builtin "object.__class__") "__get__" = some (some (.builtin "getset_descriptor.__get__"))) (Ij:PySem.W.takesIn K (.builtin "object.__class__")=some true)
   (hm:PySem.W.mroIn K C (.type "object")=some true):gY K H (.ref a) (.ref C)
theorem aJ3 {x:V}{u t:ax}(I:a6 X ai σ H s)(rx:aO x u)(ty:gY X.K H x t)(e:PySem.W.kitOne X.K t c=some b)(h:∀tk,Q (.bool b) { s with toks:=tk }) :
  wpAny (model X.prog X.w) A (call (.builtin "isinstance") [u,c]) Q E s:=by
 cases ty with
 |cq=>cases (show u=Value.none from rx);exact xy PySem.W.kitx_none I.nj zw e (λz=>nomatch z) h
 |bl y=>cases (show u=Value.bool y from rx);exact xy PySem.W.kitx_bool I.nj zw e (λz=>nomatch z) h
 |int i=>obtain⟨t,q⟩:=(show ∃t,u=Value.int i t from rx);cases q;exact xy PySem.W.kitx_int I.nj zw e (λz=>nomatch z) h
 |str y=>obtain⟨t,q⟩:=(show ∃t,u=Value.str y t from rx);cases q;exact xy PySem.W.kitx_str I.nj zw e (λz=>nomatch z) h
 |CG y=>obtain⟨t,q⟩:=(show ∃t,u=Value.float y t from rx);cases q;exact xy PySem.W.kitx_float I.nj zw e (λz=>nomatch z) h
 |@lst a xs ea=>
  cases (show u=Value.ref a from rx)
  obtain⟨_,_,n,_,h1⟩:=(show bK X.prog X.w H s.heap a (.lst xs) from I.cj a _ ea)
  exact xy PySem.W.kitx_list I.nj ⟨_,h1,rfl⟩ e (λz=>nomatch z) h
 |@dq a ob xs ea=>
  cases (show u=Value.ref a from rx)
  obtain⟨_,_,_,n,_,h1⟩:=(show bK X.prog X.w H s.heap a (.dq ob (.lst xs)) from I.cj a _ ea)
  exact xy PySem.W.kitx_list I.nj ⟨_,h1,rfl⟩ e (λz=>nomatch z) h
 |@tup a xs ea=>
  cases (show u=Value.ref a from rx)
  obtain⟨_,_,_,p,_⟩:=(show bK X.prog X.w H s.heap a (.tup xs) from I.cj a _ ea)
  obtain⟨o,h1,h2,_⟩:=p
  exact xy PySem.W.kitx_tuple I.nj ⟨o,h1,h2⟩ e (λz=>nomatch z) h
 |@dK a bq ea=>
  cases (show u=Value.ref a from rx)
  obtain⟨_,_,vs,_,p⟩:=(show bK X.prog X.w H s.heap a (.dK bq) from I.cj a _ ea)
  obtain⟨o,es,ep,h1,h2,_⟩:=p
  exact xy PySem.W.kitx_dict I.nj ⟨o,h1,h2.1⟩ e (λz=>nomatch z) h
 |@dT a bq ea=>
  cases (show u=Value.ref a from rx)
  obtain⟨_,_,xs,_,o,es,ep,h1,h2,_⟩:=(show bK X.prog X.w H s.heap a (.dT bq) from I.cj a _ ea)
  exact xy PySem.W.kitx_dict I.nj ⟨o,h1,h2.1⟩ e (λz=>nomatch z) h
 |@ins a C dx fs ea cl ha hn Ij hm=>
  cases (show u=Value.ref a from rx)
  obtain⟨mA,O,_⟩:=aJ2 I.cj ea
  obtain⟨od,J,_⟩:=O.look
  exact xy (PySem.W.kitx_own (cl.get _) cl.hd ha hn Ij hm) I.nj J e (λz=>nomatch z) h
end
structure bL (k:Nat)(A:bc):Prop where
 hd:A.handled=none
 dp:A.depth+3*k+5<recursionLimit
 un:A.units+16*k+200<cLine
theorem bL.mono {j k:Nat}{A:bc}(r:bL k A)(h:j<=k):bL j A:=⟨r.hd,by have:=r.dp;lia,by have:=r.un;lia⟩
theorem bL.deeper {k:Nat}{A:bc}(r:bL (k+1) A)(env:Env):bL k (A.deeper env):=
 ⟨r.hd,by have:=r.dp;show A.depth+1+3*k+5<_;lia,by have:=r.un;show A.units+3+16*k+200<_;lia⟩
theorem bL.depth {k:Nat}{A:bc}(r:bL k A):A.depth<recursionLimit:=by have:=r.dp;lia
theorem bL.units {k:Nat}{A:bc}(r:bL k A):A.units+64<cLine:=by have:=r.un;lia
def kD:TA:=λ_ H Q=>Q [] H
def g9 (ta:TE)(tr:TA):TA:=λσ H Q=>ta σ H λx H1=>tr σ H1 λxs H2=>Q (x::xs) H2
section
variable {X:Cx}{e:Expr}{es:List Expr}{te:TE}{t:TA}{pos:Pos}
theorem iJ:PA X [] kD:=λ_ _ _ _ H Q I h=>Calls.spliced_nil ⟨[],H,I,.nil,h⟩
theorem eO (ha:PE X e te)(hr:PA X es t)(hs:starEach (e::es) X.env=(false,eval e X.env)::starEach es X.env:=by rfl):PA X (e::es) (g9 te t):=by
 intro pos ai s σ H Q I h;rw[hs];show wpAny _ _ (spliced ((false,eval e X.env)::backTo pos (starEach es X.env))) _ _ s;refine Calls.spliced_cons (aL (ha ai s σ H _ I h) λu s1 ⟨x,H1,I1,r1,q1⟩=>?_);exact aL (hr pos ai s1 σ H1 _ I1 q1) λus s2 ⟨xs,H2,I2,r2,q2⟩=>⟨x::xs,H2,I2,.cons r1 r2,q2⟩
def V2 (t:TA):TE:=λσ H Q=>t σ H λxs H1=>xs.length<=sizeLine/\∀p,H1 p=none->Q (.ref p) (upd H1 p (.tup xs))
def V3 (t:TA):TE:=λσ H Q=>t σ H λxs H1=>xs.length<=sizeLine/\∀p,H1 p=none->Q (.ref p) (upd H1 p (.lst xs))
theorem aJ4 {x1}(h:PA X es t):PE X (.Tuple es x1 pos) (V2 t):=by
 intro ai s σ H Q I hq;refine wpAny_Tuple_spliced (aL (h pos ai s σ H _ I hq) λus s1 ⟨xs,H1,I1,r,z,q⟩=>⟨by rw[<- r.length];exact z,?_⟩);have hf:H1 s1.heap.objs.size=none:=I1.cj.fresh (da _);refine⟨.ref s1.heap.objs.size,upd H1 s1.heap.objs.size (.tup xs),I1.laid (t':=s1.toks) (λb u e=>ez _ e) (da _) ?_,rfl,q _ hf⟩
 exact⟨z,us,r,⟨_,jw _ rfl,rfl,_,rfl⟩,iY.new _ _ rfl⟩
theorem V4 (h:PA X es t):PE X (.List es pos) (V3 t):=by
 intro ai s σ H Q I hq;refine wpAny_List_spliced (aL (h pos ai s σ H _ I hq) λus s1 ⟨xs,H1,I1,r,z,q⟩=>⟨by rw[<- r.length];exact z,?_⟩);have hf:H1 s1.heap.objs.size=none:=I1.cj.fresh (da _);refine⟨.ref s1.heap.objs.size,upd H1 s1.heap.objs.size (.lst xs),I1.laid (t':=s1.toks) (λb u e=>ez _ e) (da _) ?_,rfl,q _ hf⟩
 exact⟨z,us,0,r,jw _ rfl⟩
end
abbrev Sp:=List V->Hp->VK->XK->Prop
abbrev fB:=List Env->Hp->ay->XK->ax->ay->Prop
structure l7 (P:ba)(w:bd)(K:ad)(mg:Str->Option ax)(base:Heap)(A:bc)(outer:List Env)(s:ay)(H:Hp):Prop where
 frames:A.frames=some outer
 mod:Mod K mg base
 bs:∀b o,base.get? b=some o->s.heap.get? b=some o/\H b=none
 xt:base.objs.size<=s.heap.objs.size
 kj:s.heap.FunFrames base outer
 AJ:∀b∈gW outer,H b=none
 cj:bS P w H s.heap
 bare:AllBare s.gens
def CE (outer:List Env)(P:ba)(w:bd)(H:Hp)(s:ay)(Q:VK)(u:ax)(s':ay):Prop:=
 ∃v H',s'.os=s.os/\AllBare s'.gens/\Un (gW outer) [] H H' s.heap s'.heap/\bS P w H' s'.heap/\aO v u/\Q v H'
def CR (CX:fB)(outer:List Env)(P:ba)(w:bd)(H:Hp)(s:ay)(Q:VK)(E:XK)(r:Result)(s':ay):Prop:=
 match r with
 |.ok (.ret u)=>CE outer P w H s Q u s'
 |.ok _=>False
 |.error e=>CX outer H s E e s'
structure d7 (P:ba)(w:bd)(K:ad)(mg:Str->Option ax)(base:Heap)(CX:fB)(k:Nat)(f:az)(fd:FuncData)(ps:List Str)(sp:Sp):Prop where
 len:∀vs H Q E,sp vs H Q E->vs.length=ps.length
 run:∀(A:bc) (outer:List Env) (s:ay) (H:Hp) (args:Args) (us:List ax) (vs:List V) (Q:VK) (E:XK),bL k A->l7 P w K mg base A outer s H->BindsTo s fd args (ps.zip us)->aI vs us->sp vs H Q E->
  codeAny (model P w) A (.call (.ref f) args) (CR CX outer P w H s Q E) s
theorem d7.imp {P:ba}{w:bd}{K:ad}{mg:Str->Option ax}{base:Heap}{CX:fB}{k:Nat}{f:az}{fd:FuncData}{ps:List Str}{sp Hu:Sp}(F:d7 P w K mg base CX k f fd ps sp)(h:∀vs H Q E,Hu vs H Q E->sp vs H Q E):d7 P w K mg base CX k f fd ps Hu:=
 ⟨λvs H Q E q=>F.len vs H Q E (h _ _ _ _ q),λA outer s H args us vs Q E hr he hb hv hs=>F.run A outer s H args us vs Q E hr he hb hv (h _ _ _ _ hs)⟩
section
variable {X:Cx}{ai:List (az×Obj)}{σ:St}{H:Hp}{s s':ay}
theorem a6.DV (I:a6 X ai σ H s):l7 X.prog X.w X.K X.mg X.base X.A X.stack s H:=
 ⟨I.ok.frames,I.ok.mod,I.bs,iw I.ok.xt I.sz,I.stack,I.qg,I.cj,I.bare⟩
theorem a6.after {Q:VK}{u:ax}(I:a6 X ai σ H s)(h:CE X.stack X.prog X.w H s Q u s'):EP X ai σ Q u s':=by
 obtain⟨v,H',os,bare,un,cj,r,q⟩:=h
 obtain⟨hh,g,d,t,QC⟩:=s'
 obtain rfl:QC=s.os:=os
 exact⟨v,H',I.call (h':=hh) (g':=g) (d':=d) (t':=t) (ch:=[]) un cj bare (λb z=>absurd z (by simp)),r,q⟩
end
def qI (sp:Sp)(AK:List V)(E:XK)(t:TA):TE:=λσ H Q=>t σ H λvs H1=>sp (vs++AK) H1 Q E
def iK (K:ad)(fd:FuncData)(ps:List Str)(ds:List ax):Prop:=
 ∀(s:ay) (us:List ax),K.In s.heap->(us++ds).length=ps.length->BindsTo s fd ⟨us,[]⟩ (ps.zip (us++ds))
theorem iK.all {K:ad}{fd:FuncData}{ps:List Str}(h:∀us:List ax,us.length=ps.length->bindArgs fd ⟨us,[]⟩=pure (ps.zip us)):iK K fd ps []:=λs us _ hl=>by
 rw[nv]at hl ⊢;exact .of_eq (h us hl)
def o3 (CX:fB)(X:Cx)(E:XK):Prop:=∀(ai:List (az×Obj)) (σ:St) (H:Hp) (s:ay) (e:ax) (s':ay),a6 X ai σ H s->CX X.stack H s E e s'->X.xe e s'
section
variable {X:Cx}{CX:fB}{k:Nat}{f C:az}{fd:FuncData}{ps:List Str}{sp:Sp}{AK:List V}{ds:List ax}{E:XK}{x m:Str}{p pos aj:Pos}{e o:Expr}{es:List Expr}{ta:TE}{t:TA}
theorem V5 {ai:List (az×Obj)}{σ:St}{H:Hp}{s:ay}{Q:VK}{us:List ax}{vs:List V}(F:d7 X.prog X.w X.K X.mg X.base CX k f fd ps sp)(hr:bL k X.A)(hb:iK X.K fd ps ds)(hd:aI AK ds)(hx:o3 CX X E)(I:a6 X ai σ H s)(r:aI vs us)(h:sp (vs++AK) H Q E):wpAny (model X.prog X.w) X.A (call (.ref f) us) (EP X ai σ Q) X.xe s:=by
 have r2:aI (vs++AK) (us++ds):=r.append hd;have hl:(us++ds).length=ps.length:=by rw[<- r2.length];exact F.len _ _ _ _ h
 refine wpAny_call (codeAny_mono (F.run X.A X.stack s H ⟨us,[]⟩ (us++ds) (vs++AK) Q E hr I.DV (hb s us I.nj hl) r2 h) λr s' hq=>?_);cases r with
 |error e=>exact hx ai σ H s e s' I hq
 |ok fl=>
  cases fl with
  |ret u=>exact I.after hq
  |next=>exact False.elim hq
  |brk=>exact False.elim hq
  |cont=>exact False.elim hq
theorem tN (F:d7 X.prog X.w X.K X.mg X.base CX k f fd ps sp)(hr:bL k X.A)(hg:Gl X x)(hm:X.mg x=some (.ref f))(hk:PySem.W.keepIn X.K (.ref f)=true)(hb:iK X.K fd ps ds)(hd:aI AK ds)(hx:o3 CX X E)(ha:PA X (e::es) t)(jy:(x==("__debug__":Str))=false:=by decide)(he:starEach (e::es) X.env=(false,eval e X.env)::starEach es X.env:=by rfl)(hpl:(backTo pos (starEach es X.env)).any (·.1)=false:=by rfl) :
  PE X (.Call (.Name x p) (e::es) [] pos) (qI sp AK E t):=by
 intro ai s σ H Q I h;refine CL (t8 I hg hm ?_ jy);refine PySem.W.callWith_K (h₀:=X.base) I.ok.mod.mq hk (aL (ha pos ai s σ H _ I h) λus s1 ⟨vs,H1,I1,r,q⟩=>⟨I1.nj,?_⟩) he hpl;exact V5 F hr hb hd hx I1 r q
end
structure bx (N P:List Str)(sc:Scope):Prop where
 kind:sc.kind = .function
 co:sc.isCoroutine=false
 gen:sc.isGenerator=false
 nd:N.Nodup
 pre:N.take P.length=P
 par:∀x∈P,sc.names.lookup x=some .local∨sc.names.lookup x=some .cell
 Bn:∀y∈sc.names,y.2≠.free
theorem V6 {kindOf:Str->Option NameKind}{x:Str}:∀{binds:List (Str×ax)}{m:Str->Option ax},(∀v,(x,v)∉binds)->bindL kindOf binds m x=m x
 |[],_,_=>rfl
 |(n,v)::r,m,h=>by
  unfold bindL;rw[V6 λw hw=>h w (gc _ hw)];split
  ·have:x≠n:=by rintro rfl;exact h v dv
   simp[this]
  ·rfl
theorem V7 {kindOf:Str->Option NameKind}{x:Str}:∀{binds:List (Str×ax)}{m:Str->Option ax},(∀v,(x,v)∉binds)->bindC kindOf binds m x=m x
 |[],_,_=>rfl
 |(n,v)::r,m,h=>by
  unfold bindC;rw[V7 λw hw=>h w (gc _ hw)];split
  ·rfl
  ·have:x≠n:=by rintro rfl;exact h v dv
   simp[this]
theorem V8 {kindOf:Str->Option NameKind}{x:Str}{v:ax}:∀{P:List Str}{vs:List ax}{i:Nat}{m:Str->Option ax},P.Nodup->P[i]? = some x->vs[i]? = some v->kindOf x=some .local->
  bindL kindOf (P.zip vs) m x=some v
 |[],_,_,_,_,h,_,_=>by simp at h
 |_::_,[],_,_,_,_,h,_=>by simp at h
 |p::P,w::vs,0,m,nd,h1,h2,hk=>by
  simp at h1 h2;subst h1;subst h2;show bindL kindOf ((p,w)::P.zip vs) m p=_;unfold bindL;rw[V6 λv hv=>(qu.mp nd).1 (List.of_mem_zip hv).1,if_pos hk];simp
 |p::P,w::vs,i+1,m,nd,h1,h2,hk=>by
  show bindL kindOf ((p,w)::P.zip vs) m x=_;unfold bindL;exact V8 (i:=i) (qu.mp nd).2 (by simpa using h1) (by simpa using h2) hk
theorem V9 {kindOf:Str->Option NameKind}{x:Str}{v:ax}:∀{P:List Str}{vs:List ax}{i:Nat}{m:Str->Option ax},P.Nodup->P[i]? = some x->vs[i]? = some v->kindOf x≠some .local->
  bindC kindOf (P.zip vs) m x=some v
 |[],_,_,_,_,h,_,_=>by simp at h
 |_::_,[],_,_,_,_,h,_=>by simp at h
 |p::P,w::vs,0,m,nd,h1,h2,hk=>by
  simp at h1 h2;subst h1;subst h2;show bindC kindOf ((p,w)::P.zip vs) m p=_;unfold bindC;rw[V7 λv hv=>(qu.mp nd).1 (List.of_mem_zip hv).1,if_neg hk];simp
 |p::P,w::vs,i+1,m,nd,h1,h2,hk=>by
  show bindC kindOf ((p,w)::P.zip vs) m x=_;unfold bindC;exact V9 (i:=i) (qu.mp nd).2 (by simpa using h1) (by simpa using h2) hk
def gA (N:List Str)(vs:List V):St:=vs.map some++List.replicate (N.length-vs.length) none
def eF (CX:fB)(P:ba)(w:bd)(K:ad)(mg:Str->Option ax)(base:Heap)(N:List Str)(qual:Str)(scope:Scope)(f:az)(cd:ax)(A:bc)(outer:List Env)(s:ay)(H:Hp)(E:XK):Cx where
 prog:=P
 w:=w
 K:=K
 mg:=mg
 base:=base
 A:=A.deeper (envOfC qual scope s.heap.objs.size f cd)
 N:=N
 fh:=s
 cz:=H
 env:=envOfC qual scope s.heap.objs.size f cd
 outer:=outer
 stack:=envOfC qual scope s.heap.objs.size f cd::outer
 ex:=[]
 calm:=true
 fn:=λ_=>true
 pn:=[]
 xe:=λe s'=>wpAny (model P w) (A.deeper (envOfC qual scope s.heap.objs.size f cd)) (leaving (envOfC qual scope s.heap.objs.size f cd) e) (λ_ Ae=>CX outer H s E e Ae) (λe' Ae=>CX outer H s E e' Ae) s'
theorem W0 {sc:Scope}{n:Nat}{x:Str}(h:sc.names.lookup x=some .cell):∃c,(cellsFrom n sc.names []).lookup x=some c:=by
 have q:=PySem.W.cellsFrom_some sc.names n [] (.inl h);exact Option.isSome_iff_exists.mp q
theorem W5 {CX:fB}{P:ba}{w:bd}{K:ad}{mg:Str->Option ax}{base:Heap}{N ps:List Str}{qual:Str}{scope:Scope}{f:az}{cd:ax}{A:bc}{outer:List Env}{s s1:ay}{H:Hp}{E:XK}{us:List ax}{vs:List V}(S:bx N ps scope)(hd:A.handled=none)(e0:l7 P w K mg base A outer s H)(hl:vs.length=ps.length)(r:aI vs us)(x:InCallC s s.heap.objs.size (bindL (envOfC qual scope s.heap.objs.size f cd).kindOf (ps.zip us) λ_=>none) (cellsFrom (s.heap.objs.size+1) scope.names []) (bindC (envOfC qual scope s.heap.objs.size f cd).kindOf (ps.zip us) λ_=>none) s1) :
  a6 (eF CX P w K mg base N qual scope f cd A outer s H E) [] (gA N vs) H s1:=by
 have hpl:ps.length<=N.length:=by have:=congrArg List.length S.pre;rw[List.length_take]at this;lia
 obtain⟨h1,tk,rfl,hk⟩:=x.done
 have Ai:∀b:az,b∉(eF CX P w K mg base N qual scope f cd A outer s H E).ex:=λb z=>absurd (show b∈([]:List az) from z) (by simp)
 refine⟨⟨e0.mod,S.kind,rfl,rfl,da _,λy z c h1 h2=>?_,λy hy=>?_,λy c _ h=>?_,λ_=>hd,Around.frames_deeper e0.frames,.inr ⟨rfl,rfl⟩,λb z=>absurd z (Ai b),e0.bs,e0.xt,λb _ _=>Ai b,λb z=>absurd z (Ai b),e0.kj,e0.AJ⟩,
  rfl,e0.bare,Un.kept hk,⟨_,x.toInCall.ns,λi y v h1 h2 h3=>?_⟩,λy c h=>⟨_,x.cell y c h⟩,e0.cj.fresh (da _),λy c h=>?_,λp hp=>absurd (show p∈([]:List (az×Obj)) from hp) (by simp),e0.cj.kept hk,?_⟩
 ·exact name_of_addr x.apart (vt h1) (vt h2)
 ·have hy:scope.names.lookup y=some .cell∨scope.names.lookup y=some .free:=hy
  rcases hy with hy|hy
  ·exact W0 hy
  ·exact absurd rfl (S.Bn _ (vt hy))
 ·exact uw (x.above y c (vt h))
 ·have hi:i<vs.length:=by
   unfold gA at h2;by_cases hi:i<vs.length
   ·exact hi
   ·rw[CZ (by simpa using hi)]at h2
    rw[List.getElem?_replicate]at h2;split at h2<;>cases h2
  have ha:vs[i]? = some v:=by
   unfold gA at h2;rw[Az (by simpa using hi),ij]at h2;cases e:vs[i]? with
   |none=>rw[e]at h2;cases h2
   |some a=>rw[e]at h2;cases h2;rfl
  obtain⟨u,hu,rv⟩:=r.get ha
  have hp:ps[i]? = some y:=by
   rw[<- S.pre,List.getElem?_take_of_lt (by lia)];exact h1
  have Ez:ps.Nodup:=by rw[<- S.pre];exact S.nd.sublist (List.take_sublist _ _)
  refine⟨u,rv,?_⟩;rcases S.par y (sr hp) with k|k
  ·exact .inl ⟨k,V8 Ez hp hu k⟩
  ·obtain⟨c,e⟩:=W0 (n:=s.heap.objs.size+1) k
   refine .inr ⟨.inl k,c,e,?_⟩;have q:=x.cell y c e;rw[V9 Ez hp hu (by show scope.names.lookup y≠_;rw[k];decide)]at q;exact q
 ·exact e0.cj.fresh (uw (x.above y c (vt h)))
 ·unfold gA
  show _=N.length;rw[gq,dt,zj];lia
theorem W6 {CX:fB}{P:ba}{w:bd}{K:ad}{mg:Str->Option ax}{base:Heap}{k:Nat}{f:az}{name qual:Str}{params:Arguments}{body:List Stmt}{scope:Scope}{dV kV doc pm cm ct oc:ax}{an od:Option az}{qd:Array (Option ax)}{N ps:List Str}{sp:Sp}(lk:K.lookup f=some ⟨oc,od,.func (PySem.W.fnOf name qual params body scope dV kV doc pm an cm ct),qd⟩)(gf:PySem.W.codeIn K cm qual=true)(S:bx N ps scope)(len:∀vs H Q E,sp vs H Q E->vs.length=ps.length)(nq:∀(A:bc) (outer:List Env) (s:ay) (H:Hp) (vs:List V) (Q:VK) (E:XK),bL k (A.deeper (envOfC qual scope s.heap.objs.size f cm))->sp vs H Q E->
   ∃t,eN (eF CX P w K mg base N qual scope f cm A outer s H E) body t/\t { nx:=λ_ H'=>Q .cq H',rt:=Q } (gA N vs) H) :
  d7 P w K mg base CX (k+1) f (PySem.W.fnOf name qual params body scope dV kV doc pm an cm ct) ps sp:=by
 refine⟨len,λA outer s H args us vs Q E hr e0 hb r vg=>?_⟩;have hl:=len _ _ _ _ vg;have KX:K.In s.heap:=e0.mod.mq.keeps λb o e=>(e0.bs b o e).1
 have lim:s.heap.NoLimit:=e0.mod.nolimit.keeps λb o e=>(e0.bs b o e).1
 have yx:∀y∈ps.zip us,scope.names.lookup y.1=some .local∨(scope.names.lookup y.1=some .cell/\((cellsFrom (s.heap.objs.size+1) scope.names []).lookup y.1).isSome=true):=λ⟨n,v⟩ hy=>by
  rcases S.par n (List.of_mem_zip hy).1 with q|q
  ·exact .inl q
  ·exact .inr ⟨q,PySem.W.cellsFrom_some _ _ _ (.inl q)⟩
 refine codeAny_call_function hr.depth (KX _ _ lk) rfl S.co S.gen rfl (PySem.W.codeRec_of KX gf) (hb _ _ _ _ ?_);refine wpAny_newFunctionEnv_cells S.kind yx λenv he s1 x=>?_
 subst he;refine⟨lim.keeps x.toInCall.keep,codeAny_func ?_⟩
 obtain⟨t,ht,hq⟩:=nq A outer s H vs Q E (hr.deeper _) vg
 have I:a6 (eF CX P w K mg base N qual scope f cm A outer s H E) [] (gA N vs) H s1:=W5 S hr.hd e0 hl r x;refine mw (ht [] s1 (gA N vs) H _ I hq) (λfl s' hs=>?_) λe s' hs=>hs
 have fin:∀{cn:St}{H':Hp}{v:V}{u:ax},a6 (eF CX P w K mg base N qual scope f cm A outer s H E) [] cn H' s'->aO v u->Q v H'->CE outer P w H s Q u s':=
  λ{cn H' v u} J rv q=>⟨v,H',J.os,J.bare,J.base,J.cj,rv,q⟩
 cases fl with
 |ret u=>
  obtain⟨v,cn,H',J,rv,q⟩:=hs
  exact fin J rv q
 |next=>
  obtain⟨cn,H',J,q⟩:=hs
  exact fin (v:=V.cq) (u:=Value.none) J rfl q
 |brk=>
  obtain⟨_,_,_,q⟩:=hs
  exact False.elim q
 |cont=>
  obtain⟨_,_,_,q⟩:=hs
  exact False.elim q
section
variable {X:Cx}{x:Str}{p pos:Pos}{e:Expr}{es:List Expr}{t:TA}{id T:String}{r:List V→Hp→VK→Prop}
def xO (r:List V->Hp->VK->Prop)(t:TA):TE:=λσ H Q=>t σ H λvs H1=>r vs H1 Q
theorem W7 (hc:dO X (.builtin id) r)(hg:Gl X x)(hm:X.mg x=none)(hv:bootBuiltins x=some (.builtin id))(ha:PA X (e::es) t)(hn:x≠"__name__":=by decide)(jy:(x==("__debug__":Str))=false:=by decide)(he:starEach (e::es) X.env=(false,eval e X.env)::starEach es X.env:=by rfl)(hpl:(backTo pos (starEach es X.env)).any (·.1)=false:=by rfl):PE X (.Call (.Name x p) (e::es) [] pos) (xO r t):=by
 intro ai s σ H Q I h;refine CL (nX I hg hm hv ?_ hn jy);exact PyProof.Rows.callWith_builtin1 (aL (ha pos ai s σ H _ I h) λus s1 ⟨vs,H1,I1,r1,q1⟩=>hc ai s1 σ H1 vs us Q I1 r1 q1) he hpl
theorem aJ5 (hc:dO X (.type T) r)(hg:Gl X x)(hm:X.mg x=none)(hv:bootBuiltins x=some (.type T))(ha:PA X (e::es) t)(hn:x≠"__name__":=by decide)(jy:(x==("__debug__":Str))=false:=by decide)(he:starEach (e::es) X.env=(false,eval e X.env)::starEach es X.env:=by rfl)(hpl:(backTo pos (starEach es X.env)).any (·.1)=false:=by rfl):PE X (.Call (.Name x p) (e::es) [] pos) (xO r t):=by
 intro ai s σ H Q I h;refine CL (nX I hg hm hv ?_ hn jy);exact EN (aL (ha pos ai s σ H _ I h) λus s1 ⟨vs,H1,I1,r1,q1⟩=>hc ai s1 σ H1 vs us Q I1 r1 q1) he hpl
end
end L2
namespace HT
open PySem PyProof.Rows
def b9:ag->ag->Bool
 |[],[]=>false
 |[],_::_=>true
 |_::_,[]=>false
 |x::xs,y::ys=>if x=y then b9 xs ys else decide (x<y)
theorem jN (x y:Int)(xs ys:ag):b9 (x::xs) (y::ys)=if x=y then b9 xs ys else decide (x<y):=rfl
theorem aJ6:b9 [] []=false:=rfl
theorem aJ7 (y:Int)(ys:ag):b9 [] (y::ys)=true:=rfl
theorem aJ8 (x:Int)(xs:ag):b9 (x::xs) []=false:=rfl
theorem W8 (A:bc)(s:ay)(a:Int)(t:Tok)(c:Int)(u:Tok):∃e,SeqAt.EqAt A s (.int a t) (.int c u) e/\(e=true↔a=c):=
 ⟨(a==c),SeqAt.EqAt.int_int a t c u,by simp⟩
theorem W9 (A:bc)(s:ay)(a:Int)(t:Tok)(c:Int)(u:Tok)(prog:ba)(w:bd)(E:ax->ay->Prop)(Q:ax->ay->Prop)(h:Q (.bool (decide (a<c))) s) :
  wpAny (model prog w) A (richCompare .Lt (.int a t) (.int c u)) Q E s:=
 (PyProof.Rows.lt_int h:wpAny (model prog w) A (compareOp .Lt (.int a t) (.int c u)) Q E s)
section
open PySem.SeqAt
open PySem.AutoSeq1 (wpAny_loadPart')
open PySem.MeetsSeq PySem.MeetsSeq2 PySem.MeetsSeq3
theorem X0 (l b:az)(items items2:Array ax)(n n2:Nat)(dd tf:Option az)(sl su:Array (Option ax))(ns ms:ag)(hi:IntsAre items.toList ns)(hj:IntsAre items2.toList ms) :
  Meets (Builtin.«tuple.__lt__» ⟨[.ref l,.ref b],[]⟩)
   (λ_ R s=>s.heap.get? l=some { cls:=.type "tuple",dict:=dd,data:=.seq items n,slots:=sl }/\s.heap.get? b=some { cls:=.type "tuple",dict:=tf,data:=.seq items2 n2,slots:=su }/\
    R (.ok (.ret (.bool (b9 ns ms)))) s):=
 .of_wp λprog w A R s h=>by
  obtain⟨hp,g,d,tk,os⟩:=s;obtain⟨hl,hb,h⟩:=h
  have f2:=AutoSeq1.sub_tuple_tuple;have z1:items.size=ns.length:=by rw[<- hi.length];simp
  have z2:items2.size=ms.length:=by rw[<- hj.length];simp
  wp_walk using wpAny_loadPart' hl,wpAny_loadPart' hb,wpAny_forIn_list _ (λrest b s'=>b.1=none/\s'=⟨hp,g,d,tk,os⟩/\∃(vs ws:List ax) (Cr Ct:ag),rest=vs.zip ws/\
   IntsAre vs Cr/\IntsAre ws Ct/\Cr.length+items2.size=Ct.length+items.size/\R (.ok (.ret (.bool (b9 Cr Ct)))) ⟨hp,g,d,tk,os⟩) _
  case turn=>
   rintro⟨y,x⟩ rest b s' ⟨DN,rfl,vs,ws,Cr,Ct,hz,FH,EB,ao,hR⟩
   cases FH with
   |nil=>rw[List.zip_nil_left]at hz;cases hz
   |cons a t FG=>
    cases EB with
    |nil=>rw[List.zip_nil_right]at hz;cases hz
    |cons c u FE=>
     rw[List.zip_cons_cons]at hz;injection hz with Rf DG
     injection Rf with hy hx
     subst hy hx;rw[jN]at hR;simp only[sj]at ao
     obtain⟨e,he,yy⟩:=W8 A.in1 ⟨hp,g,d,tk,os⟩ a t c u
     refine bw (he prog w _ _ ?_);cases e with
     |true=>
      rw[if_pos (yy.mp rfl)]at hR
      wp_walk
      exact⟨rfl,rfl,_,_,_,_,DG,FG,FE,by lia,hR⟩
     |false=>
      rw[if_neg (λq=>absurd (yy.mpr q) gu)]at hR;have DF:=W9 A.in1 ⟨hp,g,d,tk,os⟩ a t c u prog w
      wp_walk using DF
      exact⟨_,rfl,by simpa using hR⟩
  case fin=>
   rintro⟨b1,b2⟩ s' ⟨DN,rfl,vs,ws,Cr,Ct,hz,FH,EB,ao,hR⟩
   simp only at DN;subst DN;have hv:b9 Cr Ct=decide (items.size<items2.size):=by
    cases FH with
    |nil=>
     cases EB with
     |nil=>
      simp only[List.length_nil]at ao;rw[aJ6];exact (dm (by lia)).symm
     |cons c u hw=>
      simp only[List.length_nil,sj]at ao;rw[aJ7];exact (eu (by lia)).symm
    |cons a t hv=>
     cases EB with
     |nil=>
      simp only[List.length_nil,sj]at ao;rw[aJ8];exact (dm (by lia)).symm
     |cons c u hw=>
      rw[List.zip_cons_cons]at hz;cases hz
   rw[hv]at hR
   wp_walk
   exact⟨_,rfl,by simpa[Builtin.Tuple.tupleCompareSizes] using hR⟩
  case h=>
   exact⟨rfl,rfl,items.toList,items2.toList,ns,ms,rfl,hi,hj,by lia,h⟩
end
section
variable {prog:ba}{w:bd}{A:bc}{E:ax→ay→Prop}{s:ay}
theorem aJ9 {l b:az}{items items2:Array ax}{ns ms:ag}{Q:ax->ay->Prop}(hl:IsTup s.heap l items)(hb:IsTup s.heap b items2)(hi:IntsAre items.toList ns)(hj:IntsAre items2.toList ms)(hu:A.units<cLine)(h:Q (.bool (b9 ns ms)) s):wpAny (model prog w) A (compareOp .Lt (.ref l) (.ref b)) Q E s:=by
 obtain⟨⟨cls,dd,data,sl⟩,ho,hc,n,hd⟩:=id hl
 obtain⟨⟨Aq,tf,data2,su⟩,ui,hc2,n2,hd2⟩:=id hb
 simp only at hc hd hc2 hd2;subst hc hd hc2 hd2;exact richCompare_meets_room (op:=.Lt) ⟨_,ho,rfl⟩ ⟨_,ui,rfl⟩ PySem.F.slot_tuple_lt PySem.F.entry_tuple_lt (PySem.F.args_tuple_lt_2 _ _) (X0 l b items items2 n n2 dd tf sl su ns ms hi hj)
  ⟨ho,ui,show Value.bool (b9 ns ms)≠Value.notImplemented/\Q (.bool (b9 ns ms)) s from ⟨(λx=>nomatch x),h⟩⟩ hu
theorem aK0 {t b:az}{vs ws:List ax}{Q:ax->ay->Prop}(ht:IsTup s.heap t vs.toArray)(hb:IsTup s.heap b ws.toArray)(hv:vs≠[])(h1:ws = []->Q (.ref t) s)(h2:ws≠[]->Q (.ref s.heap.objs.size) { s with heap:=s.heap.push { cls:=.type "tuple",data:=.seq (vs++ws).toArray } })(hsz:vs.length+ws.length<=sizeLine):wpAny (model prog w) A (binaryOp .Add (.ref t) (.ref b)) Q E s:=by
 obtain⟨⟨cls,dd,data,sl⟩,ho,hc,n,hd⟩:=id ht
 obtain⟨⟨Aq,tf,data2,su⟩,ui,hc2,n2,hd2⟩:=id hb
 simp only at hc hd hc2 hd2;subst hc hd hc2 hd2;have e:vs.toArray++ws.toArray=(vs++ws).toArray:=by simp
 by_cases hw:ws = []
 ·exact concat_meets ⟨_,ho,rfl⟩ ⟨_,ui,rfl⟩ noFill_tuple_add seq_tuple_add PySem.F.slot_tuple_add PySem.F.entry_tuple_add (PySem.F.args_tuple_add_2 _ _)
   (tuple_addW1 t b vs.toArray ws.toArray n n2 dd tf sl su (by simpa using hv) (by simp[hw])) ⟨ho,ui,h1 hw⟩
 ·refine concat_meets ⟨_,ho,rfl⟩ ⟨_,ui,rfl⟩ noFill_tuple_add seq_tuple_add PySem.F.slot_tuple_add PySem.F.entry_tuple_add (PySem.F.args_tuple_add_2 _ _)
   (tuple_addW2 t b vs.toArray ws.toArray n n2 dd tf sl su (by simpa using hv) (by simpa using hw) (by rw[fu,fu];exact hsz)) ⟨ho,ui,?_⟩
  rw[e];exact h2 hw
def eG (n d:Nat):Option Int->Nat
 |none=>d
 |some v=>if v<0 then (v+(n:Int)).toNat else min v.toNat n
theorem aK1 (n d:Nat):eG n d none=d:=rfl
end
end HT
namespace L2
open PySem PySem.Spec PyProof.Rows
abbrev TO:=St->Hp->(Option Int->Hp->Prop)->Prop
def PO (X:Cx)(e:Option Expr)(t:TO):Prop:=
 ∀(ai:List (az×Obj)) (s:ay) (σ:St) (H:Hp) (Q:Option Int->Hp->Prop),a6 X ai σ H s->t σ H Q->
  wpAny (model X.prog X.w) X.A (evalPart e X.env) (λu s'=>∃o H',a6 X ai σ H' s'/\IsPart u o/\Q o H') X.xe s
def aK2:TO:=λ_ H Q=>Q none H
def aK3 (t:TE):TO:=λσ H Q=>t σ H λx H1=>∃i,x = .int i/\Q (some i) H1
theorem mG {ns:ag}:∀{us:List ax},aI (ns.map V.int) us->IntsAre us ns:=by
 induction ns with
 |nil=>intro us r;rw[List.map_nil]at r;cases r;exact .nil
 |cons n ns ih=>
  intro us r;rw[gg]at r;cases r with
  |cons r1 r2=>
   obtain⟨t,e⟩:=r1
   subst e;exact .cons n t (ih r2)
section
variable {X:Cx}{e:Expr}{te:TE}{lo hi:Option Expr}{tl th:TO}{pos p2:Pos}
theorem aK4:PO X none aK2:=by
 intro ai s σ H Q I h;rw[evalPart_none];exact cy ⟨none,H,I,.none,h⟩
theorem aK5 (h:PE X e te):PO X (some e) (aK3 te):=by
 intro ai s σ H Q I hw;rw[evalPart_some];refine aL (h ai s σ H _ I hw) λu s1 ⟨x,H1,I1,r1,q1⟩=>?_
 obtain⟨i,rfl,q⟩:=q1
 obtain⟨t,rfl⟩:=r1
 exact⟨some i,H1,I1,.int i t,q⟩
def X1 (X:Cx)(r:V->Option Int->Option Int->Hp->VK->Prop):Prop:=
 ∀(ai:List (az×Obj)) (s:ay) (σ:St) (H:Hp) (x:V) (v vl vu:ax) (lo hi:Option Int) (sl:az) (Q:VK),a6 X ai σ H s->aO x v->s.heap.IsSliceOf sl vl vu .none->IsPart vl lo->IsPart vu hi->r x lo hi H Q->
  ∃T id,typeLookup (.type T) "__getitem__" = pure (some (.builtin id))/\s.TypeIs v T/\wpAny (model X.prog X.w) X.A (getItem v (.ref sl)) (EP X ai σ Q) X.xe s
def PL (r:V->Option Int->Option Int->Hp->VK->Prop)(te:TE)(tl th:TO):TE:=λσ H Q=>te σ H λx H1=>tl σ H1 λl H2=>th σ H2 λu H3=>r x l u H3 Q
theorem aK6 {r:V->Option Int->Option Int->Hp->VK->Prop}(hr:X1 X r)(he:PE X e te)(hl:PO X lo tl)(hu:PO X hi th):PE X (.Subscript e (.Slice lo hi none p2) pos) (PL r te tl th):=by
 intro ai s σ H Q I h;refine Subscript_ (aL (he ai s σ H _ I h) λv s1 ⟨x,H1,I1,r1,q1⟩=>?_);refine wpAny_Slice (aL (hl ai s1 σ H1 _ I1 q1) λvl s2 ⟨l,H2,I2,pl,q2⟩=>aL (hu ai s2 σ H2 _ I2 q2) λvu s3 ⟨u,H3,I3,pu,q3⟩=>?_);rw[evalPart_none];refine cy ?_;have I4:a6 X ai σ H3 { s3 with heap:=s3.heap.push { cls:=.type "slice",data:=.fields #[vl,vu,.none] } }:=I3.kept (t':=s3.toks) λb ob q=>ez _ q
 obtain⟨T,id,hT,ht,hg⟩:=hr ai { s3 with heap:=s3.heap.push { cls:=.type "slice",data:=.fields #[vl,vu,.none] } } σ H3 x v vl vu l u s3.heap.objs.size Q I4 r1 (Heap.IsSliceOf.new ..) pl pu q3
 show wpAny (model X.prog X.w) X.A (subscriptTail e (.Slice lo hi none p2) v (.ref s3.heap.objs.size)) (EP X ai σ Q) X.xe { s3 with heap:=s3.heap.push { cls:=.type "slice",data:=.fields #[vl,vu,.none] } };exact tail_any (ops:=[.ref s3.heap.objs.size,v]) ht hT hg (by with_unfolding_all rfl)
def o5 (xs:List V)(lo hi:Option Int):List V:=(xs.drop (HT.eG xs.length 0 lo)).take (HT.eG xs.length xs.length hi-HT.eG xs.length 0 lo)
theorem aK7 (xs:List V)(lo hi:Option Int):(o5 xs lo hi).length<=xs.length:=by
 unfold o5;rw[List.length_take,List.length_drop];lia
def aK8 (K:ad):R2:=λx y H Q=>∃a b xs ys,x = .ref a/\y = .ref b/\aM K H a xs/\aM K H b ys/\xs≠[]/\xs.length+ys.length<=sizeLine/\
 (ys = []->Q (.ref a) H)/\(ys≠[]->∀p,H p=none->Q (.ref p) (upd H p (.tup (xs++ys))))
theorem aI.jm {xs:List V}{us:List ax}(r:aI xs us):us = []↔xs = []:=by
 cases r with
 |nil=>simp
 |cons _ _=>simp
theorem aK9:bT X (binaryOp .Add) (aK8 X.K):=by
 intro ai s σ H x y v u Q I rx ry h
 obtain⟨a,b,xs,ys,rfl,rfl,ha,hb,hx,hz,q1,q2⟩:=h
 cases rx;cases ry
 obtain⟨bo,r1,p1,_⟩:=I.tuple ha
 obtain⟨av,r2,p2,_⟩:=I.tuple hb
 refine HT.aK0 p1 p2 (λz=>hx (r1.jm.mp z)) (λz=>⟨.ref a,H,I,rfl,q1 (r2.jm.mp z)⟩) (λz=>?_) (by rw[<- r1.length,<- r2.length];exact hz);refine⟨.ref s.heap.objs.size,_,I.laid (t':=s.toks) (o:=.tup (xs++ys)) (λb ob q=>ez _ q) (da _) ?_,rfl,q2 (λw=>z (r2.jm.mpr w)) _ (I.cj.fresh (da _))⟩
 exact⟨by rw[gq];exact hz,_,r1.append r2,IsTup.new _ _,iY.new _ _ rfl⟩
end
def gZ (n:Nat)(i:Int):Option Nat:=if 0<=i then (if i<n then some i.toNat else none) else if -(n:Int)<=i then some (i+n).toNat else none
def oh {α:Type}(xs:List α)(i:Int):Option α:=(gZ xs.length i).bind λj=>xs[j]?
theorem X2 {n:Nat}{i:Int}{j:Nat}(h:gZ n i=some j):seqIndex? i n=some j/\j<n/\-(n:Int)<=i/\i<n:=by
 unfold gZ at h;by_cases h0:0<=i
 ·rw[if_pos h0]at h
  by_cases h1:i<n
  ·rw[if_pos h1]at h
   have e:i.toNat=j:=ip h
   exact⟨by rw[seqIndex_of h0 h1,e],by lia,by lia,h1⟩
  ·rw[if_neg h1]at h;cases h
 ·rw[if_neg h0]at h
  by_cases h1:-(n:Int)<=i
  ·rw[if_pos h1]at h
   have e:(i+n).toNat=j:=ip h
   exact⟨by rw[seqIndex_neg (by lia) h1,e],by lia,h1,by lia⟩
  ·rw[if_neg h1]at h;cases h
theorem xP {α:Type}{xs:List α}{i:Int}{v:α}(h:oh xs i=some v):∃j,seqIndex? i xs.length=some j/\xs[j]? = some v/\j<xs.length/\-(xs.length:Int)<=i/\i<xs.length:=by
 unfold oh at h;cases e:gZ xs.length i with
 |none=>rw[e]at h;cases h
 |some j=>
  rw[e]at h
  obtain⟨h1,h2,h3,h4⟩:=X2 e
  exact⟨j,h1,h,h2,h3,h4⟩
theorem xQ {α:Type}{xs:List α}{j:Nat}{v:α}(h:xs[j]? = some v):oh xs (j:Int)=some v:=by
 have hj:j<xs.length:=(og.mp h).1;have e:gZ xs.length (j:Int)=some j:=by
  unfold gZ;rw[if_pos (by lia),if_pos (by lia)];simp
 unfold oh;rw[e];exact h
theorem aL0 {α:Type}(xs:List α)(v:α):oh (xs++[v]) (-1)=some v:=by
 have hl:(xs++[v]).length=xs.length+1:=by simp
 have e:gZ (xs++[v]).length (-1)=some xs.length:=by
  unfold gZ;rw[hl,if_neg (by decide),if_pos (by lia)];congr 1;lia
 unfold oh;rw[e];show (xs++[v])[xs.length]? = some v;simp
def X3 (b:Expr):Prop:=∀o i,subscripted b false o i=operate [o,i] (getItem o i)
def kE (X:Cx)(r:R2):Prop:=
 ∀(value slice:Expr) (ai:List (az×Obj)) (s:ay) (σ:St) (H:Hp) (x y:V) (v u:ax) (Q:VK),a6 X ai σ H s->aO x v->aO y u->r x y H Q->
  subscripted slice false v u=operate [v,u] (getItem v u)->wpAny (model X.prog X.w) X.A (subscriptTail value slice v u) (EP X ai σ Q) X.xe s
def X4 (X:Cx)(id:String)(r:V->List V->Hp->VK->Prop):Prop:=
 ∀(ai:List (az×Obj)) (s:ay) (σ:St) (H:Hp) (x:V) (xs:List V) (v:ax) (us:List ax) (Q:VK),a6 X ai σ H s->aO x v->aI xs us->r x xs H Q->
  wpAny (model X.prog X.w) X.A (call (.builtin id) (v::us)) (EP X ai σ Q) X.xe s
section
variable {X:Cx}{a b:Expr}{ta tb:TE}{pos:Pos}
theorem kE.or {r r':R2}(h:kE X r)(h':kE X r'):kE X (λx y H Q=>r x y H Q∨r' x y H Q):=by
 intro value slice ai s σ H x y v u Q I rx ry q hs;rcases q with q|q
 ·exact h value slice ai s σ H x y v u Q I rx ry q hs
 ·exact h' value slice ai s σ H x y v u Q I rx ry q hs
theorem qJ {r:R2}(hr:kE X r)(ha:PE X a ta)(hb:PE X b tb)(hs:X3 b):PE X (.Subscript a b pos) (qF r ta tb):=by
 intro ai s σ H Q I h;exact Subscript_ (xH ha hb I h λv u s2 x y H2 I2 rx ry q=>hr a b ai s2 σ H2 x y v u Q I2 rx ry q (hs _ _))
def X5 (K:ad):R2:=λx y H Q=>∃p xs i v,x = .ref p/\y = .int i/\aN K H p xs/\oh xs i=some v/\Q v H
def X6 (K:ad):R2:=λx y H Q=>∃p xs i v,x = .ref p/\y = .int i/\aM K H p xs/\oh xs i=some v/\Q v H
def X7:R2:=λx y H Q=>∃z i c,x = .str z/\y = .int i/\z.length<=sizeLine/\oh z.cps.toList i=some c/\Q (.str ⟨#[c]⟩) H
theorem xR:kE X (X5 X.K):=by
 intro value slice ai s σ H x y v u Q I rx ry h hs
 obtain⟨p,xs,i,z,rfl,rfl,hq,he,q⟩:=h
 cases rx
 obtain⟨t,rfl⟩:=ry
 obtain⟨bo,r,pl,hz⟩:=I.list hq
 obtain⟨j,h1,h2,h3,h4,h5⟩:=xP he
 obtain⟨w,ew,Af⟩:=r.get h2
 have hl:=r.length;have hn:=o0;have fin:EP X ai σ Q w s:=⟨z,H,I,Af,q⟩;by_cases h0:0<=i
 ·have hj:i.toNat=j:=by
   rw[seqIndex_of h0 h5]at h1;exact ip h1
  exact item_listR pl.isList h0 (by lia) (by rw[hj];simpa using ew) fin hs
 ·have hj:(i+(bo.toArray.size:Int)).toNat=j:=by
   rw[seqIndex_neg (by lia) h4]at h1;rw[fu,<- hl];exact ip h1
  exact subscriptTail_builtinR (x:=w) pl.isList.typeIs slot_list_getitem.lookup
   (wpAny_getItem_list_neg (Q:=λr s'=>r=w/\EP X ai σ Q r s') pl.isList (by lia) (by rw[fu]<;>lia) (by lia) (by rw[hj];simpa using ew) ⟨rfl,fin⟩) hs
theorem xS:kE X (X6 X.K):=by
 intro value slice ai s σ H x y v u Q I rx ry h hs
 obtain⟨p,xs,i,z,rfl,rfl,hq,he,q⟩:=h
 cases rx
 obtain⟨t,rfl⟩:=ry
 obtain⟨bo,r,pl,hz⟩:=I.tuple hq
 obtain⟨j,h1,h2,h3,h4,h5⟩:=xP he
 obtain⟨w,ew,Af⟩:=r.get h2
 have hl:=r.length;have hn:=o0;have fin:EP X ai σ Q w s:=⟨z,H,I,Af,q⟩;exact subscriptTail_builtinR (x:=w) pl.typeIs slot_tuple_getitem.lookup
  (getItem_tuple (j:=j) (Q:=λr s'=>r=w/\EP X ai σ Q r s') pl (by lia) (by lia) (by rw[fu,<- hl];exact h1) (by simpa using ew) ⟨rfl,fin⟩) hs
theorem aL1:kE X X7:=by
 intro value slice ai s σ H x y v u Q I rx ry h hs
 obtain⟨z,i,c,rfl,rfl,hz,he,q⟩:=h
 obtain⟨t,rfl⟩:=rx
 obtain⟨t',rfl⟩:=ry
 obtain⟨j,h1,h2,h3,h4,h5⟩:=xP he
 have hl:z.cps.toList.length=z.length:=by simp[Str.length]
 rw[hl]at h1 h4 h5;have hn:=o0
 exact tail_any (typeIs_str s z t) slot_str_getitem.lookup (getItem_str (c:=c) (by
  have e1:decide (i < -(2^63:Int))=false:=dm (by lia);have e2:decide (i >= 2^63)=false:=dm (by lia)
  rw[e1,e2,Bool.or_false]) (by rw[h1];simpa using h2) ⟨.str ⟨#[c]⟩,H,I.tok _,⟨_,rfl⟩,q⟩) hs
def X8 (K:ad):R2:=λx y H Q=>X5 K x y H Q∨X6 K x y H Q∨X7 x y H Q
theorem aL2:kE X (X8 X.K):=xR.or (xS.or aL1)
theorem aL3 (bo:List ax)(n j:Nat)(u:ax):Obj.mapSeq (·.setIfInBounds j u) { cls:=.type "list",data:=.seq bo.toArray n }={ cls:=.type "list",data:=.seq (bo.set j u).toArray n }:=by
 simp[Obj.mapSeq]
theorem a6.lst {ai:List (az×Obj)}{σ:St}{H:Hp}{s:ay}{p:az}{xs:List V}(I:a6 X ai σ H s)(h:H p=some (.lst xs)) :
  ∃(bo:List ax) (n:Nat),aI xs bo/\s.heap.get? p=some { cls:=.type "list",data:=.seq bo.toArray n }/\xs.length<=sizeLine:=by
 obtain⟨z,bo,n,r,e⟩:=I.cj p _ h
 exact⟨bo,n,r,e,z⟩
theorem a6.Bo {ai:List (az×Obj)}{σ:St}{H:Hp}{s:ay}{p:az}{xs ys:List V}{bo its':List ax}{n n':Nat}{f:Obj->Obj}(I:a6 X ai σ H s)(h:H p=some (.lst xs))(ho:s.heap.get? p=some { cls:=.type "list",data:=.seq bo.toArray n })(hf:f { cls:=.type "list",data:=.seq bo.toArray n }={ cls:=.type "list",data:=.seq its'.toArray n' })(r:aI ys its')(hz:ys.length<=sizeLine)(t:Nat) :
  a6 X ai σ (upd H p (.lst ys)) { s with heap:=s.heap.update p f,toks:=t }:=by
 have e:(s.heap.update p f).get? p=some { cls:=.type "list",data:=.seq its'.toArray n' }:=by
  rw[Ee f ho (by rw[hf]<;>rfl),hf]
 refine I.write (x:=p) (e:=p) (by rw[h];trivial) (.inl rfl) (λb u hb q=>(Heap.get?_update_other _ _ (Ne.symm hb)).trans q) ⟨_,e⟩ ?_
 exact⟨hz,its',n',r,e⟩
def xT:V->V->V->Hp->(Hp->Prop)->Prop:=λo i v H Q=>∃p xs k j,o = .ref p/\i = .int k/\H p=some (.lst xs)/\gZ xs.length k=some j/\Q (upd H p (.lst (xs.set j v)))
theorem aL4:T7 X xT:=by
 intro ai s σ H o i v ov iv u Q I ro ri rv h
 obtain⟨p,xs,k,j,rfl,rfl,hp,hj,q⟩:=h
 cases ro
 obtain⟨t,rfl⟩:=ri
 obtain⟨bo,n,r,ho,hz⟩:=I.lst hp
 obtain⟨h1,h2,h3,h4⟩:=X2 hj
 have hl:=r.length;have hn:=o0;have I':a6 X ai σ (upd H p (.lst (xs.set j v))) { s with heap:=s.heap.update p (Obj.mapSeq (·.setIfInBounds j u)) }:=
  I.Bo hp ho (aL3 bo n j u) (r.set rv j) (by rw[xi];exact hz) s.toks
 by_cases h0:0<=k
 ·have hk:k.toNat=j:=by
   rw[seqIndex_of h0 h4]at h1;exact ip h1
  exact PySem.W.ki_setAt ho h0 (by lia) (by rw[fu,<- hl];exact h4) (by rw[hk];exact⟨_,I',q⟩)
 ·have hk:(k+(bo.toArray.size:Int)).toNat=j:=by
   rw[seqIndex_neg (by lia) h3]at h1;rw[fu,<- hl];exact ip h1
  exact PySem.W.ki_setBack ho (by lia) (by rw[fu,<- hl];exact h3) (by lia) (by rw[hk];exact⟨_,I',q⟩)
theorem aL5 (lo hi:Option Int)(n:Nat):(sliceBounds lo hi none n).1=((HT.eG n 0 lo:Nat):Int)/\(sliceBounds lo hi none n).2.1=((HT.eG n n hi:Nat):Int)/\(sliceBounds lo hi none n).2.2=1:=by
 refine⟨?_,?_,rfl⟩
 ·cases lo with
  |none=>simp[sliceBounds,HT.eG]
  |some i=>
   simp only[sliceBounds,HT.eG,Option.getD_none,show (1:Int)>0 by decide,if_true];by_cases h:i<0
   ·simp only[h,if_true]<;>lia
   ·simp only[h,kc]<;>lia
 ·cases hi with
  |none=>simp[sliceBounds,HT.eG]
  |some i=>
   simp only[sliceBounds,HT.eG,Option.getD_none,show (1:Int)>0 by decide,if_true];by_cases h:i<0
   ·simp only[h,if_true]<;>lia
   ·simp only[h,kc]<;>lia
theorem aL6 (bo:List ax)(lo hi:Option Int):slicePick bo.toArray lo hi none=((bo.drop (HT.eG bo.length 0 lo)).take (HT.eG bo.length bo.length hi-HT.eG bo.length 0 lo)).toArray:=by
 obtain⟨h1,h2,h3⟩:=aL5 lo hi bo.toArray.size
 unfold slicePick;rw[h1,h2,h3];simp only[sliceRange_one,pick_run,fu]<;>rfl
def aL7 (K:ad):V->Option Int->Option Int->Hp->VK->Prop:=λx lo hi H Q=>∃a xs,x = .ref a/\aN K H a xs/\∀p,H p=none->Q (.ref p) (upd H p (.lst (o5 xs lo hi)))
theorem aL8:X1 X (aL7 X.K):=by
 intro ai s σ H x v vl vu lo hi sl Q I rx hs pl pu h
 obtain⟨a,xs,rfl,hx,q⟩:=h
 cases rx
 obtain⟨bo,r,ht,hz⟩:=I.list hx
 have ao:=r.length;refine⟨"list",_,slot_list_getitem.lookup,ht.isList.typeIs,?_⟩;refine wpAny_getItem_list_slice ht.isList hs pl pu .none (by simp) ?_ (by rw[fu]<;>lia);rw[aL6,<- ao];refine⟨.ref s.heap.objs.size,_,I.laid (t':=s.toks) (o:=.lst (o5 xs lo hi)) (λb ob q=>ez _ q) (da _) ?_,rfl,q _ (I.cj.fresh (da _))⟩
 exact⟨iw (aK7 xs lo hi) hz,_,0,(r.drop (HT.eG xs.length 0 lo)).take (HT.eG xs.length xs.length hi-HT.eG xs.length 0 lo),jw _ rfl⟩
def kF:V->Bool
 |.cq=>true
 |.bl _=>true
 |.int _=>true
 |.str _=>true
 |_=>false
def j4:V->V->Bool
 |.cq,.cq=>true
 |.bl a,.bl b=>a==b
 |.bl a,.int b=>(if a then 1 else 0)==b
 |.int a,.bl b=>a==(if b then 1 else 0)
 |.int a,.int b=>a==b
 |.str a,.str b=>a==b
 |_,_=>false
theorem aL9 {A:bc}{s:ay}{y x:V}{u v:ax}(ry:aO y u)(rx:aO x v)(fy:kF y=true)(fx:kF x=true):SeqAt.EqAt A s u v (j4 y x):=by
 cases y with
 |cq=>
  cases ry;cases x with
  |cq=>cases rx;exact SeqAt.EqAt.same _
  |bl b=>cases rx;exact SeqAt.EqAt.none_bool b
  |int b=>obtain⟨t,rfl⟩:=rx;exact SeqAt.EqAt.none_int b t
  |str b=>obtain⟨t,rfl⟩:=rx;exact SeqAt.EqAt.none_str b t
  |_=>exact absurd (show false=true from fx) gu
 |bl a=>
  cases ry;cases x with
  |cq=>cases rx;exact SeqAt.EqAt.bool_none a
  |bl b=>cases rx;exact SeqAt.EqAt.bool_bool a b
  |int b=>obtain⟨t,rfl⟩:=rx;exact SeqAt.EqAt.bool_int a b t
  |str b=>obtain⟨t,rfl⟩:=rx;exact SeqAt.EqAt.bool_str a b t
  |_=>exact absurd (show false=true from fx) gu
 |int a=>
  obtain⟨t',rfl⟩:=ry
  cases x with
  |cq=>cases rx;exact SeqAt.EqAt.int_none a t'
  |bl b=>cases rx;exact SeqAt.EqAt.int_bool a t' b
  |int b=>obtain⟨t,rfl⟩:=rx;exact SeqAt.EqAt.int_int a t' b t
  |str b=>obtain⟨t,rfl⟩:=rx;exact SeqAt.EqAt.int_str a t' b t
  |_=>exact absurd (show false=true from fx) gu
 |str a=>
  obtain⟨t',rfl⟩:=ry
  cases x with
  |cq=>cases rx;exact SeqAt.EqAt.str_none a t'
  |bl b=>cases rx;exact SeqAt.EqAt.str_bool a t' b
  |int b=>obtain⟨t,rfl⟩:=rx;exact SeqAt.EqAt.str_int a t' b t
  |str b=>obtain⟨t,rfl⟩:=rx;exact SeqAt.EqAt.str_str a t' b t
  |_=>exact absurd (show false=true from fx) gu
 |_=>exact absurd (show false=true from fy) gu
def kG (x:V)(u:ax):Bool:=match u with
 |.none=>j4 .cq x
 |.bool b=>j4 (.bl b) x
 |.int i _=>j4 (.int i) x
 |.str z _=>j4 (.str z) x
 |_=>false
theorem X9 {x y:V}{u:ax}(r:aO y u)(f:kF y=true):kG x u=j4 y x:=by
 cases y with
 |cq=>cases r;rfl
 |bl b=>cases r;rfl
 |int i=>obtain⟨t,rfl⟩:=r;rfl
 |str z=>obtain⟨t,rfl⟩:=r;rfl
 |_=>exact absurd (show false=true from f) gu
theorem xU {x:V}:∀{xs:List V}{us:List ax},aI xs us->xs.all kF=true->us.any (kG x)=xs.any λy=>j4 y x
 |_,_,.nil,_=>rfl
 |y::xs,u::us,.cons r t,f=>by
  rw[List.all_cons,my]at f;rw[List.any_cons,List.any_cons,X9 r f.1,xU t f.2]
theorem xV {A:bc}{s:ay}{x:V}{v:ax}(rx:aO x v)(fx:kF x=true):∀{xs:List V}{us:List ax},aI xs us->xs.all kF=true->∀u∈us,SeqAt.EqAt A s u v (kG x u)
 |_,_,.nil,_=>λu hu=>by cases hu
 |y::xs,u::us,.cons r t,f=>λu' hu=>by
  rw[List.all_cons,my]at f;rcases eg.mp hu with rfl|hu
  ·rw[X9 r f.1];exact aL9 r rx f.1 fx
  ·exact xV rx fx t f.2 u' hu
def qK (x:V)(xs:List V):Bool:=xs.any λy=>j4 y x
def Y0 (K:ad)(neg:Bool):R2:=λx y H Q=>∃p xs,y = .ref p/\(aN K H p xs∨aM K H p xs)/\kF x=true/\xs.all kF=true/\Q (.bl (if neg then !qK x xs else qK x xs)) H
theorem aM0:bT X (compareOp .In) (Y0 X.K false):=by
 intro ai s σ H x y v u Q I rx ry h
 obtain⟨p,xs,rfl,hq,fx,fs,q⟩:=h
 cases ry;rcases hq with hq|hq
 ·obtain⟨bo,r,pl,hz⟩:=I.list hq
  refine SeqAt.in_listAt (kG x) pl.isList (λw hw=>xV rx fx r fs w (by simpa using hw)) ⟨.bl _,H,I,rfl,?_⟩;rw[show bo.toArray.any (kG x)=bo.any (kG x) by simp,xU r fs];exact q
 ·obtain⟨bo,r,pl,hz⟩:=I.tuple hq
  refine SeqAt.in_tupleAt (kG x) pl (λw hw=>xV rx fx r fs w (by simpa using hw)) ⟨.bl _,H,I,rfl,?_⟩;rw[show bo.toArray.any (kG x)=bo.any (kG x) by simp,xU r fs];exact q
theorem aM1:dO X (.builtin "len") (λxs H Q=>∃p ys,xs = [.ref p]/\(aN X.K H p ys∨aM X.K H p ys)/\Q (.int ys.length) H):=by
 intro ai s σ H xs us Q I r h
 obtain⟨p,ys,rfl,hq,q⟩:=h
 obtain⟨u,rfl,rx⟩:=jM r
 cases rx;have hn:=o0;rcases hq with hq|hq
 ·obtain⟨bo,r',pl,hz⟩:=I.list hq
  have ao:=r'.length;exact Calls.call_len_list pl.isList (by simp only[fu]<;>lia) ⟨.int ys.length,H,I.tok _,⟨s.toks+1,by rw[fu,ao]⟩,q⟩
 ·obtain⟨bo,r',pl,hz⟩:=I.tuple hq
  have ao:=r'.length;exact len_tuple pl (by simp only[fu]<;>lia) ⟨.int ys.length,H,I.tok _,⟨s.toks+1,by rw[fu,ao]⟩,q⟩
theorem dO.or {f:ax}{r r':List V->Hp->VK->Prop}(h:dO X f r)(h':dO X f r'):dO X f (λxs H Q=>r xs H Q∨r' xs H Q):=by
 intro ai s σ H xs us Q I rs q;rcases q with q|q
 ·exact h ai s σ H xs us Q I rs q
 ·exact h' ai s σ H xs us Q I rs q
theorem aM2:dO X (.type "list") (λxs H Q=>∃p ys,xs = [.ref p]/\(aN X.K H p ys∨aM X.K H p ys)/\∀l,H l=none->Q (.ref l) (upd H l (.lst ys))):=by
 intro ai s σ H xs us Q I r h
 obtain⟨p,ys,rfl,hq,q⟩:=h
 obtain⟨u,rfl,rx⟩:=jM r
 cases rx;have fin:∀(bo:List ax),aI ys bo->ys.length<=sizeLine->∀(h':Heap) (c':Nat),(∀b o',s.heap.get? b=some o'->h'.get? b=some o')->
   h'.get? s.heap.objs.size=some { cls:=.type "list",dict:=none,data:=.seq bo.toArray c',slots:=#[] }->EP X ai σ Q (.ref s.heap.objs.size) { s with heap:=h' }:=λbo r' hz h' c' kp e=>
  ⟨.ref s.heap.objs.size,_,I.laid (t':=s.toks) kp (da _) (show bK X.prog X.w _ h' _ (.lst ys) from ⟨hz,bo,c',r',e⟩),rfl,q _ (I.cj.fresh (da _))⟩
 rcases hq with hq|hq
 ·obtain⟨bo,r',pl,hz⟩:=I.list hq
  have ao:=r'.length
  obtain⟨o,ho,hc,n,hd⟩:=pl.isList
  exact call_list_seq p (.inl rfl) ho hc hd (λh' c' kp e=>fin bo r' hz h' c' kp e) (by simp only[fu]<;>lia)
 ·obtain⟨bo,r',pl,hz⟩:=I.tuple hq
  have ao:=r'.length
  obtain⟨o,ho,hc,n,hd⟩:=pl
  exact call_list_seq p (.inr rfl) ho hc hd (λh' c' kp e=>fin bo r' hz h' c' kp e) (by simp only[fu]<;>lia)
theorem aM3:dO X (.type "tuple") (λxs H Q=>∃p ys,xs = [.ref p]/\((aN X.K H p ys/\∀l,H l=none->Q (.ref l) (upd H l (.tup ys)))∨(aM X.K H p ys/\Q (.ref p) H))):=by
 intro ai s σ H xs us Q I r h
 obtain⟨p,ys,rfl,h⟩:=h
 obtain⟨u,rfl,rx⟩:=jM r
 cases rx;rcases h with⟨hq,q⟩|⟨hq,q⟩
 ·obtain⟨bo,r',pl,hz⟩:=I.list hq
  have ao:=r'.length;refine call_tuple_list pl.isList (λh' kp=>?_) (by simp only[fu]<;>lia);have I1:a6 X ai σ H { s with heap:=h' }:=I.kept (t':=s.toks) kp;have I2:a6 X ai σ (upd H h'.objs.size (.tup ys)) { s with heap:=h'.push { cls:=.type "tuple",data:=.seq bo.toArray } }:=
   I1.laid (t':=s.toks) (λb o e=>ez _ e) (da _) (show bK X.prog X.w _ _ _ (.tup ys) from ⟨hz,bo,r',IsTup.new _ _,iY.new _ _ rfl⟩)
  exact⟨.ref h'.objs.size,_,I2,rfl,q _ (I1.cj.fresh (da _))⟩
 ·obtain⟨bo,r',pl,hz⟩:=I.tuple hq
  exact call_tuple_same pl ⟨.ref p,H,I,rfl,q⟩
def tO (K:ad)(T:String)(x:V)(H:Hp):Prop:=match x with
 |.str _=>T="str"
 |.int _=>T="int"
 |.ref p=>(T="list"/\∃xs,aN K H p xs)∨(T="tuple"/\∃o,K.lookup p=some o/\o.cls = .type "tuple"/\o.dict=none) ∨
   (T="dict"/\((∃bq,H p=some (.dK bq))∨∃bq,H p=some (.dT bq)))∨(T="set"/\∃S n,H p=some (.set S n))
 |_=>False
theorem Y1 {ai:List (az×Obj)}{σ:St}{H:Hp}{s:ay}{T:String}{x:V}{v:ax}(I:a6 X ai σ H s)(r:aO x v)(ty:tO X.K T x H) :
  s.TypeIs v T/\∀a,v = .ref a->∃ob,s.heap.get? a=some ob/\ob.dict=none:=by
 cases x with
 |str z=>
  obtain⟨t,rfl⟩:=r
  cases (show T="str" from ty)
  exact⟨typeIs_str s z t,λ_ e=>nomatch e⟩
 |int i=>
  obtain⟨t,rfl⟩:=r
  cases (show T="int" from ty)
  exact⟨typeIs_int s i t,λ_ e=>nomatch e⟩
 |ref p=>
  cases r;rcases ty with⟨rfl,xs,hq⟩|⟨rfl,o,hk,hc,hd⟩|⟨rfl,hk⟩|⟨rfl,S,n,hk⟩
  ·obtain⟨bo,_,pl,_⟩:=I.list hq
   refine⟨pl.isList.typeIs,λa e=>?_⟩;cases e
   obtain⟨o,n,e,c,hd,_⟩:=pl
   exact⟨o,e,hd⟩
  ·refine⟨⟨o,I.nj p o hk,hc⟩,λa e=>?_⟩
   cases e
   exact⟨o,I.nj _ o hk,hd⟩
  ·have z:∃o,s.heap.get? p=some o/\o.ExactDict:=by
    rcases hk with⟨bq,hk⟩|⟨bq,hk⟩
    ·obtain⟨_,_,_,_,o,_,_,e,ex,_⟩:=I.cj p _ hk
     exact⟨o,e,ex⟩
    ·obtain⟨_,_,_,_,o,_,_,e,ex,_⟩:=I.cj p _ hk
     exact⟨o,e,ex⟩
   obtain⟨o,e,ex⟩:=z
   refine⟨⟨o,e,ex.1⟩,λa e2=>?_⟩;cases e2
   exact⟨o,e,ex.2.1⟩
  ·obtain⟨o,_,_,_,e,ex,_⟩:=I.cj p _ hk
   refine⟨⟨o,e,ex.1⟩,λa e2=>?_⟩;cases e2
   exact⟨o,e,ex.2.1⟩
 |_=>exact False.elim ty
def xW (K:ad)(T:String)(r:V->List V->Hp->VK->Prop)(to:TE):TE:=λσ H Q=>to σ H λx H1=>tO K T x H1/\r x [] H1 Q
def xX (K:ad)(T:String)(r:V->List V->Hp->VK->Prop)(to:TE)(t:TA):TE:=λσ H Q=>to σ H λx H1=>tO K T x H1/\t σ H1 λxs H2=>r x xs H2 Q
variable {o e:Expr}{es:List Expr}{to:TE}{t:TA}{name:Str}{aj am:Pos}{T id:String}{r:V→List V→Hp→VK→Prop}
theorem Y2 (pa:PlainAttrs T)(slot:Slot T name id)(FJ:typeOf (.builtin id)=pure (.type "method_descriptor"))(hm:X4 X id r)(ho:PE X o to)(jg:attributeBase o name X.env (eval o X.env)=eval o X.env:=by rfl)(jd:(aj.endLine==am.line)=true:=by rfl):PE X (.Call (.Attribute o name aj) [] [] am) (xW X.K T r to):=by
 intro ai s σ H Q I h;refine wpAny_Call_method0_late jg jd (aL (ho ai s σ H _ I h) λv s1 ⟨x,H1,I1,r1,ty,q1⟩=>?_)
 obtain⟨h1,h2⟩:=Y1 I1 r1 ty
 exact⟨T,id,pa,slot,FJ,h1,h2,Calls.callWith_builtin rfl (PySem.evalArgs_none (hm ai s1 σ H1 x [] v [] Q I1 r1 .nil q1))⟩
theorem tP (pa:PlainAttrs T)(slot:Slot T name id)(FJ:typeOf (.builtin id)=pure (.type "method_descriptor"))(hm:X4 X id r)(ho:PE X o to)(ha:PA X (e::es) t)(jg:attributeBase o name X.env (eval o X.env)=eval o X.env:=by rfl)(yz:((backTo am (starEach (e::es) X.env)).all (λx=>!x.1)&&(backToKw am (keywordEach [] X.env)).all (λx=>x.1.isSome)
  &&decide ((e::es).length+([]:List Keyword).length+(if ([]:List Keyword).isEmpty then 0 else 1)<30))=true:=by rfl)(jd:(aj.endLine==am.line)=true:=by rfl)(hs:starEach (e::es) X.env=(false,eval e X.env)::starEach es X.env:=by rfl)(aw:(backTo am (starEach es X.env)).any (·.1)=false:=by rfl) :
  PE X (.Call (.Attribute o name aj) (e::es) [] am) (xX X.K T r to t):=by
 intro ai s σ H Q I h;refine wpAny_Call_method_late jg yz jd rfl (aL (ho ai s σ H _ I h) λv s1 ⟨x,H1,I1,r1,ty,q1⟩=>?_)
 obtain⟨h1,h2⟩:=Y1 I1 r1 ty
 refine⟨T,id,pa,slot,FJ,h1,h2,?_⟩;have hA:=ha am ai s1 σ H1 _ I1 q1;rw[hs]at hA ⊢;refine Calls.callWith_builtin (by show (false||(backTo am (starEach es X.env)).any (·.1))=false;rw[aw]<;>rfl) (Calls.evalArgs_plain ?_);exact aL hA λus s2 ⟨vs,H2,I2,r2,q2⟩=>hm ai s2 σ H2 x vs v us Q I2 r1 r2 q2
end
def o6 (X:Cx)(id:String)(r:V->List V->Hp->VK->Prop):Prop:=
 ∀(ai:List (az×Obj)) (s:ay) (σ:St) (H:Hp) (x:V) (xs:List V) (v:ax) (us:List ax) (Q:VK),a6 X ai σ H s->aO x v->aI xs us->r x xs H Q->
  wpAny (model X.prog X.w) X.A (call (.builtin id) (v::us)) (EP X ai σ Q) X.xe s
theorem aI.one {x:V}{us:List ax}(h:aI [x] us):∃u,us = [u]/\aO x u:=by
 cases h with
 |cons r t=>
  cases t
  exact⟨_,rfl,r⟩
theorem aI.two {x y:V}{us:List ax}(h:aI [x,y] us):∃u v,us = [u,v]/\aO x u/\aO y v:=by
 cases h with
 |cons r t=>
  cases t with
  |cons q t=>
   cases t
   exact⟨_,_,rfl,r,q⟩
theorem aI.zero:∀{us:List ax},aI [] us->us = []
 |_,.nil=>rfl
theorem aI.dropLast {xs:List V}{us:List ax}(h:aI xs us):aI xs.dropLast us.dropLast:=by
 induction h with
 |nil=>exact .nil
 |cons r t ih=>
  cases t with
  |nil=>exact .nil
  |cons q t'=>exact .cons r ih
theorem aI.rep {xs:List V}{us:List ax}(h:aI xs us):∀k:Nat,aI (List.replicate k xs).flatten (List.replicate k us).flatten
 |0=>.nil
 |k+1=>by
  rw[xm,xm,zy,zy];exact aI.append h (aI.rep h k)
theorem aM4 {α:Type}(l:List α):l.eraseIdx (l.length-1)=l.dropLast:=by
 induction l with
 |nil=>rfl
 |cons a r ih=>
  cases r with
  |nil=>rfl
  |cons b r=>
   have e:(a::b::r).length-1=((b::r).length-1)+1:=by
    have h1:(a::b::r).length=r.length+2:=rfl;have h2:(b::r).length=r.length+1:=rfl;lia
   rw[e,List.eraseIdx_cons_succ,ih]
   all_goals rfl
theorem xY (bo:List ax):∀(k:Nat) (acc:List ax),
  List.foldl (λx1 x2=>x1++x2) acc.toArray (List.replicate k bo.toArray)=(acc++(List.replicate k bo).flatten).toArray
 |0,acc=>by simp
 |k+1,acc=>by
  have e:acc.toArray++bo.toArray=(acc++bo).toArray:=by simp
  have e2:(acc++bo)++(List.replicate k bo).flatten=acc++(List.replicate (k+1) bo).flatten:=by
   rw[xm,zy,me]
  rw[<- e2,<- xY bo k (acc++bo),<- e,xm,AS]
section
variable {X:Cx}{ai:List (az×Obj)}{σ:St}{H:Hp}{s:ay}{l b:az}{xs ys zs:List V}
theorem a6.yr {bo its':List ax}{n:Nat}{f:Array ax->Array ax}{t':Nat}(I:a6 X ai σ H s)(hH:H l=some (.lst xs))(e:s.heap.get? l=some { cls:=.type "list",data:=.seq bo.toArray n })(hf:f bo.toArray=its'.toArray)(hv:aI ys its')(hz:ys.length<=sizeLine) :
  a6 X ai σ (upd H l (.lst ys)) { s with heap:=s.heap.update l (Obj.mapSeq f),toks:=t' }:=by
 have q:=PySem.IsL.update e f;rw[hf]at q;refine I.write (x:=l) (e:=l) (by rw[hH];exact trivial) (.inl rfl) (λb' u hb hu=>(Heap.get?_update_other s.heap (Obj.mapSeq f) (Ne.symm hb)).trans hu) ⟨_,q⟩ ?_
 exact⟨hz,its',_,hv,q⟩
theorem a6.Bp {bo:List ax}{t':Nat}(I:a6 X ai σ H s)(hv:aI ys bo)(hz:ys.length<=sizeLine) :
  a6 X ai σ (upd H s.heap.objs.size (.lst ys)) { s with heap:=s.heap.push { cls:=.type "list",data:=.seq bo.toArray },toks:=t' }:=
 I.laid (λ_ _ q=>ez _ q) (da _) ⟨hz,bo,0,hv,jw _ rfl⟩
theorem a6.fresh (I:a6 X ai σ H s):H s.heap.objs.size=none:=I.cj.fresh (da _)
theorem a6.qj (I:a6 X ai σ H s)(hH:H l=some (.lst xs)):xs.length<=sizeLine/\∃(bo:List ax) (n:Nat),aI xs bo/\xs.length=bo.length/\s.heap.get? l=some { cls:=.type "list",data:=.seq bo.toArray n }:=by
 obtain⟨z,bo,n,r,e⟩:=I.cj l _ hH
 exact⟨z,bo,n,r,r.length,e⟩
theorem xZ {n:Nat}(h:n<=sizeLine):Builtin.List.listTooLong n=false:=by
 unfold Builtin.List.listTooLong;exact dm (by lia)
end
section
variable {X:Cx}
def Y3:V->List V->Hp->VK->Prop:=λx vs H Q=>∃l xs y,x = .ref l/\vs = [y]/\H l=some (.lst xs)/\xs.length<sizeLine/\Q .cq (upd H l (.lst (xs++[y])))
theorem tQ:o6 X "list.append" Y3:=by
 intro ai s σ H x vs v us Q I rx rv h
 obtain⟨l,xs,y,rfl,rfl,hH,hz,q⟩:=h
 cases rx
 obtain⟨u,rfl,ru⟩:=rv.one
 obtain⟨z,bo,n,r,hl,e⟩:=I.qj hH
 refine vn F.slot_list_append ⟨_,e,rfl⟩ F.entry_list_append (F.args_list_append_2 _ _) (PySem.list_append l bo.toArray n u (by rw[fu];lia)) ⟨e,?_⟩;refine⟨.cq,_,I.yr (its':=bo++[u]) hH e (by simp) (r.append (.cons ru .nil)) ?_,rfl,q⟩;rw[gq,List.length_singleton];lia
def Y4:V->List V->Hp->VK->Prop:=λx vs H Q=>∃l b xs zs,x = .ref l/\vs = [.ref b]/\H l=some (.lst xs)/\H b=some (.lst zs)/\xs.length+zs.length<=sizeLine/\Q .cq (upd H l (.lst (xs++zs)))
theorem aM5:o6 X "list.extend" Y4:=by
 intro ai s σ H x vs v us Q I rx rv h
 obtain⟨l,b,xs,zs,rfl,rfl,hH,hB,hz,q⟩:=h
 cases rx
 obtain⟨u,rfl,ru⟩:=rv.one
 cases ru
 obtain⟨z,bo,n,r,hl,e⟩:=I.qj hH
 obtain⟨z2,av,n2,r2,qe,e2⟩:=I.qj hB
 have hsz:bo.toArray.size+av.toArray.size<=sizeLine:=by rw[fu,fu];lia
 have rm:¬(!bo.toArray.isEmpty&&Builtin.List.listTooLong (bo.toArray.size+av.toArray.size))=true:=by
  rw[xZ hsz,Bool.and_false];exact gu
 refine vn F.slot_list_extend ⟨_,e,rfl⟩ F.entry_list_extend (F.args_list_extend_2 _ _)
  (AutoSeq1.list_extend_list_list_0 l bo.toArray n b av.toArray n2 rm (by rw[fu];lia) (by lia)) ⟨e,e2,?_⟩
 refine⟨.cq,_,I.yr (its':=bo++av) hH e (by simp) (r.append r2) ?_,rfl,q⟩;rw[gq];lia
def Y5:V->List V->Hp->VK->Prop:=λx vs H Q=>∃l xs y,x = .ref l/\vs = []/\H l=some (.lst xs)/\xs[xs.length-1]? = some y/\Q y (upd H l (.lst xs.dropLast))
theorem aM6:o6 X "list.pop" Y5:=by
 intro ai s σ H x vs v us Q I rx rv h
 obtain⟨l,xs,y,rfl,rfl,hH,hy,q⟩:=h
 cases rx;have FI:=rv.zero;subst FI
 obtain⟨z,bo,n,r,hl,e⟩:=I.qj hH
 obtain⟨u,hu,ru⟩:=r.get hy
 have Cw:bo.toArray[bo.toArray.size-1]? = some u:=by
  show bo.toArray[bo.length-1]? = some u;rw[<- CQ,<- hl];exact hu
 refine vn F.slot_list_pop ⟨_,e,rfl⟩ F.entry_list_pop (F.args_list_pop_1 _) (MeetsSeq.list_pop_last l bo.toArray n u Cw (by rw[fu];lia)) ⟨e,?_⟩;refine⟨y,_,I.yr (its':=bo.dropLast) hH e ?_ r.dropLast ?_,ru,q⟩
 ·show bo.toArray.eraseIdxIfInBounds (bo.toArray.size-1)=bo.dropLast.toArray
  rw[fu,List.eraseIdxIfInBounds_toArray,aM4]
 ·rw[List.length_dropLast]
  lia
def Y6:V->List V->Hp->VK->Prop:=λx vs H Q=>∃l xs,x = .ref l/\vs = []/\H l=some (.lst xs)/\Q .cq (upd H l (.lst []))
theorem aM7:o6 X "list.clear" Y6:=by
 intro ai s σ H x vs v us Q I rx rv h
 obtain⟨l,xs,rfl,rfl,hH,q⟩:=h
 cases rx;have FI:=rv.zero;subst FI
 obtain⟨z,bo,n,r,hl,e⟩:=I.qj hH
 refine vn F.slot_list_clear ⟨_,e,rfl⟩ F.entry_list_clear (F.args_list_clear_1 _) (AutoSeq1.list_clear_list_0 l bo.toArray n (by rw[fu];lia)) ⟨e,?_⟩
 exact⟨.cq,_,I.yr (its':=[]) (ys:=[]) hH e rfl .nil (lh _),rfl,q⟩
def Y7:R2:=λx y H Q=>∃l b xs zs,x = .ref l/\y = .ref b/\H l=some (.lst xs)/\H b=some (.lst zs)/\xs.length+zs.length<=sizeLine/\∀p,H p=none->Q (.ref p) (upd H p (.lst (xs++zs)))
theorem aM8:bT X (binaryOp .Add) Y7:=by
 intro ai s σ H x y v u Q I rx ry h
 obtain⟨l,b,xs,zs,rfl,rfl,hH,hB,hz,q⟩:=h
 cases rx;cases ry
 obtain⟨z,bo,n,r,hl,e⟩:=I.qj hH
 obtain⟨z2,av,n2,r2,qe,e2⟩:=I.qj hB
 refine PySem.P.add_list e e2 ?_ (by rw[fu,fu];lia);have ea:bo.toArray++av.toArray=(bo++av).toArray:=by simp
 rw[ea]
 exact⟨.ref _,_,I.Bp (t':=s.toks) (r.append r2) (by rw[gq];lia),rfl,q _ I.fresh⟩
def Y8:R2:=λx y H Q=>∃l k xs,x = .ref l/\y = .int k/\H l=some (.lst xs)/\-(2^63)<=k/\k<2^63/\xs.length*k.toNat<=sizeLine/\
 ∀p,H p=none->Q (.ref p) (upd H p (.lst (List.replicate k.toNat xs).flatten))
theorem yA {α:Type}(xs:List α)(k:Nat):(List.replicate k xs).flatten.length=k*xs.length:=by
 induction k with
 |zero=>simp
 |succ k ih=>rw[xm,zy,gq,ih,Nat.succ_mul,Nat.add_comm]
theorem aM9:bT X (binaryOp .Mult) Y8:=by
 intro ai s σ H x y v u Q I rx ry h
 obtain⟨l,k,xs,rfl,rfl,hH,h1,h2,hz,q⟩:=h
 cases rx
 obtain⟨t,rfl⟩:=ry
 obtain⟨z,bo,n,r,hl,e⟩:=I.qj hH
 have ao:bo.toArray.size*k.toNat<=sizeLine:=by rw[fu,<- hl];exact hz
 have Gj:¬bo.toArray.size*k.toNat>(2^63-1)/8:=by
  have:(sizeLine:Nat)<=(2^63-1)/8:=by decide
  lia
 have Gd:¬(!Builtin.List.listFitsIndex k)=true:=by
  rw[fitsIndex_both h1 h2];exact gu
 have rm:¬Builtin.List.listTooLong (bo.toArray.size*k.toNat)=true:=by
  rw[xZ ao];exact gu
 have FU:List.foldl (λx1 x2=>x1++x2) #[] (List.replicate (if bo.toArray.isEmpty=true then 0 else k.toNat) bo.toArray)=(List.replicate k.toNat bo).flatten.toArray:=by
  have f0:∀m:Nat,List.foldl (λx1 x2=>x1++x2) #[] (List.replicate m bo.toArray)=(List.replicate m bo).flatten.toArray:=λm=>by
   have:=xY bo m []
   rw[List.nil_append]at this;exact this
  rw[f0];cases bo with
  |nil=>simp
  |cons a r'=>rw[if_neg (by simp)]
 refine wpAny_binaryOp_repeat_ref (T:="list") (U:="int") (by decide) ⟨_,e,rfl⟩ (λs'=>typeIs_int s' k t) noFill_list_mul F.fills_int_mul AR repeat_list F.slot_int_index.lookup
  (vn AR (typeIs_int s k t) F.entry_int_rmul (F.args_int_rmul_2 _ _) (int___rmul___int_list k t l bo.toArray n)
   ⟨e,rfl,⟨_,e,rfl⟩,vn F.slot_list_mul ⟨_,e,rfl⟩ F.entry_list_mul (F.args_list_mul_2 _ _) (AutoListH.list___mul___list_int_3 l bo.toArray n k t Gd Gj rm) ⟨e,?_⟩⟩)
 rw[FU]
 exact⟨.ref _,_,I.Bp (t':=s.toks) (r.rep k.toNat) (by rw[yA,vo];exact hz),rfl,q _ I.fresh⟩
end
section
variable {κ:Type}[DecidableEq κ]
def i6 (bq:List (κ×V))(k:κ):Option V:=(bq.find? λkv=>decide (kv.1=k)).map (·.2)
def gG (bq:List (κ×V))(k:κ)(v:V):List (κ×V):=
 if (bq.any λkv=>decide (kv.1=k))=true then bq.map (λkv=>if kv.1=k then (kv.1,v) else kv) else bq++[(k,v)]
theorem yB {p:κ×V}{r:List (κ×V)}{k:κ}(e:p.1=k):i6 (p::r) k=some p.2:=by simp[i6,qt,e]
theorem yC {p:κ×V}{r:List (κ×V)}{k:κ}(e:¬p.1=k):i6 (p::r) k=i6 r k:=by simp[i6,qt,e]
theorem Y9 (k:κ):∀bq:List (κ×V),(bq.any λkv=>decide (kv.1=k))=(i6 bq k).isSome
 |[]=>rfl
 |p::r=>by
  rw[List.any_cons];by_cases e:p.1=k
  ·simp only[yB e,eu e,Bool.true_or,Option.isSome_some]
  ·rw[yC e,dm e,Bool.false_or];exact Y9 k r
theorem Z0 (bq:List (κ×V))(k:κ)(v:V):(gG bq k v).length<=bq.length+1:=by
 unfold gG;split
 ·rw[dt];lia
 ·rw[gq,sj,List.length_nil];lia
theorem iX.ie {o:Option V}{u:Option ax}(r:iX o u):o.isSome=u.isSome:=by
 cases o with
 |none=>cases u with
  |none=>rfl
  |some _=>exact (show False from r).elim
 |some _=>cases u with
  |none=>exact (show False from r).elim
  |some _=>rfl
theorem KV.val {bq:List (κ×V)}{vs:List (κ×ax)}(r:KV bq vs)(k:κ):iX (i6 bq k) (valueAt vs k):=by
 unfold KV at r
 induction r with
 |nil=>exact zw
 |@cons p q ps qs h t ih=>
  obtain⟨h1,h2⟩:=h
  by_cases e:p.1=k
  ·have e':q.1=k:=h1.symm.trans e
   have b:valueAt (q::qs) k=some q.2:=by simp[valueAt,qt,e']
   rw[yB e,b];exact h2
  ·have e':¬q.1=k:=λz=>e (h1.trans z)
   have b:valueAt (q::qs) k=valueAt qs k:=by simp[valueAt,qt,e']
   rw[yC e,b];exact ih
theorem KV.any {bq:List (κ×V)}{vs:List (κ×ax)}(r:KV bq vs)(k:κ):(bq.any λkv=>decide (kv.1=k))=vs.any λkv=>decide (kv.1=k):=by
 unfold KV at r
 induction r with
 |nil=>rfl
 |cons h t ih=>rw[List.any_cons,List.any_cons,ih,h.1]
theorem KV.Bj {bq:List (κ×V)}{vs:List (κ×ax)}(r:KV bq vs)(k:κ){y:V}{u:ax}(ry:aO y u) :
  KV (bq.map λkv=>if kv.1=k then (kv.1,y) else kv) (vs.map λkv=>if kv.1=k then (kv.1,u) else kv):=by
 unfold KV at r ⊢
 induction r with
 |nil=>exact .nil
 |@cons p q ps qs h t ih=>
  rw[gg,gg];refine .cons ?_ ih
  obtain⟨h1,h2⟩:=h
  by_cases e:p.1=k
  ·rw[if_pos e,if_pos (h1.symm.trans e)];exact⟨h1,ry⟩
  ·rw[if_neg e,if_neg (λz=>e (h1.trans z))];exact⟨h1,h2⟩
theorem KV.put {bq:List (κ×V)}{vs:List (κ×ax)}(r:KV bq vs)(k:κ){y:V}{u:ax}(ry:aO y u):KV (gG bq k y) (stored vs k u):=by
 unfold gG stored;rw[r.any k];by_cases e:(vs.any λkv=>decide (kv.1=k))=true
 ·rw[if_pos e,if_pos e];exact r.Bj k ry
 ·rw[if_neg e,if_neg e];exact Paired.snoc r ⟨rfl,ry⟩
theorem KV.length {bq:List (κ×V)}{vs:List (κ×ax)}(r:KV bq vs):bq.length=vs.length:=Paired.length r
end
section
variable {P:ba}{w:bd}{H:Hp}{h:Heap}{a:az}
theorem tR {u:HO}(ok:bS P w H h)(e:Rd H a u):bK P w H h a u:=e.ok ok
theorem aN0 {bq:List (bZ×V)}(ok:bS P w H h)(e:Rd H a (.dK bq)):bq.length<=sizeLine/\(a==sysModules)=false/\∃vs,KV bq vs/\h.DictOf (t6 P w) a vs:=
 show bK P w H h a (.dK bq) from tR ok e
end
section
variable {X:Cx}{ai:List (az×Obj)}{σ:St}{H:Hp}{s:ay}{a:az}{y v:V}{u r:ax}{o:Option V}{A:bc}{E:ax→ay→Prop}
theorem a6.big (I:a6 X ai σ H s):sysModules<s.heap.objs.size:=by
 have h:mainGlobals<s.heap.objs.size:=(I.mod.glob.keeps I.bk).lt;exact Nat.lt_trans (by decide) h
theorem yD {h':Heap}{t':Nat}{ob:HO}(I:a6 X ai σ H s)(mu:qA (H a))(hs:Heap.SameBut a s.heap h')(he:∃q,h'.get? a=some q)(new:bK X.prog X.w (upd H a ob) h' a ob) :
  a6 X ai σ (upd H a ob) { s with heap:=h',toks:=t' }:=
 I.write (x:=a) (e:=a) mu (.inl rfl) (λb q hb z=>(hs.2 b hb).trans z) he new
end
section
variable {X:Cx}{ai:List (az×Obj)}{σ:St}{H:Hp}{s:ay}{a:az}{bq:List (bZ×V)}{k:bZ}{u:ax}{A:bc}{E:ax→ay→Prop}
theorem aN1 {Q:ax->ay->Prop}(I:a6 X ai σ H s)(e:Rd H a (.dK bq))(h:∀t s',a6 X ai σ H s'->Q (.int bq.length t) s'):wpAny (model X.prog X.w) A (call (.builtin "len") [.ref a]) Q E s:=by
 obtain⟨z,hd,vs,rel,dd⟩:=aN0 I.cj e
 refine call_len_dict hd dd (by rw[<- rel.length];rw[sizeLine_eq]at z;lia) ?_;rw[<- rel.length];exact h _ _ (I.tok _)
end
def yE (i:Expr):Prop:=∀ov iv,subscripted i false ov iv=operate [ov,iv] (getItem ov iv)
theorem aN2 {prog:ba}{w:bd}{A:bc}{E:ax->ay->Prop}{s:ay}{env:Env}{value slice:Expr}{pos:Pos}{T id:String}{Q:ax->ay->Prop}(hl:typeLookup (.type T) "__getitem__" = pure (some (.builtin id)))(hs:yE slice)(h:wpAny (model prog w) A (eval value env) (λo cg=>wpAny (model prog w) A (eval slice env) (λi ot=>ot.TypeIs o T/\wpAny (model prog w) A (getItem o i) Q E ot) E cg) E s) :
  wpAny (model prog w) A (eval (.Subscript value slice pos) env) Q E s:=by
 refine Subscript_ (mw h (λo cg qk=>mw qk (λi ot Bs=>?_) λ_ _ x=>x) λ_ _ x=>x)
 obtain⟨hT,Bs⟩:=Bs
 unfold subscriptTail;refine bw ?_;rw[getitemInPython_of_ne hT.not_modules];refine bw (wpAny_specialOf hT hl ?_);have fin:wpAny (model prog w) A (subscripted slice false o i) (λr Ab=>wpAny (model prog w) A (letTemporaryGo value o r >>= λ_=>pure r) Q E Ab) E ot:=by
  rw[hs o i];exact wpAny_operating (mw Bs (λr Ab Fw=>bw (wpAny_letTemporaryGo (cy Fw))) λ_ _ x=>x)
 first
  |exact cy (bw fin)
  |exact bw (cy (bw fin))
  |exact bw fin
end L2
namespace Pp
open PySem PySem.W PySem.Calls PyProof.Rows
theorem aN3 {P:Params}{h:Heap}:∀(ns:ag) (vs:List ax),WellAll P h vs (ns.map WData.int)->IntsAre vs ns:=by
 intro ns
 induction ns with
 |nil=>
  intro vs w;rw[List.map_nil]at w;cases w;exact .nil
 |cons n ns ih=>
  intro vs w;rw[gg]at w;cases w with
  |cons a b=>
   cases a;exact .cons _ _ (ih _ b)
theorem Z1 {l:OpenLaw}{n:Nat}(hn:l.most=some n){P:Params}{h:Heap}{args:List WData}{vals:List ax}(wo:l.row.toRowW.claim.pre args=true)(DD:WellAll P h vals args) :
  ∃a vs ns,vals = [Value.ref a]/\args = [WData.list (ns.map WData.int)]/\h.get? a=some { cls:=.type "list",data:=.seq vs.toArray }/\IntsAre vs ns/\ns.length<=n:=by
 have Ri:WShape.hasAll [] args [.list .int]=true:=(pre_splitW wo).1;have hc:l.pre.holds [] { args:=args }=true:=(pre_splitW wo).2
 obtain⟨d,r,rfl,h1,h2⟩:=hasAllW_cons Ri
 obtain rfl:=hasAllW_nil h2
 obtain⟨xs,rfl,h3⟩:=hasW_list h1
 obtain⟨ns,rfl⟩:=items_int h3
 have ao:ns.length<=n:=by
  unfold OpenLaw.pre at hc;have h4:(WTm.not (.lt (.lit (.int (n:Int))) (.len (.arg 0)))).holds [] { args:=[.list (ns.map .int)] }=true:=by
   have h4:=(holds_andW hc).1;rw[hn]at h4;exact h4
  have h5:=condW_of h4 (w_not (w_lt w_lit (w_len_list (w_arg rfl))));rw[dt]at h5;refine Nat.le_of_not_lt λq=>?_
  have q':(n:Int)<((ns.length:Nat):Int):=by lia
  first
   |(rw[eu q']at h5;exact absurd h5 (by decide))
   |(simp at h5;lia)
 cases DD with
 |cons w1 w2=>
  cases w2;cases w1 with
  |list ho ur=>exact⟨_,_,ns,rfl,rfl,ho,aN3 ns _ ur,ao⟩
theorem Z2 (l:OpenLaw)(args:List WData):l.row.toRowW.claim.post args (.bool true) args=true:=
 postW_of (r:=l.row.toRowW) (X:=(true==true))
  (show WShape.has [] (.bool true) .bool=true by first|rfl|decide|simp[WShape.has,WShape.arms,WShape.armsAll])
  (show (WTm.eq .res (.lit (.bool true))).value [] { args:=args,res:=some (.bool true),after:=args }=some (.bool (true==true)) from w_eq_bool (w_res rfl) w_lit) rfl
theorem bG5 {l:OpenLaw}{n:Nat}{q:ba}{loose:List Str}{XP:(Str->Option ax)->Heap->Prop}{YP:bd->Heap->Prop}{d:DefRec}{x:Str}(hn:l.most=some n)(BC:d.params.defaults = [])(zc:∀pm cd doc v:ax,bindArgs (docDef d.name d.params d.body d.scope pm cd doc) ⟨[v],[]⟩=pure [(x,v)])(hx:d.scope.names.lookup x=some .local∨d.scope.names.lookup x=some .cell)(hk:d.scope.kind = .function)(DL:d.scope.isCoroutine=false)(FZ:d.scope.isGenerator=false)(body:∀(w:bd) (fh cg s:ay) (mg mb:Str->Option ax) (fa:az) (o:Obj) (pm cd doc:ax) (a:az) (vs:List ax) (ns:ag),
   Ground q loose [] XP w fh mg mb cg.heap->YP w cg.heap->
   cg.heap.get? fa=some o->o.data = .func (docDef d.name d.params d.body d.scope pm cd doc)->cg.heap.CodeRec cd d.name->mg d.name=some (.ref fa)->
   cg.heap.get? a=some { cls:=.type "list",data:=.seq vs.toArray }->IntsAre vs ns->ns.length<=n->
   s.gens = #[]->s.os=cg.os->
   Fr cg.heap cg.heap.objs.size s.heap (bindL (envOfC d.name d.scope cg.heap.objs.size fa cd).kindOf [(x,.ref a)] λ_=>none)->
   Cl cg.heap.objs.size (cellsFrom (cg.heap.objs.size+1) d.scope.names []) s.heap (bindC (envOfC d.name d.scope cg.heap.objs.size fa cd).kindOf [(x,.ref a)] λ_=>none)->
   wpAny (model l.prog w) (callerA.deeper (envOfC d.name d.scope cg.heap.objs.size fa cd)) (execs d.body (envOfC d.name d.scope cg.heap.objs.size fa cd))
    (λf s'=>f = .ret (.bool true)/\OldK cg.heap s'.heap/\s'.os=cg.os/\AllBare s'.gens) (λ_ _=>False) s) :
  WalkO q loose XP YP l.row.toRowW d [] (λf vs=>PySem.call f vs):=by
 intro w fh cg mg mb G Y fa o pm cd doc dV kV ho hd gf hD hmg hg args vals as wo FX Rk DD Ry;obtain rfl:dV = .none:=Dflts.none hD BC;obtain rfl:kV = .none:=Dflts.noKw hD
 obtain⟨a,vs,ns,rfl,rfl,yw,hints,ao⟩:=Z1 hn wo DD
 refine enter_call ?_;refine call_cells_ret (o:=o) (by rw[depth_caller];decide) ho (fd_plain hd) G.T.nolimit gf (zc pm cd doc (.ref a)) (λy hy=>?_) (λqk tk F X=>?_) DL FZ hk
 ·obtain rfl:y=(x,Value.ref a):=eh.mp hy
  rcases hx with e|e
  ·exact .inl e
  ·exact .inr ⟨e,cellsFrom_some _ _ _ (.inl e)⟩
 ·refine mw (body w fh cg { cg with heap:=qk,toks:=tk } mg mb fa o pm cd doc a vs ns G Y ho (fd_plain hd) gf hmg yw hints ao hg rfl F X) (λf s' hq=>?_) (λ_ _ hq=>hq)
  obtain⟨rfl,h2,h3,h4⟩:=hq
  exact⟨.inl ⟨.bool true,.bool true,[],rfl,λ_=>rfl,.bool true,Z2 l _,λ_=>⟨List.Pairwise.nil,λ_ hm=>(nomatch hm)⟩⟩,h2,h3,h4⟩
theorem aN4 {l:OpenLaw}{n:Nat}{q:ba}{loose:List Str}{XP:(Str->Option ax)->Heap->Prop}{YP:bd->Heap->Prop}{d:DefRec}(hn:l.most=some n)(BC:d.params.defaults = [])(call:∀(w:bd) (fh cg:ay) (mg mb:Str->Option ax) (fa:az) (o:Obj) (pm cd doc:ax) (a:az) (vs:List ax) (ns:ag),
   Ground q loose [] XP w fh mg mb cg.heap->YP w cg.heap->
   cg.heap.get? fa=some o->o.data = .func (docDef d.name d.params d.body d.scope pm cd doc)->cg.heap.CodeRec cd d.name->mg d.name=some (.ref fa)->
   cg.heap.get? a=some { cls:=.type "list",data:=.seq vs.toArray }->IntsAre vs ns->ns.length<=n->cg.gens = #[]->
   codeAny (model l.prog w) callerA (.call (.ref fa) ⟨[.ref a],[]⟩) (λr s'=>r = .ok (.ret (.bool true))/\OldK cg.heap s'.heap/\s'.os=cg.os/\AllBare s'.gens) cg) :
  WalkO q loose XP YP l.row.toRowW d [] (λf vs=>PySem.call f vs):=by
 intro w fh cg mg mb G Y fa o pm cd doc dV kV ho hd gf hD hmg hg args vals as wo FX Rk DD Ry;obtain rfl:dV = .none:=Dflts.none hD BC;obtain rfl:kV = .none:=Dflts.noKw hD
 obtain⟨a,vs,ns,rfl,rfl,yw,hints,ao⟩:=Z1 hn wo DD
 refine enter_call (codeAny_mono (call w fh cg mg mb fa o pm cd doc a vs ns G Y ho (fd_plain hd) gf hmg yw hints ao hg) λr s' hq=>?_)
 obtain⟨rfl,h2,h3,h4⟩:=hq
 exact⟨.inl ⟨.bool true,.bool true,[],rfl,λ_=>rfl,.bool true,Z2 l _,λ_=>⟨List.Pairwise.nil,λ_ hm=>(nomatch hm)⟩⟩,h2,h3,h4⟩
end Pp
namespace L2
open PySem PySem.Spec PyProof.Rows
theorem Z3:∀{vs:List ax}{ns:ag},IntsAre vs ns->aI (ns.map V.int) vs
 |_,_,.nil=>.nil
 |_,_,.cons n t h=>.cons ⟨t,rfl⟩ (Z3 h)
def dE (s:Stmt):Arguments:=match s with
 |.FunctionDef _ a _ _ _ _ _ _ _ _=>a
 |_=>{ posonlyargs:=[],args:=[],vararg:=none,kwonlyargs:=[],kw_defaults:=[],kwarg:=none,defaults:=[] }
def cF (s:Stmt):List Stmt:=match s with
 |.FunctionDef _ _ b _ _ _ _ _ _ _=>b
 |_=>[]
def aJ (s:Stmt):Scope:=match s with
 |.FunctionDef _ _ _ _ _ _ sc _ _ _=>sc
 |_=>{ kind:=.function,names:=[],isGenerator:=false,isCoroutine:=false }
abbrev c7:fB:=λ_ _ _ _ _ _=>False
abbrev E0:XK:=λ_ _ _=>False
theorem mH {X:Cx}:o3 c7 X E0:=λ_ _ _ _ _ _ _ h=>h.elim
structure bF (K:ad)(x qual:Str)(st:Stmt)(f:az)(fd:FuncData):Prop where
 ex:∃(oc:ax) (od:Option az) (kV doc pm:ax) (an:Option az) (cm ct:ax) (qd:Array (Option ax)),
  fd=PySem.W.fnOf x qual (dE st) (cF st) (aJ st) .none kV doc pm an cm ct/\K.lookup f=some ⟨oc,od,.func fd,qd⟩/\PySem.W.codeIn K cm qual=true
 kp:PySem.W.keepIn K (.ref f)=true
section
variable {P:ba}{w:bd}{K:ad}{mg:Str→Option ax}{base:Heap}
theorem bF.ok {x qual:Str}{st:Stmt}{f:az}{fd:FuncData}{N ps:List Str}{k:Nat}{sp:Sp}(F:bF K x qual st f fd)(S:bx N ps (aJ st))(len:∀vs H Q E,sp vs H Q E->vs.length=ps.length)(nq:∀(cm:ax) (A:bc) (outer:List Env) (s:ay) (H:Hp) (vs:List V) (Q:VK) (E:XK),bL k (A.deeper (envOfC qual (aJ st) s.heap.objs.size f cm))->sp vs H Q E->
   ∃t,eN (eF c7 P w K mg base N qual (aJ st) f cm A outer s H E).sv (cF st) t/\t { nx:=λ_ H'=>Q .cq H',rt:=Q } (gA N vs) H):d7 P w K mg base c7 (k+1) f fd ps sp:=by
 obtain⟨oc,od,kV,doc,pm,an,cm,ct,qd,rfl,lk,gf⟩:=F.ex
 refine W6 lk gf S len λA outer s H vs Q E hr vg=>?_
 obtain⟨t,h,q⟩:=nq cm A outer s H vs Q E hr vg
 exact⟨t,h.sv,q⟩
theorem bF.binds {x qual:Str}{st:Stmt}{f:az}{fd:FuncData}{ps:List Str}(F:bF K x qual st f fd)(h:∀(kV doc pm:ax) (an:Option az) (cm ct:ax) (us:List ax),us.length=ps.length->bindArgs (PySem.W.fnOf x qual (dE st) (cF st) (aJ st) .none kV doc pm an cm ct) ⟨us,[]⟩=pure (ps.zip us)):iK K fd ps []:=by
 obtain⟨oc,od,kV,doc,pm,an,cm,ct,qd,rfl,lk,gf⟩:=F.ex
 exact .all (h kV doc pm an cm ct)
theorem yF {x qual:Str}{st:Stmt}{f:az}{oc:ax}{od an:Option az}{qd:Array (Option ax)}{kV doc pm cm ct:ax}(l:K.lookup f=some ⟨oc,od,.func (PySem.W.fnOf x qual (dE st) (cF st) (aJ st) .none kV doc pm an cm ct),qd⟩)(c:PySem.W.codeIn K cm qual=true)(k:PySem.W.keepIn K (.ref f)=true):bF K x qual st f (PySem.W.fnOf x qual (dE st) (cF st) (aJ st) .none kV doc pm an cm ct):=⟨⟨oc,od,kV,doc,pm,an,cm,ct,qd,rfl,l,c⟩,k⟩
end
theorem Z4 {n:Nat}(h:n<=1000):n<sizeLine:=Nat.lt_of_le_of_lt h (by decide)
section
variable {X:Cx}
theorem pv (i:Nat){x:Str}{pos:Pos}(hN:X.N[i]? = some x:=by rfl)(hv:dM X.env.scope x:=by first|exact Or.inl rfl|exact Or.inr (Or.inl rfl)|exact Or.inr (Or.inr rfl))(hd:(x==("__debug__":Str))=false:=by decide)(gf:(x==("__classdict__":Str))=false:=by decide):PE X (.Name x pos) (cZ i):=gX hN hv hd gf
theorem aN5:dO X (.builtin "len") (λxs H Q=>∃a bq,xs = [V.ref a]/\H a=some (.dK bq)/\Q (.int bq.length) H):=by
 intro ai s σ H xs us Q I r h
 obtain⟨a,bq,rfl,ha,q⟩:=h
 obtain⟨u,rfl,ru⟩:=jM r
 cases ru;exact aN1 I (.inl ha) λt s' I'=>⟨.int bq.length,H,I',⟨t,rfl⟩,q⟩
end
theorem bA {A B:Prop}(h:B):if false=true then A else B:=by
 rw[if_neg gu];exact h
theorem cU {A B:Prop}(h:A):if true=true then A else B:=by
 rw[if_pos rfl];exact h
def aD (H H':Hp):Prop:=∀b o,H b=some o->H' b=some o
theorem aD.refl (H:Hp):aD H H:=λ_ _ h=>h
theorem aD.trans {H H1 H2:Hp}(a:aD H H1)(b:aD H1 H2):aD H H2:=λc o h=>b c o (a c o h)
theorem aD.free {H H':Hp}(e:aD H H'){l:az}(h:H' l=Option.none):H l=Option.none:=by
 cases q:H l with
 |none=>rfl
 |some o=>
  rw[e l o q]at h;cases h
def fO (cells:List (Str×az)):List (Str×NameKind)->List (Str×az)->List (Str×az)
 |[],cs=>cs
 |(n,k)::r,cs=>fO cells r (if k==.free then (n,(cells.lookup n).getD 0)::cs else cs)
theorem yG {env:Env}:∀(ns:List (Str×NameKind)) (cs:List (Str×az)),(∀x∈ns,x.2 = .free->∃c,env.cells.lookup x.1=some c)->
  (forIn ns cs (λ(x:Str×NameKind) r=>(match x with
   |(name,kind)=>if (kind==.free)=true then (do let y <- cellOf env name;pure (ForInStep.yield ((name,y)::r))) else pure (ForInStep.yield r)):_->_->Sem _))=(pure (fO env.cells ns cs):Sem (List (Str×az)))
 |[],cs,_=>by rw[List.forIn_nil];rfl
 |(n,k)::r,cs,h=>by
  rw[List.forIn_cons];have hr:∀x∈r,x.2 = .free->∃c,env.cells.lookup x.1=some c:=λx hx=>h x (gc _ hx)
  cases hk:(k==NameKind.free) with
  |true=>
   have e:k = .free:=by simpa using hk
   obtain⟨c,hc⟩:=h (n,k) dv e
   simp only[hk,if_true];have e1:cellOf env n=pure c:=by unfold cellOf;rw[hc]
   rw[e1];show ((pure c >>= λy=>pure (ForInStep.yield ((n,y)::cs))) >>= _:Sem _)=_;rw[pure_bind,pure_bind]
   have:=yG (env:=env) r ((n,c)::cs) hr
   refine this.trans ?_;unfold fO;simp only[hk,if_true,hc,Option.getD_some];cases r<;>rfl
  |false=>
   simp only[hk,mf,kc];rw[pure_bind]
   have:=yG (env:=env) r cs hr
   refine this.trans ?_
   conv=>rhs;unfold fO
   simp only[hk,mf,kc]
theorem yH {scope:Scope}{env:Env}(h:∀x∈scope.names,x.2 = .free->∃c,env.cells.lookup x.1=some c):closureFor scope env=pure (fO env.cells scope.names []):=by
 have e:=yG (env:=env) scope.names [] h;unfold closureFor;rw[show (pure (fO env.cells scope.names []):Sem (List (Str×az)))=(pure (fO env.cells scope.names []) >>= pure) by rw[pure_bind]];rw[<- e]
theorem tS {cells:List (Str×az)}:∀(ns:List (Str×NameKind)) (cs:List (Str×az)) {x:Str}{c:az},(∀y∈ns,y.2 = .free->∃c,cells.lookup y.1=some c)->
  (∀x c,cs.lookup x=some c->cells.lookup x=some c)->(fO cells ns cs).lookup x=some c->cells.lookup x=some c
 |[],cs,x,c,_,hc,h=>hc x c h
 |(n,k)::r,cs,x,c,hn,hc,h=>by
  unfold fO at h;have hr:∀y∈r,y.2 = .free->∃c,cells.lookup y.1=some c:=λy hy=>hn y (gc _ hy)
  cases hk:(k==NameKind.free) with
  |false=>
   simp only[hk,mf,kc]at h;exact tS r cs hr hc h
  |true=>
   simp only[hk,if_true]at h;refine tS r _ hr (λy d e=>?_) h
   obtain⟨c0,h0⟩:=hn (n,k) dv (by simpa using hk)
   have h0:cells.lookup n=some c0:=h0;rw[h0]at e;rw[tm]at e;by_cases Ie:y=n
   ·subst Ie
    simp only[beq_self_eq_true,Option.getD_some]at e;rw[h0];exact e
   ·have:(y==n)=false:=CO.mpr Ie
    simp only[this]at e;exact hc y d e
theorem yI {cells:List (Str×az)}:∀(ns:List (Str×NameKind)) (cs:List (Str×az)) {x:Str},((x,NameKind.free)∈ns∨∃c,cs.lookup x=some c)->∃c,(fO cells ns cs).lookup x=some c
 |[],cs,x,h=>by
  rcases h with h|h
  ·simp at h
  ·exact h
 |(n,k)::r,cs,x,h=>by
  unfold fO;refine yI r _ ?_;rcases h with h|⟨c,h⟩
  ·rcases eg.mp h with e|e
   ·cases e
    exact .inr ⟨_,by simp[tm];rfl⟩
   ·exact .inl e
  ·right
   cases hk:(k==NameKind.free) with
   |false=>exact⟨c,by simpa[hk] using h⟩
   |true=>
    simp only[if_true];rw[tm];by_cases Ih:(x==n)=true
    ·simp only[Ih];exact⟨_,rfl⟩
    ·simp only[Av.mpr Ih];exact⟨c,h⟩
theorem tT {env:Env}:∀{names:List (Str×NameKind)}{x:Str}{k:NameKind},(names.map λ(n,k)=>if (k==NameKind.free&&env.scope.kind==.function&&env.kindOf n==some .cell) then (n,NameKind.cell) else (n,k)).lookup x=some k->
  names.lookup x=some k∨(names.lookup x=some .free/\k = .cell)
 |[],_,_,h=>by simp at h
 |(n,q)::r,x,k,h=>by
  have ih:=@tT env r x k;rw[gg]at h;by_cases hx:(x==n)=true
  ·have e:x=n:=by simpa using hx
   subst e;by_cases hc:(q==NameKind.free&&env.scope.kind==.function&&env.kindOf x==some .cell)=true
   ·simp only[hc,if_true,tm,beq_self_eq_true]at h
    have hq:q = .free:=by simp at hc;exact hc.1.1
    exact .inr ⟨by simp[tm,hq],(ip h).symm⟩
   ·simp only[hc,mf,kc,tm,beq_self_eq_true]at h
    exact .inl (by simp[tm];exact ip h)
  ·have yu:(x==n)=false:=Av.mpr hx
   have h':(r.map λ(n,k)=>if (k==NameKind.free&&env.scope.kind==.function&&env.kindOf n==some .cell) then (n,NameKind.cell) else (n,k)).lookup x=some k:=by
    by_cases hc:(q==NameKind.free&&env.scope.kind==.function&&env.kindOf n==some .cell)=true
    ·simp only[hc,if_true,tm,yu]at h;exact h
    ·simp only[hc,mf,kc,tm,yu]at h;exact h
   simp only[tm,yu];exact ih h'
def h8 (fr:List (Option Nat))(σ:St):St:=fr.map λo=>o.bind λj=>(σ[j]?).join
def Wk (AD AB:St):Prop:=AD.length=AB.length/\∀(i:Nat) v,AD[i]? = some (some v)->AB[i]? = some (some v)
theorem Wk.refl (σ:St):Wk σ σ:=⟨rfl,λ_ _ h=>h⟩
theorem Wk.set {σ τ:St}{i:Nat}{v:V}(h:Wk σ τ)(hi:σ[i]? = some none):Wk σ (τ.set i (some v)):=by
 refine⟨by rw[xi];exact h.1,λj w e=>?_⟩;by_cases hj:j=i
 ·subst hj;rw[hi]at e;cases e
 ·rw[vb (Ne.symm hj)];exact h.2 j w e
theorem kH:∀(ns:List (Str×NameKind)) (n:Nat) (cs:List (Str×az)),cellsFrom n ns cs=cellsFrom n ns []++cs
 |[],_,_=>rfl
 |(x,k)::r,n,cs=>by
  unfold cellsFrom;split
  ·rw[kH r (n+1) ((x,n)::cs),kH r (n+1) [(x,n)]];simp
  ·exact kH r n cs
theorem yJ:∀(ns:List (Str×NameKind)) (n:Nat) {x:Str}{c:az},(x,c)∈cellsFrom n ns []->(x,NameKind.cell)∈ns
 |[],_,_,_,h=>by simp[cellsFrom]at h
 |(y,k)::r,n,x,c,h=>by
  unfold cellsFrom at h;split at h
  ·rename_i hk
   rw[kH]at h;rcases jk.mp h with z|z
   ·exact gc _ (yJ r _ z)
   ·rw[eh]at z
    cases z
    have:k = .cell:=by simpa using hk
    rw[this];exact dv
  ·exact gc _ (yJ r _ h)
theorem tU:∀(ns:List (Str×NameKind)) (n:Nat) {x:Str},(x,NameKind.cell)∈ns->∃c,(x,c)∈cellsFrom n ns []
 |(y,k)::r,n,x,h=>by
  unfold cellsFrom;rcases eg.mp h with z|z
  ·cases z
   rw[if_pos (by rfl),kH]
   exact⟨n,ny _ (by simp)⟩
  ·split
   ·obtain⟨c,hc⟩:=tU r (n+1) z
    rw[kH]
    exact⟨c,uc _ hc⟩
   ·exact tU r n z
theorem yK {α:Type}:∀{l:List (Str×α)}{x:Str}{c:α},(x,c)∈l->∃d,l.lookup x=some d
 |(y,v)::r,x,c,h=>by
  rw[tm];cases hb:x==y with
  |true=>exact⟨v,rfl⟩
  |false=>
   rcases eg.mp h with z|z
   ·cases z;simp at hb
   ·exact yK z
theorem tV {α:Type}{x:Str}:∀(l r:List (Str×α)),(l++r).lookup x=(match l.lookup x with|some v=>some v|none=>r.lookup x)
 |[],_=>rfl
 |(y,v)::l,r=>by
  rw[List.cons_append,tm,tm];cases hb:x==y with
  |true=>rfl
  |false=>exact tV l r
def iL (X:Cx)(scope:Scope)(C:az):List (Str×az):=cellsFrom (C+1) scope.names (fO X.env.cells scope.names [])
theorem mI {X:Cx}{scope:Scope}{C:az}{x:Str}{c:az}(h:(iL X scope C).lookup x=some c) :
  (x,c)∈cellsFrom (C+1) scope.names []∨((∀d,(x,d)∉cellsFrom (C+1) scope.names [])/\(fO X.env.cells scope.names []).lookup x=some c):=by
 unfold iL at h;rw[kH,tV]at h;cases e:(cellsFrom (C+1) scope.names []).lookup x with
 |some v=>rw[e]at h;cases h;exact .inl (vt e)
 |none=>
  rw[e]at h;refine .inr ⟨λd hd=>?_,h⟩
  obtain⟨d',z⟩:=yK hd
  rw[e]at z;cases z
theorem aN6 {X:Cx}{scope:Scope}{C:az}{x:Str}{c:az}(hn:(x,NameKind.cell)∉scope.names)(h:(fO X.env.cells scope.names []).lookup x=some c):(iL X scope C).lookup x=some c:=by
 unfold iL;rw[kH,tV];cases e:(cellsFrom (C+1) scope.names []).lookup x with
 |some v=>exact absurd (yJ _ _ (vt e)) hn
 |none=>exact h
theorem Z5 {X:Cx}{scope:Scope}{C:az}{x:Str}(h:(x,NameKind.cell)∈scope.names∨∃c,(fO X.env.cells scope.names []).lookup x=some c):∃c,(iL X scope C).lookup x=some c:=by
 unfold iL;rw[kH,tV];cases e:(cellsFrom (C+1) scope.names []).lookup x with
 |some v=>exact⟨v,rfl⟩
 |none=>
  rcases h with h|h
  ·obtain⟨c,hc⟩:=tU scope.names (C+1) h
   obtain⟨d,hd⟩:=yK hc
   rw[e]at hd;cases hd
  ·exact h
def cG (X:Cx)(scope:Scope)(N:List Str)(s:ay)(H:Hp)(C:az)(fp:List az)(E:ax->ay->Prop):Cx:=
 { X with N:=N,fh:=s,cz:=H,env:=compEnvC scope (iL X scope C) C X.env,outer:=X.stack,ex:=fp,fn:=λx=>scope.names.lookup x==some .cell,pn:=[],xe:=E }
structure fC (X:Cx)(scope:Scope)(N:List Str)(fr:List (Option Nat)):Prop where
 kind:scope.kind = .function
 own:∀y∈scope.names,y.2 = .cell->scope.names.lookup y.1=some .cell
 names:∀y∈scope.names,y.2 = .local->scope.names.lookup y.1=some .local
 free:∀y∈scope.names,y.2 = .free->X.env.scope.names.lookup y.1=some .cell∨X.env.scope.names.lookup y.1=some .free
 len:fr.length=N.length
 DR:∀(i j:Nat),fr[i]? = some (some j)->∃x,N[i]? = some x/\X.N[j]? = some x/\scope.names.lookup x=some .free
section
variable {X:Cx}{ai:List (az×Obj)}{σ:St}{H:Hp}{s:ay}{scope:Scope}{N:List Str}{fr:List (Option Nat)}
theorem fC.cells (S:fC X scope N fr)(I:a6 X ai σ H s):∀y∈scope.names,y.2 = .free->∃c,X.env.cells.lookup y.1=some c:=λy hy hk=>I.ok.has y.1 (S.free y hy hk)
theorem aN7 {C D:az}{fp:List az}{E:ax->ay->Prop}{h1:Heap}{tk:Nat}{m:Str->Option ax}(S:fC X scope N fr)(I:a6 X ai σ H s)(hf:∀b∈fp,i5 X ai H b)(BA:∀b∈fp,b<s.heap.objs.size)(hD:s.heap.objs.size<=D)(hC:s.heap.objs.size<=C)(EJ:D<C)(old:∀b o,s.heap.get? b=some o->h1.get? b=some o)(uk:h1.Ns C m)(BG:h1.get? D=some { cls:=.type "list",data:=.seq #[] 0 })(DL:CellsOk h1 (C+1) (cellsFrom (C+1) scope.names [])) :
  a6 (cG X scope N s H C fp E) [] (h8 fr σ) (upd H D (.lst [])) { s with heap:=h1,toks:=tk }:=by
 have RX:H D=none:=I.cj.fresh hD;have cl:=S.cells I;have cs:∀{x:Str}{c:az},(fO X.env.cells scope.names []).lookup x=some c->X.env.cells.lookup x=some c:=λ{x c} h=>tS scope.names [] cl (λ_ _ z=>by simp at z) h
 have GZ:∀{x:Str}{c:az},X.env.cells.lookup x=some c->c<s.heap.objs.size:=λ{x c} h=>by obtain⟨v,z⟩:=I.cell x c h;exact z.lt
 have Cs:∀{x:Str}{c:az},(x,c)∈cellsFrom (C+1) scope.names []->C<c:=λ{x c} h=>(DL.empty x c h).2
 refine⟨⟨I.ok.mod,?_,I.ok.glob,I.ok.blt,hC,?_,?_,?_,I.ok.hd,I.ok.frames,.inl rfl,?_,I.bs,iw I.ok.xt I.sz,?_,?_,I.stack,I.qg⟩,rfl,I.bare,Un.laid old hD RX,⟨m,uk,?_⟩,?_,?_,?_,λp hp=>absurd (show p∈([]:List (az×Obj)) from hp) (by simp),?_,?_⟩
 ·exact S.kind
 ·intro x y c h1 h2
  rcases mI h1 with a|⟨_,a⟩<;>rcases mI h2 with b|⟨_,b⟩
  ·exact name_of_addr DL.apart a b
  ·exact absurd (iu (Nat.lt_trans (Cs a) (GZ (cs b))) hC) (qr _)
  ·exact absurd (iu (Nat.lt_trans (Cs b) (GZ (cs a))) hC) (qr _)
  ·exact I.ok.inj x y c (cs a) (cs b)
 ·intro x hx
  have hx:(relabel scope X.env).names.lookup x=some .cell∨(relabel scope X.env).names.lookup x=some .free:=hx;have fin:(x,NameKind.free)∈scope.names->∃c,(iL X scope C).lookup x=some c:=λz=>Z5 (.inr (yI scope.names [] (.inl z)))
  rcases hx with hx|hx
  ·rcases tT hx with z|z
   ·exact Z5 (.inl (vt z))
   ·exact fin (vt z.1)
  ·rcases tT hx with z|z
   ·exact fin (vt z)
   ·exact absurd z.2 (by decide)
 ·intro x c hx h
  have hx:(scope.names.lookup x==some NameKind.cell)=true:=hx;have hx:scope.names.lookup x=some .cell:=by simpa using hx
  rcases mI h with a|⟨a,_⟩
  ·exact iw hC (uw (Cs a))
  ·obtain⟨d,hd⟩:=tU scope.names (C+1) (vt hx)
   exact absurd hd (a d)
 ·intro b hb
  refine⟨lj (iu (BA b hb) hC),λx c e=>?_⟩;rcases mI e with a|⟨_,a⟩
  ·exact uv (Nat.lt_trans (iu (BA b hb) hC) (Cs a))
  ·exact (hf b hb).2.2.2.2.1 x c (cs a)
 ·intro b o e hb
  rcases (hf b hb).2.2.2.1 with z|z
  ·exact I.ok.we b o e z
  ·exact absurd (iu (fm e) (iw I.ok.xt z)) (qr _)
 ·intro b hb z
  rcases eg.mp (I.ng b z) with e|e
  ·exact (hf b hb).2.1 e
  ·exact (hf b hb).2.2.1 e
 ·intro i x v e1 e2 e3
  have e2:(fr.map λo=>o.bind λj=>(σ[j]?).join)[i]? = some (some v):=e2;rw[ij]at e2;cases ef:fr[i]? with
  |none=>rw[ef]at e2;cases e2
  |some o=>
   rw[ef]at e2;cases o with
   |none=>cases e2
   |some j=>
    have e2:some ((σ[j]?).join)=some (some v):=e2;have ej:σ[j]? = some (some v):=by
     cases q:σ[j]? with
     |none=>rw[q]at e2;cases e2
     |some w=>rw[q]at e2;cases w with
      |none=>cases e2
      |some w=>cases e2;rfl
    obtain⟨y,a1,a2,a4⟩:=S.DR i j ef
    have e1:N[i]? = some x:=e1;rw[e1]at a1;cases a1;have a3:(x,NameKind.free)∈scope.names:=vt a4;have Pu:dM X.env.scope x:=(S.free _ a3 rfl).elim (λz=>.inr (.inl z)) λz=>.inr (.inr z)
    obtain⟨m0,hn0,RB⟩:=I.loc
    obtain⟨u,r,l⟩:=RB j x v a2 ej Pu
    refine⟨u,r,.inr ⟨?_,?_⟩⟩
    ·have e3:(relabel scope X.env).names.lookup x=some .local∨(relabel scope X.env).names.lookup x=some .cell∨(relabel scope X.env).names.lookup x=some .free:=e3
     rcases e3 with z|z|z
     ·rcases tT z with y|y
      ·rw[a4]at y;cases y
      ·exact absurd y.2 (by decide)
     ·exact .inl z
     ·exact .inr z
    ·obtain⟨c,hc⟩:=yI (cells:=X.env.cells) scope.names [] (x:=x) (.inl a3)
     refine⟨c,aN6 (λz=>by have:=S.own _ z rfl;rw[a4]at this;cases this) hc,?_⟩;have dj:=cs hc;have S1:=S.free (x,.free) a3 rfl;rcases l with⟨k,_⟩|⟨_,c2,hc2,z⟩
     ·have k:X.env.scope.names.lookup x=some .local:=k
      rcases S1 with q|q<;>(have q:X.env.scope.names.lookup x=_:=q;rw[k]at q;cases q)
     ·rw[dj]at hc2;cases hc2
      obtain⟨oc,ho,hd⟩:=z
      exact⟨oc,old c oc ho,hd⟩
 ·intro x c e
  rcases mI e with a|⟨_,a⟩
  ·exact⟨_,(DL.empty x c a).1⟩
  ·obtain⟨v,oc,ho,hd⟩:=I.cell x c (cs a)
   exact⟨v,oc,old c oc ho,hd⟩
 ·show upd H D (.lst []) C=none
  rw[aH (uv EJ)];exact I.cj.fresh hC
 ·intro x c e
  show upd H D (.lst []) c=none;rcases mI e with a|⟨_,a⟩
  ·rw[aH (uv (Nat.lt_trans EJ (Cs a)))];exact I.cj.fresh (iw hC (uw (Cs a)))
  ·have q:=cs a
   rw[aH (lj (iu (GZ q) hD))];exact I.ig x c q
 ·exact I.cj.laid old hD ⟨lh _,[],0,.nil,BG⟩
 ·show (h8 fr σ).length=N.length
  unfold h8;rw[dt];exact S.len
end
def l8 (X:Cx)(ifs:List Expr)(t:TT):Prop:=
 ∀(ai:List (az×Obj)) (s:ay) (σ:St) (H:Hp) (Q:Bool->Hp->Prop),a6 X ai σ H s->t σ H Q->
  wpAny (model X.prog X.w) X.A (forIn ifs true λc r=>if r=true then do let ok <- isTrue c X.env (eval c X.env);pure (ForInStep.yield ok) else pure (ForInStep.yield r)) (TP X ai σ Q) X.xe s
def yL:TT:=λ_ H Q=>Q true H
theorem Z6 {X:Cx}:l8 X [] yL:=λ_ _ _ H _ I h=>wpAny_tests_nil ⟨H,I,h⟩
theorem aN8 {X:Cx}{c:Expr}{t:TT}(h:PT X c t):l8 X [c] t:=λai s σ H Q I hq=>wpAny_tests_one (h ai s σ H Q I hq)
section
variable {prog:ba}{w:bd}{A:bc}
def yM (prog:ba)(w:bd)(A:bc)(elt tg:Expr)(ifs:List Expr)(it acc:ax)(env:Env)(wg:ax->ay->Prop)(stop next:ay->Prop)(s:ay):Prop:=
 let M:=model prog w
 let tests:Sem Bool:=forIn ifs true λc r=>if r=true then do let ok <- isTrue c env (eval c env);pure (ForInStep.yield ok) else pure (ForInStep.yield r)
 let put:ay->Prop:=wpAny M A (eval elt env) (λx=>wpAny M A (call (.builtin "list.append") [acc,x]) (λ_=>next) wg) wg
 let taken:ax->ay->Prop:=λv=>wpAny M A (letOwnedTupleGo tg it v) (λ_=>wpAny M A (assign tg env v) (λ_=>wpAny M A tests (λok s'=>if ok=true then put s' else next s') wg) wg) wg
 wpAny M A (pyNext it) (λr s'=>match r with
  |none=>stop s'
  |some v=>taken v s') wg s
theorem aN9 {R:Result->ay->Prop}{s:ay}{elt tg iter:Expr}{ifs:List Expr}{scope:Scope}{pos:Pos}{it acc:ax}{env:Env}(I:Nat->ay->Prop)(turn:∀n s,I n s->yM prog w A elt tg ifs it acc env (notedBy (model prog w) A env λe=>R (.error e)) (R (.ok .next)) (λs'=>∃m,m<n/\I m s') s)(n:Nat)(h:I n s) :
  codeAny (model prog w) A (.compLoop (.ListComp elt [⟨tg,iter,ifs,0⟩] scope pos) 0 it acc env) R s:=by
 apply codeAny_loop rfl I _ n h;intro k s1 h1
 change wpAny _ A ((compTurn _ 0 it acc env).onRaise (λx=>do noteFrame x env;theTreesLotGoes x)) _ _ s1
 apply wpAny_noted;rw[compTurn_list];have t:=turn k s1 h1;unfold yM at t;apply bw;apply wpAny_standAt;apply bw;refine mw t (λr s2 h2=>?_) λ_ _ z=>z
 cases r with
 |none=>exact cy h2
 |some v=>
  apply bw;refine mw h2 (λ_ s3 h3=>?_) λ_ _ z=>z
  apply bw;refine mw h3 (λ_ s4 h4=>?_) λ_ _ z=>z
  apply bw;refine mw h4 (λok s5 h5=>?_) λ_ _ z=>z
  cases ok with
  |false=>exact cy ⟨rfl,h5⟩
  |true=>
   apply bw;apply bw;refine mw h5 (λx s6 h6=>?_) λ_ _ z=>z
   apply bw;exact mw h6 (λ_ s7 h7=>cy (cy ⟨rfl,h7⟩)) λ_ _ z=>z
end
def tW (g:TG)(tc:TT)(te:TE)(Ck:St)(J:It)(D:az)(Q:VK)(W:Nat->Nat->List V->Hp->Prop):Prop:=
 ∀i m acc H',W i m acc H'->H' D=some (.lst acc)/\((J.stop i H'/\Q (.ref D) H')∨(J.go i H'/\∀x H2,J.xn i H' x H2->g x Ck H2 λjx H3=>Wk Ck jx/\tc jx H3 λb H4=>
  if b=true then te jx H4 λv H5=>H5 D=some (.lst acc)/\acc.length<sizeLine/\∃m',m'<m/\W (i+1) m' (acc++[v]) (upd H5 D (.lst (acc++[v]))) else ∃m',m'<m/\W (i+1) m' acc H4))
def aO0 (wi:TI)(fr:List (Option Nat))(g:TG)(tc:TT)(te:TE):TE:=λσ H Q=>wi σ H λJ H1=>∀D,H1 D=none->
 ∃W:Nat->Nat->List V->Hp->Prop,(∃m,W 0 m [] (upd H1 D (.lst [])))/\tW g tc te (h8 fr σ) J D Q W
section
variable {M:Model}{A:bc}{E:ax→ay→Prop}{s:ay}
theorem aO1 {scope:Scope}{globals:az}{cl:List (Str×az)}{qual:Str}{func:Option az}{code:ax}{builtins:az}{outer:Env}{Q:Env->ay->Prop}(hQ:∀h',h'.Ns s.heap.objs.size (λ_=>none)->(∀b o,s.heap.get? b=some o->h'.get? b=some o)->CellsOk h' (s.heap.objs.size+1) (cellsFrom (s.heap.objs.size+1) scope.names [])->
   Q (newEnv scope s.heap.objs.size globals (cellsFrom (s.heap.objs.size+1) scope.names cl) qual func code (some outer) builtins) { s with heap:=h' }) :
  wpAny M A (newFunctionEnv scope globals cl [] qual func code (some outer) builtins) Q E s:=by
 simp only[newFunctionEnv,Option.isSome_some,if_true];refine bw (wpAny_alloc ?_);refine bw (wpAny_layCells _ (λname kind cells=>by cases RD:kind==NameKind.cell<;>simp[RD]) _ _ _ _ ?_);have ok:=cellsFrom_ok scope.names (s.heap.push { cls:=.type "dict",data:=.dict #[] }) (s.heap.objs.size+1) [] ⟨λ_ _ hm=>(nomatch hm),List.Pairwise.nil⟩ (by rw[xg];exact da _);rw[xg]at ok;rw[show ({ s with heap:=s.heap.push { cls:=.type "dict",data:=.dict #[] } }:ay).heap.objs.size=s.heap.objs.size+1 from xg ..];rw[List.forIn_nil];refine bw (cy (cy (hQ _ ((Heap.Ns.new s.heap (.type "dict")).keeps (pushCells_keeps _ _)) (λb o e=>pushCells_keeps _ _ b o (ez _ e)) ok)))
end
section
variable {X:Cx}{ai:List (az×Obj)}{σ:St}{H:Hp}{s:ay}{scope:Scope}{N:List Str}{fr:List (Option Nat)}{tg iter elt:Expr}{ifs:List Expr}{pos:Pos}{wi:TI}{g:TG}{tc:TT}{te:TE}
structure o7 (X:Cx)(scope:Scope)(N:List Str)(tg:Expr)(ifs:List Expr)(elt:Expr)(s:ay)(H:Hp)(g:TG)(tc:TT)(te:TE):Prop where
 tg:∀(C:az) (fp:List az),PG (cG X scope N s H C fp λ_ _=>False) tg g
 ifs:∀(C:az) (fp:List az),l8 (cG X scope N s H C fp λ_ _=>False) ifs tc
 elt:∀(C:az) (fp:List az),PE (cG X scope N s H C fp λ_ _=>False) elt te
structure yN (X:Cx)(scope:Scope)(N:List Str)(tg:Expr)(ifs:List Expr)(elt:Expr)(g:TG)(tc:TT)(te:TE):Prop where
 tg:∀(s:ay) (H:Hp) (C:az) (fp:List az),PG (cG X scope N s H C fp λ_ _=>False) tg g
 ifs:∀(s:ay) (H:Hp) (C:az) (fp:List az),l8 (cG X scope N s H C fp λ_ _=>False) ifs tc
 elt:∀(s:ay) (H:Hp) (C:az) (fp:List az),PE (cG X scope N s H C fp λ_ _=>False) elt te
theorem yN.at (B:yN X scope N tg ifs elt g tc te)(s:ay)(H:Hp):o7 X scope N tg ifs elt s H g tc te:=⟨B.tg s H,B.ifs s H,B.elt s H⟩
theorem aO2 {C:az}{fp:List az}{E:ax->ay->Prop}{qc:List (az×Obj)}{cn:St}{H':Hp}{s':ay}(I:a6 X ai σ H s)(hf:∀b∈fp,i5 X ai H b)(I':a6 (cG X scope N s H C fp E) qc cn H' s'):a6 X ai σ H' s':=
 I.Ec (ch:=fp) I'.os I'.base I'.cj I'.bare λb hb=>⟨(hf b hb).2.2.2.1,(hf b hb).2.1,(hf b hb).2.2.2.2.1,(hf b hb).2.2.2.2.2⟩
theorem yO {Rr:ax->az->Result->ay->Prop}{J:It}{fp:List az}{it:az}{tn:Nat->Heap->Prop}{Q:VK}(hc:X.calm=true)(S:fC X scope N fr)(B:o7 X scope N tg ifs elt s H g tc te)(I:a6 X ai σ H s)(T:iH X.prog X.w X.K tg J fp it tn)(Bv:tn 0 s.heap)(hf:∀b∈fp,i5 X ai H b)(h:∀D,H D=none->∃W:Nat->Nat->List V->Hp->Prop,(∃m,W 0 m [] (upd H D (.lst [])))/\tW g tc te (h8 fr σ) J D Q W)(Gf:∀(D C:az) (s':ay) (H':Hp) (m:Str->Option ax),s.heap.objs.size<=C->s.heap.objs.size<=D->a6 X ai σ H' s'->s'.heap.Ns C m->H' C=none->Q (.ref D) H'->Rr (.ref D) C (.ok .next) s') :
  wpAny (model X.prog X.w) X.A (newList []) (λacc Ab=>wpAny (model X.prog X.w) X.A (newFunctionEnv scope X.env.globals (fO X.env.cells scope.names []) [] X.env.qual none .none (some X.env)) (λEb EU=>
   codeAny (model X.prog X.w) X.A (.compStart (.ListComp elt [⟨tg,iter,ifs,0⟩] scope pos) 0 (.ref it) acc { Eb with scope:=relabel scope X.env }) (Rr acc Eb.locals) EU) X.xe Ab) X.xe s:=by
 refine AZ (aO1 (λqk uj mv ql=>?_));dsimp only at uj mv ql ⊢;generalize BH:s.heap.push { cls:=.type "list",dict:=none,data:=.seq ([]:List ax).toArray }=H2 at uj mv ql ⊢;have hC:H2.objs.size=s.heap.objs.size+1:=by rw[<- BH,xg]
 have EJ:s.heap.objs.size<H2.objs.size:=by rw[hC];exact Nat.lt_succ_self _
 have Al:s.heap.objs.size<=H2.objs.size:=by rw[hC];exact Nat.le_succ _
 have old:∀b o,s.heap.get? b=some o->qk.get? b=some o:=λb o e=>mv b o (BH▸ez _ e)
 have BG:qk.get? s.heap.objs.size=some { cls:=.type "list",data:=.seq #[] 0 }:=mv _ _ (BH▸jw _ rfl);have BA:∀b∈fp,b<s.heap.objs.size:=λb hb=>by obtain⟨o,e,_⟩:=T.obj _ _ Bv b hb;exact fm e
 obtain⟨W,⟨m0,w0⟩,turn⟩:=h s.heap.objs.size (I.cj.fresh (da _))
 have ir:tn 0 qk:=T.keep _ _ _ Bv λb _ o e=>old b o e
 have Sa:∀b∈fp,upd H s.heap.objs.size (.lst []) b=none:=λb hb=>by rw[aH (lj (BA b hb))];exact (hf b hb).1
 have rf:∀{H':Hp},(∀b∈fp,H' b=none)->∀b∈fp,i5 (cG X scope N s H H2.objs.size fp λ_ _=>False) [] H' b:=λ{H'} hn b hb=>by
  have f:=hf b hb;refine⟨hn b hb,lj (iu (BA b hb) Al),λz=>?_,.inl hb,λx c e=>(mI e).elim (λz=>uv (Nat.lt_trans (iu (BA b hb) Al) (ql.empty x c z).2)) λz=>f.2.2.2.2.1 x c (tS scope.names [] (S.cells I) (λ_ _ z=>by simp at z) z.2),λp hp=>absurd (show p∈([]:List (az×Obj)) from hp) (by simp)⟩;rcases eg.mp (I.ng b z) with e|e
  ·exact f.2.1 e
  ·exact f.2.2.1 e
 generalize hX:cG X scope N s H H2.objs.size fp (λ_ _=>False)=Y at rf;have I0:a6 Y [] (h8 fr σ) (upd H s.heap.objs.size (.lst [])) { s with heap:=qk }:=hX▸aN7 S I hf BA (da _) Al EJ old uj BG ql;have bt:PG Y tg g:=hX▸B.tg H2.objs.size fp;have bi:l8 Y ifs tc:=hX▸B.ifs H2.objs.size fp;have be:PE Y elt te:=hX▸B.elt H2.objs.size fp;have eP:Y.prog=X.prog:=by rw[<- hX];rfl
 have ew:Y.w=X.w:=by rw[<- hX];rfl
 have eK:Y.K=X.K:=by rw[<- hX];rfl
 have eA:Y.A=X.A:=by rw[<- hX];rfl
 have eE:Y.env=compEnvC scope (iL X scope H2.objs.size) H2.objs.size X.env:=by rw[<- hX];rfl
 have eX:Y.xe=λ_ _=>False:=by rw[<- hX];rfl
 have ec:Y.calm=true:=by rw[<- hX];exact hc
 have never:∀{E:ax->ay->Prop} (e:ax) (s':ay),Y.xe e s'->E e s':=λ{E} e s' z=>by rw[eX]at z;exact z.elim
 have out:∀{qc cn H' s'},a6 Y qc cn H' s'->a6 X ai σ H' s':=λ{_ _ _ _} I'=>aO2 (C:=H2.objs.size) (E:=λ_ _=>False) (scope:=scope) (N:=N) I hf (hX▸I')
 have loop:codeAny (model X.prog X.w) X.A (.compLoop (.ListComp elt [⟨tg,iter,ifs,0⟩] scope pos) 0 (.ref it) (.ref s.heap.objs.size) (compEnvC scope (iL X scope H2.objs.size) H2.objs.size X.env))
   (Rr (.ref s.heap.objs.size) H2.objs.size) { s with heap:=qk }:=by
  refine aN9 (λn s'=>∃i acc H',a6 Y [] (h8 fr σ) H' s'/\tn i s'.heap/\(∀b∈fp,H' b=none)/\W i n acc H') ?_ m0 ⟨0,[],_,I0,ir,Sa,w0⟩;rintro n s3 ⟨i,acc,H3,I3,vz,DT,w3⟩;unfold yM;dsimp only
  obtain⟨hD3,step⟩:=turn i n acc H3 w3
  rcases step with⟨stop,qn⟩|⟨go,step⟩
  ·have z:=T.done Y eP ew eK ec i [] s3 _ H3 (notedBy (model X.prog X.w) X.A (compEnvC scope (iL X scope H2.objs.size) H2.objs.size X.env) λe s'=>Rr (.ref s.heap.objs.size) H2.objs.size (.error e) s') I3 (rf DT) vz stop
   rw[eA]at z;refine aL z λr s4 ⟨hr,I4⟩=>?_
   subst hr
   obtain⟨m4,Ik,_⟩:=I4.loc
   rw[eE]at Ik;have f4:=I4.free;rw[eE]at f4;exact Gf _ _ s4 H3 m4 Al (da _) (out I4) Ik f4 qn
  ·have z:=T.item Y eP ew eK ec i [] s3 _ H3 (notedBy (model X.prog X.w) X.A (compEnvC scope (iL X scope H2.objs.size) H2.objs.size X.env) λe s'=>Rr (.ref s.heap.objs.size) H2.objs.size (.error e) s') I3 (rf DT) vz go
   rw[eA]at z;refine aL z λr s4 ⟨u,hr,h4⟩=>?_
   subst hr;refine aL h4 λ_ s5 ⟨x,H5,I5,r5,y5,AE,GC⟩=>?_
   have Hb:=I5.pinned (rf GC) (T.obj _ _ AE);have q1:=bt _ s5 _ H5 x u _ Hb r5 (step x H5 y5);rw[eP,ew,eA,eE]at q1;refine mw q1 (λ_ s6 ⟨Ci,H6,I6,wk,q6⟩=>?_) never;have q2:=bi _ s6 Ci H6 _ I6 q6;rw[eP,ew,eA,eE]at q2;refine mw q2 (λb s7 ⟨H7,I7,q7⟩=>?_) never;have again:∀{H8:Hp}{s8:ay}{Cg:List V},a6 Y ([]++qE fp s5.heap) Ci H8 s8->(∃m',m'<n/\W (i+1) m' Cg H8)->∃m,m<n/\∃i acc H',a6 Y [] (h8 fr σ) H' s8/\tn i s8.heap/\(∀b∈fp,H' b=none)/\W i m acc H':=λ{H8 s8 Cg} I8 n8=>by
    obtain⟨m',hm,w8⟩:=n8
    refine⟨m',hm,i+1,Cg,H8,(I8.kh).weak wk.1 wk.2,T.keep _ _ _ AE λb hb o e=>(I8.pin (b,o) (ny _ (ny _ (tK hb e)))).1,λb hb=>?_,w8⟩
    obtain⟨o,e,d⟩:=T.obj _ _ AE b hb
    exact (I8.pin (b,o) (ny _ (ny _ (tK hb e)))).2.1
   cases b with
   |false=>
    rw[if_neg gu]at q7 ⊢;exact again I7 q7
   |true=>
    rw[if_pos rfl]at q7 ⊢;have q3:=be _ s7 Ci H7 _ I7 q7;rw[eP,ew,eA,eE]at q3;refine mw q3 (λv s8 ⟨y,H8,I8,r8,RY,Rc,q8⟩=>?_) never;have q4:=tQ _ s8 Ci H8 (.ref s.heap.objs.size) [y] (.ref s.heap.objs.size) [v] (λ_ H9=>∃m',m'<n/\W (i+1) m' (acc++[y]) H9) I8 rfl (.cons r8 .nil) ⟨_,_,_,rfl,rfl,RY,Rc,q8⟩;rw[eP,ew,eA]at q4;exact mw q4 (λ_ s9 ⟨_,H9,I9,_,q9⟩=>again I9 q9) never
 exact codeAny_compStart_list loop (T.self _ 0 _ _ _ ir loop)
end
section
variable {X:Cx}{scope:Scope}{N:List Str}{fr:List (Option Nat)}{tg iter elt:Expr}{ifs:List Expr}{pos:Pos}{wi:TI}{g:TG}{tc:TT}{te:TE}
theorem a6.drop {ai:List (az×Obj)}{σ:St}{H H':Hp}{s s':ay}{C:az}{h':Heap}(I0:a6 X ai σ H s)(hC:s.heap.objs.size<=C){cn:St}(I:a6 X ai cn H' s')(hn:H' C=none)(sb:Heap.SameBut C s'.heap h'):a6 X ai cn H' { s' with heap:=h' }:=by
 refine I.turned (t':=s'.toks) (it:=C) (λb o hb e=>(sb.2 b hb).trans e) hn (uv (iu I0.lt hC)) (.inr (iw I0.sz hC)) (λx c e z=>?_) λp hp z=>?_
 ·obtain⟨v,q⟩:=I0.cell x c e
  exact absurd (iu q.lt (by rw[z];exact hC)) (qr _)
 ·exact absurd (iu (fm (I0.pin p hp).1) (by rw[z];exact hC)) (qr _)
theorem aO3 {i:Nat}{x:Str}{px yj:Pos}(hc:X.calm=true)(S:fC X scope N fr)(hi:PI X tg iter wi)(B:yN X scope N tg ifs elt g tc te)(hN:X.N.Nodup)(FY:X.N[i]? = some x)(hx:X.env.scope.names.lookup x=some .local)(yv:swapsWith (.ListComp elt [⟨tg,iter,ifs,0⟩] scope pos) (some (.Name x px)) yj.line X.env=pure true)(hs:∀x,foldedSetIterable iter X.env x=pure x:=by intro _;rfl) :
  PS X (.Assign [.Name x px] (.ListComp elt [⟨tg,iter,ifs,0⟩] scope pos) yj) (jL (aO0 wi fr g tc te) (dN i)):=by
 intro ai s σ H D I h;rw[exec_Assign_Name_used _ _ _ _ yv];refine bw (wpAny_standAt (bw ?_));show wpAny _ _ (do let _ <- comprehension (.ListComp elt [⟨tg,iter,ifs,0⟩] scope pos) scope X.env _ (newList []) false (eval iter X.env) (some (assign (.Name x px) X.env))) _ _ s
 refine bw (mw (wpAny_comprehension_free (Q:=λ_ s'=>SP X ai D .next s') (use:=some (assign (.Name x px) X.env)) rfl hs (yH (S.cells I)) S.kind S.names (aL (hi ai s σ H _ I h) λv s1 h1=>aL h1 λDz s2 h2=>?_))
  (λ_ s' hq=>cy (cy hq)) λ_ _ e=>e)
 obtain⟨it,fp,tn,J,H2,e,I2,T,fe,f2,hW⟩:=h2
 subst e;refine yO (Rr:=λacc C=>compPost (model X.prog X.w) X.A X.xe (some (assign (.Name x px) X.env)) (λ_ s'=>SP X ai D .next s') acc C) hc S (B.at _ _) I2 T fe f2 hW ?_;intro D' C s' H' m hC hD I' uk DP q;refine wpAny_assign_Name (x6 I' hN FY (.inl hx) (v:=.ref D') rfl (λAe Hc sb=>?_) (.inr hx))
 obtain⟨a,sb,ha⟩:=sb
 have Gs:C≠a:=by
  rcases ha with z|z
  ·rw[z];exact uv (iu I2.lt hC)
  ·intro e;subst e
   obtain⟨v,q⟩:=I2.cell x _ z
   exact absurd (iu q.lt hC) (qr _)
 exact⟨m,uk.sameBut sb Gs,λh' EX=>⟨_,H',I2.drop hC Hc DP EX,q⟩⟩
variable {gh:Hp→TG}{tch:Hp→TT}{teh:Hp→TE}
def yP (wi:TI)(fr:List (Option Nat))(gh:Hp->TG)(tch:Hp->TT)(teh:Hp->TE):TE:=λσ H Q=>wi σ H λJ H1=>∀D,H1 D=none->
 ∃W:Nat->Nat->List V->Hp->Prop,(∃m,W 0 m [] (upd H1 D (.lst [])))/\tW (gh H1) (tch H1) (teh H1) (h8 fr σ) J D Q W
theorem yQ (hc:X.calm=true)(S:fC X scope N fr)(hi:PI X tg iter wi)(B:∀(s:ay) (H:Hp),o7 X scope N tg ifs elt s H (gh H) (tch H) (teh H))(hs:∀x,foldedSetIterable iter X.env x=pure x:=by intro _;rfl):PE X (.ListComp elt [⟨tg,iter,ifs,0⟩] scope pos) (yP wi fr gh tch teh):=by
 intro ai s σ H Q I h;rw[eval_ListComp];refine wpAny_comprehension_free (use:=none) rfl hs (yH (S.cells I)) S.kind S.names (aL (hi ai s σ H _ I h) λv s1 h1=>aL h1 λDz s2 h2=>?_)
 obtain⟨it,fp,tn,J,H2,e,I2,T,fe,f2,hW⟩:=h2
 subst e;refine yO (Rr:=λacc C=>compPost (model X.prog X.w) X.A X.xe none (EP X ai σ Q) acc C) hc S (B _ _) I2 T fe f2 hW ?_;intro D C s' H' m hC hD I' uk DP q
 exact⟨m,uk,λh' sb=>⟨.ref D,H',I2.drop hC I' DP sb,rfl,q⟩⟩
theorem aO4 {i:Nat}{x:Str}{px yj:Pos}(hc:X.calm=true)(S:fC X scope N fr)(hi:PI X tg iter wi)(B:∀(s:ay) (H:Hp),o7 X scope N tg ifs elt s H (gh H) (tch H) (teh H))(hN:X.N.Nodup)(FY:X.N[i]? = some x)(hx:X.env.scope.names.lookup x=some .local)(yv:swapsWith (.ListComp elt [⟨tg,iter,ifs,0⟩] scope pos) (some (.Name x px)) yj.line X.env=pure true)(hs:∀x,foldedSetIterable iter X.env x=pure x:=by intro _;rfl) :
  PS X (.Assign [.Name x px] (.ListComp elt [⟨tg,iter,ifs,0⟩] scope pos) yj) (jL (yP wi fr gh tch teh) (dN i)):=by
 intro ai s σ H D I h;rw[exec_Assign_Name_used _ _ _ _ yv];refine bw (wpAny_standAt (bw ?_));show wpAny _ _ (do let _ <- comprehension (.ListComp elt [⟨tg,iter,ifs,0⟩] scope pos) scope X.env _ (newList []) false (eval iter X.env) (some (assign (.Name x px) X.env))) _ _ s
 refine bw (mw (wpAny_comprehension_free (Q:=λ_ s'=>SP X ai D .next s') (use:=some (assign (.Name x px) X.env)) rfl hs (yH (S.cells I)) S.kind S.names (aL (hi ai s σ H _ I h) λv s1 h1=>aL h1 λDz s2 h2=>?_))
  (λ_ s' hq=>cy (cy hq)) λ_ _ e=>e)
 obtain⟨it,fp,tn,J,H2,e,I2,T,fe,f2,hW⟩:=h2
 subst e;refine yO (Rr:=λacc C=>compPost (model X.prog X.w) X.A X.xe (some (assign (.Name x px) X.env)) (λ_ s'=>SP X ai D .next s') acc C) hc S (B _ _) I2 T fe f2 hW ?_;intro D' C s' H' m hC hD I' uk DP q;refine wpAny_assign_Name (x6 I' hN FY (.inl hx) (v:=.ref D') rfl (λAe Hc sb=>?_) (.inr hx))
 obtain⟨a,sb,ha⟩:=sb
 have Gs:C≠a:=by
  rcases ha with z|z
  ·rw[z];exact uv (iu I2.lt hC)
  ·intro e;subst e
   obtain⟨v,q⟩:=I2.cell x _ z
   exact absurd (iu q.lt hC) (qr _)
 exact⟨m,uk.sameBut sb Gs,λh' EX=>⟨_,H',I2.drop hC Hc DP EX,q⟩⟩
end
theorem bU {H:Hp}{p:az}(h:H p=none)(o:HO):aD H (upd H p o):=λb u q=>by rw[aH (dL q h)];exact q
theorem aD.tup {K:ad}{H H':Hp}{a:az}{xs:List V}(e:aD H H')(h:aM K H a xs):aM K H' a xs:=by
 rcases h with (h|⟨o,h⟩)|h
 ·exact .inl (.inl (e _ _ h))
 ·exact .inl (.inr ⟨o,e _ _ h⟩)
 ·exact .inr h
structure Z7 (H:Hp)(J:It)(xs:List V):Prop where
 go:∀i H',aD H H'->i<xs.length->J.go i H'
 xn:∀i H' x H2,aD H H'->J.xn i H' x H2->i<xs.length->xs[i]? = some x/\H2=H'
 stop:∀H',aD H H'->J.stop xs.length H'
theorem aO5 {K:ad}{H:Hp}{a:az}{xs:List V}(h:aM K H a xs):Z7 H (l6 K a) xs:=
 ⟨λi H' e hi=>⟨xs,xs[i],e.tup h,by simp[hi]⟩,λi H' x H2 e y hi=>⟨y.2 xs (e.tup h),y.1⟩,λH' e=>⟨xs,e.tup h,da _⟩⟩
def CW (H1:Hp)(D:az)(n:Nat)(Pv:Nat->List V->Hp->Prop):Nat->Nat->List V->Hp->Prop:=λi m acc H'=>m=n-i/\i<=n/\acc.length<=i/\aD H1 H'/\H' D=some (.lst acc)/\Pv i acc H'
def Z8 (H1:Hp)(D:az)(n:Nat)(Pv:Nat->List V->Hp->Prop)(i:Nat)(acc:List V)(v:V)(H5:Hp):Prop:=H5 D=some (.lst acc)/\acc.length<sizeLine/\∃m',m'<n-i/\CW H1 D n Pv (i+1) m' (acc++[v]) (upd H5 D (.lst (acc++[v])))
def CNo (H1:Hp)(D:az)(n:Nat)(Pv:Nat->List V->Hp->Prop)(i:Nat)(acc:List V)(H4:Hp):Prop:=∃m',m'<n-i/\CW H1 D n Pv (i+1) m' acc H4
structure yR (H1:Hp)(D:az)(n i:Nat)(acc:List V)(H':Hp):Prop where
 lt:i<n
 vm:acc.length<=i
 sz:n<=sizeLine
 same:aD H1 H'
 new:H1 D=none
 acc:H' D=some (.lst acc)
theorem yR.yes {H1:Hp}{D:az}{n i:Nat}{acc:List V}{H' H5:Hp}{Pv:Nat->List V->Hp->Prop}{v:V}(c:yR H1 D n i acc H')(s:aD H' H5)(p:Pv (i+1) (acc++[v]) (upd H5 D (.lst (acc++[v])))):Z8 H1 D n Pv i acc v H5:=by
 refine⟨s _ _ c.acc,Nat.lt_of_le_of_lt c.vm (iu c.lt c.sz),_,?_,rfl,c.lt,?_,λb o e=>?_,bE,p⟩
 ·have:=c.lt;lia
 ·rw[gq,List.length_singleton];exact Nat.succ_le_succ c.vm
 ·rw[aH (dL e c.new)];exact s _ _ (c.same _ _ e)
theorem aO6 {H1:Hp}{J:It}{xs:List V}{g:TG}{tc:TT}{te:TE}{Ck:St}{Q:VK}(O:Z7 H1 J xs)(Pv:Nat->List V->Hp->Prop)(hn:xs.length<=sizeLine)(h0:∀D,H1 D=none->Pv 0 [] (upd H1 D (.lst [])))(hs:∀i x acc D H',xs[i]? = some x->yR H1 D xs.length i acc H'->Pv i acc H'->g x Ck H' λjx H3=>Wk Ck jx/\tc jx H3 λb H4=>
   if b=true then te jx H4 λv H5=>Z8 H1 D xs.length Pv i acc v H5 else CNo H1 D xs.length Pv i acc H4)(hd:∀D acc H',H1 D=none->aD H1 H'->H' D=some (.lst acc)->acc.length<=xs.length->Pv xs.length acc H'->Q (.ref D) H') :
  ∀D,H1 D=none->∃W:Nat->Nat->List V->Hp->Prop,(∃m,W 0 m [] (upd H1 D (.lst [])))/\tW g tc te Ck J D Q W:=by
 intro D hD;refine⟨CW H1 D xs.length Pv,⟨xs.length,rfl,lh _,da _,bU hD _,bE,h0 D hD⟩,?_⟩;rintro i m acc H' ⟨rfl,hi,ha,sm,CD,p⟩;refine⟨CD,?_⟩;by_cases jq:i<xs.length
 ·refine .inr ⟨O.go i H' sm jq,λx H2 y=>?_⟩
  obtain⟨hx,e⟩:=O.xn i H' x H2 sm y jq
  subst e;exact hs i x acc D H2 hx ⟨jq,ha,hn,sm,hD,CD⟩ p
 ·have e:i=xs.length:=by lia
  subst e;exact .inl ⟨O.stop H' sm,hd D acc H' hD sm CD ha p⟩
theorem yS:∀{xs:List V}{us:List ax} (i:Nat),i<xs.length->aI xs us->aO (xs.getD i .cq) (us.getD i Value.none)
 |_,_,_,h,.nil=>by simp at h
 |_,_,0,_,.cons r _=>by simpa using r
 |_,_,i+1,h,.cons _ t=>by
  have:=yS i (by simpa using h) t
  simpa using this
theorem yT {α:Type}:∀l:List α,(l.zip l).map (·.2)=l
 |[]=>rfl
 |a::l=>by
  show a::((l.zip l).map (·.2))=a::l;rw[yT l]
theorem aO7 {prog:ba}{w:bd}{A:bc}{E:ax->ay->Prop}{s:ay}{a:az}{vs:List ax}{n:Nat}{P:PySem.Fin->ay->Prop}(e:s.heap.get? a=some (seqObj "list" vs.toArray n))(vm:vs.length<2)(q:P (.done (.ret .none)) { s with heap:=sortedHeap s.heap a vs vs.toArray }):wpAny (model prog w) A (Builtin.«list.sort» ⟨[.ref a],[]⟩) P E s:=by
 have big:vs.length<=sizeLine:=iw (uw vm) (by decide);have la:=fm e;have c:vs.toArray.size<2:=by simpa using vm
 have same:(arrOf (SortSt.mk' general' (vs.toArray.zip vs.toArray) #[] 7 none)).map (·.2)=vs.toArray:=by
  change (vs.toArray.zip vs.toArray).map (·.2)=vs.toArray
  apply Array.ext';simpa using yT vs
 obtain⟨k,ek⟩:∃k,(s.heap.update a (Obj.mapSeq λ_=>#[])).get? a=some (seqObj "list" #[] k):=⟨_,get?_update_seq e λ_=>#[]⟩
 have there:(((s.heap.update a (Obj.mapSeq λ_=>#[])).push (seqObj "tuple" vs.toArray 0)).push (seqObj "list" #[] 0)).get? a=some (seqObj "list" #[] k):=
  ez _ (ez _ ek)
 rw[list_sort_plain];apply bw;apply listItems_at e rfl;apply bw;refine listUpdate_at e rfl ?_ (by simpa using big) (lh _);apply bw;apply seqEpoch_at ek rfl;apply bw;refine wpAny_newTuple ?_ big;apply bw;refine wpAny_newList ?_ (lh _);apply xf;simp only[c,if_true,StateT.run_pure];apply bw;apply cy;apply bw;apply cy;apply bw;apply seqEpoch_at there rfl;apply bw;refine listUpdate_at there rfl ?_ (lh _) (by rw[same,fu];exact Nat.le_succ_of_le big);rw[same];simp only[bne_self_eq_false,mf,kc];exact cy q
theorem aO8 {prog:ba}{w:bd}{A:bc}{E:ax->ay->Prop}{s:ay}{l:az}{vs:List ax}{Q:ax->ay->Prop}(hl:s.heap.IsList l vs.toArray)(vm:vs.length<2)(q:Q (.ref (s.heap.objs.size+1)) { s with heap:=sortedAll s.heap vs vs.toArray }):wpAny (model prog w) A (call (.builtin "sorted") [.ref l]) Q E s:=by
 have big:vs.length<=sizeLine:=iw (uw vm) (by decide);apply Calls.call_function_entry kind_sorted plain_sorted entry_sorted (args_sorted1 _);simp only[Builtin.«sorted»];apply bw (m:=checkCount "sorted" 1 1 _);apply cy;apply bw;refine collect_list hl ?_ big;apply bw;refine wpAny_newList ?_ big;have one:((s.heap.push (seqObj "list" #[] 0)).update s.heap.objs.size (Obj.mapSeq (·++vs.toArray))).objs.size=s.heap.objs.size+1:=(Heap.size_update _ _ _).trans (size_push' _ _);have AA:(((s.heap.push (seqObj "list" #[] 0)).update s.heap.objs.size (Obj.mapSeq (·++vs.toArray))).push (seqObj "list" vs.toArray 0)).get? (s.heap.objs.size+1)=some (seqObj "list" vs.toArray 0):=one▸jw _ rfl
 change wpAny _ _ _ _ _ { s with heap:=((s.heap.push (seqObj "list" #[] 0)).update s.heap.objs.size (Obj.mapSeq (·++vs.toArray))).push (seqObj "list" vs.toArray 0) }
 rw[one];apply bw;apply xf;refine zf slot_list_sort ⟨_,AA,rfl⟩ entry_list_sort ?_ (args_list_sort _);refine aO7 AA vm ⟨_,rfl,?_⟩;exact cy ⟨_,rfl,q⟩
theorem qL:∀{a b:ag},HT.b9 a b=true->HT.b9 b a=false
 |[],[],h=>by cases h
 |[],_::_,_=>rfl
 |_::_,[],h=>by cases h
 |x::xs,y::ys,h=>by
  rw[HT.jN]at h ⊢;by_cases e:x=y
  ·rw[if_pos e]at h;rw[if_pos e.symm];exact qL h
  ·rw[if_neg e]at h;rw[if_neg (Ne.symm e)]
   have:=zh h
   exact dm (by lia)
theorem yU:∀{a b c:ag},HT.b9 a b=false->HT.b9 b c=false->HT.b9 a c=false
 |[],[],c,_,h=>h
 |[],_::_,_,h,_=>by cases h
 |_::_,[],[],_,_=>rfl
 |_::_,[],_::_,_,h=>by cases h
 |_::_,_::_,[],_,_=>rfl
 |x::xs,y::ys,z::zs,h1,h2=>by
  rw[HT.jN]at h1 h2 ⊢;by_cases e1:x=y
  ·rw[if_pos e1]at h1
   by_cases e2:y=z
   ·rw[if_pos e2]at h2;rw[if_pos (e1.trans e2)];exact yU h1 h2
   ·rw[if_neg e2]at h2;rw[if_neg (by rw[e1];exact e2)];rw[e1];exact h2
  ·rw[if_neg e1]at h1
   have k1:=Ca h1;by_cases e2:y=z
   ·rw[<- e2,if_neg e1];exact h1
   ·rw[if_neg e2]at h2
    have k2:=Ca h2;rw[if_neg (by lia)];exact dm (by lia)
theorem Z9:∀{a b:ag},HT.b9 a b=false->HT.b9 b a=false->a=b
 |[],[],_,_=>rfl
 |[],_::_,h,_=>by cases h
 |_::_,[],_,h=>by cases h
 |x::xs,y::ys,h1,h2=>by
  rw[HT.jN]at h1 h2;by_cases e:x=y
  ·rw[if_pos e]at h1;rw[if_pos e.symm]at h2;rw[e,Z9 h1 h2]
  ·rw[if_neg e]at h1;rw[if_neg (Ne.symm e)]at h2
   have:=Ca h1
   have:=Ca h2
   lia
section
variable {prog:ba}{w:bd}{A:bc}{s:ay}{Q:Bool→ay→Prop}
theorem Ox:∀{us ws:List ax}{xs ys:ag} (i:Nat),IntsAre us xs->IntsAre ws ys->Q (HT.b9 xs ys) s->PySem.W.KatLex prog w A true (decide (us.length<ws.length)) Q (us.zip ws) i s
 |_,_,_,_,_,.nil,.nil,h=>h
 |_,_,_,_,_,.nil,.cons _ _ _,h=>h
 |_,_,_,_,_,.cons _ _ _,.nil,h=>h
 |_,_,_,_,i,.cons (vs:=us) x t hx,.cons (vs:=ws) y u hy,h=>by
  refine PySem.W.kat_cons (wpAny_eqBool_int ?_);rw[HT.jN]at h;by_cases e:x=y
  ·rw[if_pos e]at h
   have eb:(x==y)=true:=by simpa using e
   rw[eb];refine PySem.W.kat_yes ?_;have e2:decide ((Value.int x t::us).length<(Value.int y u::ws).length)=decide (us.length<ws.length):=by simp
   rw[e2];exact Ox (i+1) hx hy h
  ·rw[if_neg e]at h
   have eb:(x==y)=false:=by simpa using e
   rw[eb];refine PySem.W.kat_no ?_;cases hi:(true&&i==0) with
   |true=>exact PySem.W.kat_lt_int h
   |false=>exact PySem.W.kat_one _ _ (lt_int h)
end
end L2
namespace Raw
open PySem PySem.W PySem.Calls PyProof.Rows
def qM (h:Heap)(d:az)(es:Array DictEntry)(ep:Nat):Prop:=∃o,h.get? d=some o/\o.ExactDict/\o.data = .dict es ep
theorem qM.ty {s:ay}{d:az}{es:Array DictEntry}{ep:Nat}(x:qM s.heap d es ep):s.TypeIs (.ref d) "dict":=x.elim λo y=>⟨o,y.1,y.2.1.1⟩
section
variable {prog:ba}{w:bd}{A:bc}{E:ax→ay→Prop}{s:ay}{d it:az}{es:Array DictEntry}{ep i:Nat}
theorem aO9 (BO:(d==sysModules)=false)(x:qM s.heap d es ep){Q:ax->ay->Prop}(q:Q (.ref s.heap.objs.size) { s with heap:=s.heap.push { cls:=.type "dict_keyiterator",data:=.fields #[.ref d,.int 0 0,.int es.size 0,.int ep 0] } }):wpAny (model prog w) A (pyIter (.ref d)) Q E s:=by
 have T:=x.ty
 obtain⟨o,e1,e2,e3⟩:=x
 apply wpAny_pyIter_slot T PySem.F.slot_dict_iter;apply zf PySem.F.slot_dict_iter T PySem.F.entry_dict_iter _ (PySem.F.args_dict_iter_1 _);simp only[Builtin.«dict.__iter__»,Builtin.Dict.dictSlotNone];apply bw;apply bw;apply wpAny_notOrdered_dict T;apply cy
 change wpAny _ _ (Builtin.Dict.showsAll d >>= _) _ _ s
 have GG:Builtin.Dict.showsAll d=pure ():=by
  unfold Builtin.Dict.showsAll;simp only[BO,mf,kc]
 rw[GG,pure_bind];apply bw;apply wpAny_dictEntries e1 e3;apply bw;apply wpAny_dictEpoch e1 e3;apply bw;refine AZ (cy ?_);refine⟨.ref s.heap.objs.size,rfl,"dict_keyiterator",_,⟨_,jw _ rfl,rfl⟩,PySem.F.slot_dict_keyiterator_next.lookup,?_⟩;simpa only[rawInt] using q
theorem turn (hh:A.handled=none)(hi:s.heap.IsKeyIter it d i es.size ep)(x:qM s.heap d es ep){Q:Option ax->ay->Prop}(yes:∀(lt:i<es.size) h',h'.IsKeyIter it d (i+1) es.size ep->Heap.SameBut it s.heap h'->Q (some es[i].key) { s with heap:=h' })(no:es.size<=i->∀h',Heap.ExtBut it s.heap h'->Q none { s with heap:=h' }):wpAny (model prog w) A (pyNext (.ref it)) Q E s:=by
 have T:=hi.typeIs
 obtain⟨oi,f1,f2,f3⟩:=hi
 obtain⟨o,e1,e2,e3⟩:=x
 have slot:=PySem.F.slot_dict_keyiterator_next;have plain:Builtin.Dict_items.ownsTuple "dict_keyiterator" = false:=by decide
 have rj:(Value.ref d==Value.none)=false:=rfl;have nn:¬(i:Int)<0:=by lia
 unfold pyNext;apply bw;apply wpAny_attempt;apply Cf (name:=Str.ofString "__next__") T slot;apply zf slot T PySem.F.entry_dict_keyiterator_next _ (PySem.F.args_dict_keyiterator_next_1 _);apply bw;apply cy;apply bw;apply bw;apply bw
 first
  |apply wpAny_typeNameOfWhole_keyiter T
  |apply wpAny_typeNameOf_keyiter T
 apply cy;apply bw;apply wpAny_fieldsOf f1 f3;simp only[plain,mf,kc]
 change wpAny _ _ (if (Value.ref d==Value.none)=true then _ else _) _ _ s
 have adr:Builtin.Dict_items.addrOf (Value.ref d)=pure d:=rfl;simp only[rj,mf,kc,adr,pure_bind];apply bw;apply wpAny_dictEntries e1 e3;simp only[bne_self_eq_false,mf,kc];apply bw;apply wpAny_dictEpoch e1 e3;simp only[bne_self_eq_false,mf,kc];apply cy;simp only[nn,kc,mz];by_cases lt:i<es.size
 ·simp only[Array.getElem?_eq_getElem lt]
  apply bw;apply bw
  first
   |apply wpAny_typeNameOfWhole_keyiter T
   |apply wpAny_typeNameOf_keyiter T
  apply cy;apply bw;apply wpAny_isOneOf_keyiter T
  change wpAny _ _ (setField (.ref it) 1 (rawInt ((i:Int)+1)) >>= _) _ _ s
  apply bw;refine wpAny_setField f1 f3 (by simp) ?_;have again:(s.heap.update it (Obj.mapFields (·.setIfInBounds 1 (rawInt ((i:Int)+1))))).IsKeyIter it d (i+1) es.size ep:=by
   refine⟨_,Ee _ f1 (Obj.isFreed_of_fields (Obj.data_mapFields f3 _)),?_,?_⟩
   ·rw[Obj.cls_mapFields];exact f2
   ·rw[Obj.data_mapFields f3];simp[rawInt]
  apply bw;apply xf;apply bw;refine wpAny_isOneOf_keyiter (s:={ s with heap:=s.heap.update it (Obj.mapFields (·.setIfInBounds 1 (rawInt ((i:Int)+1)))) }) again.typeIs ?_
  change wpAny _ _ (pure es[i].key) _ _ _
  apply cy;apply cy
  exact⟨es[i].key,rfl,cy (yes lt _ again (Heap.SameBut.update ..))⟩
 ·have ge:es.size<=i:=Nat.le_of_not_lt lt
  simp only[Array.getElem?_eq_none ge];apply bw;apply bw
  first
   |apply wpAny_typeNameOfWhole_keyiter T
   |apply wpAny_typeNameOf_keyiter T
  apply cy
  change wpAny _ _ (setField (.ref it) 0 .none >>= _) _ _ s
  apply bw;refine wpAny_setField f1 f3 (by simp) ?_;apply bw;simp only[newExc,newTuple];apply bw;refine AZ ?_ (by size_fits);apply bw;refine wpAny_of_eq (a:=Value.none) (by first|rfl|(simp only[firstArgMember];rfl)) ?_;refine AZ ?_ (by size_fits);unfold raiseNew;apply bw;apply wpAny_handled;have quiet:A.in1.handled=none:=hh;rw[quiet];refine wpAny_throw ?_;apply bw;refine BZ (T:="StopIteration") (b:=true) ⟨_,jw _ rfl,rfl⟩ isSubtype_stop ?_;exact cy (no ge _ (((Heap.SameBut.update ..).extBut.push _).push _))
end
end Raw
namespace L2
open PySem PySem.Spec PyProof.Rows
section
variable {X:Cx}
theorem aP0:dO X (.builtin "isinstance") (λxs H Q=>∃x t n b,xs = [x,.ty n]/\gY X.K H x t/\PySem.W.kitOne X.K t (.type n)=some b/\Q (.bl b) H):=by
 intro ai s σ H xs us Q I r h
 obtain⟨x,t,n,b,rfl,ty,e,q⟩:=h
 obtain⟨u,u',rfl,ru,Fb⟩:=xL r
 cases Fb;exact aJ3 I ru ty e λtk=>⟨.bl b,H,I.tok tk,rfl,q⟩
end
def Ow (outer:List (Str×NameKind))(XN:List Str)(names:List (Str×NameKind))(N:List Str)(fr:List (Option Nat)):Bool:=
 names.all (λy=>!(y.2==.cell)||names.lookup y.1==some .cell)&&names.all (λy=>!(y.2==.local)||names.lookup y.1==some .local) &&
 names.all (λy=>!(y.2==.free)||(outer.lookup y.1==some .cell||outer.lookup y.1==some .free))&&fr.length==N.length &&
 (fr.zip N).all (λp=>match p.1 with
  |none=>true
  |some j=>XN[j]?==some p.2&&names.lookup p.2==some .free)
theorem fC.of {X:Cx}{scope:Scope}{N:List Str}{fr:List (Option Nat)}(hk:scope.kind = .function)(h:Ow X.env.scope.names X.N scope.names N fr=true):fC X scope N fr:=by
 unfold Ow at h;simp only[my]at h
 obtain⟨⟨⟨⟨h1,h2⟩,h3⟩,h4⟩,h5⟩:=h
 refine⟨hk,λy hy e=>?_,λy hy e=>?_,λy hy e=>?_,by simpa using h4,λi j e=>?_⟩
 ·have:=AX.mp h1 y hy
  rw[e]at this;simpa using this
 ·have:=AX.mp h2 y hy
  rw[e]at this;simpa using this
 ·have:=AX.mp h3 y hy
  rw[e]at this;simpa using this
 ·have hl:fr.length=N.length:=by simpa using h4
  have hi:i<fr.length:=(og.mp e).1;have m:(some j,N[i]'(by lia))∈fr.zip N:=by
   have:(fr.zip N)[i]? = some (some j,N[i]'(by lia)):=by
    rw[List.getElem?_zip_eq_some]
    exact⟨e,by simp⟩
   exact sr this
  have:=AX.mp h5 _ m
  simp only[my,beq_iff_eq]at this
  exact⟨N[i]'(by lia),by simp,this.1,this.2⟩
theorem Pt {n:Option V}{r:St}{v:V}:Wk (none::r) (some v::r):=(Wk.refl (none::r)).set (i:=0) rfl
def qN (H:Hp)(ys:List V)(ls:aa):Prop:=Paired (λy l=>∃b,y = .ref b/\H b=some (.tup [.int l.1,.int l.2])) ys ls
structure Ov (H:Hp)(v:V)(ws:ag)(ls:aa):Prop where
 at_:∃a p q ys,v = .ref a/\H a=some (.tup [.ref p,.ref q])/\H p=some (.tup (ws.map V.int))/\H q=some (.tup ys)/\qN H ys ls
theorem qN.get {H:Hp}:∀{ys:List V}{ls:aa}{i:Nat}{y:V},qN H ys ls->ys[i]? = some y->∃l b,ls[i]? = some l/\y = .ref b/\H b=some (.tup [.int l.1,.int l.2])
 |_,_,_,_,.nil,e=>by simp at e
 |_,_,0,_,.cons (b:=l) ⟨b,h1,h2⟩ _,e=>by simp at e;subst e;exact⟨l,b,rfl,h1,h2⟩
 |_,_,i+1,_,.cons _ t,e=>by
  obtain⟨l,b,h1,h2⟩:=qN.get (i:=i) t (by simpa using e)
  exact⟨l,b,by simpa using h1,h2⟩
def bX (ls:aa)(k:Int):ag:=ls.flatMap λl=>(if l.1=k then [l.2] else [])++(if l.2=k then [l.1] else [])
theorem aP1 (ls:aa)(l:Int×Int)(k:Int):bX (ls++[l]) k=bX ls k++((if l.1=k then [l.2] else [])++(if l.2=k then [l.1] else [])):=by
 unfold bX;rw[List.flatMap_append];simp
theorem aP2 {ls:aa}{i:Nat}{l:Int×Int}(h:ls[i]? = some l)(k:Int):bX (ls.take (i+1)) k=bX (ls.take i) k++((if l.1=k then [l.2] else [])++(if l.2=k then [l.1] else [])):=by
 rw[vq,h];exact aP1 _ _ _
structure kI (H H':Hp)(r:az)(bs:List az)(f:Nat->ag):Prop where
 new:H r=none
 news:∀b∈bs,H b=none/\b≠r
 nd:bs.Nodup
 row:H' r=some (.lst (bs.map V.ref))
 rows:∀(k:Nat) (b:az),bs[k]? = some b->H' b=some (.lst ((f k).map V.int))
 same:aD H H'
theorem kI.congr {H H':Hp}{r:az}{bs:List az}{f g:Nat->ag}(h:kI H H' r bs f)(e:∀k,k<bs.length->f k=g k):kI H H' r bs g:=
 ⟨h.new,h.news,h.nd,h.row,λk b hb=>by rw[<- e k (og.mp hb).1];exact h.rows k b hb,h.same⟩
theorem kI.app {H H':Hp}{r:az}{bs:List az}{f:Nat->ag}(h:kI H H' r bs f){k:Nat}{b:az}(hb:bs[k]? = some b)(x:Int) :
  kI H (upd H' b (.lst ((f k).map V.int++[V.int x]))) r bs (λj=>if j=k then f j++[x] else f j):=by
 have hm:b∈bs:=sr hb;refine⟨h.new,h.news,h.nd,by rw[aH (Ne.symm (h.news b hm).2)];exact h.row,λj c hc=>?_,λc o e=>by rw[aH (dL e (h.news b hm).1)];exact h.same c o e⟩;by_cases hj:j=k
 ·subst hj
  rw[hb]at hc;cases hc;rw[bE,if_pos rfl];simp
 ·rw[if_neg hj]
  have ne:c≠b:=λz=>by
   subst z
   obtain⟨i1,e1⟩:=og.mp hb
   obtain⟨i2,e2⟩:=og.mp hc
   refine hj (Nat.le_antisymm (Nat.le_of_not_lt λz=>?_) (Nat.le_of_not_lt λz=>?_))
   ·exact Bb.mp h.nd _ _ i1 i2 z (e1.trans e2.symm)
   ·exact Bb.mp h.nd _ _ i2 i1 z (e2.trans e1.symm)
  rw[aH ne];exact h.rows j c hc
theorem yV (ls:aa)(k:Int):(bX ls k).length<=2*ls.length:=by
 induction ls with
 |nil=>exact da _
 |cons l r ih=>
  have e:bX (l::r) k=((if l.1=k then [l.2] else [])++(if l.2=k then [l.1] else []))++bX r k:=rfl;rw[e,gq,gq,sj];have h1:(if l.1=k then [l.2] else []).length<=1:=by split<;>simp
  have h2:(if l.2=k then [l.1] else []).length<=1:=by split<;>simp
  lia
theorem qO {α:Type}{xs:List α}{i:Int}{v:α}(h0:0<=i)(h:xs[i.toNat]? = some v):oh xs i=some v:=by
 have:=xQ h
 rwa [show ((i.toNat:Nat):Int)=i by lia]at this
theorem j5 {n:Nat}(h:n<=16000000):n<sizeLine:=by rw[sizeLine_eq];lia
theorem aP3 {σ:St}{H:Hp}{A B:Hp->Prop}(h:A H):yL σ H λb H4=>if b=true then A H4 else B H4:=by
 show if true=true then A H else B H
 rw[if_pos rfl];exact h
theorem o8 {K:ad}{H:Hp}{p:az}{xs:List V}(h:aN K H p xs):tO K "list" (.ref p) H:=.inl ⟨rfl,xs,h⟩
end L2
namespace Zp
open PySem PyProof.Rows
section
variable {prog:ba}{w:bd}{A:bc}{E:ax→ay→Prop}{s:ay}
theorem Ou {it t:az}{i:Nat}{items:Array ax}{x:ax}{Q:ax->ay->Prop}(hi:s.heap.IsTupleIter it t i)(ht:s.heap.IsTuple t items)(hx:items[i]? = some x)(q:∀h',h'.IsTupleIter it t (i+1)->Heap.SameBut it s.heap h'->Q x { s with heap:=h' }):wpAny (model prog w) A (Builtin.SmallTypes.nextOf (.ref it)) Q E s:=by
 have T:=hi.typeIs
 obtain⟨o,e1,e2,e3⟩:=hi
 obtain⟨u,f1,_,k,f3⟩:=ht
 have slot:=PySem.F.slot_tuple_iterator_next;have rj:(Value.ref t==Value.none)=false:=rfl;unfold Builtin.SmallTypes.nextOf;apply bw;apply Cf (name:=Str.ofString "__next__") T slot;apply zf slot T PySem.F.entry_tuple_iterator_next _ (PySem.F.args_tuple_iterator_next_1 _)
 change wpAny _ _ (field (.ref it) 0 >>= _) _ _ s
 apply bw;refine qq e1 e3 (x:=.ref t) rfl ?_
 change wpAny _ _ (if (Value.ref t==Value.none)=true then _ else _) _ _ s
 simp only[rj,mf,kc]
 change wpAny _ _ (field (.ref it) 1 >>= _) _ _ s
 apply bw;refine qq e1 e3 (x:=.int i 0) rfl ?_
 change wpAny _ _ (seqItems? (.ref t) >>= _) _ _ s
 apply bw;apply xh f1 f3;simp only[mz,hx];apply bw;refine wpAny_setField e1 e3 (by simp) ?_;apply cy;refine⟨x,rfl,cy (q _ ⟨_,Ee _ e1 (Obj.isFreed_of_fields (Obj.data_mapFields e3 _)),?_,?_⟩ (Heap.SameBut.update ..))⟩
 ·rw[Obj.cls_mapFields];exact e2
 ·rw[Obj.data_mapFields e3];simp[rawInt]
theorem Ot {it t:az}{i:Nat}{items:Array ax}{Q:ax->ay->Prop}(hh:A.handled=none)(hi:s.heap.IsTupleIter it t i)(ht:s.heap.IsTuple t items)(hx:items[i]? = none)(q:∀h' e,Heap.ExtBut it s.heap h'->(∃o,h'.get? e=some o/\o.cls = .type "StopIteration")->E (.ref e) { s with heap:=h' }):wpAny (model prog w) A (Builtin.SmallTypes.nextOf (.ref it)) Q E s:=by
 have T:=hi.typeIs
 obtain⟨o,e1,e2,e3⟩:=hi
 obtain⟨u,f1,_,k,f3⟩:=ht
 have slot:=PySem.F.slot_tuple_iterator_next;have rj:(Value.ref t==Value.none)=false:=rfl;unfold Builtin.SmallTypes.nextOf;apply bw;apply Cf (name:=Str.ofString "__next__") T slot;apply zf slot T PySem.F.entry_tuple_iterator_next _ (PySem.F.args_tuple_iterator_next_1 _)
 change wpAny _ _ (field (.ref it) 0 >>= _) _ _ s
 apply bw;refine qq e1 e3 (x:=.ref t) rfl ?_
 change wpAny _ _ (if (Value.ref t==Value.none)=true then _ else _) _ _ s
 simp only[rj,mf,kc]
 change wpAny _ _ (field (.ref it) 1 >>= _) _ _ s
 apply bw;refine qq e1 e3 (x:=.int i 0) rfl ?_
 change wpAny _ _ (seqItems? (.ref t) >>= _) _ _ s
 apply bw;apply xh f1 f3;simp only[mz,hx];apply bw;apply zd;apply bw;refine wpAny_setField e1 e3 (by simp) ?_;apply bw;simp only[newExc,newTuple];apply bw;refine AZ ?_ (by size_fits);apply bw;refine wpAny_of_eq (a:=Value.none) (by first|rfl|(simp only[firstArgMember];rfl)) ?_;refine AZ ?_ (by size_fits);unfold raiseNew;apply bw;apply wpAny_handled;have quiet:A.in1.handled=none:=hh;rw[quiet];refine wpAny_throw ?_;exact q _ _ (((Heap.SameBut.update ..).extBut.push _).push _) ⟨_,jw _ rfl,rfl⟩
theorem aP4 (hh:A.handled=none)(it t:az)(ne:t≠it)(items:Array ax):Draws prog w A it [it,t] items.size (λi v=>items[i]? = some v) (λi h=>h.IsTupleIter it t i/\h.IsTuple t items) where
 live:=λ_ _ st=>st.1.elim λo y=>⟨o,y.1⟩
 frame:=λ_ _ _ st k=>⟨st.1.at λo e=>k it dv o e,st.2.elim λo y=>⟨o,k t (gc _ dv) o y.1,y.2⟩⟩
 item:=λi s Q E lt st q=>Ou st.1 st.2 (Array.getElem?_eq_getElem lt) λh' again sb=>q _ h' s.toks (Array.getElem?_eq_getElem lt) ⟨again,st.2.elim λo y=>⟨o,sb.extBut t o ne y.1,y.2⟩⟩ sb
 done:=λs Q E st q=>Ot hh st.1 st.2 (Array.getElem?_eq_none (da _)) q
end
structure Ap (z TI TO i1 i2:az)(wz wy:List az):Prop where
 TIz:TI≠z
 TOz:TO≠z
 TITO:TI≠TO
 z1:z∉wz
 z2:z∉wy
 o1:TO∉wz
 o2:TO∉wy
 t1:TI∉wz
 t2:TI∉wy
 m1:i1∈wz
 m2:i2∈wy
 n1:i1∉wy
 n2:i2∉wz
structure yW (z TI TO i1 i2:az)(Be Bc:Nat->Heap->Prop)(f0:ax)(i j:Nat)(h:Heap):Prop where
 zz:IsZip h z TI TO f0
 ti:IsPair h TI (.ref i1) (.ref i2)
 Bf:∃a b,IsPair h TO a b
 s1:Be i h
 s2:Bc j h
section
variable {prog:ba}{w:bd}{A:bc}{E:ax→ay→Prop}{s:ay}{z TI TO i1 i2:az}{wz wy:List az}{n1 n2:Nat}{P1 P2:Nat→ax→Prop}{Be Bc:Nat→Heap→Prop}
theorem o9 (ap:Ap z TI TO i1 i2 wz wy){b:az}(h:b∉wz):b≠i1:=λe=>h (e▸ap.m1)
theorem tX (ap:Ap z TI TO i1 i2 wz wy){b:az}(h:b∉wy):b≠i2:=λe=>h (e▸ap.m2)
theorem item (D1:Draws prog w A.in1 i1 wz n1 P1 Be)(D2:Draws prog w A.in1 i2 wy n2 P2 Bc)(ap:Ap z TI TO i1 i2 wz wy){i:Nat}(l1:i<n1)(l2:i<n2)(st:yW z TI TO i1 i2 Be Bc .none i i s.heap){Q:Option ax->ay->Prop}(q:∀x y h' tk,P1 i x->P2 i y->yW z TI TO i1 i2 Be Bc (rawInt s.heap.objs.size) (i+1) (i+1) h'->IsPair h' s.heap.objs.size x y->(∀c o,c≠z->c≠TO->c≠i1->c≠i2->s.heap.get? c=some o->h'.get? c=some o)->
   h'.objs.size=s.heap.objs.size+1->Q (some (.ref s.heap.objs.size)) { s with heap:=h',toks:=tk }):wpAny (model prog w) A (pyNext (.ref z)) Q E s:=by
 obtain⟨hz,EC,⟨a,b,FK⟩,h1,h2⟩:=st
 have T:s.TypeIs (.ref z) "zip":=⟨_,hz,rfl⟩;have slot:=PySem.F.slot_zip_next;unfold pyNext;apply bw;apply wpAny_attempt;apply Cf (name:=Str.ofString "__next__") T slot;apply zf slot T PySem.F.entry_zip_next _ (PySem.F.args_zip_next_1 _)
 change wpAny _ _ (field (.ref z) 2 >>= _) _ _ _
 apply bw;refine qq hz rfl (x:=.bool false) rfl ?_
 change wpAny _ _ (field (.ref z) 3 >>= _) _ _ _
 apply bw;refine qq hz rfl (x:=.ref TI) rfl ?_;apply bw;apply xh EC rfl
 change wpAny _ _ (Builtin.SmallTypes.ownedTupleIsFree (.ref z) >>= _) _ _ _
 apply bw;unfold Builtin.SmallTypes.ownedTupleIsFree;apply bw;refine qq hz rfl (x:=.none) rfl (cy ?_);simp only[if_true];apply bw;apply zd;apply bw;refine qq hz rfl (x:=.ref TO) rfl ?_;apply bw;refine zi hz (by simp) λg1 Fz AF=>?_
 have k1:∀c o,c≠z->s.heap.get? c=some o->g1.get? c=some o:=λc o c1 e=>AF.extBut c o c1 e
 apply bw;simp only[List.zipIdx_cons,List.zipIdx_nil,List.forIn_cons,List.forIn_nil];apply bw;apply bw;apply wpAny_onRaise
 change wpAny _ _ (Builtin.SmallTypes.nextOf (.ref i1) >>= _) _ _ _
 apply bw;refine D1.item i { s with heap:=g1 } _ _ l1 (D1.frame _ _ _ h1 λc hc o e=>k1 c o (λy=>ap.z1 (y▸hc)) e) λx g2 Eo px ir Ad=>cy ?_
 have k2:∀c o,c≠z->c≠i1->s.heap.get? c=some o->g2.get? c=some o:=λc o c1 c2 e=>Ad.extBut c o c2 (k1 c o c1 e)
 have to2:IsPair g2 TO a b:=k2 _ _ ap.TOz (o9 ap ap.o1) FK;apply bw;apply xh to2 rfl;apply bw;refine wpAny_updateSeq_pair to2 λg3 to3 wc=>?_
 have to3:IsPair g3 TO x b:=to3;apply bw;apply wpAny_letGo;apply cy;apply bw;apply bw;apply wpAny_onRaise
 change wpAny _ _ (Builtin.SmallTypes.nextOf (.ref i2) >>= _) _ _ _
 apply bw;have k3:∀c o,c≠z->c≠i1->c≠TO->s.heap.get? c=some o->g3.get? c=some o:=λc o c1 c2 c3 e=>wc.extBut c o c3 (k2 c o c1 c2 e)
 refine D2.item i { s with heap:=g3,toks:=Eo } _ _ l2 (D2.frame _ _ _ h2 λc hc o e=>k3 c o (λy=>ap.z2 (y▸hc)) (λy=>ap.n1 (y▸hc)) (λy=>ap.o2 (y▸hc)) e) λy g4 Pz py fe Dg=>cy ?_
 have Ho:IsPair g4 TO x b:=Dg.extBut _ _ (tX ap ap.o2) to3;apply bw;apply xh Ho rfl;apply bw;refine wpAny_updateSeq_pair Ho λg5 En yn=>?_
 have En:IsPair g5 TO x y:=En;apply bw;apply wpAny_letGo;apply cy;apply cy;apply bw;apply xh En rfl;apply bw;refine wpAny_newTuple ?_ (by show 2<=sizeLine;decide);have size:g5.objs.size=s.heap.objs.size:=by rw[yn.1,Dg.1,wc.1,Ad.1,AF.1]
 have k5:∀c o,c≠z->c≠TO->c≠i1->c≠i2->s.heap.get? c=some o->g5.get? c=some o:=λc o c1 c2 c3 c4 e=>yn.extBut c o c2 (Dg.extBut c o c4 (k3 c o c1 c3 c2 e))
 have z5:IsZip g5 z TI TO .ellipsis:=yn.extBut _ _ (Ne.symm ap.TOz) (Dg.extBut _ _ (tX ap ap.z2) (wc.extBut _ _ (Ne.symm ap.TOz) (Ad.extBut _ _ (o9 ap ap.z1) Fz)))
 change wpAny _ _ (Builtin.SmallTypes.ownedTupleHandOut (.ref z) (.ref g5.objs.size) >>= _) _ _ _
 apply bw;unfold Builtin.SmallTypes.ownedTupleHandOut;apply bw;have z6:IsZip (g5.push { cls:=.type "tuple",data:=.seq #[x,y] }) z TI TO .ellipsis:=ez _ z5;refine zi z6 (by simp) λg7 z7 Co=>?_
 have z7:IsZip g7 z TI TO (rawInt g5.objs.size):=z7;refine zi z7 (by simp) λg8 z8 EW=>?_
 have z8:IsZip g8 z TI TO (rawInt g5.objs.size):=z8;have Hh:z<g5.objs.size:=fm z5;have up:∀c o,c≠z->g5.get? c=some o->g8.get? c=some o:=λc o c1 e=>EW.extBut c o c1 (Co.extBut c o c1 (ez _ e))
 have p8:IsPair g8 g5.objs.size x y:=EW.extBut _ _ (uv Hh) (Co.extBut _ _ (uv Hh) (jw _ rfl));have s8:g8.objs.size=g5.objs.size+1:=by rw[EW.1,Co.1,xg]
 have f1:Be (i+1) g8:=D1.frame _ _ _ ir λc hc o e=>up c o (λy=>ap.z1 (y▸hc)) (yn.extBut c o (λy=>ap.o1 (y▸hc)) (Dg.extBut c o (λy=>ap.n2 (y▸hc)) (wc.extBut c o (λy=>ap.o1 (y▸hc)) e)))
 have f2:Bc (i+1) g8:=D2.frame _ _ _ fe λc hc o e=>up c o (λy=>ap.z2 (y▸hc)) (yn.extBut c o (λy=>ap.o2 (y▸hc)) e)
 have PB:IsPair g8 TI (.ref i1) (.ref i2):=up _ _ ap.TIz (k5 _ _ ap.TIz ap.TITO (o9 ap ap.t1) (tX ap ap.t2) EC);rw[size]at z8 p8 s8;apply cy;refine⟨_,rfl,cy ?_⟩
 change Q (some (.ref g5.objs.size)) _
 rw[size];exact q x y g8 Pz px py ⟨z8,PB,⟨x,y,up _ _ ap.TOz En⟩,f1,f2⟩ p8 (λc o c1 c2 c3 c4 e=>up c o c1 (k5 c o c1 c2 c3 c4 e)) s8
theorem fin (D1:Draws prog w A.in1 i1 wz n1 P1 Be)(D2:Draws prog w A.in1 i2 wy n2 P2 Bc)(ap:Ap z TI TO i1 i2 wz wy){i:Nat}(le:i=n1∨(i<n1/\i=n2))(st:yW z TI TO i1 i2 Be Bc .none i i s.heap){Q:Option ax->ay->Prop}(q:∀h' tk,(∀c o,c≠z->c≠TO->c≠i1->c≠i2->s.heap.get? c=some o->h'.get? c=some o)->Q none { s with heap:=h',toks:=tk }):wpAny (model prog w) A (pyNext (.ref z)) Q E s:=by
 obtain⟨hz,EC,⟨a,b,FK⟩,h1,h2⟩:=st
 have T:s.TypeIs (.ref z) "zip":=⟨_,hz,rfl⟩;have slot:=PySem.F.slot_zip_next;unfold pyNext;apply bw;apply wpAny_attempt;apply Cf (name:=Str.ofString "__next__") T slot;apply zf slot T PySem.F.entry_zip_next _ (PySem.F.args_zip_next_1 _)
 change wpAny _ _ (field (.ref z) 2 >>= _) _ _ _
 apply bw;refine qq hz rfl (x:=.bool false) rfl ?_
 change wpAny _ _ (field (.ref z) 3 >>= _) _ _ _
 apply bw;refine qq hz rfl (x:=.ref TI) rfl ?_;apply bw;apply xh EC rfl
 change wpAny _ _ (Builtin.SmallTypes.ownedTupleIsFree (.ref z) >>= _) _ _ _
 apply bw;unfold Builtin.SmallTypes.ownedTupleIsFree;apply bw;refine qq hz rfl (x:=.none) rfl (cy ?_);simp only[if_true];apply bw;apply zd;apply bw;refine qq hz rfl (x:=.ref TO) rfl ?_;apply bw;refine zi hz (by simp) λg1 Fz AF=>?_
 have k1:∀c o,c≠z->s.heap.get? c=some o->g1.get? c=some o:=λc o c1 e=>AF.extBut c o c1 e
 apply bw;simp only[List.zipIdx_cons,List.zipIdx_nil,List.forIn_cons,List.forIn_nil];apply bw;apply bw;apply wpAny_onRaise
 change wpAny _ _ (Builtin.SmallTypes.nextOf (.ref i1) >>= _) _ _ _
 apply bw;have z1:IsZip g1 z TI TO .ellipsis:=Fz;rcases le with rfl|⟨lt,rfl⟩
 ·refine D1.done { s with heap:=g1 } _ _ (D1.frame _ _ _ h1 λc hc o e=>k1 c o (λy=>ap.z1 (y▸hc)) e) λg2 e eb ex=>?_
  have z2:IsZip g2 z TI TO .ellipsis:=eb _ _ (o9 ap ap.z1) z1;refine zi z2 (by simp) λg3 z3 wc=>?_
  obtain⟨oe,eo,co⟩:=ex
  have ne:e≠z:=λy=>by
   rw[y,z2]at eo
   have:=ip eo
   rw[<- this]at co;exact absurd (show Value.type "zip" = Value.type "StopIteration" from co) (by decide)
  apply bw;refine BZ (T:="StopIteration") (b:=true) ⟨oe,wc.extBut _ _ ne eo,co⟩ isSubtype_stop ?_;exact cy (q g3 s.toks λc o c1 _ c3 _ e=>wc.extBut c o c1 (eb c o c3 (k1 c o c1 e)))
 ·refine D1.item i { s with heap:=g1 } _ _ lt (D1.frame _ _ _ h1 λc hc o e=>k1 c o (λy=>ap.z1 (y▸hc)) e) λx g2 Eo px ir Ad=>cy ?_
  have k2:∀c o,c≠z->c≠i1->s.heap.get? c=some o->g2.get? c=some o:=λc o c1 c2 e=>Ad.extBut c o c2 (k1 c o c1 e)
  have to2:IsPair g2 TO a b:=k2 _ _ ap.TOz (o9 ap ap.o1) FK;apply bw;apply xh to2 rfl;apply bw;refine wpAny_updateSeq_pair to2 λg3 to3 wc=>?_
  apply bw;apply wpAny_letGo;apply cy;apply bw;apply bw;apply wpAny_onRaise
  change wpAny _ _ (Builtin.SmallTypes.nextOf (.ref i2) >>= _) _ _ _
  apply bw;have k3:∀c o,c≠z->c≠i1->c≠TO->s.heap.get? c=some o->g3.get? c=some o:=λc o c1 c2 c3 e=>wc.extBut c o c3 (k2 c o c1 c2 e)
  refine D2.done { s with heap:=g3,toks:=Eo } _ _ (D2.frame _ _ _ h2 λc hc o e=>k3 c o (λy=>ap.z2 (y▸hc)) (λy=>ap.n1 (y▸hc)) (λy=>ap.o2 (y▸hc)) e) λg4 e eb ex=>?_
  have z4:IsZip g4 z TI TO .ellipsis:=eb _ _ (tX ap ap.z2) (wc.extBut _ _ (Ne.symm ap.TOz) (Ad.extBut _ _ (o9 ap ap.z1) z1));refine zi z4 (by simp) λg5 z5 yn=>?_
  obtain⟨oe,eo,co⟩:=ex
  have ne:e≠z:=λy=>by
   rw[y,z4]at eo
   have:=ip eo
   rw[<- this]at co;exact absurd (show Value.type "zip" = Value.type "StopIteration" from co) (by decide)
  apply bw;refine BZ (T:="StopIteration") (b:=true) ⟨oe,yn.extBut _ _ ne eo,co⟩ isSubtype_stop ?_;exact cy (q g5 Eo λc o c1 c2 c3 c4 e=>yn.extBut c o c1 (eb c o c4 (k3 c o c1 c3 c2 e)))
end
def i7 (h:Heap)(t u:az):Heap:=
 ((((h.push { cls:=.type "tuple_iterator",data:=.fields #[.ref t,.int 0 0] }).push { cls:=.type "tuple_iterator",data:=.fields #[.ref u,.int 0 0] }).push { cls:=.type "tuple",data:=.seq #[.ref h.objs.size,.ref (h.objs.size+1)] }).push
  { cls:=.type "tuple",data:=.seq #[.none,.none] }).push { cls:=.type "zip",data:=.fields #[.none,.bool false,.bool false,.ref (h.objs.size+2),.ref (h.objs.size+3)] }
theorem aP5 (t u:az)(xs ys:Array ax):Meets (Builtin.«zip.__new__» ⟨[.type "zip",.ref t,.ref u],[]⟩) (λ_ R s=>s.heap.IsTuple t xs/\s.heap.IsTuple u ys/\R (.ok (.ret (.ref (s.heap.objs.size+4)))) { s with heap:=i7 s.heap t u }):=
 .of_wp λprog w A R s h=>by
  obtain⟨hp,g,d,tk,os⟩:=s
  obtain⟨ht,hu,h⟩:=h
  have sub:=sub_zip;have a1:Heap.IsTuple (Shared.heap ⟨hp,g,d,tk,os⟩) t xs:=ht;have a2:Heap.IsTuple (Shared.heap ⟨hp.push { cls:=.type "tuple_iterator",data:=.fields #[.ref t,.int 0 0] },g,d,tk,os⟩) u ys:=hu.elim λo y=>⟨o,ez _ y.1,y.2⟩
  wp_walk using Ax a1,Ax a2
  have e:∀(o:Obj) (k:Heap),(k.push o).objs.size=k.objs.size+1:=λo k=>xg ..
  refine⟨_,rfl,?_⟩;simp only[i7,e]at h ⊢;exact h
section
variable {prog:ba}{w:bd}{A:bc}{E:ax→ay→Prop}{s:ay}
theorem aP6 {t u:az}{xs ys:Array ax}{Q:ax->ay->Prop}(ht:s.heap.IsTuple t xs)(hu:s.heap.IsTuple u ys)(q:∀h',IsZip h' (s.heap.objs.size+4) (s.heap.objs.size+2) (s.heap.objs.size+3) .none->IsPair h' (s.heap.objs.size+2) (.ref s.heap.objs.size) (.ref (s.heap.objs.size+1))->
   IsPair h' (s.heap.objs.size+3) .none .none->h'.IsTupleIter s.heap.objs.size t 0->h'.IsTupleIter (s.heap.objs.size+1) u 0->(∀c o,s.heap.get? c=some o->h'.get? c=some o)->Q (.ref (s.heap.objs.size+4)) { s with heap:=h' }) :
  wpAny (model prog w) A (call (.type "zip") [.ref t,.ref u]) Q E s:=by
 refine callType_new PySem.F.called_zip (by decide) (PySem.F.typeCall_zip_2 _ _) (PySem.F.newCall_zip_2 _ _) (λobj=>PySem.F.args_object_init_3 obj _ _) PySem.F.entry_zip_new (aP5 t u xs ys) ⟨ht,hu,?_⟩;have e:∀(o:Obj) (k:Heap),(k.push o).objs.size=k.objs.size+1:=λo k=>xg ..
 have p0:∀(k:Heap) (o:Obj) (m:Nat),o.isFreed=false->m=k.objs.size->(k.push o).get? m=some o:=λk o m f z=>by rw[z];exact jw _ f
 have g0:(i7 s.heap t u).get? s.heap.objs.size=some { cls:=.type "tuple_iterator",data:=.fields #[.ref t,.int 0 0] }:=by
  unfold i7;exact ez _ (ez _ (ez _ (ez _ (p0 _ _ _ rfl rfl))))
 have g1:(i7 s.heap t u).get? (s.heap.objs.size+1)=some { cls:=.type "tuple_iterator",data:=.fields #[.ref u,.int 0 0] }:=by
  unfold i7;exact ez _ (ez _ (ez _ (p0 _ _ _ rfl (by simp only[e]))))
 have g2:(i7 s.heap t u).get? (s.heap.objs.size+2)=some { cls:=.type "tuple",data:=.seq #[.ref s.heap.objs.size,.ref (s.heap.objs.size+1)] }:=by
  unfold i7;exact ez _ (ez _ (p0 _ _ _ rfl (by simp only[e])))
 have g3:(i7 s.heap t u).get? (s.heap.objs.size+3)=some { cls:=.type "tuple",data:=.seq #[.none,.none] }:=by
  unfold i7;exact ez _ (p0 _ _ _ rfl (by simp only[e]))
 have g4:(i7 s.heap t u).get? (s.heap.objs.size+4)=some { cls:=.type "zip",data:=.fields #[.none,.bool false,.bool false,.ref (s.heap.objs.size+2),.ref (s.heap.objs.size+3)] }:=by
  unfold i7;exact p0 _ _ _ rfl (by simp only[e])
 refine⟨⟨_,g4,rfl⟩,q _ g4 g2 g3 ⟨_,g0,rfl,rfl⟩ ⟨_,g1,rfl,rfl⟩ λc o z=>?_⟩;unfold i7;exact ez _ (ez _ (ez _ (ez _ (ez _ z))))
end
end Zp
namespace L2
open PySem PySem.Spec PyProof.Rows
def Pb (K:ad)(a b:az):It:=
  ⟨λi H=>∃xs ys x y,aM K H a xs/\aM K H b ys/\xs[i]? = some x/\ys[i]? = some y,
   λi H v H'=>∃T x y,H T=none/\v = .ref T/\H'=upd H T (.tup [x,y])/\∀xs ys,aM K H a xs->aM K H b ys->xs[i]? = some x/\ys[i]? = some y,
   λi H=>∃xs ys,aM K H a xs/\aM K H b ys/\(i=xs.length∨(i<xs.length/\i=ys.length))⟩
def Sq (t:Bool)(K:ad)(H:Hp)(a:az)(xs:List V):Prop:=match t with
 |true=>aM K H a xs
 |false=>aN K H a xs
def fP (t:Bool)(h:Heap)(i a:az)(n:Nat):Prop:=match t with
 |true=>h.IsTupleIter i a n
 |false=>h.IsListIter i a n
def qP (t:Bool)(h:Heap)(a:az)(xs:Array ax):Prop:=match t with
 |true=>h.IsTuple a xs
 |false=>h.IsList a xs
theorem fP.at {h h':Heap}{i a:az}{n:Nat}:∀{t:Bool},fP t h i a n->(∀o,h.get? i=some o->h'.get? i=some o)->fP t h' i a n
 |true,x,k=>Heap.IsTupleIter.at x k
 |false,x,k=>Heap.IsListIter.at x k
theorem fP.ob {h:Heap}{i a:az}{n:Nat}:∀{t:Bool},fP t h i a n->∃o,h.get? i=some o/\∀v,o.data≠.cell v
 |true,⟨o,f,_,d⟩=>⟨o,f,λv q=>by rw[d]at q;cases q⟩
 |false,⟨o,f,_,d⟩=>⟨o,f,λv q=>by rw[d]at q;cases q⟩
theorem fP.draws {prog:ba}{w:bd}{A:bc}:∀(t:Bool) (hh:A.handled=none) (it a:az) (ne:a≠it) (items:Array ax),Draws prog w A it [it,a] items.size (λi v=>items[i]? = some v) (λi h=>fP t h it a i/\qP t h a items)
 |true,hh,it,a,ne,items=>Zp.aP4 hh it a ne items
 |false,hh,it,a,ne,items=>Draws.list hh it a ne items
section
variable {X:Cx}{ai:List (az×Obj)}{σ:St}{H:Hp}{s:ay}{a:az}{xs ys:List V}
theorem Sq.get (I:a6 X ai σ H s):∀{t:Bool},Sq t X.K H a xs->∃us,aI xs us/\qP t s.heap a us.toArray
 |true,h=>by obtain⟨us,r,p,_⟩:=I.tuple h;exact⟨us,r,p⟩
 |false,h=>by obtain⟨us,r,p,_⟩:=I.list h;exact⟨us,r,p.isList⟩
theorem Sq.inj (I:a6 X ai σ H s):∀{t:Bool},Sq t X.K H a xs->Sq t X.K H a ys->xs=ys
 |true,h,g=>I.kq h g
 |false,h,g=>I.ni h g
theorem Sq.off (I:a6 X ai σ H s)(he:H a=none)(hb:X.base.get? a=none):∀{t:Bool},Sq t X.K H a xs->False
 |true,h=>by
  rcases h with (h|⟨_,h⟩)|⟨o,_,_,h,_⟩
  ·rw[he]at h;cases h
  ·rw[he]at h;cases h
  ·have:=I.ok.mod.mq a o h
   rw[hb]at this;cases this
 |false,h=>by
  rcases h with (h|⟨_,h⟩)|⟨o,_,_,h,_⟩
  ·rw[he]at h;cases h
  ·rw[he]at h;cases h
  ·have:=I.ok.mod.mq a o h
   rw[hb]at this;cases this
end
def aP7 (t1 t2:Bool)(K:ad)(a b:az):It:=
  ⟨λi H=>∃xs ys x y,Sq t1 K H a xs/\Sq t2 K H b ys/\xs[i]? = some x/\ys[i]? = some y,
   λi H v H'=>∃T x y,H T=none/\v = .ref T/\H'=upd H T (.tup [x,y])/\∀xs ys,Sq t1 K H a xs->Sq t2 K H b ys->xs[i]? = some x/\ys[i]? = some y,
   λi H=>∃xs ys,Sq t1 K H a xs/\Sq t2 K H b ys/\(i=xs.length∨(i<xs.length/\i=ys.length))⟩
structure yX (t1 t2:Bool)(z TI TO i1 i2 a b:az)(i:Nat)(h:Heap):Prop where
 zz:IsZip h z TI TO .none
 ti:IsPair h TI (.ref i1) (.ref i2)
 Bf:∃x y,IsPair h TO x y
 s1:fP t1 h i1 a i
 s2:fP t2 h i2 b i
theorem Oq (t1 t2:Bool){P:ba}{w:bd}{K:ad}{elts:List Expr}{k:Nat}{pos:Pos}(a b z TI TO i1 i2:az)(d:[z,TI,TO,i1,i2].Nodup) :
  iH P w K (.Tuple elts k pos) (aP7 t1 t2 K a b) [z,TI,TO,i1,i2] z (yX t1 t2 z TI TO i1 i2 a b):=by
 have nd:z≠TI/\z≠TO/\z≠i1/\z≠i2/\TI≠TO/\TI≠i1/\TI≠i2/\TO≠i1/\TO≠i2/\i1≠i2:=by
  simp only[qu,eg,ky,kx,not_or]at d
  obtain⟨⟨a1,a2,a3,a4⟩,⟨b1,b2,b3⟩,⟨c1,c2⟩,e1,_⟩:=d
  exact⟨a1,a2,a3,a4,b1,b2,b3,c1,c2,e1⟩
 obtain⟨n1,n2,n3,n4,n5,n6,n7,n8,n9,HL⟩:=nd
 have Ah:∀{X:Cx}{ai:List (az×Obj)}{σ:St}{H:Hp}{s:ay},a6 X ai σ H s->(∀c∈[z,TI,TO,i1,i2],i5 X ai H c)->∀c∈[z,TI,TO,i1,i2],X.base.get? c=none:=by
  intro X ai σ H s I hf c hc;cases q:X.base.get? c with
  |none=>rfl
  |some o=>
   rcases (hf c hc).2.2.2.1 with h|h
   ·exact absurd h (I.ok.we c o q)
   ·exact absurd (iu (fm q) (iw I.ok.xt h)) (qr _)
 have off:∀{t:Bool}{X:Cx}{ai:List (az×Obj)}{σ:St}{H:Hp}{s:ay}{c:az}{zs:List V},a6 X ai σ H s->(∀c∈[z,TI,TO,i1,i2],i5 X ai H c)->Sq t X.K H c zs->c∉[z,TI,TO,i1,i2]:=by
  intro t X ai σ H s c zs I hf hc hm;exact Sq.off I (hf c hm).1 (Ah I hf c hm) hc
 have ap:∀{c e:az},c∉[z,TI,TO,i1,i2]->e∉[z,TI,TO,i1,i2]->Zp.Ap z TI TO i1 i2 [i1,c] [i2,e]:=λ{c e} hc he=>by
  simp only[eg,ky,kx,not_or]at hc he
  obtain⟨c1,c2,c3,c4,c5⟩:=hc
  obtain⟨e1,e2,e3,e4,e5⟩:=he
  have two:∀{q u v:az},q≠u->q≠v->q∉[u,v]:=λ{q u v} h1 h2 hm=>by
   simp only[eg,ky,kx]at hm;exact hm.elim h1 h2
  exact⟨n1.symm,n2.symm,n5,two n3 (Ne.symm c1),two n4 (Ne.symm e1),two n8 (Ne.symm c3),two n9 (Ne.symm e3),two n6 (Ne.symm c2),two n7 (Ne.symm e2),dv,dv,two HL (Ne.symm e4),two HL.symm (Ne.symm c5)⟩
 refine⟨by simp,λi h st c hc=>?_,λi h h' st kp=>?_,?_,?_,λA i s Q E st q=>wpAny_pyIter_zip st.zz q⟩
 ·simp only[eg,ky,kx]at hc
  obtain⟨x,y,to⟩:=st.Bf
  rcases hc with rfl|rfl|rfl|rfl|rfl
  ·exact⟨_,st.zz,λv q=>by cases q⟩
  ·exact⟨_,st.ti,λv q=>by cases q⟩
  ·exact⟨_,to,λv q=>by cases q⟩
  ·exact st.s1.ob
  ·exact st.s2.ob
 ·obtain⟨x,y,to⟩:=st.Bf
  exact⟨kp z (by simp) _ st.zz,kp TI (by simp) _ st.ti,⟨x,y,kp TO (by simp) _ to⟩,st.s1.at λo e=>kp i1 (by simp) o e,st.s2.at λo e=>kp i2 (by simp) o e⟩
 ·
  intro X hP hw hK hc i ai s σ H E I hf st hg;subst hP hw hK
  obtain⟨xs,ys,x,y,ha,hb,hx,hy⟩:=hg
  obtain⟨us,ru,pu⟩:=Sq.get I ha
  obtain⟨vs,rv,Fe⟩:=Sq.get I hb
  obtain⟨ux,EL,EZ⟩:=ru.get hx
  obtain⟨vy,II,PZ⟩:=rv.get hy
  have fa:=off I hf ha;have fb:=off I hf hb;have hh:X.A.in1.handled=none:=I.ok.hd hc;have l1:i<us.toArray.size:=by simpa using (og.mp EL).1
  have l2:i<vs.toArray.size:=by simpa using (og.mp II).1
  have GH:a≠i1:=λq=>fa (by rw[q];simp)
  have GF:b≠i2:=λq=>fb (by rw[q];simp)
  have D1:=fP.draws t1 (prog:=X.prog) (w:=X.w) hh i1 a GH us.toArray;have D2:=fP.draws t2 (prog:=X.prog) (w:=X.w) hh i2 b GF vs.toArray;refine Zp.item D1 D2 (ap fa fb) l1 l2 ⟨st.zz,st.ti,st.Bf,⟨st.s1,pu⟩,⟨st.s2,Fe⟩⟩ λp q h' tk hp hq bz pr kp sz=>⟨_,rfl,?_⟩
  obtain rfl:p=ux:=by
   have:us.toArray[i]? = some ux:=by simpa using EL
   rw[this]at hp;exact (ip hp).symm
  obtain rfl:q=vy:=by
   have:vs.toArray[i]? = some vy:=by simpa using II
   rw[this]at hq;exact (ip hq).symm
  refine wpAny_letOwnedTupleGo_zip (s:={ s with heap:=h',toks:=tk }) bz.zz λg zz sb=>?_
  have DB:z<s.heap.objs.size:=fm st.zz;have up:∀c o,c≠z->c≠TO->c≠i1->c≠i2->s.heap.get? c=some o->g.get? c=some o:=λc o c1 c2 c3 c4 e=>sb.extBut c o c1 (kp c o c1 c2 c3 c4 e)
  have hT:H s.heap.objs.size=none:=I.cj.fresh (da _);have Di:IsPair g s.heap.objs.size p q:=sb.extBut _ _ (uv DB) pr;have BM:∀c u,H c=some u->c∉[z,TI,TO,i1,i2]:=λc u e hm=>by rw[(hf c hm).1]at e;cases e
  have yg:∀c o u,H c=some u->s.heap.get? c=some o->g.get? c=some o:=λc o u e z=>by
   have:=BM c u e
   simp only[eg,ky,kx,not_or]at this;exact up c o this.1 this.2.2.1 this.2.2.2.1 this.2.2.2.2 z
  have ns:∀m,s.heap.Ns X.env.locals m->g.Ns X.env.locals m:=λm hm=>by
   obtain⟨o,es,ep,e1,e2⟩:=hm
   exact⟨o,es,ep,up _ o (Ne.symm (hf z (by simp)).2.1) (Ne.symm (hf TO (by simp)).2.1) (Ne.symm (hf i1 (by simp)).2.1) (Ne.symm (hf i2 (by simp)).2.1) e1,e2⟩
  have I2:a6 X ai σ (upd H s.heap.objs.size (.tup [x,y])) { s with heap:=g,toks:=tk }:=by
   refine I.step (g':=s.gens) (d':=s.drawn) (ch:=[z,TO,i1,i2]) (λc dj=>?_) (λc o _ _ dj e _=>?_) (λc o _ _ dj e _=>⟨o.slots,?_⟩) (λc o _ e n=>?_) (λc o dj e=>⟨o,?_⟩)
    (λc zs e=>by rw[aH (dL e hT)];exact e) (λc u zs e=>by rw[aH (dL e hT)];exact e) (λc ps e=>⟨#[],by rw[aH (dL e hT),e];simp⟩) ns (λc u e=>?_) I.bare
   ·have hm:c∈[z,TI,TO,i1,i2]:=by
     simp only[eg,ky,kx]at dj ⊢;rcases dj with h|h|h|h<;>simp[h]
    exact⟨(hf c hm).2.2.2.1,(hf c hm).2.1,(hf c hm).2.2.2.2.1,(hf c hm).2.2.2.2.2⟩
   ·simp only[eg,ky,kx,not_or]at dj
    exact up c o dj.1 dj.2.1 dj.2.2.1 dj.2.2.2 e
   ·simp only[eg,ky,kx,not_or]at dj
    exact up c o dj.1 dj.2.1 dj.2.2.1 dj.2.2.2 e
   ·rw[aH (lj (fm e))];exact n
   ·simp only[eg,ky,kx,not_or]at dj
    exact up c o dj.1 dj.2.1 dj.2.2.1 dj.2.2.2 e
   ·by_cases DM:c=s.heap.objs.size
    ·subst DM
     rw[bE]at e;cases e
     exact⟨by show 2<=sizeLine;decide,[p,q],.cons EZ (.cons PZ .nil),⟨_,Di,rfl,_,rfl⟩,λu e=>by rw[Di]at e;cases e;rfl⟩
    ·rw[aH DM]at e
     refine (I.cj c u e).fw (λc' o' hc2 q'=>?_) (λc' q'=>by rw[aH (dL q' hT)];exact q') λc' zs q'=>by rw[aH (dL q' hT)];exact q'
     rcases hc2 with rfl|hc2
     ·exact yg _ _ _ e q'
     ·exact yg _ _ _ hc2 q'
  obtain⟨x',y',Py⟩:=bz.Bf
  refine⟨.ref s.heap.objs.size,_,I2,rfl,⟨_,x,y,hT,rfl,rfl,λvx Cn Gn DN=>?_⟩,⟨zz,sb.extBut _ _ n1.symm bz.ti,⟨x',y',sb.extBut _ _ n2.symm Py⟩,bz.s1.1.at λo e=>sb.extBut _ o n3.symm e,bz.s2.1.at λo e=>sb.extBut _ o n4.symm e⟩,λc dj=>?_⟩
  ·rw[Sq.inj I Gn ha,Sq.inj I DN hb];exact⟨hx,hy⟩
  ·obtain⟨o,e,_⟩:∃o,s.heap.get? c=some o/\True:=by
    simp only[eg,ky,kx]at dj
    obtain⟨x2,y2,to2⟩:=st.Bf
    obtain⟨o1,f1,_⟩:=st.s1.ob
    obtain⟨o2,f2,_⟩:=st.s2.ob
    rcases dj with rfl|rfl|rfl|rfl|rfl
    ·exact⟨_,st.zz,trivial⟩
    ·exact⟨_,st.ti,trivial⟩
    ·exact⟨_,to2,trivial⟩
    ·exact⟨_,f1,trivial⟩
    ·exact⟨_,f2,trivial⟩
   rw[aH (lj (fm e))];exact (hf c dj).1
 ·
  intro X hP hw hK hc i ai s σ H E I hf st hg;subst hP hw hK
  obtain⟨xs,ys,ha,hb,hi⟩:=hg
  obtain⟨us,ru,pu⟩:=Sq.get I ha
  obtain⟨vs,rv,Fe⟩:=Sq.get I hb
  have fa:=off I hf ha;have fb:=off I hf hb;have hh:X.A.in1.handled=none:=I.ok.hd hc;have GH:a≠i1:=λq=>fa (by rw[q];simp)
  have GF:b≠i2:=λq=>fb (by rw[q];simp)
  have D1:=fP.draws t1 (prog:=X.prog) (w:=X.w) hh i1 a GH us.toArray;have D2:=fP.draws t2 (prog:=X.prog) (w:=X.w) hh i2 b GF vs.toArray;have e1:=ru.length;have e2:=rv.length;refine Zp.fin D1 D2 (ap fa fb) (by simp only[fu];lia) ⟨st.zz,st.ti,st.Bf,⟨st.s1,pu⟩,⟨st.s2,Fe⟩⟩ λg tk kp=>⟨rfl,?_⟩
  have BM:∀c u,H c=some u->c∉[z,TI,TO,i1,i2]:=λc u e hm=>by rw[(hf c hm).1]at e;cases e
  have yg:∀c o u,H c=some u->s.heap.get? c=some o->g.get? c=some o:=λc o u e z=>by
   have:=BM c u e
   simp only[eg,ky,kx,not_or]at this;exact kp c o this.1 this.2.2.1 this.2.2.2.1 this.2.2.2.2 z
  have ns:∀m,s.heap.Ns X.env.locals m->g.Ns X.env.locals m:=λm hm=>by
   obtain⟨o,es,ep,e1,e2⟩:=hm
   exact⟨o,es,ep,kp _ o (Ne.symm (hf z (by simp)).2.1) (Ne.symm (hf TO (by simp)).2.1) (Ne.symm (hf i1 (by simp)).2.1) (Ne.symm (hf i2 (by simp)).2.1) e1,e2⟩
  refine I.step (g':=s.gens) (d':=s.drawn) (ch:=[z,TO,i1,i2]) (λc dj=>?_) (λc o _ _ dj e _=>?_) (λc o _ _ dj e _=>⟨o.slots,?_⟩) (λc o _ e n=>n) (λc o dj e=>⟨o,?_⟩)
   (λc zs e=>e) (λc u zs e=>e) (λc ps e=>⟨#[],by rw[e];simp⟩) ns (λc u e=>?_) I.bare
  ·have hm:c∈[z,TI,TO,i1,i2]:=by
    simp only[eg,ky,kx]at dj ⊢;rcases dj with h|h|h|h<;>simp[h]
   exact⟨(hf c hm).2.2.2.1,(hf c hm).2.1,(hf c hm).2.2.2.2.1,(hf c hm).2.2.2.2.2⟩
  ·simp only[eg,ky,kx,not_or]at dj
   exact kp c o dj.1 dj.2.1 dj.2.2.1 dj.2.2.2 e
  ·simp only[eg,ky,kx,not_or]at dj
   exact kp c o dj.1 dj.2.1 dj.2.2.1 dj.2.2.2 e
  ·simp only[eg,ky,kx,not_or]at dj
   exact kp c o dj.1 dj.2.1 dj.2.2.1 dj.2.2.2 e
  ·refine (I.cj c u e).fw (λc' o' hc2 q'=>?_) (λ_ q'=>q') λ_ _ q'=>q'
   rcases hc2 with rfl|hc2
   ·exact yg _ _ _ e q'
   ·exact yg _ _ _ hc2 q'
abbrev aP8:=yX true true
theorem aP9 {P:ba}{w:bd}{K:ad}{elts:List Expr}{k:Nat}{pos:Pos}(a b z TI TO i1 i2:az)(d:[z,TI,TO,i1,i2].Nodup) :
  iH P w K (.Tuple elts k pos) (Pb K a b) [z,TI,TO,i1,i2] z (aP8 z TI TO i1 i2 a b):=Oq true true a b z TI TO i1 i2 d
def yY (K:ad)(a b:az):It:=
  ⟨λi H=>∃xs ys x y,aN K H a xs/\aN K H b ys/\xs[i]? = some x/\ys[i]? = some y,
   λi H v H'=>∃T x y,H T=none/\v = .ref T/\H'=upd H T (.tup [x,y])/\∀xs ys,aN K H a xs->aN K H b ys->xs[i]? = some x/\ys[i]? = some y,
   λi H=>∃xs ys,aN K H a xs/\aN K H b ys/\(i=xs.length∨(i<xs.length/\i=ys.length))⟩
abbrev aQ0:=yX false false
theorem aQ1 {P:ba}{w:bd}{K:ad}{elts:List Expr}{k:Nat}{pos:Pos}(a b z TI TO i1 i2:az)(d:[z,TI,TO,i1,i2].Nodup) :
  iH P w K (.Tuple elts k pos) (yY K a b) [z,TI,TO,i1,i2] z (aQ0 z TI TO i1 i2 a b):=Oq false false a b z TI TO i1 i2 d
theorem aQ2 (l:az)(items:Array ax)(n:Nat)(b:az)(items2:Array ax)(n2:Nat)(dd:Option az)(ss:Array (Option ax))(h0:¬(!items.isEmpty&&Builtin.List.listTooLong (items.size+items2.size))=true)(h1:items.size<=sizeLine)(h2:items.size+items2.size<=sizeLine+1) :
  Meets (Builtin.«list.extend» ⟨[.ref l,.ref b],[]⟩) (λ_ R s=>s.heap.get? l=some { cls:=.type "list",dict:=none,data:=.seq items n,slots:=#[] }/\s.heap.get? b=some { cls:=.type "tuple",dict:=dd,data:=.seq items2 n2,slots:=ss }/\R (.ok (.ret Value.none)) { s with heap:=s.heap.update l (Obj.mapSeq λx=>x++items2),toks:=s.toks }):=
 .of_wp λprog w A R s h=>by
  obtain⟨hp,g,d,tk,os⟩:=s;obtain⟨hl,hb,h⟩:=h;have f2:=AutoSeq1.sub_tuple_tuple;have f3:=AutoSeq1.sub_list_list;have f4:=AutoSeq1.sub_tuple_list;have f5:=AutoSeq1.sub_list_tuple
  have FA:(items++items2).size<=sizeLine+1:=by rw[Array.size_append];exact h2
  wp_walk using (wpAny_updateSeq hl rfl (hz:=h1) (_hz':=FA)),AutoSeq1.wpAny_loadPart' hl,AutoSeq1.wpAny_loadPart' hb
  exact⟨_,rfl,h⟩
def Oo (K:ad):V->List V->Hp->VK->Prop:=λx vs H Q=>∃(l b:az) (xs zs:List V),x = .ref l/\vs = [.ref b]/\H l=some (.lst xs)/\aM K H b zs/\xs.length+zs.length<=sizeLine/\Q .cq (upd H l (.lst (xs++zs)))
theorem aQ3 {X:Cx}:o6 X "list.extend" (Oo X.K):=by
 intro ai s σ H x vs v us Q I rx rv h
 obtain⟨l,b,xs,zs,rfl,rfl,hH,hB,hz,q⟩:=h
 cases rx
 obtain⟨u,rfl,ru⟩:=rv.one
 cases ru
 obtain⟨z,bo,n,r,hl,e⟩:=I.qj hH
 obtain⟨av,r2,⟨⟨cls,dd,data,ss⟩,e2,hc,n2,hd⟩,z2⟩:=I.tuple hB
 cases hc;cases hd;have qe:=r2.length;have hsz:bo.toArray.size+av.toArray.size<=sizeLine:=by rw[fu,fu];lia
 have rm:¬(!bo.toArray.isEmpty&&Builtin.List.listTooLong (bo.toArray.size+av.toArray.size))=true:=by
  rw[xZ hsz,Bool.and_false];exact gu
 refine vn F.slot_list_extend ⟨_,e,rfl⟩ F.entry_list_extend (F.args_list_extend_2 _ _)
  (aQ2 l bo.toArray n b av.toArray n2 dd ss rm (by rw[fu];lia) (by lia)) ⟨e,e2,?_⟩
 refine⟨.cq,_,I.yr (its':=bo++av) hH e (by simp) (r.append r2) ?_,rfl,q⟩;rw[gq];lia
end L2
namespace L2
open PySem PySem.Spec PyProof.Rows PySem.W
structure b7 where
 qual:Str
 params:Arguments
 body:Expr
 scope:Scope
 gp:List (Str×az)
abbrev qQ (l:b7)(pm cv ju:ax):FuncData:=kla_fn "<lambda>" l.qual l.params l.body l.scope l.gp pm cv ju
abbrev Om (l:b7)(pm cv ju:ax):Obj:={ cls:=.type "function",data:=.func (qQ l pm cv ju) }
def iM (H:Hp)(f:az)(l:b7):Prop:=∃(pm ju:ax) (c:az),H f=some (.dq (Om l pm (.ref c) ju) (.cd c l.qual))
theorem iM.same {H H':Hp}{f:az}{l:b7}(s:aD H H')(h:iM H f l):iM H' f l:=
 let ⟨pm,ju,c,e1⟩:=h;⟨pm,ju,c,s _ _ e1⟩
structure iN (base:Heap)(mg:Str->Option ax)(P:az):Prop where
 ex:base.BuiltinsAt mg P
section
variable {X:Cx}{ai:List (az×Obj)}{σ:St}{H:Hp}{s:ay}{P:az}{l:b7}
theorem iN.at (B:iN X.base X.mg P)(I:a6 X ai σ H s):s.heap.BuiltinsAt X.mg P:=
 let ⟨bm,o,h1,h2,h3,h4,h5,h6⟩:=B.ex;⟨bm,o,h1,h2,h3,h4,I.bk _ _ h5,h6⟩
theorem a6.table {t:Tok}{h':Heap}{tk:Nat}{qs Eu:Array ax}{c:az}{oc:Obj}{vs:Array ax}{tq:Tok}(I:a6 X ai σ H s)(hP:H P=some (.qb #[.str l.qual t]))(hx:Heap.ExtBut P s.heap h')(Bz:s.heap.objs.size<=c)(AG:h'.get? c=some oc)(hd:oc.data = .fields vs)(hv:vs[1]? = some (.str l.qual tq))(e:s.heap.get? P=some { cls:=.none,data:=.fields qs })(e':h'.get? P=some { cls:=.none,data:=.fields Eu })(tr:TriplesOk Eu.toList)(cs:∀(pos:Pos) (cv:ax),codeAmong pos qs.toList=some cv->∃(c:az) (q:Str) (t':Tok),cv = .ref c/\H c=some (.code q)/\#[.str l.qual t] = #[Value.str q t'])(new:∀(pos:Pos) (cv:ax),codeAmong pos Eu.toList=some cv->codeAmong pos qs.toList=some cv∨cv = .ref c):a6 X ai σ (upd H c (.code l.qual)) { s with heap:=h',toks:=tk }:=by
 have hn:H c=none:=I.cj.fresh Bz;have cP:P≠c:=λz=>by rw[z,hn]at hP;cases hP
 have lt:∀{b o},s.heap.get? b=some o->b≠c:=λ{b o} g z=>absurd (fm g) (by rw[z];exact Nat.not_lt.mpr Bz)
 have old:∀{b o},H b=some o->b≠c:=λ{b o} g z=>by rw[z,hn]at g;cases g
 refine I.un ⟨λb o g n _ _=>hx b o (λz=>by rw[z,hP]at n;cases n) g,λb o g n _ _=>⟨o.slots,hx b o (λz=>by rw[z,hP]at n;cases n) g⟩,λb o g n _=>by rw[aH (lt g)];exact n,λb o g _=>?_,λb xs g=>by rw[aH (old g)];exact g,λb o u g=>by rw[aH (old g)];exact g,λb ps g=>⟨#[],by rw[aH (old g),g];simp⟩⟩ λb u z=>?_
 ·by_cases hb:b=P
  ·subst hb;exact⟨_,e'⟩
  ·exact⟨o,hx b o hb g⟩
 ·by_cases hb:b=c
  ·subst hb;rw[bE]at z;cases z
   exact⟨oc,vs,tq,AG,hd,hv⟩
  ·rw[aH hb]at z
   by_cases bP:b=P
   ·subst bP
    rw[hP]at z;cases z;refine⟨Eu,e',tr,λpos cv h=>?_⟩;rcases new pos cv h with h|rfl
    ·obtain⟨c1,q,t',e1,e2,e3⟩:=cs pos cv h
     exact⟨c1,q,t',e1,by rw[aH (old e2)];exact e2,e3⟩
    ·exact⟨c,l.qual,t,rfl,bE,rfl⟩
   ·refine (I.cj b u z).fw (λc' v hc q=>hx c' v ?_ q) (λc' q=>by rw[aH (old q)];exact q) (λc' xs q=>by rw[aH (old q)];exact q) (λc' r q=>by rw[aH (old q)];exact q)
    rcases hc with rfl|hc
    ·exact bP
    ·intro w;rw[w,hP]at hc;cases hc
def Ol (P:az)(l:b7):TE:=λ_ H Q=>(∃t:Tok,H P=some (.qb #[.str l.qual t]))/\∀f H',aD H H'->H f=none->iM H' f l->Q (.ref f) H'
theorem aQ4 {pos:Pos}{c:ax}:∀{l:List ax},TriplesOk l->TriplesOk (l++[rawInt pos.line,rawInt pos.col,c]):=by
 intro l h
 fun_induction TriplesOk l with
 |case1=>exact trivial
 |case2 a b c d e r ih=>exact ih h
 |case3=>exact h.elim
theorem aQ5 {pos pos':Pos}{c cv:ax}:∀{l:List ax},TriplesOk l->codeAmong pos' (l++[rawInt pos.line,rawInt pos.col,c])=some cv->codeAmong pos' l=some cv∨cv=c:=by
 intro l h g
 fun_induction TriplesOk l with
 |case1=>
  simp only[List.nil_append,codeAmong,rawInt]at g;split at g
  ·exact .inr (ip g).symm
  ·cases g
 |case2 a b d e f r ih=>
  simp only[List.cons_append,codeAmong]at g ⊢;split
  ·rename_i hh
   rw[if_pos hh]at g;exact .inl g
  ·rename_i hh
   rw[if_neg hh]at g;exact ih h g
 |case3=>exact h.elim
theorem aQ6 {params:Arguments}{body:Expr}{scope:Scope}{pos:Pos}{c0:az}{gp:List (Str×az)}(hl:l=⟨X.env.qual++"<lambda>",params,body,scope,gp⟩)(vh:X.env.code = .ref c0)(hK:codeHdIn X.K c0 P=true)(B:iN X.base X.mg P)(zu:mainGlobals≠P)(BD:defaultsOf params X.env=([],[]):=by rfl)(za:closureFor scope X.env=pure gp:=by rfl):PE X (.Lambda params body scope pos) (Ol P l):=by
 intro ai s σ H Q I ⟨⟨t,hP⟩,q⟩
 obtain⟨qs,e,tr,cs⟩:=(show bK X.prog X.w H s.heap P (.qb #[.str l.qual t]) from I.cj P _ hP)
 have e0:s.heap.get? P=some (tabObj qs):=e;refine kla_eval BD ?_;have lq:l.qual=X.env.qual++"<lambda>":=by rw[hl]
 cases hf:codeAmong pos qs.toList with
 |none=>
  refine kla_makeFunction za I.ok.glob (I.ok.mod.glob.keeps I.bk) vh (codeHd_of_K I.nj hK) e0 tr hf zu (B.at I) λc' ju h' tk hx Bz jq FO Rg=>?_
  obtain⟨c2,oc,vs,tq,ec,AG,hd,hv⟩:=FO
  cases ec;have DC:Heap.ExtBut P s.heap h':=hx;have I1:a6 X ai σ (upd H c' (.code l.qual)) { s with heap:=h',toks:=tk }:=I.table (l:=l) hP DC Bz AG hd (by rw[lq];exact hv) e Rg (by rw[ya];exact aQ4 tr) cs λpos' cv h=>by
   rw[ya]at h;exact aQ5 tr h
  have fn:upd H c' (.code l.qual) h'.objs.size=none:=I1.cj.fresh (da _);have cf:c'≠h'.objs.size:=lj jq
  let fo:Obj:=kla_obj "<lambda>" (X.env.qual++"<lambda>") params body scope gp ((X.mg "__name__").getD .none) c' ju
  have I2:a6 X ai σ (upd (upd H c' (.code l.qual)) h'.objs.size (.dq fo (.cd c' l.qual))) { s with heap:=h'.push fo,toks:=tk }:=I1.laid (s:={ s with heap:=h',toks:=tk }) (a:=h'.objs.size) (o:=.dq fo (.cd c' l.qual)) (t':=tk) (λb o g=>ez _ g) (da _) ⟨jw _ rfl,⟨fo,jw _ rfl⟩,by rw[aH cf,bE]⟩;refine⟨.ref h'.objs.size,_,I2,rfl,q _ _ (λb o g=>?_) ?_ ⟨(X.mg "__name__").getD .none,ju,c',by rw[bE,hl]⟩⟩
  ·have b1:b≠c':=λz=>by rw[z,I.cj.fresh Bz]at g;cases g
   have b2:b≠h'.objs.size:=λz=>by
    have:=I.cj.lt g
    rw[z]at this;exact absurd (iu (iu this Bz) (uw jq)) (qr _)
   rw[aH b2,aH b1];exact g
  ·cases z:H h'.objs.size with
   |none=>rfl
   |some u=>exact absurd (iu (iu (I.cj.lt z) Bz) (uw jq)) (qr _)
 |some cv=>
  obtain⟨c,q',t',rfl,hc,eq⟩:=cs pos cv hf
  have hq:q'=l.qual:=by
   have:=congrArg (λa:Array ax=>a[0]?) eq
   simp at this;exact this.1.symm
  subst hq;refine kla_makeFunctionHit za I.ok.glob (I.ok.mod.glob.keeps I.bk) vh (codeHd_of_K I.nj hK) e0 tr hf (B.at I) λju h' tk k hsz=>?_
  have I1:a6 X ai σ H { s with heap:=h',toks:=tk }:=I.kept k
  let fo:Obj:={ cls:=.type "function",data:=.func (kla_fn "<lambda>" (X.env.qual++"<lambda>") params body scope gp ((X.mg "__name__").getD .none) (.ref c) ju) }
  have I2:a6 X ai σ (upd H h'.objs.size (.dq fo (.cd c l.qual))) { s with heap:=h'.push fo,toks:=tk }:=I1.laid (s:={ s with heap:=h',toks:=tk }) (a:=h'.objs.size) (o:=.dq fo (.cd c l.qual)) (t':=tk) (λb o g=>ez _ g) (da _) ⟨jw _ rfl,⟨fo,jw _ rfl⟩,by rw[aH (λz=>by rw[z,I1.cj.fresh (da _)]at hc;cases hc)];exact hc⟩;have fn:H h'.objs.size=none:=I1.cj.fresh (da _);have old:∀{b o},H b=some o->b≠h'.objs.size:=λ{b o} g z=>by rw[z,fn]at g;cases g
  exact⟨.ref h'.objs.size,_,I2,rfl,q _ _ (λb o g=>by rw[aH (old g)];exact g) fn ⟨(X.mg "__name__").getD .none,ju,c,by rw[bE,hl]⟩⟩
end
end L2
namespace L2
open PySem PySem.Spec PyProof.Rows
structure tY (P:ba)(w:bd)(K:ad)(mg:Str->Option ax)(base:Heap)(CX:fB)(k:Nat)(l:b7)(sp:Sp):Prop where
 run:∀(A:bc) (outer:List Env) (s:ay) (H:Hp) (f:az) (us:List ax) (vs:List V) (Q:VK) (E:XK),bL k A->l7 P w K mg base A outer s H->iM H f l->aI vs us->sp vs H Q E->
  codeAny (model P w) A (.call (.ref f) ⟨us,[]⟩) (CR CX outer P w H s Q E) s
theorem iM.at {P:ba}{w:bd}{H:Hp}{h:Heap}{f:az}{l:b7}(q:iM H f l)(ok:bS P w H h):∃(pm ju:ax) (c:az),h.get? f=some (Om l pm (.ref c) ju)/\h.CodeRec (.ref c) l.qual:=by
 obtain⟨pm,ju,c,e1⟩:=q
 have q1:=ok f _ e1
 obtain⟨oc,vs,t,g,d,e⟩:=(show bK P w H h c (.code l.qual) from ok c _ q1.2.2)
 exact⟨pm,ju,c,q1.1,c,oc,vs,t,rfl,g,d,e⟩
theorem aQ7 {CX:fB}{P:ba}{w:bd}{K:ad}{mg:Str->Option ax}{base:Heap}{k:Nat}{l:b7}{N ps:List Str}{sp:Sp}(hc:l.gp = [])(S:bx N ps l.scope)(hb:∀(pm cv ju:ax) (us:List ax),us.length=ps.length->bindArgs (qQ l pm cv ju) ⟨us,[]⟩=pure (ps.zip us))(len:∀vs H Q E,sp vs H Q E->vs.length=ps.length)(nq:∀(A:bc) (outer:List Env) (s:ay) (H:Hp) (f:az) (cv:ax) (vs:List V) (Q:VK) (E:XK),bL k (A.deeper (envOfC l.qual l.scope s.heap.objs.size f cv))->sp vs H Q E->
   ∃t,PE (eF CX P w K mg base N l.qual l.scope f cv A outer s H E) l.body t/\t (gA N vs) H Q) :
  tY P w K mg base CX (k+1) l sp:=by
 obtain⟨lq,lp,lb,ls,lc⟩:=l
 obtain rfl:lc = []:=hc;refine⟨λA outer s H f us vs Q E hr e0 hl r vg=>?_⟩;have ao:=len _ _ _ _ vg
 obtain⟨pm,ju,c,ho,gf⟩:=hl.at e0.cj
 have lim:s.heap.NoLimit:=e0.mod.nolimit.keeps λb o e=>(e0.bs b o e).1
 have yx:∀y∈ps.zip us,ls.names.lookup y.1=some .local∨(ls.names.lookup y.1=some .cell/\((cellsFrom (s.heap.objs.size+1) ls.names []).lookup y.1).isSome=true):=λ⟨n,v⟩ hy=>by
  rcases S.par n (List.of_mem_zip hy).1 with q|q
  ·exact .inl q
  ·exact .inr ⟨q,PySem.W.cellsFrom_some _ _ _ (.inl q)⟩
 refine PySem.W.kla_callFunE hr.depth ho rfl S.co S.gen rfl gf ?_;rw[hb pm (.ref c) ju us (by rw[<- r.length];exact ao)];refine cy (wpAny_newFunctionEnv_cells S.kind yx λenv he s1 x=>?_);subst he;refine⟨lim.keeps x.toInCall.keep,PySem.W.kla_codeExpr ?_⟩
 obtain⟨t,ht,hq⟩:=nq A outer s H f (.ref c) vs Q E (hr.deeper _) vg
 have I:a6 (eF CX P w K mg base N lq ls f (.ref c) A outer s H E) [] (gA N vs) H s1:=W5 S hr.hd e0 ao r x;refine mw (ht [] s1 (gA N vs) H _ I hq) (λu s' hs=>?_) λe s' hs=>hs
 obtain⟨v,H',J,rv,q⟩:=hs
 exact⟨v,H',J.os,J.bare,J.base,J.cj,rv,q⟩
end L2
namespace Raw
open PySem PySem.W PySem.Calls PyProof.Rows
section
variable {prog:ba}{w:bd}{K:Type}[DecidableEq K]{knd:HeapKind prog w K}{A:bc}{E:ax→ay→Prop}{s:ay}{env:Env}
theorem aQ8 {k v:Expr}{pos:Pos}{Q:ax->ay->Prop}(hu:knd.room A)(h:wpAny (model prog w) A (eval k env) (λkv s1=>wpAny (model prog w) A (eval v env) (λvv s2=>∃a κ,kv = .ref a/\knd.is s2.heap κ a/\s2.heap.DictOfH knd s.heap.objs.size []/\
   ∀h',h'.DictOfH knd s.heap.objs.size [(κ,a,vv)]->Heap.SameBut s.heap.objs.size s2.heap h'->Q (.ref s.heap.objs.size) { s2 with heap:=h',toks:=s2.toks+knd.draws κ }) E s1) E
   { s with heap:=s.heap.push { cls:=.type "dict",data:=.dict #[] } }):wpAny (model prog w) A (eval (.Dict [some k] [v] pos) env) Q E s:=by
 rw[arm_eval_Dict,zip_pairTrees [some k] [v] env pos rfl rfl,dictDisplay_pairs _ (by simp[pairTrees]) (by simp[pairTrees])];refine bw (wpAny_standAt (bw ?_));unfold subDict;refine bw (wpAny_alloc ?_);refine bw (xf ?_);rw[if_pos (by simp[pairTrees])];refine bw (pairTrees_cons_walk (mw h (λkv s1 h1=>mw h1 (λvv s2 h2=>pairTrees_nil_walk ?_) λ_ _ e=>e) λ_ _ e=>e))
 obtain⟨a,κ,rfl,hk,hm,hQ⟩:=h2
 refine xf ?_;refine bw ?_;rw[List.forIn_cons];refine bw (bw (wpAny_dictSet_heap (hsz:=by simp) hu hk hm λh' EE DE=>cy ?_));dsimp only;rw[List.forIn_nil];exact cy (cy (cy (cy (hQ h' (by simpa[storedH,atKey] using EE) DE))))
end
end Raw
namespace L2
open PySem PySem.Spec PyProof.Rows
abbrev h9 (H:Hp):List (List (Int×Bool)×V)->List (ae×az×ax)->Prop:=Paired λp q=>eD p.1=q.1/\gF H p.1 q.2.1/\aO p.2 q.2.2
theorem h9.val {H:Hp}{bq:List (List (Int×Bool)×V)}{xs:List (ae×az×ax)}(r:h9 H bq xs)(k:List (Int×Bool)):iX (i6 bq k) ((atKey xs (eD k)).map (·.2)):=by
 induction r with
 |nil=>exact zw
 |@cons p q ps qs h t ih=>
  obtain⟨h1,_,h2⟩:=h
  by_cases e:p.1=k
  ·have e':q.1=eD k:=by rw[<- h1,e]
   have b:atKey (q::qs) (eD k)=some q.2:=by simp[atKey,qt,e']
   rw[yB e,b];exact h2
  ·have e':¬q.1=eD k:=λz=>e (x4 (h1.trans z))
   have b:atKey (q::qs) (eD k)=atKey qs (eD k):=by simp[atKey,qt,e']
   rw[yC e,b];exact ih
theorem h9.Bj {H:Hp}{bq:List (List (Int×Bool)×V)}{xs:List (ae×az×ax)}(r:h9 H bq xs)(k:List (Int×Bool)){y:V}{u:ax}(ry:aO y u) :
  h9 H (bq.map λkv=>if kv.1=k then (kv.1,y) else kv) (xs.map (putAt (eD k) u)):=by
 induction r with
 |nil=>exact .nil
 |@cons p q ps qs h t ih=>
  rw[gg,gg];refine .cons ?_ ih
  obtain⟨h1,h2,h3⟩:=h
  unfold putAt;by_cases e:p.1=k
  ·rw[if_pos e,if_pos (by rw[<- h1,e])];exact⟨h1,h2,ry⟩
  ·rw[if_neg e,if_neg (λz=>e (x4 (h1.trans z)))];exact⟨h1,h2,h3⟩
theorem h9.put {H:Hp}{bq:List (List (Int×Bool)×V)}{xs:List (ae×az×ax)}(r:h9 H bq xs)(k:List (Int×Bool)){b:az}{y:V}{u:ax}(hb:gF H k b)(ry:aO y u) :
  h9 H (gG bq k y) (storedH xs (eD k) b u):=by
 have e:(bq.any λkv=>decide (kv.1=k))=(atKey xs (eD k)).isSome:=by
  rw[Y9,(r.val k).ie,Option.isSome_map]
 unfold gG storedH;rw[e];by_cases q:(atKey xs (eD k)).isSome=true
 ·rw[if_pos q,if_pos q];exact r.Bj k ry
 ·rw[if_neg q,if_neg q];exact Paired.snoc r ⟨rfl,hb,ry⟩
theorem h9.keeps {H H':Hp}{bq:List (List (Int×Bool)×V)}{xs:List (ae×az×ax)}(r:h9 H bq xs)(ht:∀b ys,H b=some (.tup ys)->H' b=some (.tup ys)):h9 H' bq xs:=
 Paired.Aj r λ_ _ z=>⟨z.1,z.2.1.keeps ht,z.2.2⟩
section
variable {P:ba}{w:bd}{H:Hp}{h:Heap}{a:az}
theorem tZ (P:ba)(w:bd)(k:Int)(v:ax):(jJ P w).is k v=mB k v:=rfl
theorem aQ9 {c:az}{p:Int×Bool}(ok:bS P w H h)(e:H c=some (.tup [.int p.1,.bl p.2])):IsTupleKey (jJ P w) h [p.1,if p.2 then 1 else 0] c:=by
 obtain⟨_,bo,r,⟨o,h1,h2,n,h3⟩,_⟩:=(show bK P w H h c (.tup [.int p.1,.bl p.2]) from ok c _ e)
 refine⟨o,bo.toArray,n,h1,h2,h3,?_⟩;cases r with
 |@cons _ v1 _ vs1 r1 t1=>
  cases t1 with
  |@cons _ v2 _ vs2 r2 t2=>
   cases t2
   obtain⟨t,rfl⟩:=(show ∃t,v1=Value.int p.1 t from r1)
   cases (show v2=Value.bool p.2 from r2);exact .cons (by rw[tZ];simp[mB]) (.cons (by rw[tZ];simp[mB]) .nil)
theorem oA {k:List (Int×Bool)}{b:az}(ok:bS P w H h)(e:gF H k b):(pZ (jJ P w)).is h (eD k) b:=by
 obtain⟨us,e,r⟩:=e
 obtain⟨lz,bo,rv,⟨o,h1,h2,n,h3⟩,nd⟩:=(show bK P w H h b (.tup us) from ok b _ e)
 refine⟨o,bo.toArray,n,h1,h2,h3,?_⟩;show Paired _ _ bo.toArray.toList;have e2:bo.toArray.toList=bo:=by simp
 rw[e2];clear h3 e2 e lz nd h1 h2
 induction r generalizing bo with
 |nil=>cases rv;exact .nil
 |@cons p u ps us hd t ih=>
  cases rv with
  |@cons _ v _ vs r1 t1=>
   obtain⟨c,rfl,hc⟩:=hd
   cases (show v=Value.ref c from r1);exact .cons ⟨c,rfl,aQ9 ok hc⟩ (ih _ t1)
theorem oB {bq:List (List (Int×Bool)×V)}(ok:bS P w H h)(e:Rd H a (.dA bq)):bq.length<=sizeLine/\(a==sysModules)=false/\
  ∃xs,h9 H bq xs/\h.DictOfH (pZ (jJ P w)) a xs:=by
 obtain⟨z,y,xs,r,o,es,ep,h1,h2,h3,h4,h5⟩:=(show bK P w H h a (.dA bq) from tR ok e)
 refine⟨z,y,xs,r,o,es,ep,h1,h2,h3,h4,λx hx=>?_,h5⟩;have all:∀{l:List (List (Int×Bool)×V)}{m:List (ae×az×ax)},h9 H l m->∀x∈m,(pZ (jJ P w)).is h x.1 x.2.1:=by
  intro l m q
  induction q with
  |nil=>intro x hx;exact nomatch hx
  |@cons p q ps qs hq t ih=>
   intro x hx;rcases eg.mp hx with e|hx
   ·subst e
    rw[<- hq.1];exact oA ok hq.2.1
   ·exact ih x hx
 exact all r x hx
theorem qR {bq:List (Int×V)}(ok:bS P w H h)(e:Rd H a (.dB bq)):bq.length<=sizeLine/\(a==sysModules)=false/\∃vs,KV bq vs/\h.DictOf (jJ P w) a vs:=
 show bK P w H h a (.dB bq) from tR ok e
end
def mJ (k:Int)(y:V):Prop:=y = .int k∨∃b:Bool,y = .bl b/\k=if b then 1 else 0
theorem mJ.is {k:Int}{y:V}{u:ax}{P:ba}{w:bd}(n:mJ k y)(r:aO y u):(jJ P w).is k u=true:=by
 rcases n with rfl|⟨b,rfl,rfl⟩
 ·obtain⟨t,rfl⟩:=(show ∃t,u=Value.int k t from r)
  rw[tZ];simp[mB]
 ·cases (show u=Value.bool b from r)
  rw[tZ];simp[mB]
def l9 (H:Hp)(a:az)(y:V)(r:Option V):Prop:=
 (∃bq k b,Rd H a (.dA bq)/\y = .ref b/\gF H k b/\r=i6 bq k)∨∃bq k,Rd H a (.dB bq)/\mJ k y/\r=i6 bq k
def Oj (H:Hp)(a:az)(y v:V)(H':Hp):Prop:=
 (∃bq k b,H a=some (.dA bq)/\y = .ref b/\gF H k b/\bq.length<sizeLine/\H'=upd H a (.dA (gG bq k v))) ∨
 ∃bq k,H a=some (.dB bq)/\mJ k y/\bq.length<sizeLine/\H'=upd H a (.dB (gG bq k v))
section
variable {X:Cx}{ai:List (az×Obj)}{σ:St}{H:Hp}{s:ay}{a:az}{y v:V}{u r:ax}{o:Option V}{A:bc}{E:ax→ay→Prop}
theorem aR0 (I:a6 X ai σ H s)(g:l9 H a y o):s.TypeIs (.ref a) "dict":=by
 rcases g with⟨bq,k,b,e,_,_,_⟩|⟨bq,k,e,_,_⟩
 ·obtain⟨_,_,xs,_,dd⟩:=oB I.cj e
  exact dd.typeIs
 ·obtain⟨_,_,vs,_,dd⟩:=qR I.cj e
  exact dd.typeIs
theorem aR1 {Q:ax->ay->Prop}(hu:A.units+16<cLine)(I:a6 X ai σ H s)(g:l9 H a y (some v))(ry:aO y u)(h:∀w' s',a6 X ai σ H s'->aO v w'->Q w' s') :
  wpAny (model X.prog X.w) A (getItem (.ref a) u) Q E s:=by
 rcases g with⟨bq,k,b,e,ey,eb,l⟩|⟨bq,k,e,ey,l⟩
 ·subst ey
  cases (show u=Value.ref b from ry)
  obtain⟨z,hd,xs,rel,dd⟩:=oB I.cj e
  obtain⟨w',hw,Af⟩:=iX.some_of (v:=v) (o:=(atKey xs (eD k)).map (·.2)) (by rw[l];exact rel.val k)
  obtain⟨p,hp,FP⟩:=Option.map_eq_some_iff.mp hw
  refine wpAny_getItem_heap (show A.units+1+8<cLine by lia) (oA I.cj eb) dd hp ?_;rw[FP];exact h w' _ (I.tok _) Af
 ·obtain⟨z,hd,vs,rel,dd⟩:=qR I.cj e
  obtain⟨w',hw,Af⟩:=iX.some_of (v:=v) (o:=valueAt vs k) (by rw[l];exact rel.val k)
  exact wpAny_getItem_of (ey.is ry) dd.mapOf hw (h w' _ (I.tok _) Af)
theorem aR2 {Q:ax->ay->Prop}(hu:A.units+16<cLine)(I:a6 X ai σ H s)(g:l9 H a y o)(ry:aO y u)(h:∀s',a6 X ai σ H s'->Q (.bool o.isSome) s') :
  wpAny (model X.prog X.w) A (compareOp .In u (.ref a)) Q E s:=by
 rcases g with⟨bq,k,b,e,ey,eb,l⟩|⟨bq,k,e,ey,l⟩
 ·subst ey
  cases (show u=Value.ref b from ry)
  obtain⟨z,hd,xs,rel,dd⟩:=oB I.cj e
  refine wpAny_in_heap (show A.units+1+8<cLine by lia) (oA I.cj eb) hd dd ?_;have q:=(rel.val k).ie;rw[Option.isSome_map]at q;rw[<- q,<- l];exact h _ (I.tok _)
 ·obtain⟨z,hd,vs,rel,dd⟩:=qR I.cj e
  refine wpAny_in_of (ey.is ry) hd dd.mapOf ?_;rw[<- (rel.val k).ie,<- l];exact h _ (I.tok _)
theorem aR3 {Q:ax->ay->Prop}(hu:A.units+16<cLine)(I:a6 X ai σ H s)(g:l9 H a y o)(ry:aO y u)(h:∀s',a6 X ai σ H s'->Q (.bool (!o.isSome)) s') :
  wpAny (model X.prog X.w) A (compareOp .NotIn u (.ref a)) Q E s:=by
 rcases g with⟨bq,k,b,e,ey,eb,l⟩|⟨bq,k,e,ey,l⟩
 ·subst ey
  cases (show u=Value.ref b from ry)
  obtain⟨z,hd,xs,rel,dd⟩:=oB I.cj e
  refine wpAny_notIn_heap (show A.units+1+8<cLine by lia) (oA I.cj eb) hd dd ?_;have q:=(rel.val k).ie;rw[Option.isSome_map]at q;rw[<- q,<- l];exact h _ (I.tok _)
 ·obtain⟨z,hd,vs,rel,dd⟩:=qR I.cj e
  refine wpAny_notIn_of (ey.is ry) hd dd.mapOf ?_;rw[<- (rel.val k).ie,<- l];exact h _ (I.tok _)
theorem aR4 {H':Hp}{Q:Unit->ay->Prop}(hu:A.units+16<cLine)(I:a6 X ai σ H s)(g:Oj H a y v H')(ry:aO y u)(rv:aO v r)(h:∀s',a6 X ai σ H' s'->Q () s') :
  wpAny (model X.prog X.w) A (setItem (.ref a) u r) Q E s:=by
 rcases g with⟨bq,k,b,e,ey,eb,l,eH⟩|⟨bq,k,e,ey,l,eH⟩
 ·subst ey eH
  cases (show u=Value.ref b from ry)
  obtain⟨z,hd,xs,rel,dd⟩:=oB I.cj (.inl e)
  have hz:xs.length<=sizeLine:=by rw[<- Paired.length rel];exact z
  have hl:(gG bq k v).length<=sizeLine:=by have:=Z0 bq k v;lia
  refine wpAny_setItem_heap (hsz:=hz) (show A.units+1+8<cLine by lia) (oA I.cj eb) dd λh' CI hs=>h _ ?_
  obtain⟨q,es,ep,hq,h2,h3,h4,_,h5⟩:=CI
  refine yD I (by rw[e];exact zw) hs ⟨q,hq⟩ ⟨hl,hd,_,(rel.put k eb rv).keeps λc ys ec=>?_,q,es,ep,hq,h2,h3,h4,h5⟩;rw[aH (S0 ec e (λz=>nomatch z))];exact ec
 ·subst eH
  obtain⟨z,hd,vs,rel,dd⟩:=qR I.cj (.inl e)
  have hz:vs.length<=sizeLine:=by rw[<- rel.length];exact z
  have hl:(gG bq k v).length<=sizeLine:=by have:=Z0 bq k v;lia
  refine wpAny_setItem_pairs (hsz:=hz) (ey.is ry) dd λh' CI hs=>h _ ?_
  have he:∃q,h'.get? a=some q:=let ⟨q,_,_,hq,_⟩:=CI;⟨q,hq⟩
  exact yD I (by rw[e];exact zw) hs he ⟨hl,hd,_,rel.put k rv,CI⟩
end
def Oi (td ty:TE):TE:=λσ H Q=>td σ H λx H1=>ty σ H1 λy H2=>∃a v,x = .ref a/\l9 H2 a y (some v)/\Q v H2
def Oh (ty td:TE):TE:=λσ H Q=>ty σ H λy H1=>td σ H1 λx H2=>∃a o,x = .ref a/\l9 H2 a y o/\Q (.bl o.isSome) H2
def Og (ty td:TE):TE:=λσ H Q=>ty σ H λy H1=>td σ H1 λx H2=>∃a o,x = .ref a/\l9 H2 a y o/\Q (.bl (!o.isSome)) H2
def oC (td ty tv:TE):TS:=λD σ H=>tv σ H λv H1=>td σ H1 λx H2=>ty σ H2 λy H3=>∃a H4,x = .ref a/\Oj H3 a y v H4/\D.nx σ H4
def Of:TE:=λ_ H Q=>∀p,H p=none->Q (.ref p) (upd H p (.dA []))
def Oe:TE:=λ_ H Q=>∀p,H p=none->Q (.ref p) (upd H p (.dB []))
def Od (tk tv:TE):TE:=λσ H Q=>∀p,H p=none->tk σ (upd H p (.dA [])) λx H1=>tv σ H1 λy H2=>H2 p=some (.dA [])/\∃b k,x = .ref b/\gF H2 k b/\Q (.ref p) (upd H2 p (.dA [(k,y)]))
section
variable {X:Cx}{o i e value k v:Expr}{pos pos' qz:Pos}{td ty tv tk:TE}
theorem aR5 (hu:X.A.units+16<cLine)(ho:PE X o td)(hi:PE X i ty)(hs:yE i):PE X (.Subscript o i pos) (Oi td ty):=by
 intro ai s σ H Q I h;refine aN2 PySem.F.slot_dict_getitem.lookup hs (aL (ho ai s σ H _ I h) λu s1 ⟨x,H1,I1,rx,q1⟩=>aL (hi ai s1 σ H1 _ I1 q1) λiv s2 ⟨y,H2,I2,ry,a,v,ex,g,q2⟩=>?_);subst ex;obtain rfl:u=Value.ref a:=rx
 exact⟨aR0 I2 g,aR1 hu I2 g ry λw' s3 I3 Af=>⟨v,H2,I3,Af,q2⟩⟩
theorem aR6 (hu:X.A.units+16<cLine)(hi:PE X i ty)(ho:PE X o td):PC X .In i o (Oh ty td):=by
 intro ai s σ H Q I h;refine aL (hi ai s σ H _ I h) λiv s1 ⟨y,H1,I1,ry,q1⟩=>aL (ho ai s1 σ H1 _ I1 q1) λu s2 ⟨x,H2,I2,rx,a,ov,ex,g,q2⟩=>?_
 subst ex;obtain rfl:u=Value.ref a:=rx;exact aR2 hu I2 g ry λs3 I3=>⟨.bl ov.isSome,H2,I3,rfl,q2⟩
theorem aR7 (hu:X.A.units+16<cLine)(hi:PE X i ty)(ho:PE X o td):PC X .NotIn i o (Og ty td):=by
 intro ai s σ H Q I h;refine aL (hi ai s σ H _ I h) λiv s1 ⟨y,H1,I1,ry,q1⟩=>aL (ho ai s1 σ H1 _ I1 q1) λu s2 ⟨x,H2,I2,rx,a,ov,ex,g,q2⟩=>?_
 subst ex;obtain rfl:u=Value.ref a:=rx;exact aR3 hu I2 g ry λs3 I3=>⟨.bl (!ov.isSome),H2,I3,rfl,q2⟩
theorem i8 (hu:X.A.units+16<cLine)(ho:PE X o td)(hi:PE X i ty)(hv:PE X value tv)(hs:swapsWith value (some (.Subscript o i pos')) pos.line X.env=pure false) :
  PS X (.Assign [.Subscript o i pos'] value pos) (oC td ty tv):=by
 intro ai s σ H D I h;refine wpAny_Assign_Subscript (aL (hv ai s σ H _ I h) λr s1 ⟨v,H1,I1,rv,q1⟩=>aL (ho ai s1 σ H1 _ I1 q1) λu s2 ⟨x,H2,I2,rx,q2⟩=>aL (hi ai s2 σ H2 _ I2 q2) λiv s3 ⟨y,H3,I3,ry,a,H4,ex,g,q3⟩=>?_) hs;subst ex;obtain rfl:u=Value.ref a:=rx;exact aR4 hu I3 g ry rv λs4 I4=>⟨σ,H4,I4,q3⟩
theorem Oc {P:ba}{w:bd}{H:Hp}(h:Heap)(hb:sysModules<h.objs.size):bK P w H (h.push { cls:=.type "dict",data:=.dict #[] }) h.objs.size (.dA []):=
 ⟨lh _,CO.mpr (Ne.symm (lj hb)),[],.nil,_,#[],0,jw _ rfl,⟨rfl,rfl,rfl⟩,rfl,rfl,xw⟩
theorem aR8 {P:ba}{w:bd}{H:Hp}(h:Heap)(hb:sysModules<h.objs.size):bK P w H (h.push { cls:=.type "dict",data:=.dict #[] }) h.objs.size (.dB []):=
 ⟨lh _,CO.mpr (Ne.symm (lj hb)),[],.nil,Heap.DictOf.new h⟩
theorem aR9:PE X (.Dict [] [] pos) Of:=λai s σ H Q I h=>
 wpAny_Dict_empty ⟨.ref s.heap.objs.size,_,I.laid (a:=s.heap.objs.size) (o:=.dA []) (t':=s.toks) (λ_ _ q=>ez _ q) (da _) (Oc s.heap I.big),rfl,h _ (I.cj.fresh (da _))⟩
theorem aS0:PE X (.Dict [] [] pos) Oe:=λai s σ H Q I h=>
 wpAny_Dict_empty ⟨.ref s.heap.objs.size,_,I.laid (a:=s.heap.objs.size) (o:=.dB []) (t':=s.toks) (λ_ _ q=>ez _ q) (da _) (aR8 s.heap I.big),rfl,h _ (I.cj.fresh (da _))⟩
theorem aS1 (hu:X.A.units+16<cLine)(hk:PE X k tk)(hv:PE X v tv):PE X (.Dict [some k] [v] pos) (Od tk tv):=by
 intro ai s σ H Q I q;have hn:=I.cj.fresh (da s.heap.objs.size);have I1:=I.laid (a:=s.heap.objs.size) (o:=.dA []) (h':=s.heap.push { cls:=.type "dict",data:=.dict #[] }) (t':=s.toks) (λ_ _ q=>ez _ q) (da _) (Oc s.heap I.big);refine Raw.aQ8 (knd:=pZ (jJ X.prog X.w)) (show X.A.units+8<cLine by lia) (aL (hk ai _ σ _ _ I1 (q _ hn)) λkv s1 ⟨x,H1,I2,rx,q1⟩=>aL (hv ai s1 σ H1 _ I2 q1) λvv s2 ⟨y,H2,I3,ry,e,b,κ,ex,nk,q2⟩=>?_);subst ex;obtain rfl:kv=Value.ref b:=rx
 obtain⟨z,hd,xs,rel,dd⟩:=oB I3.cj (.inl e)
 cases rel;refine⟨b,eD κ,rfl,oA I3.cj nk,dd,λh' CI hs=>⟨.ref s.heap.objs.size,_,?_,rfl,q2⟩⟩
 obtain⟨ob,es,ep,hq,h2,h3,h4,_,h5⟩:=CI
 refine yD I3 (by rw[e];exact zw) hs ⟨ob,hq⟩ ⟨by show (1:Nat)<=sizeLine;rw[sizeLine_eq];lia,hd,_,h9.keeps (.cons ⟨rfl,nk,ry⟩ .nil) λc ys ec=>?_,ob,es,ep,hq,h2,h3,h4,h5⟩;rw[aH (S0 ec e (λz=>nomatch z))];exact ec
end
end L2
namespace PP
open PySem L2
inductive PV where
 |cq|bl (b:Bool)|int (i:Int)|str (x:Str)|tup (xs:List PV)|lst (xs:List PV)
 |dK (bq:List (bZ×PV))|dT (bq:List (List bZ×PV))|mn (ns:ag)|kt (xs:List PV)|exc (c:Str)|fK (bq:List (bZ×PV))|fT (bq:List (List bZ×PV))|fL (xs:List PV)|fn (x:Str)|ob (a:az)
 |lm (l:b7)|dA (bq:List (List (Int×Bool)×PV))|dB (bq:List (Int×PV))|fA (bq:List (List (Int×Bool)×PV))
mutual
def flat:PV->Bool
 |.tup xs=>cb xs
 |.lst _=>false
 |.dK _=>false
 |.dT _=>false
 |.cq=>true
 |.bl _=>true
 |.int _=>true
 |.str _=>true
 |.mn _=>true
 |.kt xs=>cb xs
 |.exc _=>true
 |.fK _=>false
 |.fT _=>false
 |.fL xs=>cb xs
 |.fn _=>true
 |.ob _=>true
 |.lm _=>true
 |.dA _=>false
 |.dB _=>false
 |.fA _=>false
def cb:List PV->Bool
 |[]=>true
 |x::r=>flat x&&cb r
end
def kJ (K:ad)(H:Hp)(a:az)(ns:ag):Prop:=(∃o,H a=some (.dq o (.lst (ns.map V.int)))) ∨
  ∃(o:Obj) (bo:Array ax) (n:Nat),K.lookup a=some o/\o.cls = .type "list"/\o.dict=none/\o.data = .seq bo n/\bo.size<=sizeLine/\aI (ns.map V.int) bo.toList
def aS2 (K:ad)(a:az)(us:List V):Prop:=∃(o:Obj) (bo:Array ax) (n:Nat),K.lookup a=some o/\o.cls = .type "tuple"/\o.data = .seq bo n/\bo.size<=sizeLine/\aI us bo.toList
mutual
inductive aE (K:ad)(M:az->Prop)(H:Hp):V->PV->Prop
 |cq:aE K M H .cq .cq
 |bl (b:Bool):aE K M H (.bl b) (.bl b)
 |int (i:Int):aE K M H (.int i) (.int i)
 |str (x:Str):aE K M H (.str x) (.str x)
 |tup {a:az}{us:List V}{xs:List PV}:H a=some (.tup us)->bp K M H us xs->aE K M H (.ref a) (.tup xs)
 |lst {a:az}{us:List V}{xs:List PV}:M a->H a=some (.lst us)->bp K M H us xs->aE K M H (.ref a) (.lst xs)
 |dK {a:az}{bq:List (bZ×V)}{ps:List (bZ×PV)}:M a->H a=some (.dK bq)->bq.map (·.1)=ps.map (·.1)->bp K M H (bq.map (·.2)) (ps.map (·.2))->aE K M H (.ref a) (.dK ps)
 |dT {a:az}{bq:List (List bZ×V)}{ps:List (List bZ×PV)}:M a->H a=some (.dT bq)->bq.map (·.1)=ps.map (·.1)->bp K M H (bq.map (·.2)) (ps.map (·.2))->aE K M H (.ref a) (.dT ps)
 |mn {a:az}{ns:ag}:kJ K H a ns->aE K M H (.ref a) (.mn ns)
 |kt {a:az}{us:List V}{xs:List PV}:aS2 K a us->bp K M H us xs->aE K M H (.ref a) (.kt xs)
 |exc {a C:az}{o:Obj}{c:Str}:H a=some (.dq o (.own a))->PySem.W.nsIn K mainGlobals c=some (some (.ref C))->o.cls = .ref C->aE K M H (.ref a) (.exc c)
 |fK {a:az}{o:Obj}{bq:List (bZ×V)}{ps:List (bZ×PV)}:H a=some (.dq o (.dK bq))->bq.map (·.1)=ps.map (·.1)->bp K M H (bq.map (·.2)) (ps.map (·.2))->aE K M H (.ref a) (.fK ps)
 |fT {a:az}{o:Obj}{bq:List (List bZ×V)}{ps:List (List bZ×PV)}:H a=some (.dq o (.dT bq))->bq.map (·.1)=ps.map (·.1)->bp K M H (bq.map (·.2)) (ps.map (·.2))->aE K M H (.ref a) (.fT ps)
 |fL {a:az}{o:Obj}{us:List V}{xs:List PV}:H a=some (.dq o (.lst us))->bp K M H us xs->aE K M H (.ref a) (.fL xs)
 |fn {f:az}{x:Str}:PySem.W.nsIn K mainGlobals x=some (some (.ref f))->aE K M H (.ref f) (.fn x)
 |ob {a:az}:aE K M H (.ref a) (.ob a)
 |lm {f:az}{l:b7}:iM H f l->aE K M H (.ref f) (.lm l)
 |dA {a:az}{bq:List (List (Int×Bool)×V)}{ps:List (List (Int×Bool)×PV)}:M a->H a=some (.dA bq)->bq.map (·.1)=ps.map (·.1)->bp K M H (bq.map (·.2)) (ps.map (·.2))->aE K M H (.ref a) (.dA ps)
 |dB {a:az}{bq:List (Int×V)}{ps:List (Int×PV)}:M a->H a=some (.dB bq)->bq.map (·.1)=ps.map (·.1)->bp K M H (bq.map (·.2)) (ps.map (·.2))->aE K M H (.ref a) (.dB ps)
 |fA {a:az}{o:Obj}{bq:List (List (Int×Bool)×V)}{ps:List (List (Int×Bool)×PV)}:H a=some (.dq o (.dA bq))->bq.map (·.1)=ps.map (·.1)->bp K M H (bq.map (·.2)) (ps.map (·.2))->aE K M H (.ref a) (.fA ps)
inductive bp (K:ad)(M:az->Prop)(H:Hp):List V->List PV->Prop
 |nil:bp K M H [] []
 |cons {v:V}{x:PV}{vs:List V}{xs:List PV}:aE K M H v x->bp K M H vs xs->bp K M H (v::vs) (x::xs)
end
def yZ:HO->Bool
 |.dq _ _=>true
 |_=>false
def Ib:HO->Bool
 |.dq _ u=>yZ u
 |.ins _ _ _=>true
 |.ext _=>true
 |_=>false
def aS3:HO->Bool
 |.dA _=>true
 |.dB _=>true
 |_=>false
structure gH (M M':az->Prop)(H H':Hp):Prop where
 lst:∀a us,M a->H a=some (.lst us)->M' a/\H' a=some (.lst us)
 dK:∀a bq,M a->H a=some (.dK bq)->M' a/\H' a=some (.dK bq)
 dT:∀a bq,M a->H a=some (.dT bq)->M' a/\H' a=some (.dT bq)
 tup:∀a us,H a=some (.tup us)->H' a=some (.tup us)
 dq:∀a o u,H a=some (.dq o u)->yZ u=false->H' a=some (.dq o u)
 dA:∀a u,aS3 u=true->M a->H a=some u->M' a/\H' a=some u
theorem kJ.keep {K:ad}{H H':Hp}{a:az}{ns:ag}(k:∀a o u,H a=some (.dq o u)->yZ u=false->H' a=some (.dq o u))(h:kJ K H a ns):kJ K H' a ns:=
 h.elim (λ⟨o,e⟩=>.inl ⟨o,k _ _ _ e rfl⟩) .inr
mutual
theorem aE.keep {K:ad}{M M':az->Prop}{H H':Hp}(k:gH M M' H H'):∀{v:V}{x:PV},aE K M H v x->aE K M' H' v x
 |_,_,.cq=>.cq
 |_,_,.bl b=>.bl b
 |_,_,.int i=>.int i
 |_,_,.str x=>.str x
 |_,_,.tup h r=>.tup (k.tup _ _ h) (bp.keep k r)
 |_,_,.lst m h r=>.lst (k.lst _ _ m h).1 (k.lst _ _ m h).2 (bp.keep k r)
 |_,_,.dK m h e r=>.dK (k.dK _ _ m h).1 (k.dK _ _ m h).2 e (bp.keep k r)
 |_,_,.dT m h e r=>.dT (k.dT _ _ m h).1 (k.dT _ _ m h).2 e (bp.keep k r)
 |_,_,.mn h=>.mn (h.keep k.dq)
 |_,_,.kt h r=>.kt h (bp.keep k r)
 |_,_,.exc h e c=>.exc (k.dq _ _ _ h rfl) e c
 |_,_,.fK h e r=>.fK (k.dq _ _ _ h rfl) e (bp.keep k r)
 |_,_,.fT h e r=>.fT (k.dq _ _ _ h rfl) e (bp.keep k r)
 |_,_,.fL h r=>.fL (k.dq _ _ _ h rfl) (bp.keep k r)
 |_,_,.fn h=>.fn h
 |_,_,.ob=>.ob
 |_,_,.lm h=>.lm (let ⟨pm,ju,c,e1⟩:=h;⟨pm,ju,c,k.dq _ _ _ e1 rfl⟩)
 |_,_,.dA m h e r=>.dA (k.dA _ _ rfl m h).1 (k.dA _ _ rfl m h).2 e (bp.keep k r)
 |_,_,.dB m h e r=>.dB (k.dA _ _ rfl m h).1 (k.dA _ _ rfl m h).2 e (bp.keep k r)
 |_,_,.fA h e r=>.fA (k.dq _ _ _ h rfl) e (bp.keep k r)
theorem bp.keep {K:ad}{M M':az->Prop}{H H':Hp}(k:gH M M' H H'):∀{vs:List V}{xs:List PV},bp K M H vs xs->bp K M' H' vs xs
 |_,_,.nil=>.nil
 |_,_,.cons r t=>.cons (aE.keep k r) (bp.keep k t)
end
mutual
theorem aE.flat {K:ad}{M M':az->Prop}{H:Hp}{v:V}{x:PV}(f:flat x=true)(r:aE K M H v x):aE K M' H v x:=by
 cases r with
 |cq=>exact .cq
 |bl b=>exact .bl b
 |int i=>exact .int i
 |str x=>exact .str x
 |tup h r=>exact .tup h (bp.flat (by unfold PP.flat at f;exact f) r)
 |lst m h r=>unfold PP.flat at f;cases f
 |dK m h e r=>unfold PP.flat at f;cases f
 |dT m h e r=>unfold PP.flat at f;cases f
 |mn h=>exact .mn h
 |kt h r=>exact .kt h (bp.flat (by unfold PP.flat at f;exact f) r)
 |exc h e c=>exact .exc h e c
 |fK h e r=>unfold PP.flat at f;cases f
 |fT h e r=>unfold PP.flat at f;cases f
 |fL h r=>exact .fL h (bp.flat (by unfold PP.flat at f;exact f) r)
 |fn h=>exact .fn h
 |ob=>exact .ob
 |lm h=>exact .lm h
 |dA m h e r=>unfold PP.flat at f;cases f
 |dB m h e r=>unfold PP.flat at f;cases f
 |fA h e r=>unfold PP.flat at f;cases f
theorem bp.flat {K:ad}{M M':az->Prop}{H:Hp}{vs:List V}{xs:List PV}(f:cb xs=true)(r:bp K M H vs xs):bp K M' H vs xs:=by
 cases r with
 |nil=>exact .nil
 |cons r t=>
  unfold PP.cb at f;rw[my]at f;exact .cons (aE.flat f.1 r) (bp.flat f.2 t)
end
theorem gH.same {M M':az->Prop}{H H':Hp}(s:aD H H')(m:∀a,M a->M' a):gH M M' H H':=
 ⟨λa _ h e=>⟨m a h,s _ _ e⟩,λa _ h e=>⟨m a h,s _ _ e⟩,λa _ h e=>⟨m a h,s _ _ e⟩,λ_ _ e=>s _ _ e,λ_ _ _ e _=>s _ _ e,λa _ _ h e=>⟨m a h,s _ _ e⟩⟩
theorem aE.same {K:ad}{M M':az->Prop}{H H':Hp}{v:V}{x:PV}(r:aE K M H v x)(s:aD H H')(m:∀a,M a->M' a):aE K M' H' v x:=r.keep (.same s m)
theorem bp.same {K:ad}{M M':az->Prop}{H H':Hp}{v:List V}{x:List PV}(r:bp K M H v x)(s:aD H H')(m:∀a,M a->M' a):bp K M' H' v x:=r.keep (.same s m)
def eQ:HO->Bool
 |.lst _=>true
 |.dK _=>true
 |.dT _=>true
 |.dA _=>true
 |.dB _=>true
 |_=>false
theorem gH.upd {M M':az->Prop}{H:Hp}{a:az}{o o':HO}(h:H a=some o')(mu:eQ o'=true)(m:∀b,M b->b≠a/\M' b):gH M M' H (upd H a o):=
 ⟨λb _ hb e=>⟨(m b hb).2,by rw[aH (m b hb).1];exact e⟩,λb _ hb e=>⟨(m b hb).2,by rw[aH (m b hb).1];exact e⟩,λb _ hb e=>⟨(m b hb).2,by rw[aH (m b hb).1];exact e⟩,
  λb _ e=>by rw[aH (λz=>by rw[z,h]at e;cases e;cases mu)];exact e,
  λb _ _ e _=>by rw[aH (λz=>by rw[z,h]at e;cases e;cases mu)];exact e,λb _ _ hb e=>⟨(m b hb).2,by rw[aH (m b hb).1];exact e⟩⟩
theorem bp.length {K:ad}{M:az->Prop}{H:Hp}:∀{vs:List V}{xs:List PV},bp K M H vs xs->vs.length=xs.length
 |_,_,.nil=>rfl
 |_,_,.cons _ t=>congrArg (·+1) t.length
theorem bp.get {K:ad}{M:az->Prop}{H:Hp}:∀{vs:List V}{xs:List PV}{i:Nat}{v:V},bp K M H vs xs->vs[i]? = some v->∃x,xs[i]? = some x/\aE K M H v x
 |_,_,_,_,.nil,e=>by simp at e
 |_,_,0,_,.cons r _,e=>by simp at e;subst e;exact⟨_,rfl,r⟩
 |_,_,i+1,v,.cons _ t,e=>by
  rw[Ce]at e
  obtain⟨x,h1,h2⟩:=t.get e
  exact⟨x,by rw[Ce];exact h1,h2⟩
theorem bp.at {K:ad}{M:az->Prop}{H:Hp}:∀{vs:List V}{xs:List PV}{i:Nat}{x:PV},bp K M H vs xs->xs[i]? = some x->∃v,vs[i]? = some v/\aE K M H v x
 |_,_,_,_,.nil,e=>by simp at e
 |_,_,0,_,.cons r _,e=>by simp at e;subst e;exact⟨_,rfl,r⟩
 |_,_,i+1,v,.cons _ t,e=>by
  rw[Ce]at e
  obtain⟨x,h1,h2⟩:=t.at e
  exact⟨x,by rw[Ce];exact h1,h2⟩
theorem bp.append {K:ad}{M:az->Prop}{H:Hp}:∀{vs:List V}{xs:List PV}{us:List V}{ys:List PV},bp K M H vs xs->bp K M H us ys->bp K M H (vs++us) (xs++ys)
 |_,_,_,_,.nil,s=>s
 |_,_,_,_,.cons r t,s=>.cons r (t.append s)
theorem bp.set {K:ad}{M:az->Prop}{H:Hp}{v:V}{x:PV}(q:aE K M H v x):∀(i:Nat) {vs:List V}{xs:List PV},bp K M H vs xs->bp K M H (vs.set i v) (xs.set i x)
 |_,_,_,.nil=>.nil
 |0,_,_,.cons r t=>.cons q t
 |i+1,_,_,.cons r t=>.cons r (bp.set q i t)
theorem bp.take {K:ad}{M:az->Prop}{H:Hp}:∀(n:Nat) {vs:List V}{xs:List PV},bp K M H vs xs->bp K M H (vs.take n) (xs.take n)
 |0,_,_,_=>by simp;exact .nil
 |_+1,_,_,.nil=>.nil
 |n+1,_,_,.cons r t=>.cons r (bp.take n t)
theorem bp.drop {K:ad}{M:az->Prop}{H:Hp}:∀(n:Nat) {vs:List V}{xs:List PV},bp K M H vs xs->bp K M H (vs.drop n) (xs.drop n)
 |0,_,_,r=>r
 |_+1,_,_,.nil=>.nil
 |n+1,_,_,.cons _ t=>bp.drop n t
abbrev bj (ns:ag):List PV:=ns.map PV.int
theorem bp.bj {K:ad}{M:az->Prop}{H:Hp}:∀(ns:ag),bp K M H (ns.map V.int) (bj ns)
 |[]=>.nil
 |n::r=>.cons (.int n) (bp.bj r)
theorem bp.ofInts {K:ad}{M:az->Prop}{H:Hp}:∀{ns:ag}{us:List V},bp K M H us (PP.bj ns)->us=ns.map V.int
 |[],_,.nil=>rfl
 |n::r,_,.cons q t=>by
  cases q;rw[bp.ofInts t];rfl
theorem gI:∀(ns:ag),cb (bj ns)=true
 |[]=>rfl
 |n::r=>by show (flat (.int n)&&cb (bj r))=true;rw[gI r];rfl
inductive Tg|rd|sh|nw|fr
inductive Slot|sh (g:Bool) (x:PV)|own (x:PV)|kp (g:Bool) (x:PV) (ks:List (az×List PV×List PV))
def Slot.val:Slot->PV
 |.sh _ x=>x
 |.own x=>x
 |.kp _ x _=>x
def Slot.tag:Slot->Tg
 |.sh true _=>.nw
 |.sh false _=>.sh
 |.own _=>.rd
 |.kp _ _ _=>.nw
abbrev bM:=List (Option Slot)
def Ms (H0:Hp)(W:az->Prop):Bool->az->Prop
 |false,a=>¬W a
 |true,a=>¬W a/\H0 a=none
def Mg (H0:Hp)(W:az->Prop)(Hs:Hp):Tg->az->Prop
 |.rd,_=>True
 |.sh,a=>¬W a
 |.nw,a=>¬W a/\H0 a=none
 |.fr,a=>Hs a=none
def iO (K:ad)(M:az->Prop)(H:Hp)(a:az):PV->Prop
 |.lst xs=>∃us,H a=some (.lst us)/\bp K M H us xs
 |.dK ps=>∃bq,H a=some (.dK bq)/\bq.map (·.1)=ps.map (·.1)/\bp K M H (bq.map (·.2)) (ps.map (·.2))
 |.dT ps=>∃bq,H a=some (.dT bq)/\bq.map (·.1)=ps.map (·.1)/\bp K M H (bq.map (·.2)) (ps.map (·.2))
 |.dA ps=>∃bq,H a=some (.dA bq)/\bq.map (·.1)=ps.map (·.1)/\bp K M H (bq.map (·.2)) (ps.map (·.2))
 |.dB ps=>∃bq,H a=some (.dB bq)/\bq.map (·.1)=ps.map (·.1)/\bp K M H (bq.map (·.2)) (ps.map (·.2))
 |_=>False
def kL (l:az)(us:List V):HO:=.ext λh=>us.length<=sizeLine/\∃(bo:List ax) (n:Nat),aI us bo/\h.get? l=some { cls:=.type "list",data:=.seq bo.toArray n }
def mK (K:ad)(H0 H:Hp)(a:az)(st un:List PV):Prop:=∃(C dx l1 l2:az) (ve jo:List V),PySem.W.nsIn K mainGlobals "Keeper" = some (some (.ref C))/\(H0 a=none/\H0 dx=none/\H0 l1=none/\H0 l2=none)/\l1≠l2/\H dx=some (.own a)/\
 H a=some (.ins C dx [("standing",.ref l1),("undone",.ref l2)])/\H l1=some (kL l1 ve)/\H l2=some (kL l2 jo)/\bp K (λ_=>False) H ve st/\bp K (λ_=>False) H jo un
theorem mK.keep {K:ad}{H0 H H':Hp}{a:az}{st un:List PV}(k:gH (λ_=>False) (λ_=>False) H H')(f:∀b o,H b=some o->eQ o=false->H' b=some o)(h:mK K H0 H a st un):mK K H0 H' a st un:=by
 obtain⟨C,dx,l1,l2,ve,jo,h1,h2,h3,h4,h5,h6,h7,r1,r2⟩:=h
 exact⟨C,dx,l1,l2,ve,jo,h1,h2,h3,f _ _ h4 rfl,f _ _ h5 rfl,f _ _ h6 rfl,f _ _ h7 rfl,r1.keep k,r2.keep k⟩
def Ap2 (H:Hp)(a b:az):Prop:=a≠b/\∀C D dx dy l1 l2 m1 m2,H a=some (.ins C dx [("standing",.ref l1),("undone",.ref l2)])->H b=some (.ins D dy [("standing",.ref m1),("undone",.ref m2)])->l1≠m1/\l1≠m2/\l2≠m1/\l2≠m2
def i9 (K:ad)(H0 H:Hp)(ks:List (az×List PV×List PV)):Prop:=(∀k∈ks,mK K H0 H k.1 k.2.1 k.2.2)/\ks.Pairwise λk m=>Ap2 H k.1 m.1
theorem i9.keep {K:ad}{H0 H H':Hp}{ks:List (az×List PV×List PV)}(k:gH (λ_=>False) (λ_=>False) H H')(f:∀b o,H b=some o->eQ o=false->H' b=some o)(h:i9 K H0 H ks):i9 K H0 H' ks:=by
 refine⟨λx hx=>(h.1 x hx).keep k f,h.2.imp_of_mem λ{x y} hx hy r=>⟨r.1,λC D dx dy l1 l2 m1 m2 e1 e2=>?_⟩⟩
 obtain⟨C',dx',l1',Ia,ve,jo,_,_,_,_,h5,_⟩:=h.1 x hx
 obtain⟨D',dy',m1',m2',ws1,ws2,_,_,_,_,g5,_⟩:=h.1 y hy
 have z1:=f _ _ h5 rfl;have z2:=f _ _ g5 rfl;rw[e1]at z1;rw[e2]at z2;cases z1;cases z2;exact r.2 _ _ _ _ _ _ _ _ h5 g5
theorem i9.same {K:ad}{H0 H H':Hp}{ks:List (az×List PV×List PV)}(s:aD H H')(h:i9 K H0 H ks):i9 K H0 H' ks:=h.keep (.same s λ_ z=>z) λ_ _ e _=>s _ _ e
theorem i9.upd {K:ad}{H0 H:Hp}{c:az}{o o':HO}{ks:List (az×List PV×List PV)}(e:H c=some o')(mu:eQ o'=true)(h:i9 K H0 H ks):i9 K H0 (upd H c o) ks:=
 h.keep (.upd e mu λ_ z=>z.elim) λb u e2 m2=>by rw[aH (λz=>by rw[z,e]at e2;cases e2;rw[mu]at m2;cases m2)];exact e2
def u5 (K:ad)(H0:Hp)(W:az->Prop)(H:Hp)(v:V):Slot->Prop
 |.sh g x=>aE K (Ms H0 W g) H v x
 |.own x=>∃a,v = .ref a/\W a/\iO K (Ms H0 W true) H a x
 |.kp g x ks=>(aE K (λ_=>False) H v x/\flat x=true)/\i9 K (cond g H0 λ_=>none) H ks
structure PX (K:ad)(H0:Hp)(W:az->Prop)(σ:St)(ρ:bM)(H:Hp):Prop where
 len:ρ.length=σ.length
 same:aD H0 H
 wm:∀a,W a->H0 a=none/\∃o,H a=some o/\eQ o=true
 sl:∀(i:Nat) (m:Slot),ρ[i]? = some (some m)->∃v,σ[i]? = some (some v)/\u5 K H0 W H v m
 BP:∀(i j:Nat) (x y:PV) (a:az),ρ[i]? = some (some (.own x))->ρ[j]? = some (some (.own y))->σ[i]? = some (some (.ref a))->σ[j]? = some (some (.ref a))->i=j
theorem iO.keep {K:ad}{M M':az->Prop}{H H':Hp}{a:az}(k:gH M M' H H')(ha:∀o,H a=some o->H' a=some o):∀{x:PV},iO K M H a x->iO K M' H' a x
 |.lst _,⟨us,e,r⟩=>⟨us,ha _ e,r.keep k⟩
 |.dK _,⟨us,e,q,r⟩=>⟨us,ha _ e,q,r.keep k⟩
 |.dT _,⟨us,e,q,r⟩=>⟨us,ha _ e,q,r.keep k⟩
 |.dA _,⟨us,e,q,r⟩=>⟨us,ha _ e,q,r.keep k⟩
 |.dB _,⟨us,e,q,r⟩=>⟨us,ha _ e,q,r.keep k⟩
theorem iO.at {K:ad}{M:az->Prop}{H:Hp}{a:az}:∀{x:PV},iO K M H a x->∃o,H a=some o/\eQ o=true
 |.lst _,⟨us,e,r⟩=>⟨_,e,rfl⟩
 |.dK _,⟨us,e,q,r⟩=>⟨_,e,rfl⟩
 |.dT _,⟨us,e,q,r⟩=>⟨_,e,rfl⟩
 |.dA _,⟨us,e,q,r⟩=>⟨_,e,rfl⟩
 |.dB _,⟨us,e,q,r⟩=>⟨_,e,rfl⟩
theorem iO.rep {K:ad}{M M':az->Prop}{H:Hp}{a:az}(m:∀b,M b->M' b)(ha:M' a):∀{x:PV},iO K M H a x->aE K M' H (.ref a) x
 |.lst _,⟨us,e,r⟩=>.lst ha e (r.same (aD.refl _) m)
 |.dK _,⟨us,e,q,r⟩=>.dK ha e q (r.same (aD.refl _) m)
 |.dT _,⟨us,e,q,r⟩=>.dT ha e q (r.same (aD.refl _) m)
 |.dA _,⟨us,e,q,r⟩=>.dA ha e q (r.same (aD.refl _) m)
 |.dB _,⟨us,e,q,r⟩=>.dB ha e q (r.same (aD.refl _) m)
section
variable {K:ad}{H0:Hp}{W W':az→Prop}{σ:St}{ρ:bM}{H H':Hp}
theorem PX.mono (p:PX K H0 W σ ρ H)(s:aD H H'):PX K H0 W σ ρ H':=by
 refine⟨p.len,p.same.trans s,λa h=>⟨(p.wm a h).1,let ⟨o,e,m⟩:=(p.wm a h).2;⟨o,s _ _ e,m⟩⟩,λi m h=>?_,p.BP⟩
 obtain⟨v,e,r⟩:=p.sl i m h
 refine⟨v,e,?_⟩;cases m with
 |sh g x=>exact aE.same r s λ_ z=>z
 |own x=>
  obtain⟨a,e1,e2,r⟩:=r
  exact⟨a,e1,e2,r.keep (.same s λ_ z=>z) λ_ z=>s _ _ z⟩
 |kp g x ks=>exact⟨⟨r.1.1.same s λ_ z=>z,r.1.2⟩,r.2.same s⟩
theorem PX.new (p:PX K H0 W σ ρ H){a:az}(h:H a=none):¬W a/\H0 a=none:=
 ⟨λz=>(by obtain⟨_,o,e,_⟩:=p.wm a z;rw[h]at e;cases e),p.same.free h⟩
theorem Mg.back {g:Tg}{H1:Hp}(s:aD H H1){a:az}(h:Mg H0 W H1 g a):Mg H0 W H g a:=by
 cases g with
 |fr=>exact s.free h
 |rd=>exact h
 |sh=>exact h
 |nw=>exact h
end
abbrev PK:=PV->Tg->Prop
abbrev aA:=bM->PK->Prop
abbrev cQ:=bM->(Bool->Prop)->Prop
abbrev bV:=bM->(List (PV×Tg)->Prop)->Prop
inductive j6 (K:ad)(H0:Hp)(W:az->Prop)(Hs H:Hp):List V->List (PV×Tg)->Prop
 |nil:j6 K H0 W Hs H [] []
 |cons {v:V}{x:PV}{g:Tg}{vs:List V}{xs:List (PV×Tg)}:aE K (Mg H0 W Hs g) H v x->j6 K H0 W Hs H vs xs->j6 K H0 W Hs H (v::vs) ((x,g)::xs)
def u6 (K:ad)(H0:Hp)(W:az->Prop)(H:Hp)(Q:PK)(Q':VK):Prop:=∀v H' x g,aD H H'->aE K (Mg H0 W H g) H' v x->Q x g->Q' v H'
def LE (X:Cx)(t:aA):TE:=λσ H Q'=>∃(W:az->Prop) (ρ:bM) (Q:PK),PX X.K X.cz W σ ρ H/\t ρ Q/\u6 X.K X.cz W H Q Q'
def LT (X:Cx)(t:cQ):TT:=λσ H Q'=>∃(W:az->Prop) (ρ:bM) (Q:Bool->Prop),PX X.K X.cz W σ ρ H/\t ρ Q/\∀b H',aD H H'->Q b->Q' b H'
def LA (X:Cx)(t:bV):TA:=λσ H Q'=>∃(W:az->Prop) (ρ:bM) (Q:List (PV×Tg)->Prop),PX X.K X.cz W σ ρ H/\t ρ Q/\∀vs H' xs,aD H H'->j6 X.K X.cz W H H' vs xs->Q xs->Q' vs H'
theorem j6.same {K:ad}{H0:Hp}{W:az->Prop}{Hs Pd H H':Hp}(s:aD H H')(b:aD Pd Hs):∀{vs:List V}{xs:List (PV×Tg)},j6 K H0 W Hs H vs xs->j6 K H0 W Pd H' vs xs
 |_,_,.nil=>.nil
 |_,_,.cons r t=>.cons (r.same s λ_ z=>Mg.back b z) (t.same s b)
theorem j6.any {K:ad}{H0:Hp}{W:az->Prop}{Hs H:Hp}:∀{vs:List V}{xs:List (PV×Tg)},j6 K H0 W Hs H vs xs->bp K (λ_=>True) H vs (xs.map (·.1))
 |_,_,.nil=>.nil
 |_,_,.cons r t=>.cons (r.same (aD.refl _) λ_ _=>trivial) t.any
def Nw:Tg->PV->Prop
 |.fr,_=>True
 |.nw,_=>True
 |_,x=>flat x=true
section
variable {K:ad}{H0 Hs H:Hp}{W:az→Prop}{σ:St}{ρ:bM}
theorem Nw.rep {g:Tg}{x:PV}{v:V}(px:PX K H0 W σ ρ Hs)(n:Nw g x)(r:aE K (Mg H0 W Hs g) H v x):aE K (Ms H0 W true) H v x:=by
 cases g with
 |fr=>exact r.same (aD.refl _) λa z=>px.new z
 |nw=>exact r.same (aD.refl _) λa z=>z
 |sh=>exact r.flat n
 |rd=>exact r.flat n
theorem Ob {v:V}{m:Slot}(r:u5 K H0 W H v m):aE K (Mg H0 W Hs m.tag) H v m.val:=by
 cases m with
 |sh g x=>
  cases g with
  |true=>exact aE.same r (aD.refl _) λ_ z=>z
  |false=>exact aE.same r (aD.refl _) λ_ z=>z
 |own x=>
  obtain⟨a,rfl,_,r⟩:=r
  exact r.rep (λ_ _=>trivial) trivial
 |kp g x ks=>exact r.1.1.flat r.1.2
end
section
variable {X:Cx}{σ:St}{H:Hp}{Q':VK}{ta tb:aA}
def a5 (i:Nat):aA:=λρ Q=>∃m,ρ[i]? = some (some m)/\Q m.val m.tag
def qC (x:PV):aA:=λ_ Q=>Q x .fr
theorem aS4 {i:Nat}(h:LE X (a5 i) σ H Q'):cZ i σ H Q':=by
 obtain⟨W,ρ,Q,px,⟨m,e,q⟩,k⟩:=h
 obtain⟨v,ev,r⟩:=px.sl i m e
 exact⟨v,ev,k v H _ _ (aD.refl _) (Ob r) q⟩
theorem u7 {x:PV}{v:V}(hr:∀M,aE X.K M H v x)(h:LE X (qC x) σ H Q'):tC v σ H Q':=by
 obtain⟨W,ρ,Q,px,q,k⟩:=h
 exact k v H _ _ (aD.refl _) (hr _) q
def fD (X:Cx)(R:PV->Tg->PV->Tg->PK->Prop)(r:R2):Prop:=∀(W:az->Prop) (Hs H:Hp) (u v:V) (x y:PV) (g g':Tg) (Q:PK) (Q':VK),aD Hs H->
 (∀a,Hs a=none->¬W a/\X.cz a=none)->aE X.K (Mg X.cz W Hs g) H u x->aE X.K (Mg X.cz W Hs g') H v y->R x g y g' Q->(∀w H' z gz,aD H H'->aE X.K (Mg X.cz W Hs gz) H' w z->Q z gz->Q' w H')->r u v H Q'
def q2 (R:PV->Tg->PV->Tg->PK->Prop)(ta tb:aA):aA:=λρ Q=>ta ρ λx g=>tb ρ λy g'=>R x g y g' Q
theorem u8 {R:PV->Tg->PV->Tg->PK->Prop}{r:R2}(c:fD X R r)(h:LE X (q2 R ta tb) σ H Q'):qF r (LE X ta) (LE X tb) σ H Q':=by
 obtain⟨W,ρ,Q,px,q,k⟩:=h
 refine⟨W,ρ,_,px,q,λu H1 x g s1 r1 q1=>⟨W,ρ,_,px.mono s1,q1,λv H2 y g' s2 r2 q2=>?_⟩⟩;exact c W H H2 u v x y g g' Q Q' (s1.trans s2) (λa z=>px.new z) (r1.same s2 λ_ z=>z) (r2.same (aD.refl _) λ_ z=>Mg.back s1 z) q2 λw H' z gz s3 r3 q3=>k w H' z gz ((s1.trans s2).trans s3) r3 q3
def RI (C:Int->Int->Prop)(f:Int->Int->PV):PV->Tg->PV->Tg->PK->Prop:=λx _ y _ Q=>∃i j,x = .int i/\y = .int j/\C i j/\Q (f i j) .fr
def fE (f:Int->Int->PV):PV->Tg->PV->Tg->PK->Prop:=λx _ y _ Q=>∃i j,x = .int i/\y = .int j/\Q (f i j) .fr
theorem qS {C:Int->Int->Prop}{f:Int->Int->Int}:fD X (RI C λi j=>.int (f i j)) (rI C λi j=>.int (f i j)):=by
 rintro W Hs H u v x y g g' Q Q' s n r1 r2 ⟨i,j,rfl,rfl,c,q⟩ k;cases r1;cases r2
 exact⟨i,j,rfl,rfl,c,k _ _ _ _ (aD.refl _) (.int _) q⟩
theorem u9 {f:Int->Int->Int}:fD X (fE λi j=>.int (f i j)) (iI λi j=>.int (f i j)):=by
 rintro W Hs H u v x y g g' Q Q' s n r1 r2 ⟨i,j,rfl,rfl,q⟩ k;cases r1;cases r2
 exact⟨i,j,rfl,rfl,k _ _ _ _ (aD.refl _) (.int _) q⟩
theorem uA {f:Int->Int->Bool}:fD X (fE λi j=>.bl (f i j)) (iI λi j=>.bl (f i j)):=by
 rintro W Hs H u v x y g g' Q Q' s n r1 r2 ⟨i,j,rfl,rfl,q⟩ k;cases r1;cases r2
 exact⟨i,j,rfl,rfl,k _ _ _ _ (aD.refl _) (.bl _) q⟩
def mL (neg:Bool):PV->Tg->PV->Tg->PK->Prop:=λx _ y _ Q=>(∃i j,x = .int i/\y = .int j/\Q (.bl (if neg=true then !decide (i=j) else decide (i=j))) .fr)∨(∃i j,x = .bl i/\y = .bl j/\Q (.bl (if neg=true then !decide (i=j) else decide (i=j))) .fr)
theorem Oa (i j:Int):decide (V.int i=V.int j)=decide (i=j):=by
 rw[Au,kf,kf];exact⟨λz=>V.int.inj z,λz=>congrArg V.int z⟩
theorem NZ (i j:Bool):decide (V.bl i=V.bl j)=decide (i=j):=by
 rw[Au,kf,kf];exact⟨λz=>V.bl.inj z,λz=>congrArg V.bl z⟩
theorem NY:fD X (mL false) U4:=by
 rintro W Hs H u v x y g g' Q Q' s n r1 r2 (⟨i,j,rfl,rfl,q⟩|⟨i,j,rfl,rfl,q⟩) k
 ·cases r1;cases r2
  exact⟨rfl,by rw[Oa];exact k _ _ _ _ (aD.refl _) (.bl _) q⟩
 ·cases r1;cases r2
  exact⟨rfl,by rw[NZ];exact k _ _ _ _ (aD.refl _) (.bl _) q⟩
theorem aS5:fD X (mL true) U5:=by
 rintro W Hs H u v x y g g' Q Q' s n r1 r2 (⟨i,j,rfl,rfl,q⟩|⟨i,j,rfl,rfl,q⟩) k
 ·cases r1;cases r2
  exact⟨rfl,by rw[Oa];exact k _ _ _ _ (aD.refl _) (.bl _) q⟩
 ·cases r1;cases r2
  exact⟨rfl,by rw[NZ];exact k _ _ _ _ (aD.refl _) (.bl _) q⟩
def bC (t:aA):cQ:=λρ Q=>t ρ λx _=>∃b,x = .bl b/\Q b
theorem uB {t:aA}{Q':Bool->Hp->Prop}(h:LT X (bC t) σ H Q'):LE X t σ H λx H'=>∃k,x = .bl k/\Q' k H':=by
 obtain⟨W,ρ,Q,px,q,k⟩:=h
 refine⟨W,ρ,_,px,q,?_⟩;rintro v H1 x g s r ⟨b,rfl,q⟩;cases r
 exact⟨b,rfl,k _ _ s q⟩
def z0 (t u:cQ):cQ:=λρ Q=>t ρ λc=>if c=true then u ρ Q else Q false
def gK (t u:cQ):cQ:=λρ Q=>t ρ λc=>if c=true then Q true else u ρ Q
def iP (t:cQ):cQ:=λρ Q=>t ρ λc=>Q (!c)
variable {t u:cQ}{Qb:Bool→Hp→Prop}
theorem aS6 (h:LT X (z0 t u) σ H Qb):S8 (LT X t) (LT X u) σ H Qb:=by
 obtain⟨W,ρ,Q,px,q,k⟩:=h
 refine⟨W,ρ,_,px,q,λb H1 s1 q1=>?_⟩;cases b with
 |true=>exact cU ⟨W,ρ,Q,px.mono s1,by simpa using q1,λb H2 s2 q2=>k _ _ (s1.trans s2) q2⟩
 |false=>exact bA (k _ _ s1 (by simpa using q1))
theorem aS7 (h:LT X (gK t u) σ H Qb):S9 (LT X t) (LT X u) σ H Qb:=by
 obtain⟨W,ρ,Q,px,q,k⟩:=h
 refine⟨W,ρ,_,px,q,λb H1 s1 q1=>?_⟩;cases b with
 |false=>exact bA ⟨W,ρ,Q,px.mono s1,by simpa using q1,λb H2 s2 q2=>k _ _ (s1.trans s2) q2⟩
 |true=>exact cU (k _ _ s1 (by simpa using q1))
theorem aS8 (h:LT X (iP t) σ H Qb):T0 (LT X t) σ H Qb:=by
 obtain⟨W,ρ,Q,px,q,k⟩:=h
 exact⟨W,ρ,_,px,q,λb H1 s1 q1=>k _ _ s1 q1⟩
def uC (ta tb:aA):aA:=λρ Q=>ta ρ λx _=>∃c,x = .bl c/\if c=true then tb ρ Q else Q (.bl false) .fr
def z9 (ta:aA):aA:=λρ Q=>ta ρ λx _=>∃c,x = .bl c/\Q (.bl (!c)) .fr
theorem u6.back {K:ad}{H0:Hp}{W:az->Prop}{H H1:Hp}{Q:PK}(k:u6 K H0 W H Q Q')(s:aD H H1):u6 K H0 W H1 Q Q':=λv H' x g s' r q=>k v H' x g (s.trans s') (r.same (aD.refl _) λ_ z=>Mg.back s z) q
theorem aS9 (h:LE X (uC ta tb) σ H Q'):T1 (LE X ta) (LE X tb) σ H Q':=by
 obtain⟨W,ρ,Q,px,q,k⟩:=h
 refine⟨W,ρ,_,px,q,?_⟩;rintro v H1 x g s1 r ⟨c,rfl,q⟩;cases r;refine⟨c,rfl,?_⟩;cases c with
 |true=>exact cU ⟨W,ρ,Q,px.mono s1,by simpa using q,k.back s1⟩
 |false=>exact bA (k _ _ _ _ s1 (.bl _) (by simpa using q))
theorem aT0 (h:LE X (z9 ta) σ H Q'):T4 (LE X ta) σ H Q':=by
 obtain⟨W,ρ,Q,px,q,k⟩:=h
 refine⟨W,ρ,_,px,q,?_⟩;rintro v H1 x g s1 r ⟨c,rfl,q⟩;cases r
 exact⟨c,rfl,k _ _ _ _ s1 (.bl _) q⟩
def aF:bV:=λ_ Q=>Q []
def a8 (te:aA)(tr:bV):bV:=λρ Q=>te ρ λx g=>tr ρ λxs=>Q ((x,g)::xs)
variable {Qa:List V→Hp→Prop}{tr:bV}
theorem aT1 (h:LA X aF σ H Qa):kD σ H Qa:=by
 obtain⟨W,ρ,Q,px,q,k⟩:=h
 exact k _ _ _ (aD.refl _) .nil q
theorem aT2 (h:LA X (a8 ta tr) σ H Qa):g9 (LE X ta) (LA X tr) σ H Qa:=by
 obtain⟨W,ρ,Q,px,q,k⟩:=h
 refine⟨W,ρ,_,px,q,λv H1 x g s1 r1 q1=>⟨W,ρ,_,px.mono s1,q1,λvs H2 xs s2 r2 q2=>?_⟩⟩;exact k _ _ _ (s1.trans s2) (.cons (r1.same s2 λ_ z=>z) (r2.same (aD.refl _) s1)) q2
def eS (t:bV):aA:=λρ Q=>t ρ λxs=>xs.length<=1000/\cb (xs.map (·.1))=true/\Q (.tup (xs.map (·.1))) .fr
def jO (t:bV):aA:=λρ Q=>t ρ λxs=>xs.length<=1000/\cb (xs.map (·.1))=true/\Q (.lst (xs.map (·.1))) .fr
theorem j6.length {K:ad}{H0:Hp}{W:az->Prop}{Hs H:Hp}:∀{vs:List V}{xs:List (PV×Tg)},j6 K H0 W Hs H vs xs->vs.length=xs.length
 |_,_,.nil=>rfl
 |_,_,.cons _ t=>congrArg (·+1) t.length
theorem NX {n:Nat}(h:n<=1000):n<=sizeLine:=uw (Z4 h)
theorem aT3 (h:LE X (eS tr) σ H Q'):V2 (LA X tr) σ H Q':=by
 obtain⟨W,ρ,Q,px,q,k⟩:=h
 refine⟨W,ρ,_,px,q,?_⟩;rintro vs H1 xs s1 r ⟨hl,n,q⟩;refine⟨by rw[r.length];exact NX hl,λp hp=>k _ _ _ .fr (s1.trans (bU hp _)) (.tup bE ?_) q⟩;exact (r.any.flat n).same (bU hp _) λ_ z=>z
theorem aT4 (h:LE X (jO tr) σ H Q'):V3 (LA X tr) σ H Q':=by
 obtain⟨W,ρ,Q,px,q,k⟩:=h
 refine⟨W,ρ,_,px,q,?_⟩;rintro vs H1 xs s1 r ⟨hl,n,q⟩;refine⟨by rw[r.length];exact NX hl,λp hp=>k _ _ _ .fr (s1.trans (bU hp _)) (.lst (s1.free hp) bE ?_) q⟩;exact (r.any.flat n).same (bU hp _) λ_ z=>z
def fQ (X:Cx)(R:List PV->(PV->Prop)->Prop)(r:List V->Hp->VK->Prop):Prop:=∀(H:Hp) (vs:List V) (xs:List PV) (Q:PV->Prop) (Q':VK),bp X.K (λ_=>True) H vs xs->R xs Q->
 (∀w H' z,aD H H'->aE X.K (λa=>H a=none) H' w z->Q z->Q' w H')->r vs H Q'
def aG (R:List PV->(PV->Prop)->Prop)(t:bV):aA:=λρ Q=>t ρ λxs=>R (xs.map (·.1)) λz=>Q z .fr
theorem NW {R:List PV->(PV->Prop)->Prop}{r:List V->Hp->VK->Prop}(c:fQ X R r)(h:LE X (aG R tr) σ H Q'):xO r (LA X tr) σ H Q':=by
 obtain⟨W,ρ,Q,px,q,k⟩:=h
 refine⟨W,ρ,_,px,q,λvs H1 xs s1 r1 q1=>c H1 vs _ _ Q' r1.any q1 λw H' z s2 r2 q2=>k w H' z .fr (s1.trans s2) (r2.same (aD.refl _) λ_ z=>s1.free z) q2⟩
end
structure uD where
 nx:bM->Prop
 rt:PV->Prop
 bk:bM->Prop:=λ_=>False
 ct:bM->Prop:=λ_=>False
abbrev aY:=uD->bM->Prop
def Ev (W:az->Prop)(H:Hp)(W':az->Prop)(H':Hp):Prop:=∀b o,H b=some o->¬W b->Ib o=false->H' b=some o/\¬W' b
theorem Ev.trans {W W1 W2:az->Prop}{H H1 H2:Hp}(a:Ev W H W1 H1)(b:Ev W1 H1 W2 H2):Ev W H W2 H2:=λc o h n z=>let ⟨h1,n1⟩:=a c o h n z;b c o h1 n1 z
theorem Ev.same {W:az->Prop}{H H':Hp}(s:aD H H'):Ev W H W H':=λc o h n _=>⟨s _ _ h,n⟩
theorem Ev.refl (W:az->Prop)(H:Hp):Ev W H W H:=Ev.same (aD.refl _)
structure uE (X:Cx)(W:az->Prop)(H:Hp)(D':uD)(D:fN):Prop where
 nx:∀W' cn H' fk,Ev W H W' H'->PX X.K X.cz W' cn fk H'->D'.nx fk->D.nx cn H'
 rt:∀v H' x,aD X.cz H'->aE X.K (λa=>X.cz a=none) H' v x->D'.rt x->D.rt v H'
 bk:∀W' cn H' fk,Ev W H W' H'->PX X.K X.cz W' cn fk H'->D'.bk fk->D.bk cn H'
 ct:∀W' cn H' fk,Ev W H W' H'->PX X.K X.cz W' cn fk H'->D'.ct fk->D.ct cn H'
theorem uE.step {X:Cx}{W W1:az->Prop}{H H1:Hp}{D':uD}{D:fN}(k:uE X W H D' D)(e:Ev W H W1 H1):uE X W1 H1 D' D:=
 ⟨λW' cn H' fk e'=>k.nx W' cn H' fk (e.trans e'),k.rt,λW' cn H' fk e'=>k.bk W' cn H' fk (e.trans e'),λW' cn H' fk e'=>k.ct W' cn H' fk (e.trans e')⟩
def LS (X:Cx)(t:aY):TS:=λD σ H=>∃(W:az->Prop) (ρ:bM) (D':uD),PX X.K X.cz W σ ρ H/\t D' ρ/\uE X W H D' D
theorem iA {α:Type}{l:List α}{i j:Nat}{a b:α}(h:(l.set i a)[j]? = some b):(j=i/\i<l.length/\b=a)∨(j≠i/\l[j]? = some b):=by
 by_cases e:j=i
 ·subst e
  have hl:j<(l.set j a).length:=(og.mp h).1;rw[xi]at hl;rw[Ba hl]at h;exact .inl ⟨rfl,hl,(ip h).symm⟩
 ·rw[vb (Ne.symm e)]at h
  exact .inr ⟨e,h⟩
section
variable {K:ad}{H0:Hp}{W W':az→Prop}{σ:St}{ρ:bM}{H H' Hs:Hp}
theorem PX.nh {i:Nat}{v:V}{g:Bool}{x:PV}(p:PX K H0 W σ ρ H)(r:aE K (Ms H0 W g) H v x):PX K H0 W (σ.set i (some v)) (ρ.set i (some (.sh g x))) H:=by
 refine⟨by rw[xi,xi];exact p.len,p.same,p.wm,λj m h=>?_,λj k y z a h1 h2 h3 h4=>?_⟩
 ·rcases iA h with⟨rfl,hl,e⟩|⟨oo,h⟩
  ·cases e
   rw[p.len]at hl
   exact⟨v,Ba hl,r⟩
  ·obtain⟨u,e,q⟩:=p.sl j m h
   exact⟨u,by rw[vb (Ne.symm oo)];exact e,q⟩
 ·rcases iA h1 with⟨_,_,e⟩|⟨n1,h1⟩
  ·cases e
  ·rcases iA h2 with⟨_,_,e⟩|⟨n2,h2⟩
   ·cases e
   ·rw[vb (Ne.symm n1)]at h3
    rw[vb (Ne.symm n2)]at h4;exact p.BP j k y z a h1 h2 h3 h4
def oD (W:az->Prop)(a:az):az->Prop:=λb=>W b∨b=a
theorem uF {g:Bool}{a b:az}(n:b≠a)(h:Ms H0 W g b):Ms H0 (oD W a) g b:=by
 cases g with
 |true=>exact⟨λz=>z.elim h.1 n,h.2⟩
 |false=>exact λz=>z.elim h n
theorem PX.yl {i:Nat}{a:az}{x:PV}(p:PX K H0 W σ ρ Hs)(s:aD Hs H)(ha:Hs a=none)(r:iO K (Ms H0 (oD W a) true) H a x):PX K H0 (oD W a) (σ.set i (some (.ref a))) (ρ.set i (some (.own x))) H:=by
 have old:∀b o,Hs b=some o->b≠a:=λb o e z=>by rw[z,ha]at e;cases e
 have kp:∀g,gH (Ms H0 W g) (Ms H0 (oD W a) g) Hs H:=λg=>⟨λb _ m e=>⟨uF (old _ _ e) m,s _ _ e⟩,λb _ m e=>⟨uF (old _ _ e) m,s _ _ e⟩,λb _ m e=>⟨uF (old _ _ e) m,s _ _ e⟩,λ_ _ e=>s _ _ e,λ_ _ _ e _=>s _ _ e,λb _ _ m e=>⟨uF (old _ _ e) m,s _ _ e⟩⟩
 have wa:¬W a:=(p.new ha).1;refine⟨by rw[xi,xi];exact p.len,p.same.trans s,λb z=>?_,λj m h=>?_,λj k y z b h1 h2 h3 h4=>?_⟩
 ·rcases z with z|rfl
  ·obtain⟨h1,o,h2,h3⟩:=p.wm b z
   exact⟨h1,o,s _ _ h2,h3⟩
  ·exact⟨(p.new ha).2,r.at⟩
 ·rcases iA h with⟨rfl,hl,e⟩|⟨oo,h⟩
  ·cases e
   rw[p.len]at hl
   exact⟨_,Ba hl,a,rfl,.inr rfl,r⟩
  ·obtain⟨u,e,q⟩:=p.sl j m h
   refine⟨u,by rw[vb (Ne.symm oo)];exact e,?_⟩;cases m with
   |sh g y=>exact aE.keep (kp g) q
   |own y=>
    obtain⟨b,e1,e2,q⟩:=q
    exact⟨b,e1,.inl e2,q.keep (kp true) λo z=>s _ _ z⟩
   |kp g c ks=>exact⟨⟨q.1.1.same s λ_ z=>z,q.1.2⟩,q.2.same s⟩
 ·have ne:∀{j:Nat}{y:PV},ρ[j]? = some (some (.own y))->σ[j]?≠some (some (.ref a)):=λ{j y} h1 h2=>by
   obtain⟨u,e,c,e1,e2,_⟩:=p.sl j _ h1
   rw[h2]at e;cases e;cases e1;exact wa e2
  rcases iA h1 with⟨e1,l1,_⟩|⟨n1,h1⟩
  ·rcases iA h2 with⟨e2,_,_⟩|⟨n2,h2⟩
   ·rw[e1,e2]
   ·rw[e1,Ba (by rw[<- p.len];exact l1)]at h3
    rw[vb (Ne.symm n2)]at h4;cases h3;exact absurd h4 (ne h2)
  ·rw[vb (Ne.symm n1)]at h3
   rcases iA h2 with⟨e2,l2,_⟩|⟨n2,h2⟩
   ·rw[e2,Ba (by rw[<- p.len];exact l2)]at h4
    cases h4;exact absurd h3 (ne h1)
   ·rw[vb (Ne.symm n2)]at h4
    exact p.BP j k y z b h1 h2 h3 h4
theorem Ev.own {a:az}(s:aD Hs H)(ha:Hs a=none):Ev W Hs (oD W a) H:=λb o e n _=>⟨s _ _ e,λz=>z.elim n λz=>by rw[z,ha]at e;cases e⟩
theorem jP {g:Bool}{a b:az}(wa:W a)(h:Ms H0 W g b):b≠a:=by
 cases g with
 |true=>exact λz=>h.1 (by rw[z];exact wa)
 |false=>exact λz=>h (by rw[z];exact wa)
theorem PX.qf {i:Nat}{a:az}{x y:PV}{o:HO}(p:PX K H0 W σ ρ H)(hi:ρ[i]? = some (some (.own x)))(ha:σ[i]? = some (some (.ref a)))(wa:W a)(mu:eQ o=true)(r:iO K (Ms H0 W true) (upd H a o) a y) :
  PX K H0 W σ (ρ.set i (some (.own y))) (upd H a o):=by
 obtain⟨w0,o',e',Fo⟩:=p.wm a wa
 have kp:∀g,gH (Ms H0 W g) (Ms H0 W g) H (upd H a o):=λg=>.upd e' Fo λb m=>⟨jP wa m,m⟩
 refine⟨by rw[xi];exact p.len,λb u e=>by rw[aH (λz=>by rw[z,w0]at e;cases e)];exact p.same _ _ e,λb z=>?_,λj m h=>?_,λj k y' z b h1 h2 h3 h4=>?_⟩
 ·by_cases e:b=a
  ·subst e;exact⟨w0,o,bE,mu⟩
  ·obtain⟨h1,o2,h2,h3⟩:=p.wm b z
   exact⟨h1,o2,by rw[aH e];exact h2,h3⟩
 ·rcases iA h with⟨rfl,hl,e⟩|⟨oo,h⟩
  ·cases e
   exact⟨_,ha,a,rfl,wa,r⟩
  ·obtain⟨u,e,q⟩:=p.sl j m h
   refine⟨u,e,?_⟩;cases m with
   |sh g y=>exact aE.keep (kp g) q
   |own y=>
    obtain⟨b,e1,e2,q⟩:=q
    have hb:b≠a:=λz=>by
     subst e1;rw[z]at e;exact oo (p.BP j i _ _ a h hi e ha)
    exact⟨b,e1,e2,q.keep (kp true) λo z=>by rw[aH hb];exact z⟩
   |kp g c ks=>exact⟨⟨q.1.1.keep (.upd e' Fo λ_ z=>z.elim),q.1.2⟩,q.2.upd e' Fo⟩
 ·have g1:∃y,ρ[j]? = some (some (.own y)):=by
   rcases iA h1 with⟨e,_,_⟩|⟨_,h⟩
   ·exact⟨x,by rw[e];exact hi⟩
   ·exact⟨_,h⟩
  have g2:∃y,ρ[k]? = some (some (.own y)):=by
   rcases iA h2 with⟨e,_,_⟩|⟨_,h⟩
   ·exact⟨x,by rw[e];exact hi⟩
   ·exact⟨_,h⟩
  obtain⟨y1,g1⟩:=g1
  obtain⟨y2,g2⟩:=g2
  exact p.BP j k y1 y2 b g1 g2 h3 h4
theorem Ev.upd {a:az}{o:HO}(wa:W a):Ev W H W (upd H a o):=λb u e n _=>⟨by rw[aH (λz=>n (by rw[z];exact wa))];exact e,n⟩
def oE (W:az->Prop)(a:az):az->Prop:=λb=>W b/\b≠a
theorem NV {g:Bool}{a b:az}(h:Ms H0 W g b):Ms H0 (oE W a) g b:=by
 cases g with
 |true=>exact⟨λz=>h.1 z.1,h.2⟩
 |false=>exact λz=>h z.1
end
section
variable {X:Cx}{σ:St}{H:Hp}{D:fN}{te:aA}{t u:aY}
def dF:aY:=λD ρ=>D.nx ρ
def aP (t u:aY):aY:=λD ρ=>t { D with nx:=u D } ρ
theorem aT5 (h:LS X dF D σ H):x9 D σ H:=by
 obtain⟨W,ρ,D',px,q,k⟩:=h
 exact k.nx W σ H ρ (Ev.refl _ _) px q
theorem aT6 (h:LS X (aP t u) D σ H):T5 (LS X t) (LS X u) D σ H:=by
 obtain⟨W,ρ,D',px,q,k⟩:=h
 exact⟨W,ρ,_,px,q,λW' cn H' fk e Qv q'=>⟨W',fk,D',Qv,q',k.step e⟩,k.rt,k.bk,k.ct⟩
def Hr:Tg->PV->Bool
 |.fr,_=>true
 |.nw,_=>true
 |_,x=>flat x
def Pa:Tg->PV->Prop
 |.rd,x=>flat x=true
 |_,_=>True
theorem aT7 {K:ad}{H0 Hs H:Hp}{W:az->Prop}{σ:St}{ρ:bM}{g:Tg}{x:PV}{v:V}(px:PX K H0 W σ ρ Hs)(n:Pa g x)(r:aE K (Mg H0 W Hs g) H v x):aE K (Ms H0 W (Hr g x)) H v x:=by
 cases g with
 |fr=>exact Nw.rep (g:=.fr) px trivial r
 |nw=>exact Nw.rep (g:=.nw) px trivial r
 |sh=>
  show aE K (Ms H0 W (flat x)) H v x;cases e:flat x with
  |true=>exact r.flat e
  |false=>exact r.same (aD.refl _) λ_ z=>z
 |rd=>exact r.flat n
def bW (i:Nat)(te:aA):aY:=λD ρ=>te ρ λx g=>Pa g x/\D.nx (ρ.set i (some (.sh (Hr g x) x)))
theorem NU {i:Nat}(h:LS X (bW i te) D σ H):jL (LE X te) (dN i) D σ H:=by
 obtain⟨W,ρ,D',px,q,k⟩:=h
 refine⟨W,ρ,_,px,q,?_⟩;rintro v H1 x g s r ⟨n,q⟩;exact k.nx W _ H1 _ (Ev.same s) ((px.mono s).nh (aT7 px n r)) q
def NT:PV->Bool
 |.lst xs=>cb xs
 |.dK ps=>cb (ps.map (·.2))
 |.dT ps=>cb (ps.map (·.2))
 |_=>false
theorem aT8 {K:ad}{M:az->Prop}{H:Hp}{v:V}{x:PV}(r:aE K M H v x)(o:NT x=true):∃a,v = .ref a/\M a/\∀M',iO K M' H a x:=by
 cases r with
 |lst m e r=>exact⟨_,rfl,m,λ_=>⟨_,e,r.flat o⟩⟩
 |dK m e q r=>exact⟨_,rfl,m,λ_=>⟨_,e,q,r.flat o⟩⟩
 |dT m e q r=>exact⟨_,rfl,m,λ_=>⟨_,e,q,r.flat o⟩⟩
 |_=>cases o
def lA (i:Nat)(te:aA):aY:=λD ρ=>te ρ λx g=>g = .fr/\NT x=true/\D.nx (ρ.set i (some (.own x)))
theorem aT9 {i:Nat}(h:LS X (lA i te) D σ H):jL (LE X te) (dN i) D σ H:=by
 obtain⟨W,ρ,D',px,q,k⟩:=h
 refine⟨W,ρ,_,px,q,?_⟩;rintro v H1 x g s r ⟨rfl,o,q⟩
 obtain⟨a,rfl,m,w⟩:=aT8 r o
 exact k.nx _ _ H1 _ (Ev.own s m) (px.yl s m (w _)) q
def jQ (te:aA):aY:=λD ρ=>te ρ λ_ _=>D.nx ρ
theorem aU0 (h:LS X (jQ te) D σ H):mC (LE X te) D σ H:=by
 obtain⟨W,ρ,D',px,q,k⟩:=h
 exact⟨W,ρ,_,px,q,λv H1 x g s r q=>k.nx W σ H1 ρ (Ev.same s) (px.mono s) q⟩
def c9 (te:aA):aY:=λD ρ=>te ρ λx g=>Nw g x/\D.rt x
theorem aU1 (h:LS X (c9 te) D σ H):tD (LE X te) D σ H:=by
 obtain⟨W,ρ,D',px,q,k⟩:=h
 refine⟨W,ρ,_,px,q,?_⟩;rintro v H1 x g s r ⟨n,q⟩;exact k.rt v H1 x (px.same.trans s) ((Nw.rep px n r).same (aD.refl _) λ_ z=>z.2) q
def Slot.nw:Slot->Prop
 |.own _=>True
 |.kp _ _ _=>True
 |.sh true _=>True
 |.sh false x=>flat x=true
def oF (i:Nat):aY:=λD ρ=>∃m,ρ[i]? = some (some m)/\m.nw/\D.rt m.val
theorem aU2 {i:Nat}(h:LS X (oF i) D σ H):tD (cZ i) D σ H:=by
 obtain⟨W,ρ,D',px,⟨m,hi,n,q⟩,k⟩:=h
 obtain⟨v,ev,r⟩:=px.sl i _ hi
 refine⟨v,ev,k.rt v H _ px.same ?_ q⟩;cases m with
 |own x=>
  obtain⟨a,rfl,wa,r⟩:=r
  exact r.rep (λ_ z=>z.2) (px.wm a wa).1
 |sh g x=>
  cases g with
  |true=>exact aE.same r (aD.refl _) λ_ z=>z.2
  |false=>exact aE.flat n r
 |kp g x ks=>exact r.1.1.flat r.1.2
def dG (c:cQ)(t u:aY):aY:=λD ρ=>c ρ λb=>if b=true then t D ρ else u D ρ
theorem aU3 {c:cQ}(h:LS X (dG c t u) D σ H):qB (LT X c) (LS X t) (LS X u) D σ H:=by
 obtain⟨W,ρ,D',px,q,k⟩:=h
 refine⟨W,ρ,_,px,q,λb H1 s q1=>?_⟩;cases b with
 |true=>exact cU ⟨W,ρ,D',px.mono s,by simpa using q1,k.step (Ev.same s)⟩
 |false=>exact bA ⟨W,ρ,D',px.mono s,by simpa using q1,k.step (Ev.same s)⟩
def qT (c:cQ)(tb:aY):aY:=λD ρ=>∃I:Nat->bM->Prop,(∃m,I m ρ)/\∀m fk,I m fk->c fk λb=>if b=true then tb { D with nx:=λjl=>∃m',m'<m/\I m' jl,ct:=λjl=>∃m',m'<m/\I m' jl,bk:=D.nx } fk else D.nx fk
theorem aU4 {c:cQ}{tb:aY}(h:LS X (qT c tb) D σ H):T8 (LT X c) (LS X tb) D σ H:=by
 obtain⟨W,ρ,D',px,⟨I,⟨m0,i0⟩,turn⟩,k⟩:=h
 refine⟨λm jx H2=>∃W2 jl,PX X.K X.cz W2 jx jl H2/\Ev W H W2 H2/\I m jl,⟨m0,W,ρ,px,Ev.refl _ _,i0⟩,?_⟩;rintro m jx H2 ⟨W2,jl,wd,e2,i2⟩;refine⟨W2,jl,_,wd,turn m jl i2,λb H3 s3 q3=>?_⟩;cases b with
 |true=>
  refine cU ⟨λER H4=>∃W4 Cm,PX X.K X.cz W4 ER Cm H4/\Ev W H W4 H4/\∃m',m'<m/\I m' Cm,λER H4 ⟨W4,Cm,a,b,m',c,d⟩=>⟨m',c,W4,Cm,a,b,d⟩,W2,jl,_,wd.mono s3,by simpa using q3,?_⟩;have e3:Ev W H W2 H3:=e2.trans (Ev.same s3)
  exact⟨λW' cn H' fk e p q=>⟨W',fk,p,e3.trans e,q⟩,k.rt,λW' cn H' fk e p q=>k.nx W' cn H' fk (e3.trans e) p q,λW' cn H' fk e p q=>⟨W',fk,p,e3.trans e,q⟩⟩
 |false=>exact bA (k.nx W2 jx H3 jl (e2.trans (Ev.same s3)) (wd.mono s3) (by simpa using q3))
end
theorem lim {n:Nat}(h:n<=16000000):n<=sizeLine:=uw (j5 h)
theorem aE.qh {K:ad}{M:az->Prop}{H:Hp}{v:V}{xs:List PV}(r:aE K M H v (.tup xs)):∃a us,v = .ref a/\H a=some (.tup us)/\bp K M H us xs:=by
 cases r with
 |tup e r=>exact⟨_,_,rfl,e,r⟩
theorem aE.rh {K:ad}{M:az->Prop}{H:Hp}{v:V}{xs:List PV}(r:aE K M H v (.lst xs)):∃a us,v = .ref a/\M a/\H a=some (.lst us)/\bp K M H us xs:=by
 cases r with
 |lst m e r=>exact⟨_,_,rfl,m,e,r⟩
theorem kJ.rh {K:ad}{H:Hp}{a:az}{ns:ag}(h:kJ K H a ns):aN K H a (ns.map V.int):=h.elim (λz=>.inl (.inr z)) .inr
def jR:PV->Option (List PV)
 |.tup xs=>some xs
 |.lst xs=>some xs
 |.mn ns=>some (bj ns)
 |.kt xs=>some xs
 |.fL xs=>some xs
 |_=>none
theorem aE.seq {K:ad}{M:az->Prop}{H:Hp}{v:V}{x:PV}{xs:List PV}(r:aE K M H v x)(e:jR x=some xs):∃a us,v = .ref a/\(aN K H a us∨aM K H a us)/\bp K M H us xs:=by
 cases r with
 |tup h r=>cases e;exact⟨_,_,rfl,.inr (aM.of h),r⟩
 |lst m h r=>cases e;exact⟨_,_,rfl,.inl (aN.of h),r⟩
 |mn h=>cases e;exact⟨_,_,rfl,.inl h.rh,bp.bj _⟩
 |kt h r=>cases e;exact⟨_,_,rfl,.inr (.inr h),r⟩
 |fL h r=>cases e;exact⟨_,_,rfl,.inl (.inl (.inr ⟨_,h⟩)),r⟩
 |_=>cases e
section
variable {X:Cx}{σ:St}{H:Hp}{D:fN}{te ti to:aA}{t u:aY}{Q':VK}
theorem _root_.PP.PX.yf {K:ad}{H0:Hp}{W:az->Prop}{σ:St}{ρ:bM}{H:Hp}{i:Nat}{a:az}{x:PV}{us:List V}{ys:List PV}(p:PX K H0 W σ ρ H)(hi:ρ[i]? = some (some (.own x)))(ha:σ[i]? = some (some (.ref a)))(wa:W a)(r:bp K (Ms H0 W true) (upd H a (.lst us)) us ys) :
  PX K H0 W σ (ρ.set i (some (.own (.lst ys)))) (upd H a (.lst us)):=p.qf hi ha wa rfl (y:=.lst ys) ⟨us,bE,r⟩
def qU (i:Nat)(te:aA):aY:=λD ρ=>∃xs,ρ[i]? = some (some (.own (.lst xs)))/\te ρ λx g=>Nw g x/\xs.length<16000000/\D.nx (ρ.set i (some (.own (.lst (xs++[x])))))
theorem aU5 {i:Nat}(h:LS X (qU i te) D σ H):mC (xX X.K "list" Y3 (cZ i) (g9 (LE X te) kD)) D σ H:=by
 obtain⟨W,ρ,D',px,⟨xs,hi,q⟩,k⟩:=h
 obtain⟨v,ev,a,rfl,wa,us,ea,r⟩:=px.sl i _ hi
 refine⟨_,ev,o8 (aN.of ea),W,ρ,_,px,q,?_⟩;rintro w H1 x g s rx ⟨n,hl,q⟩;have CH:=s _ _ ea;refine⟨a,us,w,rfl,rfl,CH,j5 (by rw[r.length];lia),?_⟩;refine k.nx W σ _ _ ((Ev.same s).trans (Ev.upd wa)) ((px.mono s).yf hi ev wa ?_) q;exact ((r.same s λ_ z=>z).append (.cons (Nw.rep px n rx) .nil)).keep (.upd CH rfl λb m=>⟨jP wa m,m⟩)
def NS (K:ad):V->List V->Hp->VK->Prop:=λx vs H Q=>Y4 x vs H Q∨Oo K x vs H Q
def uG (i:Nat)(te:aA):aY:=λD ρ=>∃xs,ρ[i]? = some (some (.own (.lst xs)))/\te ρ λy g=>∃ys,(y = .tup ys∨y = .lst ys)/\(Nw g y∨cb ys=true)/\xs.length+ys.length<=16000000/\D.nx (ρ.set i (some (.own (.lst (xs++ys)))))
theorem aU6 {i:Nat}(h:LS X (uG i te) D σ H):mC (xX X.K "list" (NS X.K) (cZ i) (g9 (LE X te) kD)) D σ H:=by
 obtain⟨W,ρ,D',px,⟨xs,hi,q⟩,k⟩:=h
 obtain⟨v,ev,a,rfl,wa,us,ea,r⟩:=px.sl i _ hi
 refine⟨_,ev,o8 (aN.of ea),W,ρ,_,px,q,?_⟩;rintro w H1 y g s ry ⟨ys,hy,n,hl,q⟩;have CH:=s _ _ ea;have key:∀(zs:List V),bp X.K (Ms X.cz W true) H1 zs ys->D.nx σ (upd H1 a (.lst (us++zs))):=λzs rz=>by
  refine k.nx W σ _ _ ((Ev.same s).trans (Ev.upd wa)) ((px.mono s).yf hi ev wa ?_) q;exact ((r.same s λ_ z=>z).append rz).keep (.upd CH rfl λb m=>⟨jP wa m,m⟩)
 have lr:=r.length;rcases hy with rfl|rfl
 ·obtain⟨b,zs,rfl,eb,rz⟩:=ry.qh
  have lz:=rz.length;refine .inr ⟨a,b,us,zs,rfl,rfl,CH,aM.of eb,lim (by lia),key zs ?_⟩;rcases n with n|n
  ·obtain⟨b',Pq,e1,e2,Dh⟩:=(Nw.rep px n ry).qh
   cases e1;rw[eb]at e2;cases e2;exact Dh
  ·exact rz.flat n
 ·obtain⟨b,zs,rfl,_,eb,rz⟩:=ry.rh
  have lz:=rz.length;refine .inl ⟨a,b,us,zs,rfl,rfl,CH,eb,lim (by lia),key zs ?_⟩;rcases n with n|n
  ·obtain⟨b',Pq,e1,_,e2,Dh⟩:=(Nw.rep px n ry).rh
   cases e1;rw[eb]at e2;cases e2;exact Dh
  ·exact rz.flat n
def uH (i:Nat)(tk te:aA):aY:=λD ρ=>te ρ λx g=>∃xs,ρ[i]? = some (some (.own (.lst xs)))/\tk ρ λy _=>∃n j,y = .int n/\gZ xs.length n=some j/\Nw g x/\D.nx (ρ.set i (some (.own (.lst (xs.set j x)))))
theorem aU7 {i:Nat}{tk:aA}(h:LS X (uH i tk te) D σ H):jL (LE X te) (xD (cZ i) (LE X tk) xT) D σ H:=by
 obtain⟨W,ρ,D',px,q,k⟩:=h
 refine⟨W,ρ,_,px,q,?_⟩;rintro w H1 x g s rx ⟨xs,hi,q1⟩
 obtain⟨v,ev,a,rfl,wa,us,ea,r⟩:=(px.mono s).sl i _ hi
 refine⟨_,ev,W,ρ,_,px.mono s,q1,?_⟩;rintro kv H2 y gy s2 ry ⟨n,j,rfl,hj,nw,q2⟩;cases ry;have Ao:=s2 _ _ ea;refine⟨a,us,n,j,rfl,rfl,Ao,by rw[r.length];exact hj,?_⟩;refine k.nx W σ _ _ ((Ev.same (s.trans s2)).trans (Ev.upd wa)) ((px.mono (s.trans s2)).yf hi ev wa ?_) q2;exact (bp.set ((Nw.rep px nw rx).same s2 λ_ z=>z) j (r.same s2 λ_ z=>z)).keep (.upd Ao rfl λb m=>⟨jP wa m,m⟩)
def zA (i j:Nat):aY:=λD ρ=>∃xs y,ρ[i]? = some (some (.own (.lst (xs++[y]))))/\D.nx ((ρ.set i (some (.own (.lst xs)))).set j (some (.sh true y)))
theorem bp.snoc_inv {K:ad}{M:az->Prop}{H:Hp}{us:List V}{xs:List PV}{y:PV}(r:bp K M H us (xs++[y])):∃vs v,us=vs++[v]/\bp K M H vs xs/\aE K M H v y:=by
 have l:=r.length;have h1:=r.take xs.length;have h2:=r.drop xs.length;rw[List.take_left]at h1;rw[List.drop_left]at h2;generalize hd:us.drop xs.length=ds at h2;cases h2 with
 |cons q t=>
  cases t
  exact⟨_,_,by rw[<- hd,yc],h1,q⟩
theorem aU8 {i j:Nat}(h:LS X (zA i j) D σ H):jL (xW X.K "list" Y5 (cZ i)) (dN j) D σ H:=by
 obtain⟨W,ρ,D',px,⟨xs,y,hi,q⟩,k⟩:=h
 obtain⟨v,ev,a,rfl,wa,us,ea,r⟩:=px.sl i _ hi
 obtain⟨vs,w,rfl,r1,ry⟩:=r.snoc_inv
 refine⟨_,ev,o8 (aN.of ea),a,_,w,rfl,rfl,ea,by simp,?_⟩;rw[List.dropLast_concat];have kp:gH (Ms X.cz W true) (Ms X.cz W true) H (upd H a (.lst vs)):=.upd ea rfl λb m=>⟨jP wa m,m⟩
 exact k.nx W _ _ _ (Ev.upd wa) ((px.yf hi ev wa (r1.keep kp)).nh (ry.keep kp)) q
end
theorem bp.oh {K:ad}{M:az->Prop}{H:Hp}{us:List V}{xs:List PV}{i:Int}{z:PV}(r:bp K M H us xs)(h:L2.oh xs i=some z):∃v,L2.oh us i=some v/\aE K M H v z:=by
 unfold L2.oh at h ⊢;rw[r.length];cases e:gZ xs.length i with
 |none=>rw[e]at h;cases h
 |some j=>rw[e]at h;exact r.at h
section
variable {X:Cx}{σ:St}{H:Hp}{Q':VK}{ta tb te:aA}{tr:bV}
def zB:PV->Tg->PV->Tg->PK->Prop:=λx g y _ Q=>∃xs i z,jR x=some xs/\y = .int i/\L2.oh xs i=some z/\Q z g
theorem aU9:fD X zB (X8 X.K):=by
 rintro W Hs H u v x y g g' Q Q' s n r1 r2 ⟨xs,i,z,e,rfl,hz,q⟩ k;cases r2
 obtain⟨a,us,rfl,hs,r⟩:=r1.seq e
 obtain⟨v,hv,rv⟩:=r.oh hz
 rcases hs with hs|hs
 ·exact .inl ⟨a,us,i,v,rfl,rfl,hs,hv,k v H z g (aD.refl _) rv q⟩
 ·exact .inr (.inl ⟨a,us,i,v,rfl,rfl,hs,hv,k v H z g (aD.refl _) rv q⟩)
def qV:PV->Option Nat
 |.tup xs=>some xs.length
 |.lst xs=>some xs.length
 |.mn ns=>some ns.length
 |.dK ps=>some ps.length
 |.kt xs=>some xs.length
 |.fL xs=>some xs.length
 |_=>none
def d4:List PV->(PV->Prop)->Prop:=λxs Q=>∃x n,xs = [x]/\qV x=some n/\Q (.int n)
theorem bp.one {K:ad}{M:az->Prop}{H:Hp}{vs:List V}{x:PV}(r:bp K M H vs [x]):∃v,vs = [v]/\aE K M H v x:=by
 cases r with
 |cons r t=>cases t;exact⟨_,rfl,r⟩
theorem bp.two {K:ad}{M:az->Prop}{H:Hp}{vs:List V}{x y:PV}(r:bp K M H vs [x,y]):∃v w,vs = [v,w]/\aE K M H v x/\aE K M H w y:=by
 cases r with
 |cons r t=>
  obtain⟨w,rfl,q⟩:=t.one
  exact⟨_,_,rfl,r,q⟩
theorem aV0:fQ X d4 (λxs H Q=>(∃p ys,xs = [.ref p]/\(aN X.K H p ys∨aM X.K H p ys)/\Q (.int ys.length) H)∨∃a bq,xs = [V.ref a]/\H a=some (.dK bq)/\Q (.int bq.length) H):=by
 rintro H vs xs Q Q' r ⟨x,n,rfl,e,q⟩ k
 obtain⟨v,rfl,r1⟩:=r.one
 have fin:∀{m:Nat},m=n->Q' (.int m) H:=λ{m} z=>by rw[z];exact k _ _ _ (aD.refl _) (.int _) q
 cases r1 with
 |tup h r2=>cases e;exact .inl ⟨_,_,rfl,.inr (aM.of h),fin r2.length⟩
 |lst m h r2=>cases e;exact .inl ⟨_,_,rfl,.inl (aN.of h),fin r2.length⟩
 |mn h=>cases e;exact .inl ⟨_,_,rfl,.inl h.rh,fin (by rw[dt])⟩
 |kt h r2=>cases e;exact .inl ⟨_,_,rfl,.inr (.inr h),fin r2.length⟩
 |fL h r2=>cases e;exact .inl ⟨_,_,rfl,.inl (.inl (.inr ⟨_,h⟩)),fin r2.length⟩
 |dK m h e' r=>
  cases e;refine .inr ⟨_,_,rfl,h,fin ?_⟩
  have:=congrArg List.length e'
  rw[dt,dt]at this;exact this
 |_=>cases e
def aV1:PV->Option (List PV)
 |.kt _=>none
 |x=>jR x
def NR:List PV->(PV->Prop)->Prop:=λxs Q=>∃x ys,xs = [x]/\aV1 x=some ys/\cb ys=true/\Q (.tup ys)
def qW:List PV->(PV->Prop)->Prop:=λxs Q=>∃x ys,xs = [x]/\jR x=some ys/\cb ys=true/\Q (.lst ys)
theorem aV2:fQ X (λxs Q=>NR xs Q/\∀ns,xs≠[.mn ns]) (λxs H Q=>∃p ys,xs = [.ref p]/\((aN X.K H p ys/\∀l,H l=none->Q (.ref l) (upd H l (.tup ys)))∨(aM X.K H p ys/\Q (.ref p) H))):=by
 rintro H vs xs Q Q' r ⟨⟨x,ys,rfl,e,f,q⟩,QF⟩ k
 obtain⟨v,rfl,r1⟩:=r.one
 cases r1 with
 |tup h r2=>cases e;exact⟨_,_,rfl,.inr ⟨aM.of h,k _ _ _ (aD.refl _) (.tup h (r2.flat f)) q⟩⟩
 |lst m h r2=>cases e;exact⟨_,_,rfl,.inl ⟨aN.of h,λl hl=>k _ _ _ (bU hl _) (.tup bE ((r2.flat f).same (bU hl _) λ_ z=>z)) q⟩⟩
 |mn h=>exact absurd rfl (QF _)
 |fL h r2=>cases e;exact⟨_,_,rfl,.inl ⟨.inl (.inr ⟨_,h⟩),λl hl=>k _ _ _ (bU hl _) (.tup bE ((r2.flat f).same (bU hl _) λ_ z=>z)) q⟩⟩
 |_=>cases e
theorem aV3:fQ X qW (λxs H Q=>∃p ys,xs = [.ref p]/\(aN X.K H p ys∨aM X.K H p ys)/\∀l,H l=none->Q (.ref l) (upd H l (.lst ys))):=by
 rintro H vs xs Q Q' r ⟨x,ys,rfl,e,f,q⟩ k
 obtain⟨v,rfl,r1⟩:=r.one
 obtain⟨a,us,rfl,hs,r2⟩:=r1.seq e
 exact⟨_,_,rfl,hs,λl hl=>k _ _ _ (bU hl _) (.lst hl bE ((r2.flat f).same (bU hl _) λ_ z=>z)) q⟩
abbrev aQ:=List PV->(PV->Prop)->Prop
def kK (K:ad)(p:aQ):Sp:=λvs H Q _=>∃xs Qp,bp K (λ_=>True) H vs xs/\p xs Qp/\∀v H' x,aD H H'->aE K (λa=>H a=none) H' v x->Qp x->Q v H'
theorem aV4 {p:aQ}{E:XK}(h:LE X (aG p tr) σ H Q'):qI (kK X.K p) [] E (LA X tr) σ H Q':=by
 obtain⟨W,ρ,Q,px,q,k⟩:=h
 refine⟨W,ρ,_,px,q,λvs H1 xs s1 r1 q1=>⟨_,_,by rw[nv];exact r1.any,q1,λv H' x s2 r2 q2=>k v H' x .fr (s1.trans s2) (r2.same (aD.refl _) λ_ z=>s1.free z) q2⟩⟩
def aV5:PV->Option Bool
 |.cq=>some false
 |.bl b=>some b
 |.int i=>some (i != 0)
 |.tup xs=>some (!xs.isEmpty)
 |.lst xs=>some (!xs.isEmpty)
 |.dK ps=>some (!ps.isEmpty)
 |_=>none
def kM (t:aA):cQ:=λρ Q=>t ρ λx _=>∃b,aV5 x=some b/\Q b
theorem zC {α β:Type}:∀{l:List α}{m:List β},l.length=m.length->l.isEmpty=m.isEmpty
 |[],[],_=>rfl
 |_::_,_::_,_=>rfl
theorem aV6 {t:aA}{Qb:Bool->Hp->Prop}(h:LT X (kM t) σ H Qb):LE X t σ H λx H'=>∃k,xK X.K x H' k/\Qb k H':=by
 obtain⟨W,ρ,Q,px,q,k⟩:=h
 refine⟨W,ρ,_,px,q,?_⟩;rintro v H1 x g s r ⟨b,e,q⟩;refine⟨b,?_,k _ _ s q⟩;cases r with
 |cq=>cases e;rfl
 |bl b=>cases e;rfl
 |int i=>cases e;rfl
 |str x=>cases e
 |tup h r=>cases e;exact .inr (.inl ⟨_,aM.of h,by rw[zC r.length]⟩)
 |lst m h r=>cases e;exact .inl ⟨_,aN.of h,by rw[zC r.length]⟩
 |dK m h e' r=>
  cases e;refine .inr (.inr ⟨_,h,?_⟩)
  have:=congrArg List.length e'
  rw[dt,dt]at this;rw[zC this]
 |dT m h e' r=>cases e
 |mn h=>cases e
 |kt h r=>cases e
 |exc h e' c=>cases e
 |fK h e' r=>cases e
 |fT h e' r=>cases e
 |fL h r=>cases e
 |fn h=>cases e
 |ob=>cases e
 |lm h=>cases e
 |dA m h e' r=>cases e
 |dB m h e' r=>cases e
 |fA h e' r=>cases e
end
structure mM (K:ad)(H0:Hp)(W:az->Prop)(g:Bool)(H1:Hp)(J:It)(xs:List PV):Prop where
 go:∀W' H' i,Ev W H1 W' H'->i<xs.length->J.go i H'
 xn:∀W' H' i v H2,Ev W H1 W' H'->J.xn i H' v H2->i<xs.length->aD H' H2/\∃x,xs[i]? = some x/\aE K (Ms H0 W' g) H2 v x
 stop:∀W' H',Ev W H1 W' H'->J.stop xs.length H'
abbrev gB:=bM->(List PV->Bool->Prop)->Prop
def LI (X:Cx)(t:gB):TI:=λσ H R=>∃(W:az->Prop) (ρ:bM) (Q:List PV->Bool->Prop),PX X.K X.cz W σ ρ H/\t ρ Q/\∀J H1 xs g,aD H H1->mM X.K X.cz W g H1 J xs->Q xs g->R J H1
theorem Ev.keep {H0:Hp}{W W':az->Prop}{H H':Hp}{g:Bool}(e:Ev W H W' H')(tw:∀a,W a->∃o,H a=some o/\eQ o=true):gH (Ms H0 W g) (Ms H0 W' g) H H':=by
 have m:∀{a:az}{o:HO},Ms H0 W g a->H a=some o->Ib o=false->Ms H0 W' g a/\H' a=some o:=λ{a o} z h hk=>by
  cases g with
  |true=>
   obtain⟨h1,h2⟩:=e a _ h z.1 hk
   exact⟨⟨h2,z.2⟩,h1⟩
  |false=>
   obtain⟨h1,h2⟩:=e a _ h z hk
   exact⟨h2,h1⟩
 refine⟨λa _ z h=>m z h rfl,λa _ z h=>m z h rfl,λa _ z h=>m z h rfl,λa _ h=>(e a _ h (λz=>?_) rfl).1,λa _ _ h f=>(e a _ h (λz=>?_) f).1,λa u d z h=>m z h (by cases u<;>first|rfl|cases d)⟩
 ·obtain⟨o,h',mu⟩:=tw a z;rw[h]at h';cases h';cases mu
 ·obtain⟨o,h',mu⟩:=tw a z;rw[h]at h';cases h';cases mu
section
variable {X:Cx}{σ:St}{H:Hp}{te:aA}{tr:bV}{R:It→Hp→Prop}
def zD (K:ad)(tl:TE):TI:=λσ H R=>tl σ H λx H1=>∃a,x = .ref a/\((∃xs,aN K H1 a xs/\R (nZ K a) H1)∨(∃xs,aM K H1 a xs/\R (l6 K a) H1))
def zE:Tg->List PV->Bool
 |.fr,_=>true
 |.nw,_=>true
 |_,xs=>cb xs
def jS (te:aA):gB:=λρ Q=>te ρ λx g=>∃xs,jR x=some xs/\(g = .rd->flat x=true)/\Q xs (zE g xs)
theorem zF {K:ad}{H0:Hp}{W:az->Prop}{g:Bool}{H1:Hp}{a:az}{us:List V}{xs:List PV}(tw:∀a,W a->∃o,H1 a=some o/\eQ o=true)(ha:∀W' H',Ev W H1 W' H'->aN K H' a us)(r:bp K (Ms H0 W g) H1 us xs):mM K H0 W g H1 (nZ K a) xs:=by
 have lr:=r.length;refine⟨λW' H' i e hi=>⟨us,us[i]'(by lia),ha W' H' e,by simp⟩,λW' H' i v H2 e y hi=>?_,λW' H' e=>⟨us,ha W' H' e,by lia⟩⟩
 obtain⟨rfl,y⟩:=y
 obtain⟨x,hx,rx⟩:=r.get (y us (ha W' _ e))
 exact⟨aD.refl _,x,hx,rx.keep (e.keep tw)⟩
theorem NQ {K:ad}{H0:Hp}{W:az->Prop}{g:Bool}{H1:Hp}{a:az}{us:List V}{xs:List PV}(tw:∀a,W a->∃o,H1 a=some o/\eQ o=true)(ha:∀W' H',Ev W H1 W' H'->aM K H' a us)(r:bp K (Ms H0 W g) H1 us xs):mM K H0 W g H1 (l6 K a) xs:=by
 have lr:=r.length;refine⟨λW' H' i e hi=>⟨us,us[i]'(by lia),ha W' H' e,by simp⟩,λW' H' i v H2 e y hi=>?_,λW' H' e=>⟨us,ha W' H' e,by lia⟩⟩
 obtain⟨rfl,y⟩:=y
 obtain⟨x,hx,rx⟩:=r.get (y us (ha W' _ e))
 exact⟨aD.refl _,x,hx,rx.keep (e.keep tw)⟩
theorem mN {K:ad}{H0 Hs H:Hp}{W:az->Prop}{σ:St}{ρ:bM}{g:Tg}{us:List V}{xs:List PV}(px:PX K H0 W σ ρ Hs)(hg:g = .rd->cb xs=true)(r:bp K (Mg H0 W Hs g) H us xs):bp K (Ms H0 W (zE g xs)) H us xs:=by
 cases g with
 |fr=>exact r.same (aD.refl _) λ_ z=>px.new z
 |nw=>exact r.same (aD.refl _) λ_ z=>z
 |sh=>
  show bp K (Ms H0 W (cb xs)) H us xs;cases e:cb xs with
  |true=>exact r.flat e
  |false=>exact r.same (aD.refl _) λ_ z=>z
 |rd=>exact r.flat (hg rfl)
theorem aV7 (h:LI X (jS te) σ H R):zD X.K (LE X te) σ H R:=by
 obtain⟨W,ρ,Q,px,q,k⟩:=h
 refine⟨W,ρ,_,px,q,?_⟩;rintro v H1 x g s r ⟨xs,e,hg,q⟩;have Ag:=px.mono s;have tw:∀a,W a->∃o,H1 a=some o/\eQ o=true:=λa z=>(Ag.wm a z).2
 cases r with
 |tup h r=>
  cases e;refine⟨_,rfl,.inr ⟨_,aM.of h,k _ _ _ _ s (NQ tw (λW' H' e=>aM.of (e _ _ h (λz=>?_) rfl).1) (mN px (λz=>by have:=hg z;unfold flat at this;exact this) r)) q⟩⟩
  obtain⟨o,h',mu⟩:=tw _ z;rw[h]at h';cases h';cases mu
 |@lst a us vx m h r=>
  cases e;have wa:¬W a:=by
   cases g with
   |fr=>exact (px.new m).1
   |nw=>exact m.1
   |sh=>exact m
   |rd=>have:=hg rfl;unfold flat at this;cases this
  exact⟨_,rfl,.inl ⟨_,aN.of h,k _ _ _ _ s (zF tw (λW' H' e=>aN.of (e _ _ h wa rfl).1) (mN px (λz=>by have:=hg z;unfold flat at this;cases this) r)) q⟩⟩
 |mn h=>
  cases e;refine⟨_,rfl,.inl ⟨_,h.rh,k _ _ _ _ s (zF tw (λW' H' e=>(kJ.keep (λa o u hz f=>(e _ _ hz (λz=>?_) f).1) h).rh) (mN (g:=g) px (λz=>gI _) (bp.bj _))) q⟩⟩
  obtain⟨o,h',mu⟩:=tw _ z;rw[hz]at h';cases h';cases mu
 |kt h r=>
  cases e
  exact⟨_,rfl,.inr ⟨_,.inr h,k _ _ _ _ s (NQ tw (λW' H' e=>.inr h) (mN px (λz=>by have:=hg z;unfold flat at this;exact this) r)) q⟩⟩
 |fL h r=>
  cases e;refine⟨_,rfl,.inl ⟨_,.inl (.inr ⟨_,h⟩),k _ _ _ _ s (zF tw (λW' H' e=>.inl (.inr ⟨_,(e _ _ h (λz=>?_) rfl).1⟩)) (mN px (λz=>by have:=hg z;unfold flat at this;exact this) r)) q⟩⟩
  obtain⟨o,h',mu⟩:=tw _ z;rw[h]at h';cases h';cases mu
 |_=>cases e
def iQ (lo:Int)(n:Nat):List PV:=(List.range n).map λ(i:Nat)=>PV.int (lo+(i:Int))
theorem dP (lo:Int)(n:Nat):(iQ lo n).length=n:=by unfold iQ;rw[dt,zg]
theorem qX {lo:Int}{n i:Nat}(h:i<n):(iQ lo n)[i]? = some (.int (lo+i)):=by unfold iQ;rw[ij,CN h];rfl
def j7 (te:aA):gB:=λρ Q=>te ρ λx _=>∃j:Int,x = .int j/\-1000000<=j/\j<=1000000/\Q (iQ 0 j.toNat) true
theorem aV8 {K:ad}{H0:Hp}{W:az->Prop}{H1:Hp}(lo:Int)(n:Nat):mM K H0 W true H1 (tJ lo n) (iQ lo n):=by
 refine⟨λW' H' i e hi=>by rw[dP]at hi;exact hi,λW' H' i v H2 e y hi=>?_,λW' H' e=>by show n<=(iQ lo n).length;rw[dP];exact da _⟩;rw[dP]at hi
 obtain⟨rfl,rfl⟩:=y
 exact⟨aD.refl _,_,qX hi,.int _⟩
theorem aV9 (h:LI X (j7 te) σ H R):U2 (g9 (LE X te) kD) σ H R:=by
 obtain⟨W,ρ,Q,px,q,k⟩:=h
 refine⟨W,ρ,_,px,q,?_⟩;rintro v H1 x g s r ⟨j,rfl,h1,h2,q⟩;cases r
 exact⟨j,rfl,by lia,by lia,k _ _ _ _ s (aV8 0 j.toNat) q⟩
end
abbrev lB:=PV->Bool->bM->(bM->Prop)->Prop
def qY (K:ad)(own:Nat->Prop)(p:lB)(t:TG):Prop:=∀(H0:Hp) (W:az->Prop) (σ:St) (ρ:bM) (H:Hp) (v:V) (x:PV) (g:Bool) (Q:bM->Prop) (Q':St->Hp->Prop),
 PX K H0 W σ ρ H->aE K (Ms H0 W g) H v x->p x g ρ Q->(∀cn fk,PX K H0 W cn fk H->(∀i,¬own i->cn[i]? = σ[i]?)->cn.length=σ.length->Q fk->Q' cn H)->t v σ H Q'
def d8 (i:Nat):lB:=λx g ρ Q=>Q (ρ.set i (some (.sh (g||flat x) x)))
theorem uI {K:ad}{H0 H:Hp}{W:az->Prop}{v:V}{x:PV}{g:Bool}(r:aE K (Ms H0 W g) H v x):aE K (Ms H0 W (g||flat x)) H v x:=by
 cases g with
 |true=>exact r
 |false=>
  show aE K (Ms H0 W (flat x)) H v x;cases e:flat x with
  |true=>exact r.flat e
  |false=>exact r
theorem uJ (K:ad)(i:Nat):qY K (· = i) (d8 i) (dN i):=by
 intro H0 W σ ρ H v x g Q Q' px r q k;exact k _ _ (px.nh (uI r)) (λj hj=>by rw[vb (Ne.symm hj)]) (xi ..) q
def lC (i j:Nat):lB:=λx g ρ Q=>∃y z,x = .tup [y,z]/\Q ((ρ.set i (some (.sh (g||flat y) y))).set j (some (.sh (g||flat z) z)))
theorem NP (K:ad)(i j:Nat):qY K (λk=>k=i∨k=j) (lC i j) (tH K 2 (mF (dN i) (mF (dN j) tG))):=by
 intro H0 W σ ρ H v x g Q Q' px r q k
 obtain⟨y,z,rfl,q⟩:=q
 obtain⟨a,us,rfl,h,r⟩:=r.qh
 obtain⟨u1,u2,rfl,r1,r2⟩:=r.two
 refine⟨a,_,rfl,aM.of h,rfl,u1,_,rfl,u2,_,rfl,rfl,k _ _ ((px.nh (uI r1)).nh (uI r2)) (λk hk=>?_) (by rw[xi,xi]) q⟩;rw[vb (λe=>hk (.inr e.symm)),vb (λe=>hk (.inl e.symm))]
section
variable {X:Cx}{σ:St}{H:Hp}{D:fN}
def gC (ti:gB)(p:lB)(tb:aY):aY:=λD ρ=>ti ρ λxs g=>∃I:Nat->bM->Prop,I 0 ρ/\(∀i x fk,xs[i]? = some x->I i fk->p x g fk λjl=>tb { D with nx:=I (i+1),ct:=I (i+1),bk:=D.nx } jl)/\∀fk,I xs.length fk->D.nx fk
theorem aW0 {ti:gB}{p:lB}{g:TG}{tb:aY}{own:Nat->Prop}(hg:qY X.K own p g)(h:LS X (gC ti p tb) D σ H):xE (LI X ti) g (LS X tb) D σ H:=by
 obtain⟨W,ρ,D',px,q,k⟩:=h
 refine⟨W,ρ,_,px,q,?_⟩;rintro J H1 xs gb s it ⟨I,i0,turn,fin⟩;refine⟨λi m jx H2=>m=xs.length-i/\i<=xs.length/\∃W2 jl,PX X.K X.cz W2 jx jl H2/\Ev W H1 W2 H2/\I i jl,⟨xs.length,by lia,lh _,W,ρ,px.mono s,Ev.refl _ _,i0⟩,?_⟩;rintro i m jx H2 ⟨rfl,hi,W2,jl,wd,e2,i2⟩;have e0:Ev W H W2 H2:=(Ev.same s).trans e2;by_cases jq:i<xs.length
 ·refine .inr ⟨it.go W2 H2 i e2 jq,λqw H3=>∃W3 Em,PX X.K X.cz W3 qw Em H3/\Ev W H1 W3 H3/\I (i+1) Em,λqw H3 ⟨W3,Em,a,b,c⟩=>⟨xs.length-(i+1),by lia,rfl,jq,W3,Em,a,b,c⟩,λv H3 y=>?_⟩
  obtain⟨s3,x,hx,rx⟩:=it.xn W2 H2 i v H3 e2 y jq
  refine hg X.cz W2 jx jl H3 v x gb _ _ (wd.mono s3) rx (turn i x jl hx i2) λER Cm Qu _ _ q4=>?_
  have e3:Ev W H1 W2 H3:=e2.trans (Ev.same s3);have EM:Ev W H W2 H3:=e0.trans (Ev.same s3)
  exact⟨W2,Cm,_,Qu,q4,λW' cn H' fk e p q=>⟨W',fk,p,e3.trans e,q⟩,k.rt,λW' cn H' fk e p q=>k.nx W' cn H' fk (EM.trans e) p q,λW' cn H' fk e p q=>⟨W',fk,p,e3.trans e,q⟩⟩
 ·have e:i=xs.length:=by lia
  subst e;exact .inl ⟨it.stop W2 H2 e2,k.nx W2 jx H2 jl e0 wd (fin jl i2)⟩
end
def Slot.Ed:Slot->Slot
 |.kp _ x ks=>.kp false x ks
 |.sh _ x=>.sh false x
 |.own x=>.sh false x
def oG (fr:List (Option Nat))(ρ:bM):bM:=fr.map λo=>o.bind λj=>(ρ[j]?).join.map Slot.Ed
theorem mK.any {K:ad}{H0 H:Hp}{a:az}{st un:List PV}(h:mK K H0 H a st un):mK K (λ_=>none) H a st un:=by
 obtain⟨C,dx,l1,l2,ve,jo,h1,h2,h⟩:=h
 exact⟨C,dx,l1,l2,ve,jo,h1,⟨rfl,rfl,rfl,rfl⟩,h⟩
theorem i9.any {K:ad}{H0 H:Hp}{ks:List (az×List PV×List PV)}(h:i9 K H0 H ks):i9 K (λ_=>none) H ks:=⟨λk hk=>(h.1 k hk).any,h.2⟩
theorem Slot.Ar {m:Slot}{x:PV}(h:m.Ed = .own x):False:=by
 cases m<;>cases h
theorem aW1 {K:ad}{H0 H1 H1' H':Hp}{W W':az->Prop}{v:V}{m:Slot}(r:u5 K H0 W H1 v m)(k:gH (λ_=>False) (λ_=>False) H1 H')(f:∀b o,H1 b=some o->eQ o=false->H' b=some o)(rv:aE K (λa=>¬W' a) H' v m.val):u5 K H1' W' H' v m.Ed:=by
 cases m with
 |sh g x=>exact rv
 |own x=>exact rv
 |kp g x ks=>exact⟨⟨r.1.1.keep k,r.1.2⟩,r.2.any.keep k f⟩
def mO (D:az):az->Prop:=λa=>a=D
theorem aW2 {K:ad}{H0:Hp}{W:az->Prop}{σ:St}{ρ:bM}{H1 H':Hp}{D:az}{acc:List V}{fr:List (Option Nat)}(px:PX K H0 W σ ρ H1)(hD:H1 D=none)(s:aD H1 H')(ha:H' D=some (.lst acc)) :
  PX K H1 (mO D) (h8 fr σ) (oG fr ρ) H':=by
 have old:∀{a:az}{o:HO},H1 a=some o->a≠D:=λ{a o} e z=>by rw[z,hD]at e;cases e
 refine⟨by unfold h8 oG;rw[dt,dt],s,λa z=>by cases z;exact⟨hD,_,ha,rfl⟩,λi m h=>?_,λi j x y a h1=>?_⟩
 ·unfold oG at h
  rw[ij]at h;cases ef:fr[i]? with
  |none=>rw[ef]at h;cases h
  |some o=>
   rw[ef]at h;cases o with
   |none=>cases h
   |some j=>
    have h:some ((ρ[j]?).join.map Slot.Ed)=some (some m):=h;cases er:ρ[j]? with
    |none=>rw[er]at h;cases h
    |some o=>
     rw[er]at h;cases o with
     |none=>cases h
     |some m0=>
      cases h
      obtain⟨v,ev,r⟩:=px.sl j m0 er
      refine⟨v,?_,?_⟩
      ·unfold h8
       rw[ij,ef];show some ((σ[j]?).join)=_;rw[ev];rfl
      ·have r':aE K (λ_=>True) H1 v m0.val:=(Ob (Hs:=H1) r).same (aD.refl _) λ_ _=>trivial
       refine aW1 r (.same s λ_ z=>z) (λ_ _ e _=>s _ _ e) ?_;exact r'.keep ⟨λa _ _ e=>⟨old e,s _ _ e⟩,λa _ _ e=>⟨old e,s _ _ e⟩,λa _ _ e=>⟨old e,s _ _ e⟩,λ_ _ e=>s _ _ e,λ_ _ _ e _=>s _ _ e,λa _ _ _ e=>⟨old e,s _ _ e⟩⟩
 ·unfold oG at h1
  rw[ij]at h1;cases ef:fr[i]? with
  |none=>rw[ef]at h1;cases h1
  |some o=>
   rw[ef]at h1;cases o with
   |none=>cases h1
   |some j=>
    have h1:some ((ρ[j]?).join.map Slot.Ed)=some (some (Slot.own x)):=h1;cases er:ρ[j]? with
    |none=>rw[er]at h1;cases h1
    |some o=>
     rw[er]at h1;cases o with
     |none=>cases h1
     |some m0=>exact (Slot.Ar (ip (ip h1))).elim
section
variable {X:Cx}{σ:St}{H:Hp}{Q':VK}
abbrev _root_.L2.Cx.vk (X:Cx)(H1:Hp):Cx:={ X with cz:=H1 }
def gL (ti:gB)(fr:List (Option Nat))(p:lB)(tc:cQ)(te:aA):aA:=λρ Q=>ti ρ λxs g=>xs.length<=16000000/\∃I:Nat->List PV->Prop,I 0 []/\
 (∀i x acc,xs[i]? = some x->I i acc->p x false (oG fr ρ) λjl=>tc jl λb=>if b=true then te jl λy gy=>Nw gy y/\I (i+1) (acc++[y]) else I (i+1) acc)/\∀acc,I xs.length acc->Q (.lst acc) .fr
theorem uK {ti:gB}{fr:List (Option Nat)}{p:lB}{g:TG}{tc:cQ}{te:aA}{own:Nat->Prop}(hg:qY X.K own p g)(ho:∀i,own i->fr[i]? = some none)(h:LE X (gL ti fr p tc te) σ H Q') :
  yP (LI X ti) fr (λ_=>g) (λH1=>LT (X.vk H1) tc) (λH1=>LE (X.vk H1) te) σ H Q':=by
 obtain⟨W,ρ,Q,px,q,k⟩:=h
 refine⟨W,ρ,_,px,q,?_⟩;rintro J H1 xs gb s it ⟨hl,I,i0,turn,fin⟩ D hD;have Ag:=px.mono s;refine⟨λi m acc H'=>m=xs.length-i/\i<=xs.length/\aD H1 H'/\H' D=some (.lst acc)/\∃ys,bp X.K (Ms H1 (mO D) true) H' acc ys/\ys.length<=i/\I i ys,⟨xs.length,by lia,lh _,bU hD _,bE,[],.nil,da _,i0⟩,?_⟩;rintro i m acc H' ⟨rfl,hi,sm,ha,ys,ry,hy,iy⟩;refine⟨ha,?_⟩;have ev:Ev W H1 (oD W D) H':=Ev.own sm hD;by_cases jq:i<xs.length
 ·refine .inr ⟨it.go _ H' i ev jq,λv H2 y=>?_⟩
  obtain⟨s2,x,hx,rx⟩:=it.xn _ H' i v H2 ev y jq
  have Iz:=s2 _ _ ha;have Qt:PX X.K H1 (mO D) (h8 fr σ) (oG fr ρ) H2:=aW2 Ag hD (sm.trans s2) Iz;have PY:aE X.K (Ms H1 (mO D) false) H2 v x:=rx.same (aD.refl _) λa z=>by
   cases gb with
   |true=>exact λe=>z.1 (.inr e)
   |false=>exact λe=>z (.inr e)
  refine hg H1 (mO D) _ _ H2 v x false _ _ Qt PY (turn i x ys hx iy) λjx jl wd FR ao q2=>⟨⟨ao.symm,λj w e=>?_⟩,?_⟩
  ·by_cases oj:own j
   ·have:=ho j oj
    unfold h8 at e;rw[ij,this]at e;cases e
   ·rw[FR j oj];exact e
  ·refine⟨mO D,jl,_,wd,q2,λb H4 s4 q4=>?_⟩
   have Iy:=s4 _ _ Iz;have Hv:=(sm.trans s2).trans s4;cases b with
   |false=>
    refine bA ⟨xs.length-(i+1),by lia,rfl,jq,Hv,Iy,ys,ry.same (s2.trans s4) λ_ z=>z,by lia,by simpa using q4⟩
   |true=>
    refine cU ⟨mO D,jl,_,wd.mono s4,by simpa using q4,?_⟩;rintro w H5 y gy s5 PU ⟨nw,q5⟩;have Iw:=s5 _ _ Iy;have lr:=ry.length;refine⟨Iw,j5 (by lia),xs.length-(i+1),by lia,rfl,jq,λb o e=>?_,bE,ys++[y],?_,by rw[gq,List.length_singleton];lia,q5⟩
    ·rw[aH (λz=>by rw[z,hD]at e;cases e)]
     exact s5 _ _ (Hv _ _ e)
    ·exact ((ry.same ((s2.trans s4).trans s5) λ_ z=>z).append (.cons (Nw.rep (wd.mono s4) nw PU) .nil)).keep (.upd Iw rfl λb m=>⟨m.1,m⟩)
 ·have e:i=xs.length:=by lia
  subst e;refine .inl ⟨it.stop _ H' ev,k _ H' _ .fr (s.trans sm) (.lst (s.free hD) ha (ry.same (aD.refl _) λ_ z=>s.free z.2)) (fin ys iy)⟩
def gM:cQ:=λ_ Q=>Q true
theorem aW3 {Qb:Bool->Hp->Prop}(h:LT X gM σ H Qb):yL σ H Qb:=by
 obtain⟨W,ρ,Q,px,q,k⟩:=h
 exact k _ _ (aD.refl _) q
end
section
variable {κ:Type}[DecidableEq κ]
def eI (ps:List (κ×PV))(k:κ):Option PV:=(ps.find? λp=>decide (p.1=k)).map (·.2)
def gN (ps:List (κ×PV))(k:κ)(x:PV):List (κ×PV):=if (ps.any λp=>decide (p.1=k))=true then ps.map (λp=>if p.1=k then (p.1,x) else p) else ps++[(k,x)]
variable {K:ad}{M:az→Prop}{H:Hp}
theorem mP (k:κ):∀{bq:List (κ×V)}{ps:List (κ×PV)},bq.map (·.1)=ps.map (·.1)->bp K M H (bq.map (·.2)) (ps.map (·.2))->(eI ps k=none->i6 bq k=none)/\∀x,eI ps k=some x->∃v,i6 bq k=some v/\aE K M H v x
 |[],[],_,_=>⟨λ_=>rfl,λx h=>by cases h⟩
 |[],_::_,e,_=>by cases e
 |_::_,[],e,_=>by cases e
 |(k1,v)::bq,(k2,x)::ps,e,r=>by
  injection e with e1 e2
  have e1:k1=k2:=e1;subst e1;cases r with
  |cons r t=>
   obtain⟨h1,h2⟩:=mP k e2 t
   unfold eI i6 at h1 h2 ⊢;by_cases e:k1=k
   ·simp only[qt,e,decide_true,Option.map_some]
    exact⟨λz=>(by cases z),λy z=>(by cases z;exact⟨v,rfl,r⟩)⟩
   ·simp only[qt,e,decide_false]
    exact⟨h1,h2⟩
theorem aW4 (k:κ){bq:List (κ×V)}{ps:List (κ×PV)}(e:bq.map (·.1)=ps.map (·.1)):(bq.any λp=>decide (p.1=k))=ps.any λp=>decide (p.1=k):=by
 have h1:(bq.any λp=>decide (p.1=k))=(bq.map (·.1)).any λz=>decide (z=k):=by rw[List.any_map];rfl
 have h2:(ps.any λp=>decide (p.1=k))=(ps.map (·.1)).any λz=>decide (z=k):=by rw[List.any_map];rfl
 rw[h1,h2,e]
theorem NO (k:κ){w:V}{y:PV}(q:aE K M H w y):∀{bq:List (κ×V)}{ps:List (κ×PV)},bq.map (·.1)=ps.map (·.1)->bp K M H (bq.map (·.2)) (ps.map (·.2))->
  (bq.map λkv=>if kv.1=k then (kv.1,w) else kv).map (·.1)=(ps.map λkv=>if kv.1=k then (kv.1,y) else kv).map (·.1)/\bp K M H ((bq.map λkv=>if kv.1=k then (kv.1,w) else kv).map (·.2)) ((ps.map λkv=>if kv.1=k then (kv.1,y) else kv).map (·.2))
 |[],[],_,_=>⟨rfl,.nil⟩
 |[],_::_,e,_=>by cases e
 |_::_,[],e,_=>by cases e
 |(k1,v)::bq,(k2,x)::ps,e,r=>by
  injection e with e1 e2
  have e1:k1=k2:=e1;subst e1;cases r with
  |cons r t=>
   obtain⟨h1,h2⟩:=NO k q e2 t
   by_cases e:k1=k
   ·simp only[gg,e,if_true]
    exact⟨by rw[h1],.cons q h2⟩
   ·simp only[gg,e,kc]
    exact⟨by rw[h1],.cons r h2⟩
theorem zG (k:κ){w:V}{y:PV}(q:aE K M H w y){bq:List (κ×V)}{ps:List (κ×PV)}(e:bq.map (·.1)=ps.map (·.1))(r:bp K M H (bq.map (·.2)) (ps.map (·.2))) :
  (gG bq k w).map (·.1)=(gN ps k y).map (·.1)/\bp K M H ((gG bq k w).map (·.2)) ((gN ps k y).map (·.2)):=by
 unfold gG gN;rw[aW4 k e];split
 ·exact NO k q e r
 ·rw[iz,iz,iz,iz,e]
  exact⟨rfl,r.append (.cons q .nil)⟩
end
section
variable {X:Cx}{σ:St}{H:Hp}{D:fN}{tk td te:aA}{Q':VK}
theorem NN {α β:Type}{o:Option α}{o':Option β}{P:β->α->Prop}(h1:o=none->o'=none)(h2:∀z,o=some z->∃u,o'=some u/\P u z):o'.isSome=o.isSome:=by
 cases o with
 |none=>rw[h1 rfl];rfl
 |some z=>obtain⟨u,e,_⟩:=h2 z rfl;rw[e];rfl
theorem oH {κ α β:Type}{l:List (κ×α)}{m:List (κ×β)}(e:l.map (·.1)=m.map (·.1)):l.length=m.length:=by
 have:=congrArg List.length e
 rw[dt,dt]at this;exact this
end
def zH (ta:aA):aA:=λρ Q=>ta ρ λx _=>∃i,x = .int i/\Q (.int (-i)) .fr
def zI (neg:Bool):PV->Tg->PV->Tg->PK->Prop:=λx _ y _ Q=>∃i ns,x = .int i/\jR y=some (bj ns)/\Q (.bl (if neg=true then !decide (i∈ns) else decide (i∈ns))) .fr
def tyP:PV->Option String
 |.cq=>some "NoneType"
 |.bl _=>some "bool"
 |.int _=>some "int"
 |.str _=>some "str"
 |.tup _=>some "tuple"
 |.kt _=>some "tuple"
 |.lst _=>some "list"
 |_=>none
def kN (K:ad)(n:String)(te:aA):aA:=λρ Q=>te ρ λx _=>∃T b,tyP x=some T/\PySem.W.kitOne K (.type T) (.type n)=some b/\Q (.bl b) .fr
abbrev oI:=bM->(Option Int->Prop)->Prop
def oJ (xs:List PV)(lo hi:Option Int):List PV:=(xs.drop (HT.eG xs.length 0 lo)).take (HT.eG xs.length xs.length hi-HT.eG xs.length 0 lo)
def HA:oI:=λ_ Q=>Q none
def Hz (te:aA):oI:=λρ Q=>te ρ λx _=>∃i,x = .int i/\Q (some i)
def bB (N:List Str)(xs:List PV):bM:=xs.map (λx=>some (.sh (flat x) x))++List.replicate (N.length-xs.length) none
abbrev fG (ta tb:aA):aA:=q2 (fE λi j=>.int (i+j)) ta tb
abbrev zJ (ta tb:aA):aA:=q2 (fE λi j=>.int (i-j)) ta tb
abbrev NM (ta tb:aA):aA:=q2 (RI qH λi j=>.int (i*j)) ta tb
abbrev mQ (ta tb:aA):aA:=q2 (RI xI λi j=>.int (i/j)) ta tb
abbrev lD (ta tb:aA):aA:=q2 (RI (λ_ j=>0<j) λi j=>.int (i%j)) ta tb
abbrev NL (ta tb:aA):aA:=q2 (RI xJ λi j=>.int (i*2^j.toNat)) ta tb
abbrev mR (ta tb:aA):aA:=q2 (fE λi j=>.bl (decide (i<j))) ta tb
abbrev Qe (ta tb:aA):aA:=q2 (fE λi j=>.bl (decide (i<=j))) ta tb
abbrev uL (ta tb:aA):aA:=q2 (fE λi j=>.bl (decide (j<i))) ta tb
abbrev zK (ta tb:aA):aA:=q2 (fE λi j=>.bl (decide (j<=i))) ta tb
abbrev qZ (ta tb:aA):aA:=q2 (mL false) ta tb
abbrev r6 (ta tb:aA):aA:=q2 (mL true) ta tb
abbrev cR (ta tb:aA):aA:=q2 zB ta tb
def r9:List PV->(PV->Prop)->Prop:=λxs Q=>NR xs Q/\∀ns,xs≠[.mn ns]
def uM:aY:=λ_ _=>False
def QE (X:Cx)(e:Expr)(t:aA):Prop:=PE X e (LE X t)
def QT (X:Cx)(e:Expr)(t:cQ):Prop:=PT X e (LT X t)
def QW (X:Cx)(e:Expr)(t:cQ):Prop:=PW X e (LT X t)
def QA (X:Cx)(es:List Expr)(t:bV):Prop:=PA X es (LA X t)
def QS (X:Cx)(st:Stmt)(t:aY):Prop:=PS X st (LS X t)
def gO (X:Cx)(st:List Stmt)(t:aY):Prop:=eN X st (LS X t)
def QI (X:Cx)(tg iter:Expr)(t:gB):Prop:=PI X tg iter (LI X t)
section
variable {X:Cx}
theorem cB {e:Expr}{t t':TE}(h:PE X e t)(m:∀σ H Q,t' σ H Q->t σ H Q):PE X e t':=λai s σ H Q I q=>h ai s σ H Q I (m σ H Q q)
theorem oK {e:Expr}{t t':TT}(h:PT X e t)(m:∀σ H Q,t' σ H Q->t σ H Q):PT X e t':=λai s σ H Q I q=>h ai s σ H Q I (m σ H Q q)
theorem HE {e:Expr}{t t':TT}(h:PW X e t)(m:∀σ H Q,t' σ H Q->t σ H Q):PW X e t':=λwh ai s σ H Q I q=>h wh ai s σ H Q I (m σ H Q q)
theorem HF {e:List Expr}{t t':TA}(h:PA X e t)(m:∀σ H Q,t' σ H Q->t σ H Q):PA X e t':=λpos ai s σ H Q I q=>h pos ai s σ H Q I (m σ H Q q)
theorem dQ {e:Stmt}{t t':TS}(h:PS X e t)(m:∀D σ H,t' D σ H->t D σ H):PS X e t':=λai s σ H D I q=>h ai s σ H D I (m D σ H q)
theorem NK {e:List Stmt}{t t':TS}(h:eN X e t)(m:∀D σ H,t' D σ H->t D σ H):eN X e t':=λai s σ H D I q=>h ai s σ H D I (m D σ H q)
theorem rA {tg e:Expr}{t t':TI}(h:PI X tg e t)(m:∀σ H R,t' σ H R->t σ H R):PI X tg e t':=λai s σ H R I q=>h ai s σ H R I (m σ H R q)
variable {a b c e o:Expr}{es rest:List Expr}{ta tb te to tk:aA}{tr:bV}{tA yh tc:cQ}{pos p2 px:Pos}{st:Stmt}{Er:List Stmt}{t u:aY}
theorem qv (i:Nat){x:Str}{pos:Pos}(hN:X.N[i]? = some x:=by rfl)(hv:dM X.env.scope x:=by first|exact Or.inl rfl|exact Or.inr (Or.inl rfl)|exact Or.inr (Or.inr rfl))(hd:(x==("__debug__":Str))=false:=by decide)(gf:(x==("__classdict__":Str))=false:=by decide):QE X (.Name x pos) (a5 i):=cB (gX hN hv hd gf) λ_ _ _=>aS4
theorem aR {i j}:QE X (.Constant (.int i) j pos) (qC (.int i)):=cB x8 λ_ _ _=>u7 λ_=>.int i
theorem dS {i j}:QE X (.Constant (.bool i) j pos) (qC (.bl i)):=cB aE1 λ_ _ _=>u7 λ_=>.bl i
theorem gQ {op:Operator}{R:PV->Tg->PV->Tg->PK->Prop}{r:R2}(ho:bT X (binaryOp op) r)(cv:fD X R r)(ha:QE X a ta)(hb:QE X b tb):QE X (.BinOp a op b pos) (q2 R ta tb):=cB (aG7 ho ha hb) λ_ _ _=>u8 cv
theorem fR (ha:QE X a ta)(hb:QE X b tb):QE X (.BinOp a .Add b pos) (q2 (fE λi j=>.int (i+j)) ta tb):=gQ aH0 u9 ha hb
theorem zL (ha:QE X a ta)(hb:QE X b tb):QE X (.BinOp a .Sub b pos) (q2 (fE λi j=>.int (i-j)) ta tb):=gQ aH1 u9 ha hb
theorem NJ (ha:QE X a ta)(hb:QE X b tb):QE X (.BinOp a .Mult b pos) (q2 (RI qH λi j=>.int (i*j)) ta tb):=gQ aH2 qS ha hb
theorem mS (ha:QE X a ta)(hb:QE X b tb):QE X (.BinOp a .FloorDiv b pos) (q2 (RI xI λi j=>.int (i/j)) ta tb):=gQ aH3 qS ha hb
theorem lE (ha:QE X a ta)(hb:QE X b tb):QE X (.BinOp a .Mod b pos) (q2 (RI (λ_ j=>0<j) λi j=>.int (i%j)) ta tb):=gQ aH4 qS ha hb
theorem uN (ha:QE X a ta)(hb:QE X b tb):QE X (.BinOp a .LShift b pos) (q2 (RI xJ λi j=>.int (i*2^j.toNat)) ta tb):=gQ aH5 qS ha hb
theorem aW5 (ha:QE X a ta)(hb:QE X b tb):QE X (.BinOp a .RShift b pos) (q2 (RI (λ_ j=>0<=j) λi j=>.int (i/2^j.toNat)) ta tb):=gQ aH6 qS ha hb
theorem zM {op:CmpOp}{R:PV->Tg->PV->Tg->PK->Prop}{r:R2}(ho:bT X (compareOp op) r)(cv:fD X R r)(ha:QE X a ta)(hb:QE X b tb)(hm:behindInMarks op b=false):QE X (.Compare a [op] [b] pos) (q2 R ta tb):=cB (aI5 ho ha hb hm) λ_ _ _=>u8 cv
theorem mT {op:CmpOp}{R:PV->Tg->PV->Tg->PK->Prop}{r:R2}(ho:bT X (compareOp op) r)(cv:fD X R r)(ha:QE X a ta)(hb:QE X b tb)(hm:behindInMarks op b=false):QT X (.Compare a [op] [b] pos) (bC (q2 R ta tb)):=oK (aI7 ho ha hb hm) λ_ _ _ h=>u8 cv (uB h)
theorem NI (ha:QE X a ta)(hb:QE X b tb):QE X (.Compare a [.Eq] [b] pos) (q2 (mL false) ta tb):=zM V0 NY ha hb (kC _)
theorem oM (ha:QE X a ta)(hb:QE X b tb):QT X (.Compare a [.Lt] [b] pos) (bC (q2 (fE λi j=>.bl (decide (i<j))) ta tb)):=mT aI1 uA ha hb (kC _)
theorem aW6 (ha:QE X a ta)(hb:QE X b tb):QT X (.Compare a [.LtE] [b] pos) (bC (q2 (fE λi j=>.bl (decide (i<=j))) ta tb)):=mT aI2 uA ha hb (kC _)
theorem uO (ha:QE X a ta)(hb:QE X b tb):QT X (.Compare a [.Gt] [b] pos) (bC (q2 (fE λi j=>.bl (decide (j<i))) ta tb)):=mT aI3 uA ha hb (kC _)
theorem zN (ha:QE X a ta)(hb:QE X b tb):QT X (.Compare a [.GtE] [b] pos) (bC (q2 (fE λi j=>.bl (decide (j<=i))) ta tb)):=mT aI4 uA ha hb (kC _)
theorem zO (ha:QE X a ta)(hb:QE X b tb):QT X (.Compare a [.Eq] [b] pos) (bC (q2 (mL false) ta tb)):=mT V0 NY ha hb (kC _)
theorem rB (ha:QE X a ta)(hb:QE X b tb):QT X (.Compare a [.NotEq] [b] pos) (bC (q2 (mL true) ta tb)):=mT aI0 aS5 ha hb (kC _)
theorem jT (h:QE X e te)(he:∀whole,isTrue e X.env whole=(do let v <- whole;standAt e.pos;holding [v] (truthy v)):=by intro _;rfl):QT X e (bC te):=oK (aE4 h he) λ_ _ _ h=>uB h
theorem kO (h:QE X e te)(he:∀whole,isTrue e X.env whole=(do let v <- whole;standAt e.pos;holding [v] (truthy v)):=by intro _;rfl):QT X e (kM te):=oK (aJ0 h he) λ_ _ _ h=>aV6 h
theorem aW7 (ha:QT X a tA):QW X (.BoolOp .And [a] pos) tA:=aE5 ha
theorem oN (ha:QT X a tA):QW X (.BoolOp .Or [a] pos) tA:=aE6 ha
theorem aW8 (ha:QT X a tA)(hb:QW X (.BoolOp .And (b::rest) pos) yh):QW X (.BoolOp .And (a::b::rest) pos) (z0 tA yh):=HE (aE7 ha hb) λ_ _ _=>aS6
theorem iB (ha:QT X a tA)(hb:QW X (.BoolOp .Or (b::rest) pos) yh):QW X (.BoolOp .Or (a::b::rest) pos) (gK tA yh):=HE (aE8 ha hb) λ_ _ _=>aS7
theorem mV (h:QW X e tA):QT X e tA:=PW.pt h
theorem jU (ha:QT X a tA):QT X (.UnaryOp .Not a pos) (iP tA):=oK (aE9 ha) λ_ _ _=>aS8
theorem NH {op}(h:QE X a ta):QE X (.BoolOp op [a] pos) ta:=aF0 h
theorem NG (ha:QE X a ta)(hb:QE X (.BoolOp .And (b::rest) pos) tb):QE X (.BoolOp .And (a::b::rest) pos) (uC ta tb):=cB (aF1 ha hb) λ_ _ _=>aS9
theorem aW9 (ha:QE X a ta):QE X (.UnaryOp .Not a pos) (z9 ta):=cB (aF2 ha) λ_ _ _=>aT0
theorem aB:QA X [] aF:=HF iJ λ_ _ _=>aT1
theorem a7 (ha:QE X e te)(hr:QA X es tr)(hs:starEach (e::es) X.env=(false,eval e X.env)::starEach es X.env:=by rfl):QA X (e::es) (a8 te tr):=HF (eO ha hr hs) λ_ _ _=>aT2
theorem eJ {x1}(h:QA X es tr):QE X (.Tuple es x1 pos) (eS tr):=cB (aJ4 h) λ_ _ _=>aT3
theorem lG (h:QA X es tr):QE X (.List es pos) (jO tr):=cB (V4 h) λ_ _ _=>aT4
theorem cC (ha:QE X a ta)(hb:QE X b tb)(hs:X3 b:=by exact λ_ _=>rfl):QE X (.Subscript a b pos) (q2 zB ta tb):=cB (qJ aL2 ha hb hs) λ_ _ _=>u8 aU9
theorem mW {x:Str}{id:String}{R:List PV->(PV->Prop)->Prop}{r:List V->Hp->VK->Prop}(hc:dO X (.builtin id) r)(cv:fQ X R r)(hg:Gl X x)(hm:X.mg x=none)(hv:bootBuiltins x=some (.builtin id))(ha:QA X (e::es) tr)(hn:x≠"__name__":=by decide)(jy:(x==("__debug__":Str))=false:=by decide)(he:starEach (e::es) X.env=(false,eval e X.env)::starEach es X.env:=by rfl)(hpl:(backTo pos (starEach es X.env)).any (·.1)=false:=by rfl):QE X (.Call (.Name x p2) (e::es) [] pos) (aG R tr):=cB (W7 hc hg hm hv ha hn jy he hpl) λ_ _ _=>NW cv
theorem NF {x:Str}{T:String}{R:List PV->(PV->Prop)->Prop}{r:List V->Hp->VK->Prop}(hc:dO X (.type T) r)(cv:fQ X R r)(hg:Gl X x)(hm:X.mg x=none)(hv:bootBuiltins x=some (.type T))(ha:QA X (e::es) tr)(hn:x≠"__name__":=by decide)(jy:(x==("__debug__":Str))=false:=by decide)(he:starEach (e::es) X.env=(false,eval e X.env)::starEach es X.env:=by rfl)(hpl:(backTo pos (starEach es X.env)).any (·.1)=false:=by rfl):QE X (.Call (.Name x p2) (e::es) [] pos) (aG R tr):=cB (aJ5 hc hg hm hv ha hn jy he hpl) λ_ _ _=>NW cv
theorem dU:gO X [] dF:=NK T6 λ_ _ _=>aT5
theorem aK (h1:QS X st t)(h2:gO X Er u):gO X (st::Er) (aP t u):=NK (t9 h1 h2) λ_ _ _=>aT6
theorem aU (h1:QS X st t):gO X [st] t:=d6 h1
theorem zP:QS X st uM:=dQ aF5 λ_ _ _ ⟨_,_,_,_,h,_⟩=>h
theorem bO {i:Nat}{x:Str}(hN:X.N.Nodup)(he:QE X e te)(hi:X.N[i]? = some x:=by rfl)(hx:hZ X.env.scope x:=by first|exact Or.inl rfl|exact Or.inr rfl)(hs:swapsWith e (some (.Name x p2)) pos.line X.env=pure false:=by rfl)(hf:X.fn x=true∨X.env.scope.names.lookup x=some .local:=by first|exact .inl rfl|exact .inr rfl) :
  QS X (.Assign [.Name x p2] e pos) (bW i te):=dQ (qD hN hi hx he hs hf) λ_ _ _=>NU
theorem oO {i:Nat}{x:Str}(hN:X.N.Nodup)(he:QE X e te)(hi:X.N[i]? = some x:=by rfl)(hx:hZ X.env.scope x:=by first|exact Or.inl rfl|exact Or.inr rfl)(hs:swapsWith e (some (.Name x p2)) pos.line X.env=pure false:=by rfl)(hf:X.fn x=true∨X.env.scope.names.lookup x=some .local:=by first|exact .inl rfl|exact .inr rfl) :
  QS X (.Assign [.Name x p2] e pos) (lA i te):=dQ (qD hN hi hx he hs hf) λ_ _ _=>aT9
theorem lH (he:QE X e te)(hs:swapsWith e none pos.line X.env=pure false:=by rfl):QS X (.Expr e pos) (jQ te):=dQ (kZ he hs) λ_ _ _=>aU0
theorem cD (he:QE X e te):QS X (.Return (some e) pos) (c9 te):=dQ (tE he) λ_ _ _=>aU1
theorem uP (i:Nat){x:Str}(hN:X.N[i]? = some x:=by rfl)(hv:dM X.env.scope x:=by first|exact Or.inl rfl|exact Or.inr (Or.inl rfl)|exact Or.inr (Or.inr rfl))(hd:(x==("__debug__":Str))=false:=by decide)(gf:(x==("__classdict__":Str))=false:=by decide) :
  QS X (.Return (some (.Name x p2)) pos) (oF i):=dQ (tE (gX hN hv hd gf)) λ_ _ _=>aU2
theorem dW {sa sb:List Stmt}(hc:QT X c tc)(ha:gO X sa t)(hb:gO X sb u):QS X (.If c sa sb pos) (dG tc t u):=dQ (l5 hc ha hb) λ_ _ _=>aU3
theorem zQ {body:List Stmt}(hp:PassesOwn (model X.prog X.w) X.A X.env X.xe)(hc:QT X c tc)(hb:gO X body t):QS X (.While c body [] pos) (qT tc t):=dQ (aF8 hp hc hb) λ_ _ _=>aU4
theorem ND (i:Nat){x:Str}{aj am dw:Pos}(he:QE X e te)(hN:X.N[i]? = some x:=by rfl)(hv:dM X.env.scope x:=by first|exact Or.inl rfl|exact Or.inr (Or.inl rfl)|exact Or.inr (Or.inr rfl))(hd:(x==("__debug__":Str))=false:=by decide)(gf:(x==("__classdict__":Str))=false:=by decide)(jg:attributeBase (.Name x dw) "append" X.env (eval (.Name x dw) X.env)=eval (.Name x dw) X.env:=by rfl)(yz:((backTo am (starEach [e] X.env)).all (λx=>!x.1)&&(backToKw am (keywordEach [] X.env)).all (λx=>x.1.isSome)&&decide (([e]:List Expr).length+([]:List Keyword).length+(if ([]:List Keyword).isEmpty then 0 else 1)<30))=true:=by rfl)(jd:(aj.endLine==am.line)=true:=by rfl)(hs:starEach [e] X.env=(false,eval e X.env)::starEach [] X.env:=by rfl)(aw:(backTo am (starEach [] X.env)).any (·.1)=false:=by rfl)(yv:swapsWith (.Call (.Attribute (.Name x dw) "append" aj) [e] [] am) none pos.line X.env=pure false:=by rfl) :
  QS X (.Expr (.Call (.Attribute (.Name x dw) "append" aj) [e] [] am) pos) (qU i te):=
 dQ (kZ (tP CV PySem.F.slot_list_append PySem.F.type_list_append tQ (gX hN hv hd gf) (eO he iJ hs) jg yz jd hs aw) yv) λ_ _ _=>aU5
theorem NC {tg l:Expr}{tl:TE}(hl:PE X l tl):PI X tg l (zD X.K tl):=by
 intro ai s σ H R I h;refine aL (hl ai s σ H _ I h) λv s1 ⟨x,H1,I1,r1,q1⟩=>?_
 obtain⟨a,e,q⟩:=q1
 subst e;cases r1;rcases q with⟨xs,hq,q⟩|⟨xs,hq,q⟩
 ·obtain⟨bo,rv,p,hz⟩:=I1.list hq
  refine wpAny_pyIter_list p.isList ?_;refine⟨s1.heap.objs.size,[s1.heap.objs.size],_,_,H1,rfl,I1.kept (t':=s1.toks) λb o e=>ez _ e,aF9 a _,⟨_,jw _ rfl,rfl,rfl⟩,λb hb=>?_,q⟩;have e:b=s1.heap.objs.size:=by simpa using hb
  subst e;exact I1.kn (da _) (I1.cj.fresh (da _))
 ·obtain⟨bo,rv,p,hz⟩:=I1.tuple hq
  refine Ax (show s1.heap.IsTuple a bo.toArray from p) ?_;refine⟨s1.heap.objs.size,[s1.heap.objs.size],_,_,H1,rfl,I1.kept (t':=s1.toks) λb o e=>ez _ e,U0 a _,⟨_,jw _ rfl,rfl,rfl⟩,λb hb=>?_,q⟩;have e:b=s1.heap.objs.size:=by simpa using hb
  subst e;exact I1.kn (da _) (I1.cj.fresh (da _))
theorem jV {tg l:Expr}(hl:QE X l te):QI X tg l (jS te):=rA (NC hl) λ_ _ _=>aV7
theorem j8 {tg:Expr}(hg:Gl X "range")(hm:X.mg "range" = none)(ha:QE X a ta)(hs:starEach [a] X.env = [(false,eval a X.env)]:=by rfl):QI X tg (.Call (.Name "range" p2) [a] [] pos) (j7 ta):=rA (aG3 hg hm (eO ha iJ hs) hs) λ_ _ _=>aV9
theorem NB {tg:Expr}{body:List Stmt}{ti:gB}{p:lB}{g:TG}{own:Nat->Prop}(hp:PassesOwn (model X.prog X.w) X.A X.env X.xe)(hc:X.calm=true)(hi:QI X tg e ti)(hg:PG X tg g)(ht:qY X.K own p g)(hb:gO X body t)(hs:∀x,foldedSetIterable e X.env x=pure x:=by intro _;rfl):QS X (.For tg e body [] pos) (gC ti p t):=dQ (xF hp hc hi hg hb hs) λ_ _ _=>aW0 ht
end
structure Bt (mg:Str->Option ax):Prop where
 len:mg "len" = none
 range:mg "range" = none
 tuple:mg "tuple" = none
 list:mg "list" = none
 sorted:mg "sorted" = none
 all:mg "all" = none
 any:mg "any" = none
 zip:mg "zip" = none
 min:mg "min" = none
 max:mg "max" = none
 sum:mg "sum" = none
 Br:mg "isinstance" = none
 int:mg "int" = none
 bool:mg "bool" = none
 enum:mg "enumerate" = none
section
variable {X:Cx}{a b c e o:Expr}{es rest:List Expr}{ta tb te to tk:aA}{tr:bV}{tA yh tc:cQ}{pos p2 px:Pos}{st:Stmt}{Er:List Stmt}{t u:aY}
theorem d5 (B:Bt X.mg)(ha:QA X [e] tr)(hg:Gl X "len":=by rfl)(he:starEach [e] X.env=(false,eval e X.env)::starEach [] X.env:=by rfl)(hpl:(backTo pos (starEach [] X.env)).any (·.1)=false:=by rfl):QE X (.Call (.Name "len" p2) [e] [] pos) (aG d4 tr):=
 mW (aM1.or aN5) aV0 hg B.len PySem.boot_len ha (he:=he) (hpl:=hpl)
theorem uQ (B:Bt X.mg)(ha:QA X [e] tr)(hg:Gl X "tuple":=by rfl)(he:starEach [e] X.env=(false,eval e X.env)::starEach [] X.env:=by rfl)(hpl:(backTo pos (starEach [] X.env)).any (·.1)=false:=by rfl):QE X (.Call (.Name "tuple" p2) [e] [] pos) (aG r9 tr):=
 NF aM3 aV2 hg B.tuple PyProof.Rows.boot_tuple ha (he:=he) (hpl:=hpl)
theorem zR (B:Bt X.mg)(ha:QA X [e] tr)(hg:Gl X "list":=by rfl)(he:starEach [e] X.env=(false,eval e X.env)::starEach [] X.env:=by rfl)(hpl:(backTo pos (starEach [] X.env)).any (·.1)=false:=by rfl):QE X (.Call (.Name "list" p2) [e] [] pos) (aG qW tr):=
 NF aM2 aV3 hg B.list PyProof.Rows.boot_list ha (he:=he) (hpl:=hpl)
theorem NA (ha:QE X a ta):QE X (.UnaryOp .USub a pos) (zH ta):=cB (aG8 aH9 ha) λσ H Q' h=>by
 obtain⟨W,ρ,Q,px,q,k⟩:=h
 refine⟨W,ρ,_,px,q,?_⟩;rintro v H1 x g s r ⟨i,rfl,q⟩;cases r
 exact⟨i,rfl,k _ _ _ .fr s (.int _) q⟩
theorem Nz (x:Int):∀(xs:ag),qK (.int x) (xs.map V.int)=decide (x∈xs)
 |[]=>by simp[qK]
 |y::r=>by
  have ih:=Nz x r;unfold qK at ih ⊢;rw[gg,List.any_cons,ih];by_cases e:y=x
  ·subst e;simp[j4]
  ·have:j4 (.int y) (.int x)=false:=by simpa[j4] using e
   rw[this,Bool.false_or,Au];simp[Ne.symm e]
theorem Ny:∀(xs:ag),(xs.map V.int).all kF=true
 |[]=>rfl
 |_::r=>by rw[gg,List.all_cons,Ny r];rfl
theorem aX0 (neg:Bool):fD X (zI neg) (Y0 X.K neg):=by
 rintro W Hs H u v x y g g' Q Q' s n r1 r2 ⟨i,ns,rfl,e,q⟩ k;cases r1
 obtain⟨a,us,rfl,hs,r⟩:=r2.seq e
 obtain rfl:=r.ofInts;refine⟨a,_,rfl,hs,rfl,Ny ns,?_⟩
 have:=k _ _ _ .fr (aD.refl _) (.bl _) q
 rw[Nz];cases neg<;>exact this
theorem aX1 (ha:QE X a ta)(hb:QE X b tb)(hm:behindInMarks .In b=false:=by rfl):QE X (.Compare a [.In] [b] pos) (q2 (zI false) ta tb):=zM aM0 (aX0 false) ha hb hm
def Nx (K:ad)(H:Hp)(x:V)(t:ax):Prop:=gY K H x t∨∃a us,x = .ref a/\aM K H a us/\t = .type "tuple"
theorem aX2:dO X (.builtin "isinstance") (λxs H Q=>∃x t n b,xs = [x,.ty n]/\Nx X.K H x t/\PySem.W.kitOne X.K t (.type n)=some b/\Q (.bl b) H):=by
 intro ai s σ H xs us Q I r h
 obtain⟨x,t,n,b,rfl,ty,e,q⟩:=h
 rcases ty with ty|⟨a,ws,rfl,hs,rfl⟩
 ·exact aP0 ai s σ H _ us Q I r ⟨x,t,n,b,rfl,ty,e,q⟩
 obtain⟨u,u',rfl,ru,Fb⟩:=xL r
 cases Fb;cases (show u=Value.ref a from ru)
 obtain⟨bo,_,⟨o,h1,h2,_⟩,_⟩:=I.tuple hs
 exact xy PySem.W.kitx_tuple I.nj ⟨o,h1,h2⟩ e (λz=>nomatch z) λtk=>⟨.bl b,H,I.tok tk,rfl,q⟩
theorem aX3 {K:ad}{M:az->Prop}{H:Hp}{v:V}{x:PV}{T:String}(r:aE K M H v x)(e:tyP x=some T):Nx K H v (.type T):=by
 cases r with
 |cq=>cases e;exact .inl .cq
 |bl b=>cases e;exact .inl (.bl b)
 |int i=>cases e;exact .inl (.int i)
 |str i=>cases e;exact .inl (.str i)
 |tup h _=>cases e;exact .inl (.tup h)
 |lst _ h _=>cases e;exact .inl (.lst h)
 |kt h _=>cases e;exact .inr ⟨_,_,rfl,.inr h,rfl⟩
 |_=>cases e
theorem uR {x:Str}{n:String}(B:Bt X.mg)(hn:bootBuiltins x=some (.type n))(hm:X.mg x=none)(ha:QE X a ta)(hg:Gl X "isinstance":=by rfl)(hgx:Gl X x:=by rfl)(hx:x≠"__name__":=by decide)(RM:(x==("__debug__":Str))=false:=by decide)(he:starEach [a,.Name x px] X.env=(false,eval a X.env)::starEach [.Name x px] X.env:=by rfl)(he2:starEach [.Name x px] X.env=(false,eval (.Name x px) X.env)::starEach [] X.env:=by rfl)(hpl:(backTo pos (starEach [.Name x px] X.env)).any (·.1)=false:=by rfl):QE X (.Call (.Name "isinstance" p2) [a,.Name x px] [] pos) (kN X.K n ta):=
 cB (W7 aX2 hg B.Br PyProof.Rows.boot_isinstance (eO ha (eO (aE3 (v:=.ty n) hgx hm hn rfl hx RM) iJ he2) he) (he:=he) (hpl:=hpl)) λσ H Q' h=>by
  obtain⟨W,ρ,Q,px,q,k⟩:=h
  refine⟨W,ρ,_,px,q,?_⟩;rintro v H1 x g s r ⟨T,b,e,kt,q⟩
  exact⟨v,_,n,b,rfl,aX3 r e,kt,k _ _ _ .fr s (.bl _) q⟩
theorem ZZ (B:Bt X.mg)(ha:QE X a ta)(hg:Gl X "isinstance":=by rfl)(hgx:Gl X "int":=by rfl)(he:starEach [a,.Name "int" px] X.env=(false,eval a X.env)::starEach [.Name "int" px] X.env:=by rfl)(he2:starEach [.Name "int" px] X.env=(false,eval (.Name "int" px) X.env)::starEach [] X.env:=by rfl)(hpl:(backTo pos (starEach [.Name "int" px] X.env)).any (·.1)=false:=by rfl):QE X (.Call (.Name "isinstance" p2) [a,.Name "int" px] [] pos) (kN X.K "int" ta):=uR B PyProof.Rows.boot_int B.int ha (hg:=hg) (hgx:=hgx) (he:=he) (he2:=he2) (hpl:=hpl)
theorem ZY (B:Bt X.mg)(ha:QE X a ta)(hg:Gl X "isinstance":=by rfl)(hgx:Gl X "bool":=by rfl)(he:starEach [a,.Name "bool" px] X.env=(false,eval a X.env)::starEach [.Name "bool" px] X.env:=by rfl)(he2:starEach [.Name "bool" px] X.env=(false,eval (.Name "bool" px) X.env)::starEach [] X.env:=by rfl)(hpl:(backTo pos (starEach [.Name "bool" px] X.env)).any (·.1)=false:=by rfl):QE X (.Call (.Name "isinstance" p2) [a,.Name "bool" px] [] pos) (kN X.K "bool" ta):=uR B PyProof.Rows.boot_bool B.bool ha (hg:=hg) (hgx:=hgx) (he:=he) (he2:=he2) (hpl:=hpl)
theorem ZX (B:Bt X.mg)(ha:QE X a ta)(hg:Gl X "isinstance":=by rfl)(hgx:Gl X "tuple":=by rfl)(he:starEach [a,.Name "tuple" px] X.env=(false,eval a X.env)::starEach [.Name "tuple" px] X.env:=by rfl)(he2:starEach [.Name "tuple" px] X.env=(false,eval (.Name "tuple" px) X.env)::starEach [] X.env:=by rfl)(hpl:(backTo pos (starEach [.Name "tuple" px] X.env)).any (·.1)=false:=by rfl):QE X (.Call (.Name "isinstance" p2) [a,.Name "tuple" px] [] pos) (kN X.K "tuple" ta):=uR B PyProof.Rows.boot_tuple B.tuple ha (hg:=hg) (hgx:=hgx) (he:=he) (he2:=he2) (hpl:=hpl)
theorem ZW (B:Bt X.mg)(ha:QE X a ta)(hg:Gl X "isinstance":=by rfl)(hgx:Gl X "list":=by rfl)(he:starEach [a,.Name "list" px] X.env=(false,eval a X.env)::starEach [.Name "list" px] X.env:=by rfl)(he2:starEach [.Name "list" px] X.env=(false,eval (.Name "list" px) X.env)::starEach [] X.env:=by rfl)(hpl:(backTo pos (starEach [.Name "list" px] X.env)).any (·.1)=false:=by rfl):QE X (.Call (.Name "isinstance" p2) [a,.Name "list" px] [] pos) (kN X.K "list" ta):=uR B PyProof.Rows.boot_list B.list ha (hg:=hg) (hgx:=hgx) (he:=he) (he2:=he2) (hpl:=hpl)
end
end PP
namespace PP
open PySem L2 PyProof.Rows
def LO (X:Cx)(t:oI):TO:=λσ H Q'=>∃(W:az->Prop) (ρ:bM) (Q:Option Int->Prop),PX X.K X.cz W σ ρ H/\t ρ Q/\∀o H',aD H H'->Q o->Q' o H'
def QO (X:Cx)(e:Option Expr)(t:oI):Prop:=PO X e (LO X t)
theorem bp.cut {K:ad}{M:az->Prop}{H:Hp}{us:List V}{xs:List PV}(r:bp K M H us xs)(lo hi:Option Int):bp K M H (o5 us lo hi) (oJ xs lo hi):=by
 unfold o5 oJ;rw[r.length];exact (r.drop _).take _
section
variable {X:Cx}{a b c e o:Expr}{es rest:List Expr}{ta tb te to tk:aA}{tr:bV}{tA yh tc:cQ}{pos p2 px:Pos}{st:Stmt}{Er:List Stmt}{t u:aY}
theorem ZV:QO X none HA:=λai s σ H Q I h=>aK4 ai s σ H Q I (by
 obtain⟨W,ρ,Q1,px,q,k⟩:=h
 exact k _ _ (aD.refl _) q)
theorem ZU (h:QE X e te):QO X (some e) (Hz te):=λai s σ H Q I hq=>aK5 h ai s σ H Q I (by
 obtain⟨W,ρ,Q1,px,q,k⟩:=hq
 refine⟨W,ρ,_,px,q,?_⟩;rintro v H1 x g s r ⟨i,rfl,q⟩;cases r
 exact⟨i,rfl,k _ _ s q⟩)
structure Df (P:ba)(w:bd)(K:ad)(mg:Str->Option ax)(base:Heap)(k:Nat)(x:Str)(ps:List Str)(p:aQ):Prop where
 ex:∃f fd,d7 P w K mg base c7 k f fd ps (kK K p)/\iK K fd ps []/\PySem.W.keepIn K (.ref f)=true/\mg x=some (.ref f)
theorem bI {k j:Nat}{x:Str}{ps:List Str}{p:aQ}(d:Df X.prog X.w X.K X.mg X.base k x ps p)(hr:bL j X.A)(ha:QA X (e::es) tr)(wu:k<=j:=by decide)(hg:Gl X x:=by rfl)(jy:(x==("__debug__":Str))=false:=by decide)(he:starEach (e::es) X.env=(false,eval e X.env)::starEach es X.env:=by rfl)(hpl:(backTo pos (starEach es X.env)).any (·.1)=false:=by rfl):QE X (.Call (.Name x p2) (e::es) [] pos) (aG p tr):=by
 obtain⟨f,fd,F,b,kp,m⟩:=d.ex
 exact cB (tN F (hr.mono wu) hg m kp b .nil mH ha jy he hpl) λ_ _ _=>aV4
theorem lI {K:ad}{H:Hp}{N:List Str}{vs:List V}{xs:List PV}(r:bp K (λ_=>True) H vs xs):PX K H (λ_=>False) (L2.gA N vs) (bB N xs) H:=by
 have lr:=r.length;have own:∀{i:Nat}{m:Slot},(bB N xs)[i]? = some (some m)->∃x,xs[i]? = some x/\m = .sh (flat x) x:=λ{i m} h=>by
  unfold bB at h;by_cases hi:i<xs.length
  ·rw[Az (by simpa using hi),ij]at h
   rw[kg hi]at h ⊢;cases h
   exact⟨_,rfl,rfl⟩
  ·rw[CZ (by simpa using hi),List.getElem?_replicate]at h
   split at h<;>cases h
 refine⟨by unfold L2.gA bB;simp[lr],aD.refl _,λa z=>z.elim,λi m h=>?_,λi j x y a h1=>?_⟩
 ·obtain⟨x,hx,rfl⟩:=own h
  obtain⟨v,hv,rx⟩:=r.at hx
  refine⟨v,?_,uI (g:=false) (rx.same (aD.refl _) λ_ _ z=>z)⟩;have hi:i<vs.length:=(og.mp hv).1;unfold L2.gA;rw[Az (by simpa using hi),ij,hv];rfl
 ·obtain⟨x,_,e⟩:=own h1
  cases e
theorem Df.of {P:ba}{w:bd}{K:ad}{mg:Str->Option ax}{base:Heap}{k:Nat}{x:Str}{ps N:List Str}{p:aQ}{st:Stmt}{f:az}{fd:FuncData}(F:bF K x x st f fd)(m:mg x=some (.ref f))(S:bx N ps (aJ st))(hb:∀(kV doc pm:ax) (an:Option az) (cm ct:ax) (us:List ax),us.length=ps.length->bindArgs (PySem.W.fnOf x x (dE st) (cF st) (aJ st) .none kV doc pm an cm ct) ⟨us,[]⟩=pure (ps.zip us))(len:∀xs Q,p xs Q->xs.length=ps.length)(body:∀(cm:ax) (A:bc) (outer:List Env) (s:ay) (H:Hp) (E:XK),bL k (A.deeper (envOfC x (aJ st) s.heap.objs.size f cm))->
   ∃t,gO (eF c7 P w K mg base N x (aJ st) f cm A outer s H E).sv (cF st) t/\∀xs Q,p xs Q->t { nx:=λ_=>Q .cq,rt:=Q } (bB N xs)):Df P w K mg base (k+1) x ps p:=by
 refine⟨f,fd,F.ok S (λvs H Q E h=>?_) (λcm A outer s H vs Q E hr h=>?_),F.binds hb,F.kp,m⟩
 ·obtain⟨xs,Qp,r,q,_⟩:=h
  rw[r.length];exact len xs Qp q
 ·obtain⟨xs,Qp,r,q,k⟩:=h
  obtain⟨t,ht,hq⟩:=body cm A outer s H E hr
  refine⟨_,ht,λ_=>False,bB N xs,_,lI r,hq xs Qp q,?_,?_,?_,?_⟩
  ·exact λW' cn H' fk e px q=>k _ _ _ px.same .cq q
  ·exact λv H' x s r q=>k _ _ _ s r q
  ·exact λW' cn H' fk e px q=>q
  ·exact λW' cn H' fk e px q=>q
theorem gR (i:Nat){x:Str}{tp:Pos}{body:List Stmt}{ti:gB}(hN:X.N.Nodup)(hi:QI X (.Name x tp) e ti)(hb:gO X body t)(hx:X.N[i]? = some x:=by rfl)(hl:hZ X.env.scope x:=by first|exact Or.inl rfl|exact Or.inr rfl)(hf:X.fn x=true∨X.env.scope.names.lookup x=some .local:=by first|exact .inl rfl|exact .inr rfl)(hp:PassesOwn (model X.prog X.w) X.A X.env X.xe:=by exact BW)(hc:X.calm=true:=by rfl)(hs:∀x,foldedSetIterable e X.env x=pure x:=by intro _;rfl):QS X (.For (.Name x tp) e body [] pos) (gC ti (d8 i) t):=
 NB hp hc hi (jK hN hx hl hf) (uJ _ i) hb hs
theorem rC (i j:Nat){x y:Str}{tp xp yp:Pos}{kt:Nat}{body:List Stmt}{ti:gB}(hN:X.N.Nodup)(hi:QI X (.Tuple [.Name x xp,.Name y yp] kt tp) e ti)(hb:gO X body t)(hx:X.N[i]? = some x:=by rfl)(hy:X.N[j]? = some y:=by rfl)(Rx:hZ X.env.scope x:=by first|exact Or.inl rfl|exact Or.inr rfl)(Rw:hZ X.env.scope y:=by first|exact Or.inl rfl|exact Or.inr rfl)(RJ:X.fn x=true∨X.env.scope.names.lookup x=some .local:=by first|exact .inl rfl|exact .inr rfl)(RH:X.fn y=true∨X.env.scope.names.lookup y=some .local:=by first|exact .inl rfl|exact .inr rfl)(hp:PassesOwn (model X.prog X.w) X.A X.env X.xe:=by exact BW)(hc:X.calm=true:=by rfl)(hs:∀x,foldedSetIterable e X.env x=pure x:=by intro _;rfl):QS X (.For (.Tuple [.Name x xp,.Name y yp] kt tp) e body [] pos) (gC ti (lC i j) t):=
 NB hp hc hi (xC hc (nY (jK hN hx Rx RJ) (nY (jK hN hy Rw RH) xB))) (NP _ i j) hb hs
abbrev dX:ax->ay->Prop:=λ_ _=>False
section
variable {scope:Scope}{N:List Str}{fr:List (Option Nat)}{x y:Str}{tp xp yp:Pos}{kt:Nat}{iter elt:Expr}{ti:gB}
theorem zS {ifs:List Expr}{Aa:cQ}(he:∀(s:ay) (H:Hp) (C:az) (fp:List az),QE (cG X scope N s H C fp dX) elt te)(hi:∀(s:ay) (H:Hp) (C:az) (fp:List az),l8 (cG X scope N s H C fp dX) ifs (LT (cG X scope N s H C fp dX) Aa))(hN:N.Nodup)(h0:N[0]? = some x)(hl:∀(s:ay) (H:Hp) (C:az) (fp:List az),(cG X scope N s H C fp dX).env.scope.names.lookup x=some .local)(s:ay)(H:Hp) :
  o7 X scope N (.Name x tp) ifs elt s H (dN 0) (LT (X.vk H) Aa) (LE (X.vk H) te):=
 ⟨λC fp=>jK (X:=cG X scope N s H C fp dX) hN h0 (.inl (hl s H C fp)) (.inr (hl s H C fp)),λC fp=>hi s H C fp,λC fp=>he s H C fp⟩
theorem zT {Y:Cx}:l8 Y [] (LT Y gM):=λai s σ H Q I h=>Z6 ai s σ H Q I (aW3 h)
theorem zU (hi:QI X (.Name x tp) iter ti)(he:∀(s:ay) (H:Hp) (C:az) (fp:List az),QE (cG X scope N s H C fp dX) elt te)(hc:X.calm=true:=by rfl)(S:fC X scope N fr:=by exact fC.of rfl rfl)(hN:N.Nodup:=by decide +kernel)(h0:N[0]? = some x:=by rfl)(hl:∀(s:ay) (H:Hp) (C:az) (fp:List az),(cG X scope N s H C fp dX).env.scope.names.lookup x=some .local:=by intro _ _ _ _;rfl)(hf:fr[0]? = some none:=by rfl)(hs:∀x,foldedSetIterable iter X.env x=pure x:=by intro _;rfl):QE X (.ListComp elt [⟨.Name x tp,iter,[],0⟩] scope pos) (gL ti fr (d8 0) gM te):=
 cB (yQ (gh:=λ_=>dN 0) (tch:=λH=>LT (X.vk H) gM) (teh:=λH=>LE (X.vk H) te) hc S hi (zS he (λ_ _ _ _=>zT) hN h0 hl) hs) λ_ _ _=>uK (uJ _ 0) (λi e=>by subst e;exact hf)
theorem uS {c:Expr}{Aa:cQ}(hi:QI X (.Name x tp) iter ti)(ht:∀(s:ay) (H:Hp) (C:az) (fp:List az),QT (cG X scope N s H C fp dX) c Aa)(he:∀(s:ay) (H:Hp) (C:az) (fp:List az),QE (cG X scope N s H C fp dX) elt te)(hc:X.calm=true:=by rfl)(S:fC X scope N fr:=by exact fC.of rfl rfl)(hN:N.Nodup:=by decide +kernel)(h0:N[0]? = some x:=by rfl)(hl:∀(s:ay) (H:Hp) (C:az) (fp:List az),(cG X scope N s H C fp dX).env.scope.names.lookup x=some .local:=by intro _ _ _ _;rfl)(hf:fr[0]? = some none:=by rfl)(hs:∀x,foldedSetIterable iter X.env x=pure x:=by intro _;rfl):QE X (.ListComp elt [⟨.Name x tp,iter,[c],0⟩] scope pos) (gL ti fr (d8 0) Aa te):=
 cB (yQ (gh:=λ_=>dN 0) (tch:=λH=>LT (X.vk H) Aa) (teh:=λH=>LE (X.vk H) te) hc S hi (zS he (λs H C fp=>aN8 (ht s H C fp)) hN h0 hl) hs) λ_ _ _=>uK (uJ _ 0) (λi e=>by subst e;exact hf)
theorem ZT {i:Nat}{z:Str}{zp:Pos}(nd:X.N.Nodup)(hi:QI X (.Name x tp) iter ti)(he:∀(s:ay) (H:Hp) (C:az) (fp:List az),QE (cG X scope N s H C fp dX) elt te)(hz:X.N[i]? = some z:=by rfl)(DB:X.env.scope.names.lookup z=some .local:=by rfl)(yv:swapsWith (.ListComp elt [⟨.Name x tp,iter,[],0⟩] scope p2) (some (.Name z zp)) pos.line X.env=pure true:=by rfl)(hc:X.calm=true:=by rfl)(S:fC X scope N fr:=by exact fC.of rfl rfl)(hN:N.Nodup:=by decide +kernel)(h0:N[0]? = some x:=by rfl)(hl:∀(s:ay) (H:Hp) (C:az) (fp:List az),(cG X scope N s H C fp dX).env.scope.names.lookup x=some .local:=by intro _ _ _ _;rfl)(hf:fr[0]? = some none:=by rfl)(hs:∀x,foldedSetIterable iter X.env x=pure x:=by intro _;rfl):QS X (.Assign [.Name z zp] (.ListComp elt [⟨.Name x tp,iter,[],0⟩] scope p2) pos) (bW i (gL ti fr (d8 0) gM te)):=
 dQ (aO4 (gh:=λ_=>dN 0) (tch:=λH=>LT (X.vk H) gM) (teh:=λH=>LE (X.vk H) te) hc S hi (zS he (λ_ _ _ _=>zT) hN h0 hl) nd hz DB yv hs) λD σ H h=>uK (uJ _ 0) (λi e=>by subst e;exact hf) (NU h)
end
theorem ZS:o6 X "list.extend" (NS X.K):=λai s σ H x xs v us Q I rx rs h=>h.elim (aM5 ai s σ H x xs v us Q I rx rs) (aQ3 ai s σ H x xs v us Q I rx rs)
theorem Nv (i:Nat){x:Str}{aj am dw:Pos}(he:QE X e te)(hN:X.N[i]? = some x:=by rfl)(hv:dM X.env.scope x:=by first|exact Or.inl rfl|exact Or.inr (Or.inl rfl)|exact Or.inr (Or.inr rfl))(hd:(x==("__debug__":Str))=false:=by decide)(gf:(x==("__classdict__":Str))=false:=by decide)(jg:attributeBase (.Name x dw) "extend" X.env (eval (.Name x dw) X.env)=eval (.Name x dw) X.env:=by rfl)(yz:((backTo am (starEach [e] X.env)).all (λx=>!x.1)&&(backToKw am (keywordEach [] X.env)).all (λx=>x.1.isSome)&&decide (([e]:List Expr).length+([]:List Keyword).length+(if ([]:List Keyword).isEmpty then 0 else 1)<30))=true:=by rfl)(jd:(aj.endLine==am.line)=true:=by rfl)(hs:starEach [e] X.env=(false,eval e X.env)::starEach [] X.env:=by rfl)(aw:(backTo am (starEach [] X.env)).any (·.1)=false:=by rfl)(yv:swapsWith (.Call (.Attribute (.Name x dw) "extend" aj) [e] [] am) none pos.line X.env=pure false:=by rfl) :
  QS X (.Expr (.Call (.Attribute (.Name x dw) "extend" aj) [e] [] am) pos) (uG i te):=
 dQ (kZ (tP CV PySem.F.slot_list_extend PySem.F.type_list_extend ZS (gX hN hv hd gf) (eO he iJ hs) jg yz jd hs aw) yv) λ_ _ _=>aU6
theorem Nu {i:Nat}{x:Str}{dw qz:Pos}(hk:QE X a tk)(he:QE X e te)(hN:X.N[i]? = some x:=by rfl)(hv:dM X.env.scope x:=by first|exact Or.inl rfl|exact Or.inr (Or.inl rfl)|exact Or.inr (Or.inr rfl))(hd:(x==("__debug__":Str))=false:=by decide)(gf:(x==("__classdict__":Str))=false:=by decide)(hp:∀(tx:TE) (tg:TE),PE X (.Name x dw) tx->PE X a tg->PG X (.Subscript (.Name x dw) a qz) (xD tx tg xT):=by intro _ _ h1 h2;exact aF6 h1 h2 aL4)(hs:swapsWithSole [.Subscript (.Name x dw) a qz] e pos.line X.env=pure false:=by rfl)(hw:swappedStores [.Subscript (.Name x dw) a qz] e X.env=pure none:=by rfl) :
  QS X (.Assign [.Subscript (.Name x dw) a qz] e pos) (uH i tk te):=dQ (aF7 he (hp _ _ (gX hN hv hd gf) hk) hs hw) λ_ _ _=>aU7
end
end PP
namespace SO
open PySem PyProof.Rows
section
variable (rk:Keyed→Int)
def Kr (xs:Array Keyed)(i:Nat):Int:=((xs[i]?).map rk).getD 0
def Up (xs:Array Keyed)(lo hi:Nat):Prop:=∀i j,lo<=i->i<=j->j<hi->Kr rk xs i<=Kr rk xs j
def Dn (xs:Array Keyed)(lo hi:Nat):Prop:=∀i j,lo<=i->i<=j->j<hi->Kr rk xs j<=Kr rk xs i
end
variable {rk:Keyed→Int}
theorem mX {xs ys:Array Keyed}{i j:Nat}(h:xs[i]? = ys[j]?):Kr rk xs i=Kr rk ys j:=by unfold Kr;rw[h]
theorem uT {xs:Array Keyed}{i j:Nat}(hj:j<=xs.size)(k:Nat):Kr rk (mirror xs i j ((j-i)/2)) k=Kr rk xs (if i<=k/\k<j then i+j-1-k else k):=by
 refine mX ?_;rw[getElem?_mirror_all hj];split<;>rfl
theorem zV {xs:Array Keyed}{i j:Nat}(hj:j<=xs.size)(e:∀k,i<=k->k<j->Kr rk xs k=Kr rk xs (j-1))(k:Nat):Kr rk (mirror xs i j ((j-i)/2)) k=Kr rk xs k:=by
 rw[uT hj];split
 ·rename_i h;rw[e k h.1 h.2,e _ (by lia) (by lia)]
 ·rfl
theorem ZR {xs:Array Keyed}{src d:Nat}(hs:src<xs.size)(hd:d<=src)(k:Nat):Kr rk (bubble xs src d) k=Kr rk xs (if k=src-d then src else if src-d<k/\k<=src then k-1 else k):=by
 refine mX ?_;rw[getElem?_bubble hs d hd]
 repeat' split
 all_goals rfl
structure SB (κ:SortKind)(a0:Array Keyed)(pd:Array (Nat×Nat×Nat))(st:SortSt):Prop where
 pm:(arrOf st).Perm a0
 kd:kindOf st=κ
 ok:failedOf st=none
 pd:pendingOf st=pd
section
variable {κ:SortKind}{a0:Array Keyed}{pd:Array (Nat×Nat×Nat)}{st:SortSt}{prog:ba}{w:bd}{A:bc}{E:ax→ay→Prop}{s:ay}{Ok:Keyed→Prop}
theorem SB.sz (h:SB κ a0 pd st):(arrOf st).size=a0.size:=h.pm.size_eq
theorem SB.put (h:SB κ a0 pd st){xs:Array Keyed}(hp:xs.Perm (arrOf st)):SB κ a0 pd (setArr st xs):=⟨hp.trans h.pm,h.kd,h.ok,h.pd⟩
def cV (prog:ba)(w:bd)(A:bc)(E:ax->ay->Prop)(s:ay)(κ:SortKind)(Ok:Keyed->Prop)(rk:Keyed->Int):Prop:=
 ∀(x y:Keyed),Ok x->Ok y->∀(st:SortSt) (Q:Option Bool->SortSt->Prop),kindOf st=κ->Q (some (decide (rk x<rk y))) st->wpS (model prog w) A E s (lt' x y) Q st
def bR (Ok:Keyed->Prop)(xs:Array Keyed):Prop:=∀x∈xs,Ok x
theorem SB.all (h:SB κ a0 pd st)(o:bR Ok a0):bR Ok (arrOf st):=λx hx=>o x (h.pm.mem_iff.mp hx)
theorem d9 {xs:Array Keyed}{i:Nat}{Q:Keyed->SortSt->Prop}(hi:i<xs.size)(h:Q xs[i] st):wpS (model prog w) A E s (elem' xs i) Q st:=by
 rw[elem'_eq,getElem?_pos xs i hi];exact dk h
theorem cK {xs:Array Keyed}{i:Nat}(hi:i<xs.size):Kr rk xs i=rk xs[i]:=by unfold Kr;rw[getElem?_pos xs i hi];rfl
theorem rD (c:cV prog w A E s κ Ok rk)(o:bR Ok a0)(b:SB κ a0 pd st){i j:Nat}{Q:Option Bool->SortSt->Prop}(hi:i<a0.size)(hj:j<a0.size)(h:Q (some (decide (Kr rk (arrOf st) i<Kr rk (arrOf st) j))) st):wpS (model prog w) A E s (ltAt' i j) Q st:=by
 have jf:i<(arrOf st).size:=by rw[b.sz];exact hi
 have By:j<(arrOf st).size:=by rw[b.sz];exact hj
 rw[ltAt'_eq];refine cw (wpS_get (cw (d9 jf (cw (d9 By ?_)))));refine c _ _ (b.all o _ (vp jf)) (b.all o _ (vp By)) st Q b.kd ?_;rw[<- cK (rk:=rk) jf,<- cK (rk:=rk) By];exact h
theorem uU {i j:Nat}{Q:Unit->SortSt->Prop}(h:Q () (setArr st (mirror (arrOf st) i j ((j-i)/2)))):wpS (model prog w) A E s (reverseSlice' i j) Q st:=by
 rw[reverseSlice'_eq];exact wpS_modify h
abbrev CS:=Option (Option Nat)×Nat
abbrev DS:=Option (Option Nat)×Nat×Nat
def rE (lo b aq:Nat):StateT SortSt Sem CS:=forIn [b:aq] ((none,b):CS) λ_ r=>do
 match <- ltAt' (lo+r.2) (lo+r.2-1) with
 |some q=>if q=true then pure (ForInStep.done (none,r.2)) else pure (ForInStep.yield (none,r.2+1))
 |_=>pure (ForInStep.done (some none,r.2))
def zW (lo b aq:Nat):StateT SortSt Sem DS:=forIn [b:aq] ((none,b,0):DS) λ_ r=>do
 match <- ltAt' (lo+r.2.1) (lo+r.2.1-1) with
 |some q=>
  if q=true then (if r.2.2>0 then do reverseSlice' (lo+r.2.1-(r.2.2+1)) (lo+r.2.1);pure (ForInStep.yield (none,r.2.1+1,0)) else pure (ForInStep.yield (none,r.2.1+1,0)))
  else do
   match <- ltAt' (lo+r.2.1-1) (lo+r.2.1) with
   |some q=>if q=true then pure (ForInStep.done (none,r.2.1,r.2.2)) else pure (ForInStep.yield (none,r.2.1+1,r.2.2+1))
   |_=>pure (ForInStep.done (some none,r.2.1,r.2.2))
 |_=>pure (ForInStep.done (some none,r.2.1,r.2.2))
theorem Nt (c:cV prog w A E s κ Ok rk)(o:bR Ok a0)(b:SB κ a0 pd st){lo n aq:Nat}{Q:CS->SortSt->Prop}(hz:lo+aq<=a0.size)(h1:1<=n)(hn:n<=aq)(u:Up rk (arrOf st) lo (lo+n))(h:∀m,n<=m->m<=aq->Up rk (arrOf st) lo (lo+m)->(m=aq∨Kr rk (arrOf st) (lo+m)<Kr rk (arrOf st) (lo+m-1))->Q (none,m) st):wpS (model prog w) A E s (rE lo n aq) Q st:=by
 unfold rE;refine tj (I:=λx r bz=>bz=st/\r=(none,x)/\Up rk (arrOf st) lo (lo+x)) ?_ ?_ ⟨rfl,rfl,u⟩
 ·rintro x r bz hx yu ⟨rfl,rfl,u'⟩
  refine cw (rD c o b (by lia) (by lia) ?_);by_cases hq:Kr rk (arrOf bz) (lo+x)<Kr rk (arrOf bz) (lo+x-1)
  ·rw[eu hq]
   exact dk (h x hx (by lia) u' (.inr hq))
  ·rw[dm hq]
   refine dk ⟨rfl,rfl,λi j hi ik hj=>?_⟩;rcases qp j (lo+x) with z|z
   ·exact u' i j hi ik z
   ·have ej:j=lo+x:=by lia
    subst ej;rcases CK ik with z|z
    ·rw[z];exact xu _
    ·have:=u' i (lo+x-1) hi (by lia) (by lia)
     lia
 ·rintro r bz ⟨rfl,rfl,u'⟩
  have em:max n aq=aq:=by lia
  rw[em]at u' ⊢;exact h aq hn (da _) u' (.inl rfl)
structure rG (rk:Keyed->Int)(xs ys:Array Keyed)(lo m q:Nat):Prop where
 dn:Dn rk ys lo (lo+m)
 le:q+1<=m
 eq:∀i,lo+m-(q+1)<=i->i<lo+m->Kr rk ys i=Kr rk ys (lo+m-1)
 low:∀i,i<lo->Kr rk ys i=Kr rk xs i
theorem ZQ (c:cV prog w A E s κ Ok rk)(o:bR Ok a0)(b:SB κ a0 pd st){lo n aq:Nat}{xs:Array Keyed}{Q:DS->SortSt->Prop}(hz:lo+aq<=a0.size)(h1:1<=n)(hn:n<=aq)(u:rG rk xs (arrOf st) lo n 0)(h:∀m q bz,SB κ a0 pd bz->n<=m->m<=aq->rG rk xs (arrOf bz) lo m q->Q (none,m,q) bz):wpS (model prog w) A E s (zW lo n aq) Q st:=by
 unfold zW;refine tj (I:=λx r bz=>∃q,r=(none,x,q)/\SB κ a0 pd bz/\rG rk xs (arrOf bz) lo x q) ?_ ?_ ⟨0,rfl,b,u⟩
 ·rintro x r bz hx yu ⟨q,rfl,b',f⟩
  have sz:=b'.sz;dsimp only;refine cw (rD c o b' (by lia) (by lia) ?_);by_cases hq:Kr rk (arrOf bz) (lo+x)<Kr rk (arrOf bz) (lo+x-1)
  ·rw[eu hq]
   have nx:∀ys:Array Keyed,(∀k,Kr rk ys k=Kr rk (arrOf bz) k)->rG rk xs ys lo (x+1) 0:=λys e=>by
    refine⟨λi j hi ik hj=>?_,by lia,λi h1 h2=>by rw[show i=lo+(x+1)-1 by lia],λi hi=>(e i).trans (f.low i hi)⟩;rw[e,e];rcases qp j (lo+x) with z|z
    ·exact f.dn i j hi ik z
    ·have ej:j=lo+x:=by lia
     subst ej;rcases CK ik with z|z
     ·rw[z];exact xu _
     ·have:=f.dn i (lo+x-1) hi (by lia) (by lia)
      lia
   dsimp only;rw[if_pos rfl];by_cases hp:q>0
   ·rw[if_pos hp]
    exact cw (uU (dk ⟨0,rfl,b'.put (mirror_perm _ _ _ _),nx _ (zV (by lia) f.eq)⟩))
   ·rw[if_neg hp]
    exact dk ⟨0,rfl,b',nx _ λ_=>rfl⟩
  ·rw[dm hq]
   dsimp only;rw[if_neg gu];refine cw (rD c o b' (by lia) (by lia) ?_);by_cases hl:Kr rk (arrOf bz) (lo+x-1)<Kr rk (arrOf bz) (lo+x)
   ·rw[eu hl]
    exact dk (h x q bz b' hx (by lia) f)
   ·rw[dm hl]
    have ex:Kr rk (arrOf bz) (lo+x)=Kr rk (arrOf bz) (lo+x-1):=by lia
    refine dk ⟨q+1,rfl,b',λi j hi ik hj=>?_,by have:=f.le;lia,λi h1 h2=>?_,f.low⟩
    ·rcases qp j (lo+x) with z|z
     ·exact f.dn i j hi ik z
     ·have ej:j=lo+x:=by lia
      subst ej;rcases CK ik with z|z
      ·rw[z];exact xu _
      ·rw[ex];exact f.dn i (lo+x-1) hi (by lia) (by lia)
    ·rw[show lo+(x+1)-1=lo+x by lia]
     rcases qp i (lo+x) with z|z
     ·rw[ex];exact f.eq i (by lia) z
     ·rw[show i=lo+x by lia]
 ·rintro r bz ⟨q,rfl,b',f⟩
  have em:max n aq=aq:=by lia
  rw[em]at f ⊢;exact h aq q bz b' hn (da _) f
theorem Nr (c:cV prog w A E s κ Ok rk)(o:bR Ok a0)(b:SB κ a0 pd st){lo aq:Nat}(n:Nat){xs:Array Keyed}{Q:Option Nat->SortSt->Prop}{K:DS->StateT SortSt Sem (Option Nat)}{k:CS->StateT SortSt Sem (Option Nat)}(hz:lo+aq<=a0.size)(hn:n+1<=aq)(hK:∀m q,K (none,m,q)=if q>0 then reverseSlice' (lo+m-(q+1)) (lo+m) >>= λ_=>reverseSlice' lo (lo+m) >>= λ_=>rE lo m aq >>= k else reverseSlice' lo (lo+m) >>= λ_=>rE lo m aq >>= k)(hk:∀m,k (none,m)=pure (some m))(u:rG rk xs (arrOf st) lo (n+1) 0)(h:∀m bz,SB κ a0 pd bz->1<=m->m<=aq->Up rk (arrOf bz) lo (lo+m)->(∀i,i<lo->Kr rk (arrOf bz) i=Kr rk xs i)->Q (some m) bz):wpS (model prog w) A E s (liftM (rule "list.sort.descending-run") >>= λ_=>zW lo (n+1) aq >>= K) Q st:=by
 refine cw (wpS_lift (zd ⟨rfl,?_⟩));refine cw (ZQ c o b hz (by lia) hn u λm q ir b1 m1 m2 f=>?_);have fin:∀fe:SortSt,SB κ a0 pd fe->(∀k,Kr rk (arrOf fe) k=Kr rk (arrOf ir) k)->
   wpS (model prog w) A E s (reverseSlice' lo (lo+m) >>= λ_=>rE lo m aq >>= k) Q fe:=λfe b2 e=>by
  have sz:=b2.sz;have low:∀i,i<lo->Kr rk (mirror (arrOf fe) lo (lo+m) ((lo+m-lo)/2)) i=Kr rk xs i:=λi hi=>by
   rw[uT (by lia),if_neg (by lia),e];exact f.low i hi
  refine cw (uU (cw (Nt (κ:=κ) c o (b2.put (mirror_perm _ _ _ _)) hz (by lia) m2 ?_ λm' h1 h2 up _=>by rw[hk];exact dk (h m' _ (b2.put (mirror_perm _ _ _ _)) (by lia) h2 up low))))
  ·intro i j hi ik hj
   show Kr rk (mirror (arrOf fe) lo (lo+m) _) i<=Kr rk (mirror (arrOf fe) lo (lo+m) _) j;rw[uT (by lia),uT (by lia),if_pos (by lia),if_pos (by lia),e,e];exact f.dn _ _ (by lia) (by lia) (by lia)
 rw[hK];by_cases hp:q>0
 ·rw[if_pos hp]
  have sz:=b1.sz;exact cw (uU (fin _ (b1.put (mirror_perm _ _ _ _)) (zV (by lia) f.eq)))
 ·rw[if_neg hp]
  exact fin ir b1 λ_=>rfl
theorem ZP (c:cV prog w A E s κ Ok rk)(o:bR Ok a0)(b:SB κ a0 pd st){lo aq:Nat}{Q:Option Nat->SortSt->Prop}(hz:lo+aq<=a0.size)(h1:1<=aq)(h:∀m bz,SB κ a0 pd bz->1<=m->m<=aq->Up rk (arrOf bz) lo (lo+m)->(∀i,i<lo->Kr rk (arrOf bz) i=Kr rk (arrOf st) i)->Q (some m) bz):wpS (model prog w) A E s (countRun' lo aq) Q st:=by
 rw[countRun'_eq];refine cw (Nt (n:=1) c o b hz (da _) h1 (λi j hi ik hj=>by rw[show i=j by lia];exact xu _) λn n1 n2 un on=>?_);dsimp only;by_cases en:(n==aq)=true
 ·rw[if_pos en]
  exact dk (h n st b n1 n2 un λ_ _=>rfl)
 ·rw[if_neg en]
  have SA:n≠aq:=by simpa using en
  have lt:=on.resolve_left SA;have sz:=b.sz;by_cases g:n>1
  ·rw[if_pos g]
   refine cw (rD c o b (by lia) (by lia) ?_);by_cases hq:Kr rk (arrOf st) lo<Kr rk (arrOf st) (lo+n-1)
   ·rw[eu hq]
    exact dk (h n st b n1 n2 un λ_ _=>rfl)
   ·rw[dm hq]
    dsimp only;rw[if_neg gu];have all:∀k,lo<=k->k<lo+n->Kr rk (arrOf st) k=Kr rk (arrOf st) (lo+n-1):=λk k1 k2=>by
     have a1:=un lo k (da _) k1 k2;have a2:=un k (lo+n-1) k1 (by lia) (by lia);lia
    have sm:=zV (rk:=rk) (xs:=arrOf st) (i:=lo) (j:=lo+n) (by lia) all;refine cw (uU (Nr (xs:=arrOf st) (κ:=κ) c o (b.put (mirror_perm _ _ _ _)) n hz (by lia) (λ_ _=>rfl) (λ_=>rfl) ⟨λi j hi ik hj=>?_,by lia,λi h1 h2=>by rw[show i=lo+(n+1)-1 by lia],λi _=>sm i⟩ h));show Kr rk (mirror (arrOf st) lo (lo+n) _) j<=Kr rk (mirror (arrOf st) lo (lo+n) _) i;rw[sm,sm];rcases qp j (lo+n) with z|z
    ·rw[all i hi (by lia),all j (by lia) z];exact xu _
    ·have ej:j=lo+n:=by lia
     subst ej;rcases CK ik with z|z
     ·rw[z];exact xu _
     ·rw[all i hi (by lia)];exact Int.le_of_lt lt
  ·rw[if_neg g]
   have e1:n=1:=by lia
   subst e1;refine Nr (xs:=arrOf st) c o b 1 hz (by lia) (λ_ _=>rfl) (λ_=>rfl) ⟨λi j hi ik hj=>?_,by lia,λi h1 h2=>by rw[show i=lo+(1+1)-1 by lia],λi _=>rfl⟩ h;rcases CK ik with z|z
   ·rw[z];exact xu _
   ·have ei:i=lo+1-1:=by lia
    have ej:j=lo+1:=by lia
    rw[ei,ej];exact Int.le_of_lt lt
theorem ZO (c:cV prog w A E s κ Ok rk)(o:bR Ok a0)(b:SB κ a0 pd st){lo n q:Nat}{Q:Bool->SortSt->Prop}(hz:lo+n<=a0.size)(hq:q<=n)(u:Up rk (arrOf st) lo (lo+q))(h:∀bz,SB κ a0 pd bz->Up rk (arrOf bz) lo (lo+n)->(∀i,i<lo->Kr rk (arrOf bz) i=Kr rk (arrOf st) i)->Q true bz):wpS (model prog w) A E s (binarySort' lo n q) Q st:=by
 rw[binarySort'_eq]
 refine cw (uu (tj (I:=λk r bz=>r=(none,())/\SB κ a0 pd bz/\Up rk (arrOf bz) lo (lo+min k n)/\∀i,i<lo->Kr rk (arrOf bz) i=Kr rk (arrOf st) i)
  (Q:=λr bz=>r=(none,())/\SB κ a0 pd bz/\Up rk (arrOf bz) lo (lo+n)/\∀i,i<lo->Kr rk (arrOf bz) i=Kr rk (arrOf st) i) ?_ ?_ ?_) ?_)
 ·rintro k r ir hk hkn ⟨rfl,b1,u1,l1⟩
  rw[show min k n=k by lia]at u1;have wx:lo+k<a0.size:=by lia
  have sz:=b1.sz
  refine cw (uu (tj (I:=λx r bz=>bz=ir/\∃l g,r=(none,l,g)/\l<=g/\g<=k/\g-l<=k-x/\(∀i,i<l->Kr rk (arrOf ir) (lo+i)<=Kr rk (arrOf ir) (lo+k))/\∀i,g<=i->i<k->Kr rk (arrOf ir) (lo+k)<Kr rk (arrOf ir) (lo+i))
   (Q:=λr bz=>bz=ir/\∃l g,r=(none,l,g)/\l<=k/\(∀i,i<l->Kr rk (arrOf ir) (lo+i)<=Kr rk (arrOf ir) (lo+k))/\∀i,l<=i->i<k->Kr rk (arrOf ir) (lo+k)<Kr rk (arrOf ir) (lo+i)) ?_ ?_ ?_) ?_)
  ·rintro x r fe _ hx ⟨rfl,l,g,rfl,d1,d2,d3,f1,f2⟩
   dsimp only;by_cases EF:l >= g
   ·rw[if_pos EF]
    have e:g=l:=by lia
    subst e;exact dk ⟨rfl,g,g,rfl,d2,f1,f2⟩
   ·rw[if_neg EF]
    refine cw (rD c o b1 wx (by lia) ?_);by_cases hc:Kr rk (arrOf fe) (lo+k)<Kr rk (arrOf fe) (lo+(l+g)/2)
    ·rw[eu hc]
     refine dk ⟨rfl,l,(l+g)/2,rfl,by lia,by lia,by lia,f1,λi i1 i2=>?_⟩
     have:=u1 (lo+(l+g)/2) (lo+i) (by lia) (by lia) (by lia)
     lia
    ·rw[dm hc]
     refine dk ⟨rfl,(l+g)/2+1,g,rfl,by lia,d2,by lia,λi i1=>?_,f2⟩
     have:=u1 (lo+i) (lo+(l+g)/2) (by lia) (by lia) (by lia)
     lia
  ·rintro r fe ⟨rfl,l,g,rfl,d1,d2,d3,f1,f2⟩
   have e:g=l:=by lia
   subst e
   exact⟨rfl,g,g,rfl,d2,f1,f2⟩
  ·exact⟨rfl,0,k,rfl,by lia,by lia,by lia,λi hi=>absurd hi (by lia),λi i1 i2=>absurd i1 (by lia)⟩
  ·rintro r fe ⟨rfl,l,g,rfl,d,f1,f2⟩
   dsimp only;rw[moveDown'_eq];have kb:∀i,Kr rk (bubble (arrOf fe) (lo+k) (lo+k-(lo+l))) i=Kr rk (arrOf fe) (if i=lo+l then lo+k else if lo+l<i/\i<=lo+k then i-1 else i):=λi=>by
    rw[ZR (by lia) (by lia),show lo+k-(lo+k-(lo+l))=lo+l by lia]
   refine cw (wpS_modify (dk ⟨rfl,b1.put (bubble_perm _ _ _),λi j hi ik hj=>?_,λi hi=>?_⟩))
   ·show Kr rk (bubble (arrOf fe) (lo+k) (lo+k-(lo+l))) i<=Kr rk (bubble (arrOf fe) (lo+k) (lo+k-(lo+l))) j
    rw[kb,kb];rw[show min (k+1) n=k+1 by lia]at hj;have v1:∀p,lo<=p->p<lo+l->Kr rk (arrOf fe) p<=Kr rk (arrOf fe) (lo+k):=λp p1 p2=>by have:=f1 (p-lo) (by lia);rwa [show lo+(p-lo)=p by lia]at this
    have v2:∀p,lo+l<=p->p<lo+k->Kr rk (arrOf fe) (lo+k)<Kr rk (arrOf fe) p:=λp p1 p2=>by have:=f2 (p-lo) (by lia) (by lia);rwa [show lo+(p-lo)=p by lia]at this
    repeat' split
    all_goals first
     |(exfalso;lia)
     |exact xu _
     |exact v1 _ (by lia) (by lia)
     |exact Int.le_of_lt (v2 _ (by lia) (by lia))
     |exact u1 _ _ (by lia) (by lia) (by lia)
   ·show Kr rk (bubble (arrOf fe) (lo+k) (lo+k-(lo+l))) i=_
    rw[kb,if_neg (by lia),if_neg (by lia)];exact l1 i hi
 ·rintro r ir ⟨rfl,b1,u1,l1⟩
  rw[show min (max (max q 1) n) n=n by lia]at u1
  exact⟨rfl,b1,u1,l1⟩
 ·refine⟨rfl,b,λi j hi ik hj=>?_,λ_ _=>rfl⟩
  rcases qp j (lo+q) with z|z
  ·exact u i j hi ik z
  ·rw[show i=j by lia];exact xu _
 ·rintro r ir ⟨rfl,b1,u1,l1⟩
  exact dk (h ir b1 u1 l1)
end
def lJ:Bool->Keyed->Array Keyed->Nat->Nat->Nat->StateT SortSt Sem (Option Nat):=sortPriv% PySem.Builtin.gallop
def mY (lf:Bool)(key:Keyed)(xs:Array Keyed)(bs i:Nat):StateT SortSt Sem (Option Bool):=do
 let z <- elem' xs (bs+i)
 if lf then lt' z key else return (<- lt' key z).map (!·)
theorem ZN (lf:Bool)(key:Keyed)(xs:Array Keyed)(bs n h:Nat):lJ lf key xs bs n h=(do
 let mut la:=0
 let mut of:=1
 let mut l:=0
 let mut g:=0
 let some rt <- mY lf key xs bs h|return none
 if rt then
  let mx:=n-h
  for _ in [0:n] do
   if of >= mx then break
   let some mr <- mY lf key xs bs (h+of)|return none
   if !mr then break
   la:=of
   of:=2*of+1
  l:=h+la+1
  g:=h+min of mx
 else
  let mx:=h+1
  for _ in [0:n] do
   if of >= mx then break
   let some fd <- mY lf key xs bs (h-of)|return none
   if fd then break
   la:=of
   of:=2*of+1
  l:=h+1-min of mx
  g:=h-la
 for _ in [0:n] do
  if l >= g then break
  let m:=l+(g-l)/2
  let some mr <- mY lf key xs bs m|return none
  if mr then l:=m+1 else g:=m
 return some g):=rfl
section
variable {rk:Keyed→Int}{κ:SortKind}{st:SortSt}{prog:ba}{w:bd}{A:bc}{E:ax→ay→Prop}{s:ay}{Ok:Keyed→Prop}
def cH (rk:Keyed->Int)(lf:Bool)(key:Keyed)(xs:Array Keyed)(bs i:Nat):Bool:=if lf then decide (Kr rk xs (bs+i)<rk key) else decide (Kr rk xs (bs+i)<=rk key)
theorem uV (c:cV prog w A E s κ Ok rk)(hk:kindOf st=κ){lf:Bool}{key:Keyed}{xs:Array Keyed}{bs i:Nat}{Q:Option Bool->SortSt->Prop}(ok:Ok key)(o:bR Ok xs)(hi:bs+i<xs.size)(h:Q (some (cH rk lf key xs bs i)) st):wpS (model prog w) A E s (mY lf key xs bs i) Q st:=by
 unfold mY;refine cw (d9 hi ?_);unfold cH at h;rw[cK hi]at h;cases lf with
 |true=>
  simp only[if_true]at h ⊢;exact c _ _ (o _ (vp hi)) ok st Q hk h
 |false=>
  simp only[mf,kc]at h ⊢;refine cw (c _ _ ok (o _ (vp hi)) st _ hk (dk ?_));have e:(!decide (rk key<rk xs[bs+i]))=decide (rk xs[bs+i]<=rk key):=by
   by_cases z:rk xs[bs+i]<=rk key
   ·rw[eu z,dm (by lia)];rfl
   ·rw[dm z,eu (by lia)];rfl
  show Q (some (!decide (rk key<rk xs[bs+i]))) st;rw[e];exact h
abbrev GS:=Option (Option Nat)×Nat×Nat
def Nq (lf:Bool)(key:Keyed)(xs:Array Keyed)(bs n l g:Nat):StateT SortSt Sem GS:=forIn [0:n] ((none,l,g):GS) λ_ r=>
 if r.2.1 >= r.2.2 then pure (ForInStep.done (none,r.2.1,r.2.2)) else do
  match <- mY lf key xs bs (r.2.1+(r.2.2-r.2.1)/2) with
  |some q=>if q=true then pure (ForInStep.yield (none,r.2.1+(r.2.2-r.2.1)/2+1,r.2.2)) else pure (ForInStep.yield (none,r.2.1,r.2.1+(r.2.2-r.2.1)/2))
  |_=>pure (ForInStep.done (some none,r.2.1,r.2.2))
theorem Np (c:cV prog w A E s κ Ok rk)(hk:kindOf st=κ){lf:Bool}{key:Keyed}{xs:Array Keyed}{bs n l g:Nat}{Q:GS->SortSt->Prop}(ok:Ok key)(o:bR Ok xs)(hz:bs+n<=xs.size)(mono:∀i j,i<=j->j<n->cH rk lf key xs bs j=true->cH rk lf key xs bs i=true)(EF:l<=g)(hg:g<=n)(h1:∀i,i<l->cH rk lf key xs bs i=true)(h2:∀i,g<=i->i<n->cH rk lf key xs bs i=false)(hq:∀k,k<=n->(∀i,i<k->cH rk lf key xs bs i=true)->(∀i,k<=i->i<n->cH rk lf key xs bs i=false)->Q (none,k,k) st):wpS (model prog w) A E s (Nq lf key xs bs n l g) Q st:=by
 unfold Nq;refine tj (I:=λx r bz=>bz=st/\∃l g,r=(none,l,g)/\l<=g/\g<=n/\g-l<=n-x/\(∀i,i<l->cH rk lf key xs bs i=true)/\∀i,g<=i->i<n->cH rk lf key xs bs i=false) ?_ ?_ ⟨rfl,l,g,rfl,EF,hg,by lia,h1,h2⟩
 ·rintro x r bz _ hx ⟨rfl,l,g,rfl,d1,d2,d3,f1,f2⟩
  dsimp only;by_cases hc:l >= g
  ·rw[if_pos hc]
   have e:g=l:=by lia
   subst e;exact dk (hq g d2 f1 f2)
  ·rw[if_neg hc]
   refine cw (uV c hk ok o (by lia) ?_);cases z:cH rk lf key xs bs (l+(g-l)/2) with
   |true=>exact dk ⟨rfl,_,_,rfl,by lia,d2,by lia,λi hi=>mono i (l+(g-l)/2) (by lia) (by lia) z,f2⟩
   |false=>
    refine dk ⟨rfl,_,_,rfl,by lia,by lia,by lia,f1,λi i1 i2=>?_⟩;cases y:cH rk lf key xs bs i with
    |false=>rfl
    |true=>rw[mono _ i i1 i2 y]at z;cases z
 ·rintro r bz ⟨rfl,l,g,rfl,d1,d2,d3,f1,f2⟩
  have e:g=l:=by lia
  subst e;exact hq g d2 f1 f2
theorem oP (c:cV prog w A E s κ Ok rk)(hk:kindOf st=κ){lf:Bool}{key:Keyed}{xs:Array Keyed}{bs n h:Nat}{Q:Option Nat->SortSt->Prop}(ok:Ok key)(o:bR Ok xs)(hh:h<n)(hz:bs+n<=xs.size)(u:Up rk xs bs (bs+n))(hq:∀k,k<=n->(∀i,i<k->cH rk lf key xs bs i=true)->(∀i,k<=i->i<n->cH rk lf key xs bs i=false)->Q (some k) st):wpS (model prog w) A E s (lJ lf key xs bs n h) Q st:=by
 have mono:∀i j,i<=j->j<n->cH rk lf key xs bs j=true->cH rk lf key xs bs i=true:=λi j ik hj e=>by
  have:=u (bs+i) (bs+j) (by lia) (by lia) (by lia)
  unfold cH at e ⊢;cases lf with
  |true=>simp only[if_true,kf]at e ⊢;lia
  |false=>simp only[mf,kc,kf]at e ⊢;lia
 have Ds:∀i j,i<=j->j<n->cH rk lf key xs bs i=false->cH rk lf key xs bs j=false:=λi j ik hj e=>by
  cases z:cH rk lf key xs bs j with
  |false=>rfl
  |true=>rw[mono i j ik hj z]at e;cases e
 rw[ZN];refine cw (uV c hk ok o (by lia) ?_);dsimp only;cases z:cH rk lf key xs bs h with
 |true=>
  rw[if_pos rfl]
  refine cw (uu (tj (I:=λx r bz=>bz=st/\∃la of,r=(none,la,of)/\la<of/\x<of/\h+la<n/\cH rk lf key xs bs (h+la)=true)
   (Q:=λr bz=>bz=st/\∃la of,r=(none,la,of)/\la<of/\h+la<n/\cH rk lf key xs bs (h+la)=true/\(of<n-h->cH rk lf key xs bs (h+of)=false)) ?_ ?_ ⟨rfl,0,1,rfl,by lia,by lia,by lia,z⟩) ?_)
  ·rintro x r bz _ hx ⟨rfl,la,of,rfl,d1,d2,d3,f⟩
   dsimp only;by_cases hc:of >= n-h
   ·rw[if_pos hc]
    exact dk ⟨rfl,la,of,rfl,d1,d3,f,λy=>absurd y (by lia)⟩
   ·rw[if_neg hc]
    refine cw (uV c hk ok o (by lia) ?_);cases y:cH rk lf key xs bs (h+of) with
    |true=>exact dk ⟨rfl,of,2*of+1,rfl,by lia,by lia,by lia,y⟩
    |false=>exact dk ⟨rfl,la,of,rfl,d1,d3,f,λ_=>y⟩
  ·rintro r bz ⟨rfl,la,of,rfl,d1,d2,d3,f⟩
   exact⟨rfl,la,of,rfl,d1,d3,f,λy=>absurd y (by lia)⟩
  ·rintro r bz ⟨rfl,la,of,rfl,d1,d3,f,ft⟩
   dsimp only;refine cw (Np (l:=h+la+1) (g:=h+min of (n-h)) c hk ok o hz mono (by lia) (by lia) (λi hi=>mono i (h+la) (by lia) d3 f) (λi i1 i2=>?_) λk k1 k2 k3=>dk (hq k k1 k2 k3));rcases qp of (n-h) with y|y
   ·exact Ds (h+of) i (by lia) i2 (ft y)
   ·exact absurd i1 (by lia)
 |false=>
  rw[if_neg gu]
  refine cw (uu (tj (I:=λx r bz=>bz=st/\∃la of,r=(none,la,of)/\la<of/\x<of/\la<=h/\cH rk lf key xs bs (h-la)=false)
   (Q:=λr bz=>bz=st/\∃la of,r=(none,la,of)/\la<of/\la<=h/\cH rk lf key xs bs (h-la)=false/\(of<h+1->cH rk lf key xs bs (h-of)=true)) ?_ ?_ ⟨rfl,0,1,rfl,by lia,by lia,by lia,z⟩) ?_)
  ·rintro x r bz _ hx ⟨rfl,la,of,rfl,d1,d2,d3,f⟩
   dsimp only;by_cases hc:of >= h+1
   ·rw[if_pos hc]
    exact dk ⟨rfl,la,of,rfl,d1,d3,f,λy=>absurd y (by lia)⟩
   ·rw[if_neg hc]
    refine cw (uV c hk ok o (by lia) ?_);cases y:cH rk lf key xs bs (h-of) with
    |false=>exact dk ⟨rfl,of,2*of+1,rfl,by lia,by lia,by lia,y⟩
    |true=>exact dk ⟨rfl,la,of,rfl,d1,d3,f,λ_=>y⟩
  ·rintro r bz ⟨rfl,la,of,rfl,d1,d2,d3,f⟩
   exact⟨rfl,la,of,rfl,d1,d3,f,λy=>absurd y (by lia)⟩
  ·rintro r bz ⟨rfl,la,of,rfl,d1,d3,f,ft⟩
   dsimp only;refine cw (Np (l:=h+1-min of (h+1)) (g:=h-la) c hk ok o hz mono (by lia) (by lia) (λi hi=>?_) (λi i1 i2=>Ds (h-la) i i1 i2 f) λk k1 k2 k3=>dk (hq k k1 k2 k3));rcases qp of (h+1) with y|y
   ·exact mono i (h-of) (by lia) (by lia) (ft y)
   ·exact absurd hi (by lia)
end
def oQ:Nat->StateT SortSt Sem Unit:=sortPriv% PySem.Builtin.setMinGallop
def zX:Array Keyed->Array Keyed->StateT SortSt Sem (Array Keyed):=sortPriv% PySem.Builtin.mergeLo
theorem ZM (g:Nat):oQ g=modify (λst=>SortSt.mk' (kindOf st) (arrOf st) (pendingOf st) g (failedOf st)):=rfl
abbrev LS:=Option (Array Keyed)×Array Keyed×Nat×Nat×Nat×Nat×Nat
abbrev zY:=Option (Array Keyed)×Array Keyed×Nat×Nat×Nat×Nat
abbrev LO:=Option (Array Keyed)×Array Keyed×Nat×Nat×Nat
def uW (x y o:Array Keyed)(i j mg p q:Nat):StateT SortSt Sem (ForInStep LS):=do
 let v <- elem' x i
 if (i+1+1==x.size)=true then pure (.done (some (o.push v++y.extract j y.size++x.extract (i+1) x.size),o.push v,i+1,j,mg,p,q))
 else if (decide (p<7)&&decide (q<7))=true then pure (.done (none,o.push v,i+1,j,mg,p,q)) else pure (.yield (none,o.push v,i+1,j,mg,p,q))
def uX (x y o:Array Keyed)(i j mg p q:Nat):StateT SortSt Sem (ForInStep LS):=do
 let v <- elem' y j
 if (j+1==y.size)=true then pure (.done (some (o.push v++x.extract i x.size++y.extract (j+1) y.size),o.push v,i,j+1,mg,p,q)) else do
  let u <- elem' x i
  match <- lJ true u y (j+1) (y.size-(j+1)) 0 with
  |some k=>
   if k>0 then
    if (j+1+k==y.size)=true then pure (.done (some (o.push v++y.extract (j+1) (j+1+k)++x.extract i x.size++y.extract (j+1+k) y.size),o.push v++y.extract (j+1) (j+1+k),i,j+1+k,mg,p,k))
    else uW x y (o.push v++y.extract (j+1) (j+1+k)) i (j+1+k) mg p k
   else uW x y (o.push v) i (j+1) mg p k
  |_=>pure (.done (some (o.push v++x.extract i x.size++y.extract (j+1) y.size),o.push v,i,j+1,mg,p,q))
def uY (x y o:Array Keyed)(i j mg p q:Nat):StateT SortSt Sem (ForInStep LS):=do
 oQ mg
 let v <- elem' y j
 match <- lJ false v x i (x.size-i) 0 with
 |some k=>
  if k>0 then
   if (i+k+1==x.size)=true then pure (.done (some (o++x.extract i (i+k)++y.extract j y.size++x.extract (i+k) x.size),o++x.extract i (i+k),i+k,j,mg,k,q))
   else if (i+k==x.size)=true then pure (.done (some (o++x.extract i (i+k)++x.extract (i+k) x.size++y.extract j y.size),o++x.extract i (i+k),i+k,j,mg,k,q))
   else uX x y (o++x.extract i (i+k)) (i+k) j mg k q
  else uX x y o i j mg k q
 |_=>pure (.done (some (o++x.extract i x.size++y.extract j y.size),o,i,j,mg,p,q))
def zZ (x y o:Array Keyed)(i j mg p q:Nat):StateT SortSt Sem LS:=forIn [0:x.size+y.size] ((none,o,i,j,mg,p,q):LS) λ_ r=>
 if r.2.2.2.2.1>1 then uY x y r.2.1 r.2.2.1 r.2.2.2.1 (r.2.2.2.2.1-1) r.2.2.2.2.2.1 r.2.2.2.2.2.2 else uY x y r.2.1 r.2.2.1 r.2.2.2.1 r.2.2.2.2.1 r.2.2.2.2.2.1 r.2.2.2.2.2.2
def A0 (x y o:Array Keyed)(i j mg:Nat):StateT SortSt Sem zY:=forIn [0:x.size+y.size] ((none,o,i,j,0,0):zY) λ_ r=>do
 let v <- elem' y r.2.2.2.1
 let u <- elem' x r.2.2.1
 match <- lt' v u with
 |some q=>
  if q=true then do
   let v <- elem' y r.2.2.2.1
   if (r.2.2.2.1+1==y.size)=true then pure (.done (some (r.2.1.push v++x.extract r.2.2.1 x.size++y.extract (r.2.2.2.1+1) y.size),r.2.1.push v,r.2.2.1,r.2.2.2.1+1,0,r.2.2.2.2.2+1))
   else if r.2.2.2.2.2+1 >= mg then pure (.done (none,r.2.1.push v,r.2.2.1,r.2.2.2.1+1,0,r.2.2.2.2.2+1)) else pure (.yield (none,r.2.1.push v,r.2.2.1,r.2.2.2.1+1,0,r.2.2.2.2.2+1))
  else do
   let u <- elem' x r.2.2.1
   if (r.2.2.1+1+1==x.size)=true then pure (.done (some (r.2.1.push u++y.extract r.2.2.2.1 y.size++x.extract (r.2.2.1+1) x.size),r.2.1.push u,r.2.2.1+1,r.2.2.2.1,r.2.2.2.2.1+1,0))
   else if r.2.2.2.2.1+1 >= mg then pure (.done (none,r.2.1.push u,r.2.2.1+1,r.2.2.2.1,r.2.2.2.2.1+1,0)) else pure (.yield (none,r.2.1.push u,r.2.2.1+1,r.2.2.2.1,r.2.2.2.2.1+1,0))
 |_=>pure (.done (some (r.2.1++x.extract r.2.2.1 x.size++y.extract r.2.2.2.1 y.size),r.2.1,r.2.2.1,r.2.2.2.1,r.2.2.2.2.1,r.2.2.2.2.2))
def HN (x y o:Array Keyed)(i j mg:Nat):StateT SortSt Sem LO:=forIn [0:x.size+y.size] ((none,o,i,j,mg):LO) λ_ r=>do
 let u <- A0 x y r.2.1 r.2.2.1 r.2.2.2.1 r.2.2.2.2
 match u.1 with
 |some z=>pure (.done (some z,u.2.1,u.2.2.1,u.2.2.2.1,r.2.2.2.2))
 |none=>do
  liftM (rule "list.sort.gallop")
  let v <- zZ x y u.2.1 u.2.2.1 u.2.2.2.1 (r.2.2.2.2+1) u.2.2.2.2.1 u.2.2.2.2.2
  match v.1 with
  |some z=>pure (.done (some z,v.2.1,v.2.2.1,v.2.2.2.1,v.2.2.2.2.1))
  |none=>do
   oQ (v.2.2.2.2.1+1)
   pure (.yield (none,v.2.1,v.2.2.1,v.2.2.2.1,v.2.2.2.2.1+1))
theorem ZL (x y:Array Keyed):zX x y=(do
 liftM (rule "list.sort.merge-lo")
 let v <- elem' y 0
 if (1==y.size)=true then pure (#[v]++x.extract 0 x.size++y.extract 1 y.size)
 else if (0+1==x.size)=true then pure (#[v]++y.extract 1 y.size++x.extract 0 x.size)
 else do
  let z <- get
  let r <- HN x y #[v] 0 1 (gallopOf z)
  match r.1 with
  |some z=>pure z
  |none=>unsupported "internal:list.sort.merge-bound"):=by kernel_rfl
section
variable (rk:Keyed→Int)
def Sd (l:List Keyed):Prop:=l.Pairwise λa b=>rk a<=rk b
structure MI (xs ys o:List Keyed)(i j:Nat):Prop where
 pm:o.Perm (xs.take i++ys.take j)
 sx:Sd rk (o++xs.drop i)
 sy:Sd rk (o++ys.drop j)
end
variable {rk:Keyed→Int}{xs ys o:List Keyed}{i j:Nat}
theorem Sd.ins {o a b d:List Keyed}(h1:Sd rk (o++a))(h2:Sd rk (o++(b++d)))(h:∀u∈b,∀t∈a,rk u<=rk t):Sd rk ((o++b)++a):=by
 unfold Sd at *;rw[me]
 obtain⟨p1,p2,p3⟩:=yb.mp h1
 obtain⟨q1,q2,q3⟩:=yb.mp h2
 obtain⟨r1,r2,r3⟩:=yb.mp q2
 refine yb.mpr ⟨p1,yb.mpr ⟨r1,p2,h⟩,λu hu t ht=>?_⟩;rcases jk.mp ht with z|z
 ·exact q3 u hu t (uc _ z)
 ·exact p3 u hu t z
theorem MI.Bl (m:MI rk xs ys o i j)(k:Nat)(h:∀u∈(ys.drop j).take k,∀t∈xs.drop i,rk u<=rk t):MI rk xs ys (o++(ys.drop j).take k) i (j+k):=by
 have e:(ys.drop j).take k++ys.drop (j+k)=ys.drop j:=by rw[<- List.drop_drop];exact yc k _
 refine⟨?_,Sd.ins m.sx (d:=ys.drop (j+k)) (by rw[e];exact m.sy) h,by rw[me,e];exact m.sy⟩;rw[List.take_add,<- me];exact m.pm.append_right _
theorem MI.Bm (m:MI rk xs ys o i j)(k:Nat)(h:∀u∈(xs.drop i).take k,∀t∈ys.drop j,rk u<=rk t):MI rk xs ys (o++(xs.drop i).take k) (i+k) j:=by
 have e:(xs.drop i).take k++xs.drop (i+k)=xs.drop i:=by rw[<- List.drop_drop];exact yc k _
 refine⟨?_,by rw[me,e];exact m.sx,Sd.ins m.sy (d:=xs.drop (i+k)) (by rw[e];exact m.sx) h⟩;rw[List.take_add];refine (m.pm.append_right _).trans ?_;rw[me,me];exact (List.perm_append_comm).append_left _
theorem MI.fin (m:MI rk xs ys o i j)(h:xs.length<=i∨ys.length<=j):(o++xs.drop i++ys.drop j).Perm (xs++ys)/\Sd rk (o++xs.drop i++ys.drop j):=by
 refine⟨?_,?_⟩
 ·rw[me]
  refine (m.pm.append_right _).trans ?_;have e1:xs=xs.take i++xs.drop i:=(yc i xs).symm;have e2:ys=ys.take j++ys.drop j:=(yc j ys).symm
  conv=>rhs;rw[e1,e2]
  rw[me,me];refine List.Perm.append_left _ ?_;rw[<- me,<- me];exact (List.perm_append_comm).append_right _
 ·rcases h with h|h
  ·rw[List.drop_eq_nil_of_le h,nv];exact m.sy
  ·rw[List.drop_eq_nil_of_le h,nv];exact m.sx
theorem MI.lst (m:MI rk xs ys o i j)(h:∀u∈ys,∀t∈xs.drop i,rk u<=rk t):(o++ys.drop j++xs.drop i).Perm (xs++ys)/\Sd rk (o++ys.drop j++xs.drop i):=by
 have m2:=m.Bl ys.length λu hu t ht=>h u (List.mem_of_mem_drop (CP hu)) t ht
 have e:(ys.drop j).take ys.length=ys.drop j:=Ay (by simp);rw[e]at m2;have f:=m2.fin (.inr (by lia));rw[List.drop_eq_nil_of_le (as:=ys) (i:=j+ys.length) (by lia),nv]at f;exact f
theorem Nn {x:Array Keyed}{i k:Nat}{u:Keyed}(h:u∈(x.toList.drop i).take k):∃t,t<k/\i+t<x.size/\rk u=Kr rk x (i+t):=by
 obtain⟨t,ht,e⟩:=List.getElem_of_mem h
 have h1:t<k/\i+t<x.size:=by simp at ht;lia
 refine⟨t,h1.1,h1.2,?_⟩;rw[cK h1.2,<- e];simp
theorem rH {x:Array Keyed}{i:Nat}{u:Keyed}(h:u∈x.toList.drop i):∃t,i+t<x.size/\rk u=Kr rk x (i+t):=by
 obtain⟨t,ht,e⟩:=List.getElem_of_mem h
 have h1:i+t<x.size:=by simp at ht;lia
 refine⟨t,h1,?_⟩;rw[cK h1,<- e];simp
theorem Sd.up {x:Array Keyed}(h:Sd rk x.toList)(lo hi:Nat)(hh:hi<=x.size):Up rk x lo hi:=λi j _ ik hj=>by
 rw[cK (by lia:i<x.size),cK (by lia:j<x.size)];rcases CK ik with z|z
 ·subst z;exact xu _
 ·have:=Bb.mp h i j (by simp;lia) (by simp;lia) z
  simpa using this
theorem Nm (x:Array Keyed)(i k:Nat):(x.extract i (i+k)).toList=(x.toList.drop i).take k:=by
 simp[List.extract]
theorem uZ (x:Array Keyed)(i:Nat):(x.extract i x.size).toList=x.toList.drop i:=by
 simp[List.extract];exact Ay (by simp)
theorem mZ {x:Array Keyed}{i:Nat}(h:i<x.size):[x[i]]=(x.toList.drop i).take 1:=by
 rw[List.drop_eq_getElem_cons (by simpa using h)];simp
structure Gq (st bz:SortSt):Prop where
 kd:kindOf bz=kindOf st
 ar:arrOf bz=arrOf st
 pd:pendingOf bz=pendingOf st
 ok:failedOf bz=failedOf st
theorem Gq.refl (st:SortSt):Gq st st:=⟨rfl,rfl,rfl,rfl⟩
section
variable {κ:SortKind}{st:SortSt}{prog:ba}{w:bd}{A:bc}{E:ax→ay→Prop}{s:ay}{Ok:Keyed→Prop}
theorem v6 {gr:SortSt}{g:Nat}{Q:Unit->SortSt->Prop}(q:Gq gr st)(h:∀bz,Gq gr bz->Q () bz):wpS (model prog w) A E s (oQ g) Q st:=by
 rw[ZM];exact wpS_modify (h _ ⟨q.kd,q.ar,q.pd,q.ok⟩)
def fH (rk:Keyed->Int)(x y r:Array Keyed):Prop:=r.toList.Perm (x.toList++y.toList)/\Sd rk r.toList
theorem MI.y1 {x y o:Array Keyed}(m:MI rk x.toList y.toList o.toList i j)(hj:j<y.size)(h:∀t,i+t<x.size->rk y[j]<=Kr rk x (i+t)):MI rk x.toList y.toList (o.push y[j]).toList i (j+1):=by
 have:=m.Bl 1 λu hu t ht=>?_
 ·rw[<- mZ hj]at this;simpa using this
 ·rw[<- mZ hj,eh]at hu
  subst hu
  obtain⟨q,q1,q2⟩:=rH (rk:=rk) ht
  rw[q2];exact h q q1
theorem MI.x1 {x y o:Array Keyed}(m:MI rk x.toList y.toList o.toList i j)(hi:i<x.size)(h:∀t,j+t<y.size->rk x[i]<=Kr rk y (j+t)):MI rk x.toList y.toList (o.push x[i]).toList (i+1) j:=by
 have:=m.Bm 1 λu hu t ht=>?_
 ·rw[<- mZ hi]at this;simpa using this
 ·rw[<- mZ hi,eh]at hu
  subst hu
  obtain⟨q,q1,q2⟩:=rH (rk:=rk) ht
  rw[q2];exact h q q1
theorem MI.yk {x y o:Array Keyed}(m:MI rk x.toList y.toList o.toList i j)(k:Nat)(h:∀p t,p<k->j+p<y.size->i+t<x.size->Kr rk y (j+p)<=Kr rk x (i+t)):MI rk x.toList y.toList (o++y.extract j (j+k)).toList i (j+k):=by
 have:=m.Bl k λu hu t ht=>?_
 ·rw[<- Nm]at this;rw[ya];exact this
 ·obtain⟨p,p1,p2,p3⟩:=Nn (rk:=rk) hu
  obtain⟨q,q1,q2⟩:=rH (rk:=rk) ht
  rw[q2,p3];exact h p q p1 p2 q1
theorem MI.xk {x y o:Array Keyed}(m:MI rk x.toList y.toList o.toList i j)(k:Nat)(h:∀p t,p<k->i+p<x.size->j+t<y.size->Kr rk x (i+p)<=Kr rk y (j+t)):MI rk x.toList y.toList (o++x.extract i (i+k)).toList (i+k) j:=by
 have:=m.Bm k λu hu t ht=>?_
 ·rw[<- Nm]at this;rw[ya];exact this
 ·obtain⟨p,p1,p2,p3⟩:=Nn (rk:=rk) hu
  obtain⟨q,q1,q2⟩:=rH (rk:=rk) ht
  rw[q2,p3];exact h p q p1 p2 q1
theorem oR {key:Keyed}{xs:Array Keyed}{bs i:Nat}:cH rk false key xs bs i=decide (Kr rk xs (bs+i)<=rk key):=rfl
theorem oS {key:Keyed}{xs:Array Keyed}{bs i:Nat}:cH rk true key xs bs i=decide (Kr rk xs (bs+i)<rk key):=rfl
def GI (rk:Keyed->Int)(x y:Array Keyed)(lb:Nat)(st:SortSt)(c:LS)(bz:SortSt):Prop:=Gq st bz/\∃o i j mg p q,c=(none,o,i,j,mg,p,q)/\MI rk x.toList y.toList o.toList i j/\i+1<x.size/\j<y.size/\lb<=i+j
def GQ (rk:Keyed->Int)(x y:Array Keyed)(lb:Nat)(st:SortSt)(c:LS)(bz:SortSt):Prop:=Gq st bz/\((∃r o i j mg p q,c=(some r,o,i,j,mg,p,q)/\fH rk x y r)∨∃o i j mg p q,c=(none,o,i,j,mg,p,q)/\MI rk x.toList y.toList o.toList i j/\i+1<x.size/\j<y.size/\lb<=i+j)
def GR (rk:Keyed->Int)(x y:Array Keyed)(lb:Nat)(st:SortSt)(r:ForInStep LS)(bz:SortSt):Prop:=match r with|.done c=>GQ rk x y lb st c bz|.yield c=>GI rk x y lb st c bz
theorem MI.done {x y o:Array Keyed}(m:MI rk x.toList y.toList o.toList i j)(hh:x.size<=i∨y.size<=j):fH rk x y (o++x.extract i x.size++y.extract j y.size):=by
 unfold fH;rw[ya,ya,uZ,uZ];exact m.fin (by simpa using hh)
theorem MI.last {x y o:Array Keyed}(m:MI rk x.toList y.toList o.toList i j)(x0:0<x.size)(hl:∀u∈y.toList,rk u<=rk x[x.size-1])(hh:i+1=x.size):fH rk x y (o++y.extract j y.size++x.extract i x.size):=by
 unfold fH;rw[ya,ya,uZ,uZ];refine m.lst λu hu t ht=>?_
 obtain⟨q,q1,q2⟩:=rH (rk:=rk) ht
 have e:i+q=x.size-1:=by lia
 rw[q2,e,cK (by lia)];exact hl u hu
theorem Nl {gr:SortSt}{x y o:Array Keyed}{mg p q lb:Nat}(x0:0<x.size)(hl:∀u∈y.toList,rk u<=rk x[x.size-1])(g:Gq gr st)(m:MI rk x.toList y.toList o.toList i j)(hi:i+1<x.size)(hj:j<y.size)(hb:lb<=i+j)(hm:∀t,j+t<y.size->rk x[i]<=Kr rk y (j+t)):wpS (model prog w) A E s (uW x y o i j mg p q) (GR rk x y lb gr) st:=by
 unfold uW;have jf:i<x.size:=by lia
 have m':=m.x1 jf hm;refine cw (d9 jf ?_);by_cases he:(i+1+1==x.size)=true
 ·rw[if_pos he]
  have he:i+1+1=x.size:=by simpa using he
  exact dk ⟨g,.inl ⟨_,_,_,_,_,_,_,rfl,m'.last x0 hl he⟩⟩
 ·rw[if_neg he]
  have he:i+1+1≠x.size:=by simpa using he
  split
  ·exact dk ⟨g,.inr ⟨_,_,_,_,_,_,rfl,m',by lia,hj,by lia⟩⟩
  ·exact dk ⟨g,_,_,_,_,_,_,rfl,m',by lia,hj,by lia⟩
theorem Nk (c:cV prog w A E s κ Ok rk){gr:SortSt}(hk:kindOf gr=κ){x y o:Array Keyed}{mg p q lb:Nat}(ox:bR Ok x)(oy:bR Ok y)(sx:Sd rk x.toList)(sy:Sd rk y.toList)(x0:0<x.size)(hl:∀u∈y.toList,rk u<=rk x[x.size-1])(g:Gq gr st)(m:MI rk x.toList y.toList o.toList i j)(hi:i+1<x.size)(hj:j<y.size)(hb:lb<=i+j)(hm:∀t,i+t<x.size->rk y[j]<=Kr rk x (i+t)):wpS (model prog w) A E s (uX x y o i j mg p q) (GR rk x y lb gr) st:=by
 unfold uX;have jf:i<x.size:=by lia
 have m':=m.y1 hj hm;refine cw (d9 hj ?_);by_cases he:(j+1==y.size)=true
 ·rw[if_pos he]
  have he:j+1=y.size:=by simpa using he
  exact dk ⟨g,.inl ⟨_,_,_,_,_,_,_,rfl,m'.done (.inr (by lia))⟩⟩
 ·rw[if_neg he]
  have he:j+1≠y.size:=by simpa using he
  refine cw (d9 jf (cw (oP c (g.kd.trans hk) (ox _ (vp jf)) oy (by lia) (by lia) (sy.up _ _ (by lia)) λk k1 k2 k3=>?_)));dsimp only;have ux:=sx.up 0 _ (da x.size);have mk:=m'.yk k λp t hp _ ht=>by
   have a1:=k2 p hp;rw[oS,kf]at a1;have a2:=ux i (i+t) (by lia) (by lia) ht;rw[cK jf]at a2;lia
  have km:∀t,j+1+k+t<y.size->rk x[i]<=Kr rk y (j+1+k+t):=λt ht=>by
   have a1:=k3 (k+t) (by lia) (by lia);rw[oS,CU,<- Nat.add_assoc]at a1;lia
  by_cases wx:k>0
  ·rw[if_pos wx]
   by_cases hf:(j+1+k==y.size)=true
   ·rw[if_pos hf]
    have hf:j+1+k=y.size:=by simpa using hf
    exact dk ⟨g,.inl ⟨_,_,_,_,_,_,_,rfl,mk.done (.inr (by lia))⟩⟩
   ·rw[if_neg hf]
    have hf:j+1+k≠y.size:=by simpa using hf
    exact Nl x0 hl g mk hi (by lia) (by lia) km
  ·rw[if_neg wx]
   have e0:k=0:=by lia
   subst e0;exact Nl x0 hl g m' hi (by lia) (by lia) km
theorem Nj (c:cV prog w A E s κ Ok rk){gr:SortSt}(hk:kindOf gr=κ){x y o:Array Keyed}{mg p q lb:Nat}(ox:bR Ok x)(oy:bR Ok y)(sx:Sd rk x.toList)(sy:Sd rk y.toList)(x0:0<x.size)(hl:∀u∈y.toList,rk u<=rk x[x.size-1])(g:Gq gr st)(m:MI rk x.toList y.toList o.toList i j)(hi:i+1<x.size)(hj:j<y.size)(hb:lb<=i+j) :
  wpS (model prog w) A E s (uY x y o i j mg p q) (GR rk x y lb gr) st:=by
 unfold uY;refine cw (v6 g λzo q4=>cw (d9 hj (cw (oP c (q4.kd.trans hk) (oy _ (vp hj)) ox (by lia) (by lia) (sx.up _ _ (by lia)) λk k1 k2 k3=>?_))));dsimp only;have uy:=sy.up 0 _ (da y.size);have mk:=m.xk k λp t hp _ ht=>by
  have a1:=k2 p hp;rw[oR,kf]at a1;have a2:=uy j (j+t) (by lia) (by lia) ht;rw[cK hj]at a2;lia
 have km:∀t,i+k+t<x.size->rk y[j]<=Kr rk x (i+k+t):=λt ht=>by
  have a1:=k3 (k+t) (by lia) (by lia);rw[oR,CU,<- Nat.add_assoc]at a1;lia
 by_cases wx:k>0
 ·rw[if_pos wx]
  by_cases he:(i+k+1==x.size)=true
  ·rw[if_pos he]
   exact dk ⟨q4,.inl ⟨_,_,_,_,_,_,_,rfl,mk.last x0 hl (by simpa using he)⟩⟩
  ·rw[if_neg he]
   have he:i+k+1≠x.size:=by simpa using he
   by_cases hf:(i+k==x.size)=true
   ·rw[if_pos hf]
    have hf:i+k=x.size:=by simpa using hf
    exact dk ⟨q4,.inl ⟨_,_,_,_,_,_,_,rfl,mk.done (.inl (by lia))⟩⟩
   ·rw[if_neg hf]
    have hf:i+k≠x.size:=by simpa using hf
    exact Nk c hk ox oy sx sy x0 hl q4 mk (by lia) hj (by lia) km
 ·rw[if_neg wx]
  have e0:k=0:=by lia
  subst e0;exact Nk c hk ox oy sx sy x0 hl q4 m hi hj hb km
theorem ZK (c:cV prog w A E s κ Ok rk){gr:SortSt}(hk:kindOf gr=κ){x y o:Array Keyed}{mg p q lb:Nat}(ox:bR Ok x)(oy:bR Ok y)(sx:Sd rk x.toList)(sy:Sd rk y.toList)(x0:0<x.size)(hl:∀u∈y.toList,rk u<=rk x[x.size-1])(g:Gq gr st)(m:MI rk x.toList y.toList o.toList i j)(hi:i+1<x.size)(hj:j<y.size)(hb:lb<=i+j) :
  wpS (model prog w) A E s (zZ x y o i j mg p q) (GQ rk x y lb gr) st:=by
 unfold zZ;refine tj (I:=λ_=>GI rk x y lb gr) ?_ ?_ ⟨g,o,i,j,_,p,q,rfl,m,hi,hj,hb⟩
 ·rintro t c3 vz _ _ ⟨q3,o,i,j,mg,p,q,rfl,m,hi,hj,Dj⟩
  dsimp only;split
  ·exact uu (Nj c hk ox oy sx sy x0 hl q3 m hi hj Dj) λr _ hr=>by cases r<;>exact hr
  ·exact uu (Nj c hk ox oy sx sy x0 hl q3 m hi hj Dj) λr _ hr=>by cases r<;>exact hr
 ·rintro c3 vz ⟨q3,o,i,j,mg,p,q,rfl,m,hi,hj,Dj⟩
  exact⟨q3,.inr ⟨_,_,_,_,_,_,rfl,m,hi,hj,Dj⟩⟩
theorem ZJ (c:cV prog w A E s κ Ok rk){gr:SortSt}(hk:kindOf gr=κ){x y o:Array Keyed}{mg:Nat}{Q:zY->SortSt->Prop}(ox:bR Ok x)(oy:bR Ok y)(sx:Sd rk x.toList)(sy:Sd rk y.toList)(x0:0<x.size)(hl:∀u∈y.toList,rk u<=rk x[x.size-1])(g:Gq gr st)(m:MI rk x.toList y.toList o.toList i j)(hi:i+1<x.size)(hj:j<y.size)(h1:∀r o' i' j' p q bz,Gq gr bz->fH rk x y r->Q (some r,o',i',j',p,q) bz)(h2:∀o' i' j' p q bz,Gq gr bz->MI rk x.toList y.toList o'.toList i' j'->i'+1<x.size->j'<y.size->i+j+1<=i'+j'->Q (none,o',i',j',p,q) bz) :
  wpS (model prog w) A E s (A0 x y o i j mg) Q st:=by
 have ux:Up rk x 0 x.size:=sx.up 0 _ (da _);have uy:Up rk y 0 y.size:=sy.up 0 _ (da _);unfold A0;refine tj (I:=λt c bz=>Gq gr bz/\∃o i' j' p q,c=(none,o,i',j',p,q)/\MI rk x.toList y.toList o.toList i' j'/\i'+1<x.size/\j'<y.size/\i+j+t<=i'+j') ?_ ?_ ⟨g,o,i,j,0,0,rfl,m,hi,hj,by lia⟩
 ·rintro t c2 fe _ ht ⟨q2,o,i',j',p,q,rfl,m,hi,hj,Qx⟩
  dsimp only;have jf:i'<x.size:=by lia
  refine cw (d9 hj (cw (d9 jf (cw (c _ _ (oy _ (vp hj)) (ox _ (vp jf)) fe _ (q2.kd.trans hk) ?_)))));by_cases hc:rk y[j']<rk x[i']
  ·rw[eu hc]
   dsimp only;rw[if_pos rfl];have m':=m.y1 hj λt ht=>by
    have:=ux i' (i'+t) (by lia) (by lia) ht
    rw[cK jf]at this;lia
   refine cw (d9 hj ?_);by_cases he:(j'+1==y.size)=true
   ·rw[if_pos he]
    have he:j'+1=y.size:=by simpa using he
    exact dk (h1 _ _ _ _ _ _ _ q2 (m'.done (.inr (by lia))))
   ·rw[if_neg he]
    have he:j'+1≠y.size:=by simpa using he
    split
    ·exact dk (h2 _ _ _ _ _ _ q2 m' hi (by lia) (by lia))
    ·exact dk ⟨q2,_,_,_,_,_,rfl,m',hi,by lia,by lia⟩
  ·rw[dm hc]
   dsimp only;rw[if_neg gu];have m':=m.x1 jf λt ht=>by
    have:=uy j' (j'+t) (by lia) (by lia) ht
    rw[cK hj]at this;lia
   refine cw (d9 jf ?_);by_cases he:(i'+1+1==x.size)=true
   ·rw[if_pos he]
    exact dk (h1 _ _ _ _ _ _ _ q2 (m'.last x0 hl (by simpa using he)))
   ·rw[if_neg he]
    have he:i'+1+1≠x.size:=by simpa using he
    split
    ·exact dk (h2 _ _ _ _ _ _ q2 m' (by lia) hj (by lia))
    ·exact dk ⟨q2,_,_,_,_,_,rfl,m',by lia,hj,by lia⟩
 ·rintro c2 fe ⟨q2,o,i',j',p,q,rfl,m,hi,hj,Qx⟩
  exact h2 _ _ _ _ _ _ q2 m hi hj (by lia)
theorem ZI (c:cV prog w A E s κ Ok rk)(hk:kindOf st=κ){x y:Array Keyed}{Q:Array Keyed->SortSt->Prop}(ox:bR Ok x)(oy:bR Ok y)(sx:Sd rk x.toList)(sy:Sd rk y.toList)(x0:0<x.size)(y0:0<y.size)(hf:∀t∈x.toList,rk y[0]<=rk t)(hl:∀u∈y.toList,rk u<=rk x[x.size-1])(h:∀r bz,Gq st bz->fH rk x y r->Q r bz):wpS (model prog w) A E s (zX x y) Q st:=by
 rw[ZL];refine cw (wpS_lift (zd ⟨rfl,cw (d9 y0 ?_)⟩));have m0:MI rk x.toList y.toList (#[y[0]]:Array Keyed).toList 0 1:=by
  have mm:MI rk x.toList y.toList [] 0 0:=⟨by simp,sx,sy⟩
  have:=mm.Bl 1 λu hu t ht=>?_
  ·rw[<- mZ y0]at this;exact this
  ·rw[<- mZ y0,eh]at hu
   subst hu;exact hf t ht
 by_cases e1:(1==y.size)=true
 ·rw[if_pos e1]
  have e1:1=y.size:=by simpa using e1
  exact dk (h _ st (Gq.refl st) (m0.done (.inr (by lia))))
 ·rw[if_neg e1]
  have e1:1≠y.size:=by simpa using e1
  by_cases e2:(0+1==x.size)=true
  ·rw[if_pos e2]
   exact dk (h _ st (Gq.refl st) (m0.last x0 hl (by simpa using e2)))
  ·rw[if_neg e2]
   have e2:0+1≠x.size:=by simpa using e2
   refine cw (wpS_get ?_);unfold HN
   refine cw (uu (tj
    (I:=λn c bz=>Gq st bz/\∃o i j mg,c=(none,o,i,j,mg)/\MI rk x.toList y.toList o.toList i j/\i+1<x.size/\j<y.size/\n+1<=i+j)
    (Q:=λc bz=>Gq st bz/\∃r o i j mg,c=(some r,o,i,j,mg)/\fH rk x y r) ?_ ?_ ⟨Gq.refl st,_,0,1,_,rfl,m0,by lia,by lia,by lia⟩) ?_)
   ·rintro n c1 ir _ hn ⟨q1,o,i,j,mg,rfl,m,hi,hj,pr⟩
    dsimp only;refine cw (ZJ c hk ox oy sx sy x0 hl q1 m hi hj (λr o' i' j' p q bz g md=>dk ⟨g,r,_,_,_,_,rfl,md⟩) λo' i' j' p q bz g m' jf By Qy=>?_);refine cw (wpS_lift (zd ⟨rfl,?_⟩));refine cw (uu (ZK c hk ox oy sx sy x0 hl g m' jf By Qy) ?_);rintro c3 vz ⟨q3,⟨r,o,i3,j3,mg,p,q,rfl,md⟩|⟨o,i3,j3,mg,p,q,rfl,m,hi,hj,Dj⟩⟩
    ·exact dk ⟨q3,r,_,_,_,_,rfl,md⟩
    ·exact cw (v6 q3 λzo q4=>dk ⟨q4,o,i3,j3,_,rfl,m,hi,hj,by lia⟩)
   ·rintro c1 ir ⟨q1,o,i,j,mg,rfl,m,hi,hj,pr⟩
    exact absurd pr (by lia)
   ·rintro c1 ir ⟨q1,r,o,i,j,mg,rfl,md⟩
    exact dk (h r _ q1 md)
end
def A1:Array Keyed->Array Keyed->StateT SortSt Sem (Array Keyed):=sortPriv% PySem.Builtin.mergeHi
abbrev LH:=Option (Array Keyed)×Nat×Nat×Array Keyed×Nat×Nat×Nat
abbrev A2:=Option (Array Keyed)×Nat×Nat×Array Keyed×Nat×Nat
abbrev LP:=Option (Array Keyed)×Nat×Nat×Array Keyed×Nat
def v7 (x y o:Array Keyed)(i j mg p q:Nat):StateT SortSt Sem (ForInStep LH):=do
 let v <- elem' x (i-1)
 if (i-1==0)=true then pure (.done (some (x.extract 0 (i-1)++y.extract 0 j++(o.push v).reverse),i-1,j,o.push v,mg,p,q))
 else if (decide (p<7)&&decide (q<7))=true then pure (.done (none,i-1,j,o.push v,mg,p,q)) else pure (.yield (none,i-1,j,o.push v,mg,p,q))
def v8 (x y o:Array Keyed)(i j mg p q:Nat):StateT SortSt Sem (ForInStep LH):=do
 let v <- elem' y (j-1)
 if (j-1==1)=true then pure (.done (some (y.extract 0 (j-1)++x.extract 0 i++(o.push v).reverse),i,j-1,o.push v,mg,p,q)) else do
  let u <- elem' x (i-1)
  match <- lJ true u y 0 (j-1) (j-1-1) with
  |some z=>
   if j-1-z>0 then
    if (z==1)=true then pure (.done (some (y.extract 0 z++x.extract 0 i++(o.push v++(y.extract z (j-1)).reverse).reverse),i,z,o.push v++(y.extract z (j-1)).reverse,mg,p,j-1-z))
    else if (z==0)=true then pure (.done (some (x.extract 0 i++y.extract 0 z++(o.push v++(y.extract z (j-1)).reverse).reverse),i,z,o.push v++(y.extract z (j-1)).reverse,mg,p,j-1-z))
    else v7 x y (o.push v++(y.extract z (j-1)).reverse) i z mg p (j-1-z)
   else v7 x y (o.push v) i (j-1) mg p (j-1-z)
  |_=>pure (.done (some (x.extract 0 i++y.extract 0 (j-1)++(o.push v).reverse),i,j-1,o.push v,mg,p,q))
def v9 (x y o:Array Keyed)(i j mg p q:Nat):StateT SortSt Sem (ForInStep LH):=do
 oQ mg
 let v <- elem' y (j-1)
 match <- lJ false v x 0 i (i-1) with
 |some z=>
  if i-z>0 then
   if (z==0)=true then pure (.done (some (x.extract 0 z++y.extract 0 j++(o++(x.extract z i).reverse).reverse),z,j,o++(x.extract z i).reverse,mg,i-z,q))
   else v8 x y (o++(x.extract z i).reverse) z j mg (i-z) q
  else v8 x y o i j mg (i-z) q
 |_=>pure (.done (some (x.extract 0 i++y.extract 0 j++o.reverse),i,j,o,mg,p,q))
def A3 (x y o:Array Keyed)(i j mg p q:Nat):StateT SortSt Sem LH:=forIn [0:x.size+y.size] ((none,i,j,o,mg,p,q):LH) λ_ r=>
 if r.2.2.2.2.1>1 then v9 x y r.2.2.2.1 r.2.1 r.2.2.1 (r.2.2.2.2.1-1) r.2.2.2.2.2.1 r.2.2.2.2.2.2 else v9 x y r.2.2.2.1 r.2.1 r.2.2.1 r.2.2.2.2.1 r.2.2.2.2.2.1 r.2.2.2.2.2.2
def A4 (x y o:Array Keyed)(i j mg:Nat):StateT SortSt Sem A2:=forIn [0:x.size+y.size] ((none,i,j,o,0,0):A2) λ_ r=>do
 let v <- elem' y (r.2.2.1-1)
 let u <- elem' x (r.2.1-1)
 match <- lt' v u with
 |some q=>
  if q=true then do
   let u <- elem' x (r.2.1-1)
   if (r.2.1-1==0)=true then pure (.done (some (x.extract 0 (r.2.1-1)++y.extract 0 r.2.2.1++(r.2.2.2.1.push u).reverse),r.2.1-1,r.2.2.1,r.2.2.2.1.push u,r.2.2.2.2.1+1,0))
   else if r.2.2.2.2.1+1 >= mg then pure (.done (none,r.2.1-1,r.2.2.1,r.2.2.2.1.push u,r.2.2.2.2.1+1,0)) else pure (.yield (none,r.2.1-1,r.2.2.1,r.2.2.2.1.push u,r.2.2.2.2.1+1,0))
  else do
   let v <- elem' y (r.2.2.1-1)
   if (r.2.2.1-1==1)=true then pure (.done (some (y.extract 0 (r.2.2.1-1)++x.extract 0 r.2.1++(r.2.2.2.1.push v).reverse),r.2.1,r.2.2.1-1,r.2.2.2.1.push v,0,r.2.2.2.2.2+1))
   else if r.2.2.2.2.2+1 >= mg then pure (.done (none,r.2.1,r.2.2.1-1,r.2.2.2.1.push v,0,r.2.2.2.2.2+1)) else pure (.yield (none,r.2.1,r.2.2.1-1,r.2.2.2.1.push v,0,r.2.2.2.2.2+1))
 |_=>pure (.done (some (x.extract 0 r.2.1++y.extract 0 r.2.2.1++r.2.2.2.1.reverse),r.2.1,r.2.2.1,r.2.2.2.1,r.2.2.2.2.1,r.2.2.2.2.2))
def Im (x y o:Array Keyed)(i j mg:Nat):StateT SortSt Sem LP:=forIn [0:x.size+y.size] ((none,i,j,o,mg):LP) λ_ r=>do
 let u <- A4 x y r.2.2.2.1 r.2.1 r.2.2.1 r.2.2.2.2
 match u.1 with
 |some z=>pure (.done (some z,u.2.1,u.2.2.1,u.2.2.2.1,r.2.2.2.2))
 |none=>do
  liftM (rule "list.sort.gallop")
  let v <- A3 x y u.2.2.2.1 u.2.1 u.2.2.1 (r.2.2.2.2+1) u.2.2.2.2.1 u.2.2.2.2.2
  match v.1 with
  |some z=>pure (.done (some z,v.2.1,v.2.2.1,v.2.2.2.1,v.2.2.2.2.1))
  |none=>do
   oQ (v.2.2.2.2.1+1)
   pure (.yield (none,v.2.1,v.2.2.1,v.2.2.2.1,v.2.2.2.2.1+1))
theorem ZH (x y:Array Keyed):A1 x y=(do
 liftM (rule "list.sort.merge-hi")
 let v <- elem' x (x.size-1)
 if (x.size-1==0)=true then pure (x.extract 0 (x.size-1)++y.extract 0 y.size++(#[v]:Array Keyed).reverse)
 else if (y.size==1)=true then pure (y.extract 0 y.size++x.extract 0 (x.size-1)++(#[v]:Array Keyed).reverse)
 else do
  let z <- get
  let r <- Im x y #[v] (x.size-1) y.size (gallopOf z)
  match r.1 with
  |some z=>pure z
  |none=>unsupported "internal:list.sort.merge-bound"):=by kernel_rfl
structure MH (rk:Keyed->Int)(xs ys o:List Keyed)(i j:Nat):Prop where
 pm:o.Perm (xs.drop i++ys.drop j)
 sx:Sd rk (xs.take i++o)
 sy:Sd rk (ys.take j++o)
variable {rk:Keyed→Int}{xs ys o:List Keyed}{i j:Nat}
theorem Sd.DA {o a b d:List Keyed}(h1:Sd rk (a++o))(h2:Sd rk ((d++b)++o))(h:∀t∈a,∀u∈b,rk t<=rk u):Sd rk (a++(b++o)):=by
 unfold Sd at *
 obtain⟨p1,p2,p3⟩:=yb.mp h1
 obtain⟨q1,q2,q3⟩:=yb.mp h2
 obtain⟨r1,r2,r3⟩:=yb.mp q1
 refine yb.mpr ⟨p1,yb.mpr ⟨r2,p2,λu hu t ht=>q3 u (ny _ hu) t ht⟩,λu hu t ht=>?_⟩;rcases jk.mp ht with z|z
 ·exact h u hu t z
 ·exact p3 u hu t z
theorem vA (l:List Keyed){z j:Nat}(h:z<=j):l.take z++(l.take j).drop z=l.take j:=by
 have e:l.take z=(l.take j).take z:=by rw[List.take_take,Nat.min_eq_left h]
 rw[e];exact yc z _
theorem A5 (l:List Keyed){z j:Nat}(h:z<=j):(l.take j).drop z++l.drop j=l.drop z:=by
 rw[BU,show l.drop j=(l.drop z).drop (j-z) by rw[List.drop_drop,Nat.add_sub_cancel' h]];exact yc _ _
theorem MH.Bl (m:MH rk xs ys o i j){z:Nat}(hz:z<=j)(h:∀t∈xs.take i,∀u∈(ys.take j).drop z,rk t<=rk u):MH rk xs ys ((ys.take j).drop z++o) i z:=by
 refine⟨?_,Sd.DA m.sx (d:=ys.take z) (by rw[vA _ hz];exact m.sy) h,by rw[<- me,vA _ hz];exact m.sy⟩;rw[<- A5 ys hz];refine (m.pm.append_left _).trans ?_;rw[<- me,<- me];exact (List.perm_append_comm).append_right _
theorem MH.Bm (m:MH rk xs ys o i j){z:Nat}(hz:z<=i)(h:∀t∈ys.take j,∀u∈(xs.take i).drop z,rk t<=rk u):MH rk xs ys ((xs.take i).drop z++o) z j:=by
 refine⟨?_,by rw[<- me,vA _ hz];exact m.sx,Sd.DA m.sy (d:=xs.take z) (by rw[vA _ hz];exact m.sx) h⟩;rw[<- A5 xs hz,me];exact m.pm.append_left _
theorem MH.fin (m:MH rk xs ys o i j)(h:i=0∨j=0):(xs.take i++ys.take j++o).Perm (xs++ys)/\Sd rk (xs.take i++ys.take j++o):=by
 refine⟨?_,?_⟩
 ·have e1:xs=xs.take i++xs.drop i:=(yc i xs).symm
  have e2:ys=ys.take j++ys.drop j:=(yc j ys).symm
  conv=>rhs;rw[e1,e2]
  rw[me,me];refine List.Perm.append_left _ ((m.pm.append_left _).trans ?_);rw[<- me,<- me];exact (List.perm_append_comm).append_right _
 ·rcases h with h|h
  ·subst h;simpa using m.sy
  ·subst h;simpa using m.sx
theorem MH.fst (m:MH rk xs ys o i j)(h:∀t∈ys.take j,∀u∈xs,rk t<=rk u):(ys.take j++xs.take i++o).Perm (xs++ys)/\Sd rk (ys.take j++xs.take i++o):=by
 have m2:=m.Bm (lh i) λt ht u hu=>h t ht u (CP (List.mem_of_mem_drop hu))
 have f:=m2.fin (.inl rfl);simpa using f
theorem rJ {x:Array Keyed}{i:Nat}{u:Keyed}(h:u∈x.toList.take i):∃t,t<i/\t<x.size/\rk u=Kr rk x t:=by
 obtain⟨t,ht,e⟩:=List.getElem_of_mem h
 have h1:t<i/\t<x.size:=by simp at ht;lia
 refine⟨t,h1.1,h1.2,?_⟩;rw[cK h1.2,<- e];simp
theorem rK {x:Array Keyed}{z i:Nat}{u:Keyed}(h:u∈(x.toList.take i).drop z):∃t,z<=t/\t<i/\t<x.size/\rk u=Kr rk x t:=by
 obtain⟨t,ht,e⟩:=List.getElem_of_mem h
 have h1:z+t<i/\z+t<x.size:=by simp at ht;lia
 refine⟨z+t,by lia,h1.1,h1.2,?_⟩;rw[cK h1.2,<- e];simp
theorem nA (x:Array Keyed)(z i:Nat):(x.extract z i).toList=(x.toList.take i).drop z:=by
 rw[BU];simp[List.extract]
theorem vB (x:Array Keyed)(i:Nat):(x.extract 0 i).toList=x.toList.take i:=by
 simp[List.extract]
theorem rM {x:Array Keyed}{i:Nat}(h:i<x.size):[x[i]]=(x.toList.take (i+1)).drop i:=by
 rw[BU,mZ h,show i+1-i=1 by lia]
section
variable {κ:SortKind}{st:SortSt}{prog:ba}{w:bd}{A:bc}{E:ax→ay→Prop}{s:ay}{Ok:Keyed→Prop}
theorem MH.y1 {x y o:Array Keyed}(m:MH rk x.toList y.toList o.toList.reverse i (j+1))(hj:j<y.size)(h:∀t,t<i->t<x.size->Kr rk x t<=rk y[j]):MH rk x.toList y.toList (o.push y[j]).toList.reverse i j:=by
 have:=m.Bl (Nat.le_succ j) λt ht u hu=>?_
 ·rw[<- rM hj]at this;simpa using this
 ·rw[<- rM hj,eh]at hu
  subst hu
  obtain⟨q,q1,q2,q3⟩:=rJ (rk:=rk) ht
  rw[q3];exact h q q1 q2
theorem MH.x1 {x y o:Array Keyed}(m:MH rk x.toList y.toList o.toList.reverse (i+1) j)(hi:i<x.size)(h:∀t,t<j->t<y.size->Kr rk y t<=rk x[i]):MH rk x.toList y.toList (o.push x[i]).toList.reverse i j:=by
 have:=m.Bm (Nat.le_succ i) λt ht u hu=>?_
 ·rw[<- rM hi]at this;simpa using this
 ·rw[<- rM hi,eh]at hu
  subst hu
  obtain⟨q,q1,q2,q3⟩:=rJ (rk:=rk) ht
  rw[q3];exact h q q1 q2
theorem MH.yk {x y o:Array Keyed}(m:MH rk x.toList y.toList o.toList.reverse i j){z:Nat}(hz:z<=j)(h:∀t p,t<i->t<x.size->z<=p->p<j->p<y.size->Kr rk x t<=Kr rk y p):MH rk x.toList y.toList (o++(y.extract z j).reverse).toList.reverse i z:=by
 have:=m.Bl hz λt ht u hu=>?_
 ·rw[<- nA]at this;simpa using this
 ·obtain⟨q,q1,q2,q3⟩:=rJ (rk:=rk) ht
  obtain⟨p,p1,p2,p3,p4⟩:=rK (rk:=rk) hu
  rw[q3,p4];exact h q p q1 q2 p1 p2 p3
theorem MH.xk {x y o:Array Keyed}(m:MH rk x.toList y.toList o.toList.reverse i j){z:Nat}(hz:z<=i)(h:∀t p,t<j->t<y.size->z<=p->p<i->p<x.size->Kr rk y t<=Kr rk x p):MH rk x.toList y.toList (o++(x.extract z i).reverse).toList.reverse z j:=by
 have:=m.Bm hz λt ht u hu=>?_
 ·rw[<- nA]at this;simpa using this
 ·obtain⟨q,q1,q2,q3⟩:=rJ (rk:=rk) ht
  obtain⟨p,p1,p2,p3,p4⟩:=rK (rk:=rk) hu
  rw[q3,p4];exact h q p q1 q2 p1 p2 p3
theorem MH.done {x y o:Array Keyed}(m:MH rk x.toList y.toList o.toList.reverse i j)(hh:i=0∨j=0):fH rk x y (x.extract 0 i++y.extract 0 j++o.reverse):=by
 unfold fH;rw[ya,ya,vB,vB,Array.toList_reverse];exact m.fin hh
theorem MH.Am {x y o:Array Keyed}(m:MH rk x.toList y.toList o.toList.reverse i j)(y0:0<y.size)(hf:∀t∈x.toList,rk y[0]<=rk t)(hh:j=1):fH rk x y (y.extract 0 j++x.extract 0 i++o.reverse):=by
 unfold fH;rw[ya,ya,vB,vB,Array.toList_reverse];refine m.fst λt ht u hu=>?_
 subst hh
 obtain⟨q,q1,q2,q3⟩:=rJ (rk:=rk) ht
 have e:q=0:=by lia
 subst e;rw[q3,cK y0];exact hf u hu
structure HB (rk:Keyed->Int)(x y:Array Keyed)(lb i j:Nat)(o:Array Keyed):Prop where
 m:MH rk x.toList y.toList o.toList.reverse i j
 i0:0<i
 i1:i<x.size
 j0:1<j
 j1:j<=y.size
 pr:i+j+lb<=x.size+y.size
def HI (rk:Keyed->Int)(x y:Array Keyed)(lb:Nat)(st:SortSt)(c:LH)(bz:SortSt):Prop:=Gq st bz/\∃i j o mg p q,c=(none,i,j,o,mg,p,q)/\HB rk x y lb i j o
def HQ (rk:Keyed->Int)(x y:Array Keyed)(lb:Nat)(st:SortSt)(c:LH)(bz:SortSt):Prop:=Gq st bz/\((∃r i j o mg p q,c=(some r,i,j,o,mg,p,q)/\fH rk x y r)∨∃i j o mg p q,c=(none,i,j,o,mg,p,q)/\HB rk x y lb i j o)
def HR (rk:Keyed->Int)(x y:Array Keyed)(lb:Nat)(st:SortSt)(r:ForInStep LH)(bz:SortSt):Prop:=match r with|.done c=>HQ rk x y lb st c bz|.yield c=>HI rk x y lb st c bz
theorem Ni {gr:SortSt}{x y o:Array Keyed}{i j mg p q lb:Nat}(g:Gq gr st)(b:HB rk x y lb (i+1) j o)(hm:∀(hi:i<x.size) t,t<j->t<y.size->Kr rk y t<=rk x[i]):wpS (model prog w) A E s (v7 x y o (i+1) j mg p q) (HR rk x y lb gr) st:=by
 unfold v7
 obtain⟨m,i0,i1,j0,j1,pr⟩:=b
 have jf:i<x.size:=by lia
 have m':=m.x1 jf (hm jf);simp only[Nat.add_sub_cancel];refine cw (d9 jf ?_);by_cases he:(i==0)=true
 ·rw[if_pos he]
  have he:i=0:=by simpa using he
  exact dk ⟨g,.inl ⟨_,_,_,_,_,_,_,rfl,m'.done (.inl he)⟩⟩
 ·rw[if_neg he]
  have he:i≠0:=by simpa using he
  split
  ·exact dk ⟨g,.inr ⟨_,_,_,_,_,_,rfl,m',by lia,by lia,j0,j1,by lia⟩⟩
  ·exact dk ⟨g,_,_,_,_,_,_,rfl,m',by lia,by lia,j0,j1,by lia⟩
theorem Nh (c:cV prog w A E s κ Ok rk){gr:SortSt}(hk:kindOf gr=κ){x y o:Array Keyed}{i j mg p q lb:Nat}(ox:bR Ok x)(oy:bR Ok y)(sx:Sd rk x.toList)(sy:Sd rk y.toList)(y0:0<y.size)(hf:∀t∈x.toList,rk y[0]<=rk t)(g:Gq gr st)(b:HB rk x y lb (i+1) (j+1) o)(hm:∀(hj:j<y.size) t,t<i+1->t<x.size->Kr rk x t<=rk y[j]):wpS (model prog w) A E s (v8 x y o (i+1) (j+1) mg p q) (HR rk x y lb gr) st:=by
 unfold v8
 obtain⟨m,i0,i1,j0,j1,pr⟩:=b
 have jf:i<x.size:=by lia
 have hj:j<y.size:=by lia
 have m':=m.y1 hj (hm hj);simp only[Nat.add_sub_cancel];refine cw (d9 hj ?_);by_cases he:(j==1)=true
 ·rw[if_pos he]
  have he:j=1:=by simpa using he
  exact dk ⟨g,.inl ⟨_,_,_,_,_,_,_,rfl,m'.Am y0 hf he⟩⟩
 ·rw[if_neg he]
  have he:j≠1:=by simpa using he
  refine cw (d9 jf (cw (oP c (g.kd.trans hk) (ox _ (vp jf)) oy (by lia) (by lia) (sy.up _ _ (by lia)) λz k1 k2 k3=>?_)));dsimp only;have ux:=sx.up 0 _ (da x.size);have mk:=m'.yk k1 λt p ht Rh hp FQ _=>by
   have a1:=k3 p hp FQ;rw[oS,CU,qa]at a1;have a2:=ux t i (by lia) (by lia) jf;rw[cK (i:=i) jf]at a2;lia
  have km:∀(hi:i<x.size) t,t<z->t<y.size->Kr rk y t<=rk x[i]:=λ_ t ht _=>by
   have a1:=k2 t ht;rw[oS,kf,qa]at a1;lia
  by_cases wx:j-z>0
  ·rw[if_pos wx]
   by_cases h1:(z==1)=true
   ·rw[if_pos h1]
    have h1:z=1:=by simpa using h1
    exact dk ⟨g,.inl ⟨_,_,_,_,_,_,_,rfl,mk.Am y0 hf h1⟩⟩
   ·rw[if_neg h1]
    have h1:z≠1:=by simpa using h1
    by_cases h0:(z==0)=true
    ·rw[if_pos h0]
     have h0:z=0:=by simpa using h0
     exact dk ⟨g,.inl ⟨_,_,_,_,_,_,_,rfl,mk.done (.inr h0)⟩⟩
    ·rw[if_neg h0]
     have h0:z≠0:=by simpa using h0
     exact Ni g ⟨mk,by lia,i1,by lia,by lia,by lia⟩ km
  ·rw[if_neg wx]
   have e0:z=j:=by lia
   subst e0;exact Ni g ⟨m',by lia,i1,by lia,by lia,by lia⟩ km
theorem Ng (c:cV prog w A E s κ Ok rk){gr:SortSt}(hk:kindOf gr=κ){x y o:Array Keyed}{i j mg p q lb:Nat}(ox:bR Ok x)(oy:bR Ok y)(sx:Sd rk x.toList)(sy:Sd rk y.toList)(y0:0<y.size)(hf:∀t∈x.toList,rk y[0]<=rk t)(g:Gq gr st)(b:HB rk x y lb i (j+1) o) :
  wpS (model prog w) A E s (v9 x y o i (j+1) mg p q) (HR rk x y lb gr) st:=by
 unfold v9
 obtain⟨m,i0,i1,j0,j1,pr⟩:=b
 have hj:j<y.size:=by lia
 simp only[Nat.add_sub_cancel];refine cw (v6 g λzo q4=>cw (d9 hj (cw (oP c (q4.kd.trans hk) (oy _ (vp hj)) ox (by lia) (by lia) (sx.up _ _ (by lia)) λz k1 k2 k3=>?_))));dsimp only;have uy:=sy.up 0 _ (da y.size);have mk:=m.xk k1 λt p ht Rh hp FQ _=>by
  have a1:=k3 p hp FQ;rw[oR,CU,qa]at a1;have a2:=uy t j (by lia) (by lia) hj;rw[cK (i:=j) hj]at a2;lia
 have km:∀(hj:j<y.size) t,t<z->t<x.size->Kr rk x t<=rk y[j]:=λ_ t ht _=>by
  have a1:=k2 t ht;rw[oR,kf,qa]at a1;exact a1
 by_cases wx:i-z>0
 ·rw[if_pos wx]
  by_cases he:(z==0)=true
  ·rw[if_pos he]
   exact dk ⟨q4,.inl ⟨_,_,_,_,_,_,_,rfl,mk.done (.inl (by simpa using he))⟩⟩
  ·rw[if_neg he]
   have he:z≠0:=by simpa using he
   obtain⟨z2,rfl⟩:∃z2,z=z2+1:=⟨z-1,by lia⟩
   exact Nh c hk ox oy sx sy y0 hf q4 ⟨mk,by lia,by lia,j0,j1,by lia⟩ km
 ·rw[if_neg wx]
  have e0:z=i:=by lia
  subst e0
  obtain⟨z2,rfl⟩:∃z2,z=z2+1:=⟨z-1,by lia⟩
  exact Nh c hk ox oy sx sy y0 hf q4 ⟨m,i0,i1,j0,j1,pr⟩ km
theorem ZG (c:cV prog w A E s κ Ok rk){gr:SortSt}(hk:kindOf gr=κ){x y o:Array Keyed}{i j mg p q lb:Nat}(ox:bR Ok x)(oy:bR Ok y)(sx:Sd rk x.toList)(sy:Sd rk y.toList)(y0:0<y.size)(hf:∀t∈x.toList,rk y[0]<=rk t)(g:Gq gr st)(b:HB rk x y lb i j o) :
  wpS (model prog w) A E s (A3 x y o i j mg p q) (HQ rk x y lb gr) st:=by
 unfold A3;refine tj (I:=λ_=>HI rk x y lb gr) ?_ ?_ ⟨g,i,j,o,_,p,q,rfl,b⟩
 ·rintro t c3 vz _ _ ⟨q3,i,j,o,mg,p,q,rfl,b3⟩
  obtain⟨j3,rfl⟩:∃j3,j=j3+1:=⟨j-1,by have:=b3.j0;lia⟩
  dsimp only;split
  ·exact uu (Ng c hk ox oy sx sy y0 hf q3 b3) λr _ hr=>by cases r<;>exact hr
  ·exact uu (Ng c hk ox oy sx sy y0 hf q3 b3) λr _ hr=>by cases r<;>exact hr
 ·rintro c3 vz ⟨q3,i,j,o,mg,p,q,rfl,b3⟩
  exact⟨q3,.inr ⟨_,_,_,_,_,_,rfl,b3⟩⟩
theorem ZF (c:cV prog w A E s κ Ok rk){gr:SortSt}(hk:kindOf gr=κ){x y o:Array Keyed}{i j mg n:Nat}{Q:A2->SortSt->Prop}(ox:bR Ok x)(oy:bR Ok y)(sx:Sd rk x.toList)(sy:Sd rk y.toList)(y0:0<y.size)(hf:∀t∈x.toList,rk y[0]<=rk t)(g:Gq gr st)(b:HB rk x y n i j o)(h1:∀r i' j' o' p q bz,Gq gr bz->fH rk x y r->Q (some r,i',j',o',p,q) bz)(h2:∀i' j' o' p q bz,Gq gr bz->HB rk x y (n+1) i' j' o'->Q (none,i',j',o',p,q) bz) :
  wpS (model prog w) A E s (A4 x y o i j mg) Q st:=by
 have ux:Up rk x 0 x.size:=sx.up 0 _ (da _);have uy:Up rk y 0 y.size:=sy.up 0 _ (da _);unfold A4;refine tj (I:=λt c bz=>Gq gr bz/\∃i j o p q,c=(none,i,j,o,p,q)/\HB rk x y (n+t) i j o) ?_ ?_ ⟨g,i,j,o,0,0,rfl,b⟩
 ·rintro t c2 fe _ ht ⟨q2,i',j',o,p,q,rfl,m,i0,i1,j0,j1,pr⟩
  obtain⟨i2,rfl⟩:∃i2,i'=i2+1:=⟨i'-1,by lia⟩
  obtain⟨j2,rfl⟩:∃j2,j'=j2+1:=⟨j'-1,by lia⟩
  simp only[Nat.add_sub_cancel];have hi:i2<x.size:=by lia
  have hj:j2<y.size:=by lia
  refine cw (d9 hj (cw (d9 hi (cw (c _ _ (oy _ (vp hj)) (ox _ (vp hi)) fe _ (q2.kd.trans hk) ?_)))));by_cases hc:rk y[j2]<rk x[i2]
  ·rw[eu hc]
   dsimp only;rw[if_pos rfl];have m':=m.x1 hi λt ht _=>by
    have:=uy t j2 (by lia) (by lia) hj
    rw[cK hj]at this;lia
   refine cw (d9 hi ?_);by_cases he:(i2==0)=true
   ·rw[if_pos he]
    exact dk (h1 _ _ _ _ _ _ _ q2 (m'.done (.inl (by simpa using he))))
   ·rw[if_neg he]
    have he:i2≠0:=by simpa using he
    split
    ·exact dk (h2 _ _ _ _ _ _ q2 ⟨m',by lia,by lia,j0,j1,by lia⟩)
    ·exact dk ⟨q2,_,_,_,_,_,rfl,m',by lia,by lia,j0,j1,by lia⟩
  ·rw[dm hc]
   dsimp only;rw[if_neg gu];have m':=m.y1 hj λt ht _=>by
    have:=ux t i2 (by lia) (by lia) hi
    rw[cK hi]at this;lia
   refine cw (d9 hj ?_);by_cases he:(j2==1)=true
   ·rw[if_pos he]
    exact dk (h1 _ _ _ _ _ _ _ q2 (m'.Am y0 hf (by simpa using he)))
   ·rw[if_neg he]
    have he:j2≠1:=by simpa using he
    split
    ·exact dk (h2 _ _ _ _ _ _ q2 ⟨m',i0,i1,by lia,by lia,by lia⟩)
    ·exact dk ⟨q2,_,_,_,_,_,rfl,m',i0,i1,by lia,by lia,by lia⟩
 ·rintro c2 fe ⟨q2,i',j',o,p,q,rfl,m,i0,i1,j0,j1,pr⟩
  exact h2 _ _ _ _ _ _ q2 ⟨m,i0,i1,j0,j1,by lia⟩
theorem ZE (c:cV prog w A E s κ Ok rk)(hk:kindOf st=κ){x y:Array Keyed}{Q:Array Keyed->SortSt->Prop}(ox:bR Ok x)(oy:bR Ok y)(sx:Sd rk x.toList)(sy:Sd rk y.toList)(x0:0<x.size)(y0:0<y.size)(hf:∀t∈x.toList,rk y[0]<=rk t)(hl:∀u∈y.toList,rk u<=rk x[x.size-1])(h:∀r bz,Gq st bz->fH rk x y r->Q r bz):wpS (model prog w) A E s (A1 x y) Q st:=by
 rw[ZH];refine cw (wpS_lift (zd ⟨rfl,cw (d9 (by lia:x.size-1<x.size) ?_)⟩));have m0:MH rk x.toList y.toList (#[x[x.size-1]]:Array Keyed).toList.reverse (x.size-1) y.size:=by
  have mm:MH rk x.toList y.toList [] x.size y.size:=⟨by simp,by rw[Ay (by simp),nv];exact sx,by rw[Ay (by simp),nv];exact sy⟩;have e:=rM (x:=x) (i:=x.size-1) (by lia);rw[show x.size-1+1=x.size by lia]at e
  have:=mm.Bm (Nat.sub_le x.size 1) λt ht u hu=>?_
  ·rw[<- e]at this;simpa using this
  ·rw[<- e,eh]at hu
   subst hu;exact hl t (CP ht)
 by_cases e1:(x.size-1==0)=true
 ·rw[if_pos e1]
  exact dk (h _ st (Gq.refl st) (m0.done (.inl (by simpa using e1))))
 ·rw[if_neg e1]
  have e1:x.size-1≠0:=by simpa using e1
  by_cases e2:(y.size==1)=true
  ·rw[if_pos e2]
   exact dk (h _ st (Gq.refl st) (m0.Am y0 hf (by simpa using e2)))
  ·rw[if_neg e2]
   have e2:y.size≠1:=by simpa using e2
   refine cw (wpS_get ?_);unfold Im
   refine cw (uu (tj
    (I:=λn c bz=>Gq st bz/\∃i j o mg,c=(none,i,j,o,mg)/\HB rk x y (n+1) i j o)
    (Q:=λc bz=>Gq st bz/\∃r i j o mg,c=(some r,i,j,o,mg)/\fH rk x y r) ?_ ?_ ⟨Gq.refl st,_,_,_,_,rfl,m0,by lia,by lia,by lia,by lia,by lia⟩) ?_)
   ·rintro n c1 ir _ hn ⟨q1,i,j,o,mg,rfl,b⟩
    dsimp only;refine cw (ZF c hk ox oy sx sy y0 hf q1 b (λr o' i' j' p q bz g md=>dk ⟨g,r,_,_,_,_,rfl,md⟩) λi' j' o' p q bz g b'=>?_);refine cw (wpS_lift (zd ⟨rfl,?_⟩));refine cw (uu (ZG c hk ox oy sx sy y0 hf g b') ?_);rintro c3 vz ⟨q3,⟨r,i3,j3,o,mg,p,q,rfl,md⟩|⟨i3,j3,o,mg,p,q,rfl,b3⟩⟩
    ·exact dk ⟨q3,r,_,_,_,_,rfl,md⟩
    ·exact cw (v6 q3 λzo q4=>dk ⟨q4,i3,j3,o,_,rfl,b3⟩)
   ·rintro c1 ir ⟨q1,i,j,o,mg,rfl,b⟩
    have:=b.pr
    exact absurd this (by lia)
   ·rintro c1 ir ⟨q1,r,i,j,o,mg,rfl,md⟩
    exact dk (h r _ q1 md)
end
theorem ZD (i:Nat):mergeAt' i=(do
 let z <- get
 let (some (sa,na,pw),some (sb,nb,_)):=((pendingOf z)[i]?,(pendingOf z)[i+1]?)|unsupported "internal:list.sort.pending"
 set (SortSt.mk' (kindOf z) (arrOf z) (((pendingOf z).setIfInBounds i (sa,na+nb,pw)).eraseIdxIfInBounds (i+1)) (gallopOf z) (failedOf z))
 let some k <- lJ false (<- elem' (arrOf z) sb) (arrOf z) sa na 0|return false
 let (sa,na):=(sa+k,na-k)
 if na==0 then return true
 let some nb <- lJ true (<- elem' (arrOf z) (sa+na-1)) (arrOf z) sb nb (nb-1)|return false
 if nb==0 then return true
 let x:=(arrOf z).extract sa sb
 let y:=(arrOf z).extract sb (sb+nb)
 let m <- if na<=nb then zX x y else A1 x y
 modify λz=>setArr z (m.toList.zipIdx.foldl (λa (p,j)=>a.setIfInBounds (sa+j) p) (arrOf z))
 return (failedOf (<- get)).isNone):=rfl
variable {rk:Keyed→Int}
theorem ZC {σ:Type}{M:Model}{A:bc}{E:ax->ay->Prop}{s:ay}{a b:σ}{Q:PUnit->σ->Prop}(h:Q ⟨⟩ a):wpS M A E s (set a:StateT σ Sem PUnit) Q b:=by
 unfold wpS;rw[StateT.run_set];exact cy ⟨rfl,h⟩
theorem Nf (o:Nat):∀(m:List Keyed) (n:Nat) (a:Array Keyed) (t:Nat),o+n+m.length<=a.size->
  ((m.zipIdx n).foldl (λa (p,j)=>a.setIfInBounds (o+j) p) a)[t]? = if o+n<=t/\t<o+n+m.length then m[t-(o+n)]? else a[t]?
 |[],n,a,t,_=>by
  show a[t]? = _;rw[if_neg (λz=>Nat.not_lt_of_ge z.1 z.2)]
 |p::m,n,a,t,h=>by
  rw[List.zipIdx_cons,AS];have h':o+(n+1)+m.length<=(a.setIfInBounds (o+n) p).size:=by rw[Array.size_setIfInBounds];simp at h;lia
  have ih:=Nf o m (n+1) (a.setIfInBounds (o+n) p) t h';refine ih.trans ?_;have hs:o+n<a.size:=by simp at h;lia
  rw[Array.getElem?_setIfInBounds];by_cases e:o+n=t
  ·subst e
   rw[if_neg (by lia),if_pos rfl,if_pos hs,if_pos (by simp),Nat.sub_self];rfl
  ·rw[if_neg e]
   by_cases c:o+n<=t/\t<o+n+(p::m).length
   ·rw[if_pos c,if_pos (by simp at c;lia)]
    rw[show t-(o+n)=(t-(o+(n+1)))+1 by lia];rfl
   ·rw[if_neg c,if_neg (by simp at c ⊢;lia)]
theorem Nd {a:Array Keyed}{lo hi:Nat}(u:Up rk a lo hi)(hh:hi<=a.size):Sd rk (a.extract lo hi).toList:=by
 unfold Sd;rw[Bb];intro i j jf hj ik;have h2:lo+j<hi:=by simp at hj;lia
 have:=u (lo+i) (lo+j) (by lia) (by lia) h2
 rw[cK (by lia:lo+i<a.size),cK (by lia:lo+j<a.size)]at this;simpa using this
theorem Nc {a:Array Keyed}{lo mid hi:Nat}(u:Up rk a lo mid)(v:Up rk a mid hi)(h0:lo<mid)(h1:mid<hi)(h:Kr rk a (mid-1)<=Kr rk a mid):Up rk a lo hi:=λi j jf ik hj=>by
 rcases qp j mid with z|z
 ·exact u i j jf ik z
 ·rcases qp i mid with y|y
  ·have a1:=u i (mid-1) jf (by lia) (by lia)
   have a2:=v mid j (da _) z hj;lia
  ·exact v i j y ik hj
theorem Nb {a:Array Keyed}{lo hi t:Nat}(h:t<hi-lo)(hh:hi<=a.size):Kr rk (a.extract lo hi) t=Kr rk a (lo+t):=by
 refine mX ?_;rw[Array.getElem?_extract_of_lt (by lia)];exact (getElem?_pos a (lo+t) (by lia)).symm
section
variable {κ:SortKind}{a0:Array Keyed}{pd:Array (Nat×Nat×Nat)}{st:SortSt}{prog:ba}{w:bd}{A:bc}{E:ax→ay→Prop}{s:ay}{Ok:Keyed→Prop}
theorem ZA {a m:Array Keyed}{p x e:Nat}(hpx:p<=x)(hxe:x<=e)(he:e<=a.size)(md:fH rk (a.extract p x) (a.extract x e) m) :
  let r:=m.toList.zipIdx.foldl (λa (q,j)=>a.setIfInBounds (p+j) q) a
  r.Perm a/\(∀t,(t<p∨e<=t)->Kr rk r t=Kr rk a t)/\(∀t t',p<=t->t<=t'->t'<e->Kr rk r t<=Kr rk r t')/\∀t,p<=t->t<e->∃t',p<=t'/\t'<e/\Kr rk r t=Kr rk a t':=by
 intro r;have ml:m.toList.length=e-p:=by
  rw[md.1.length_eq];simp;lia
 have g:∀t,r[t]? = if p<=t/\t<e then m[t-p]? else a[t]?:=λt=>by
  have:=Nf p m.toList 0 a t (by lia)
  rw[show r=(m.toList.zipIdx 0).foldl (λa (q,j)=>a.setIfInBounds (p+j) q) a from rfl,this];simp only[Nat.add_zero,ml,show p+(e-p)=e by lia,CQ]
 have ex:(a.extract p x).toList++(a.extract x e).toList=(a.toList.take e).drop p:=by
  rw[nA,nA,BU,BU,BU];rw[show x=p+(x-p) by lia,<- List.drop_drop,show p+(x-p)-p=x-p by lia,show e-(p+(x-p))=(e-p)-(x-p) by lia]
  have:=yc (x-p) ((a.toList.drop p).take (e-p))
  rw[List.take_take,BU,Nat.min_eq_left (by lia)]at this;exact this
 have rl:r.toList=a.toList.take p++(m.toList++a.toList.drop e):=by
  apply List.ext_getElem?;intro t;rw[CQ,g];rcases qp t p with z|z
  ·rw[if_neg (by lia),Az (by simp;lia),List.getElem?_take_of_lt z,CQ]
  ·rw[CZ (by simp;lia)]
   have lp:(a.toList.take p).length=p:=by simp;lia
   rw[lp];rcases qp t e with y|y
   ·rw[if_pos ⟨z,y⟩,Az (by lia),CQ]
   ·rw[if_neg (by lia),CZ (by lia),ml,List.getElem?_drop,CQ]
    congr 1;lia
 have mp:m.toList.Perm ((a.toList.take e).drop p):=ex▸md.1;refine⟨?_,λt ht=>mX (by rw[g,if_neg (by lia)]),λt t' h1 h2 h3=>?_,λt h1 h2=>?_⟩
 ·refine Array.perm_iff_toList_perm.mpr ?_
  rw[rl]
  have:a.toList=a.toList.take p++((a.toList.take e).drop p++a.toList.drop e):=by
   rw[A5 _ (by lia:p<=e)];exact (yc p _).symm
  conv=>rhs;rw[this]
  exact (mp.append_right _).append_left _
 ·have e1:Kr rk r t=Kr rk m (t-p):=mX (by rw[g,if_pos (by lia)])
  have e2:Kr rk r t'=Kr rk m (t'-p):=mX (by rw[g,if_pos (by lia)]);rw[e1,e2];have ms:m.size=e-p:=by rw[<- ml];simp
  exact md.2.up 0 m.size (da _) (t-p) (t'-p) (by lia) (by lia) (by lia)
 ·have e1:Kr rk r t=Kr rk m (t-p):=mX (by rw[g,if_pos (by lia)])
  have ms:m.size=e-p:=by rw[<- ml];simp
  have hm:t-p<m.size:=by lia
  have mm:m[t-p]∈(a.toList.take e).drop p:=mp.mem_iff.mp (by simp)
  obtain⟨t',q1,q2,q3,q4⟩:=rK (rk:=rk) mm
  exact⟨t',q1,q2,by rw[e1,cK hm];exact q4⟩
theorem Zz (c:cV prog w A E s κ Ok rk)(o:bR Ok a0)(b:SB κ a0 pd st){i sa na pw sb nb Ew:Nat}{Q:Bool->SortSt->Prop}(e1:pd[i]? = some (sa,na,pw))(e2:pd[i+1]? = some (sb,nb,Ew))(hs:sb=sa+na)(n0:0<na)(m0:0<nb)(hz:sb+nb<=a0.size)(u:Up rk (arrOf st) sa sb)(v:Up rk (arrOf st) sb (sb+nb))(h:∀bz,SB κ a0 ((pd.setIfInBounds i (sa,na+nb,pw)).eraseIdxIfInBounds (i+1)) bz->Up rk (arrOf bz) sa (sb+nb)->(∀t,(t<sa∨sb+nb<=t)->Kr rk (arrOf bz) t=Kr rk (arrOf st) t)->Q true bz):wpS (model prog w) A E s (mergeAt' i) Q st:=by
 have sz:=b.sz;rw[ZD];refine cw (wpS_get ?_);rw[b.pd,e1,e2];dsimp only;refine cw (ZC ?_);generalize Bv:SortSt.mk' (kindOf st) (arrOf st) ((pd.setIfInBounds i (sa,na+nb,pw)).eraseIdxIfInBounds (i+1)) (gallopOf st) (failedOf st)=ir;have b1:SB κ a0 ((pd.setIfInBounds i (sa,na+nb,pw)).eraseIdxIfInBounds (i+1)) ir:=by rw[<- Bv];exact⟨b.pm,b.kd,b.ok,rfl⟩
 have ar:arrOf ir=arrOf st:=by rw[<- Bv]
 have oa:=b.all o;have Bw:sb<(arrOf st).size:=by lia
 refine cw (d9 Bw (cw (oP c b1.kd (oa _ (vp Bw)) oa n0 (by lia) (hs▸u) λk k1 k2 k3=>?_)));dsimp only;have Dy:∀t,sa<=t->t<sa+k->Kr rk (arrOf st) t<=Kr rk (arrOf st) sb:=λt t1 t2=>by
  have:=k2 (t-sa) (by lia)
  rw[oR,kf,show sa+(t-sa)=t by lia]at this;rw[cK Bw];exact this
 have QX:∀t,sa+k<=t->t<sb->Kr rk (arrOf st) sb<Kr rk (arrOf st) t:=λt t1 t2=>by
  have:=k3 (t-sa) (by lia) (by lia)
  rw[oR,CU,show sa+(t-sa)=t by lia]at this;rw[cK Bw];lia
 by_cases ek:(na-k==0)=true
 ·rw[if_pos ek]
  have ek:na-k=0:=by simpa using ek
  refine dk (h ir b1 ?_ λt _=>by rw[ar]);rw[ar];exact Nc u v (by lia) (by lia) (Dy (sb-1) (by lia) (by lia))
 ·rw[if_neg ek]
  have ek:na-k≠0:=by simpa using ek
  have el:sa+k+(na-k)-1=sb-1:=by lia
  rw[el];have ED:sb-1<(arrOf st).size:=by lia
  refine cw (d9 ED (cw (oP c b1.kd (oa _ (vp ED)) oa (by lia) (by lia) v λl l1 l2 l3=>?_)));dsimp only;have Ia:∀t,sb<=t->t<sb+l->Kr rk (arrOf st) t<Kr rk (arrOf st) (sb-1):=λt t1 t2=>by
   have:=l2 (t-sb) (by lia)
   rw[oS,kf,show sb+(t-sb)=t by lia]at this;rw[cK ED];exact this
  have Fs:∀t,sb+l<=t->t<sb+nb->Kr rk (arrOf st) (sb-1)<=Kr rk (arrOf st) t:=λt t1 t2=>by
   have:=l3 (t-sb) (by lia) (by lia)
   rw[oS,CU,show sb+(t-sb)=t by lia]at this;rw[cK ED];lia
  by_cases en:(l==0)=true
  ·rw[if_pos en]
   have en:l=0:=by simpa using en
   subst en;refine dk (h ir b1 ?_ λt _=>by rw[ar]);rw[ar];exact Nc u v (by lia) (by lia) (Fs sb (by lia) (by lia))
  ·rw[if_neg en]
   have en:l≠0:=by simpa using en
   have sub:∀p e,bR Ok ((arrOf st).extract p e):=λp e z hz=>oa z (by
    have:z∈((arrOf st).extract p e).toList:=Array.mem_toList_iff.mpr hz
    rw[nA]at this
    exact Array.mem_toList_iff.mp (CP (List.mem_of_mem_drop this)))
   have sx:Sd rk ((arrOf st).extract (sa+k) sb).toList:=Nd (λi j h1 h2 h3=>u i j (by lia) h2 h3) (by lia);have sy:Sd rk ((arrOf st).extract sb (sb+l)).toList:=Nd (λi j h1 h2 h3=>v i j h1 h2 (by lia)) (by lia);have x0:0<((arrOf st).extract (sa+k) sb).size:=by simp;lia
   have y0:0<((arrOf st).extract sb (sb+l)).size:=by simp;lia
   have hf:∀t∈((arrOf st).extract (sa+k) sb).toList,rk ((arrOf st).extract sb (sb+l))[0]<=rk t:=λt ht=>by
    rw[nA]at ht
    obtain⟨t',q1,q2,q3,q4⟩:=rK (rk:=rk) ht
    rw[q4,<- cK (rk:=rk) y0,Nb (by lia) (by lia)];exact Int.le_of_lt (QX t' q1 q2)
   have hl:∀t∈((arrOf st).extract sb (sb+l)).toList,rk t<=rk ((arrOf st).extract (sa+k) sb)[((arrOf st).extract (sa+k) sb).size-1]:=λt ht=>by
    rw[nA]at ht
    obtain⟨t',q1,q2,q3,q4⟩:=rK (rk:=rk) ht
    have e:((arrOf st).extract (sa+k) sb).size=sb-(sa+k):=by simp;lia
    rw[q4,<- cK (rk:=rk) (by lia),Nb (by lia) (by lia),e,show sa+k+(sb-(sa+k)-1)=sb-1 by lia];exact Int.le_of_lt (Ia t' q1 q2)
   have fin:∀(m:Array Keyed) (fe:SortSt),Gq ir fe->fH rk ((arrOf st).extract (sa+k) sb) ((arrOf st).extract sb (sb+l)) m->
     wpS (model prog w) A E s (do modify (λz=>setArr z (m.toList.zipIdx.foldl (λa (p,j)=>a.setIfInBounds (sa+k+j) p) (arrOf z)));return (failedOf (<- get)).isNone) Q fe:=λm fe g md=>by
    have b2:SB κ a0 ((pd.setIfInBounds i (sa,na+nb,pw)).eraseIdxIfInBounds (i+1)) fe:=⟨by rw[g.ar];exact b1.pm,g.kd.trans b1.kd,g.ok.trans b1.ok,g.pd.trans b1.pd⟩;have a2:arrOf fe=arrOf st:=g.ar.trans ar
    obtain⟨r1,r2,r3,r4⟩:=ZA (by lia) (by lia) (by lia) md
    generalize hr:m.toList.zipIdx.foldl (λa (q,j)=>a.setIfInBounds (sa+k+j) q) (arrOf st)=r at r1 r2 r3 r4;refine cw (wpS_modify (cw (wpS_get (dk ?_))));have b3:=b2.put (xs:=m.toList.zipIdx.foldl (λa (q,j)=>a.setIfInBounds (sa+k+j) q) (arrOf fe)) (by rw[a2,hr];exact r1);have er:arrOf (setArr fe (m.toList.zipIdx.foldl (λa (q,j)=>a.setIfInBounds (sa+k+j) q) (arrOf fe)))=r:=by rw[<- hr,a2]
    have tr:(failedOf (setArr fe (m.toList.zipIdx.foldl (λa (q,j)=>a.setIfInBounds (sa+k+j) q) (arrOf fe)))).isNone=true:=by rw[b3.ok];rfl
    rw[tr];refine h _ b3 (λi j hi ik hj=>?_) λt ht=>?_
    ·rw[er]
     have bl:∀t,sa<=t->t<sa+k->∀t',sa+k<=t'->t'<sb+l->Kr rk (arrOf st) t<=Kr rk (arrOf st) t':=λt t1 t2 t' t3 t4=>by
      rcases qp t' sb with z|z
      ·exact u t t' t1 (by lia) z
      ·have a1:=Dy t t1 t2
       have a2:=v sb t' (da _) z (by lia);lia
     have br:∀t,sb+l<=t->t<sb+nb->∀t',sa+k<=t'->t'<sb+l->Kr rk (arrOf st) t'<=Kr rk (arrOf st) t:=λt t1 t2 t' t3 t4=>by
      rcases qp t' sb with z|z
      ·have a1:=u t' (sb-1) (by lia) (by lia) (by lia)
       have a2:=Fs t t1 t2;lia
      ·exact v t' t z (by lia) t2
     have VN:∀t,sa<=t->t<sa+k->∀t',sb+l<=t'->t'<sb+nb->Kr rk (arrOf st) t<=Kr rk (arrOf st) t':=λt t1 t2 t' t3 t4=>by
      have a1:=bl t t1 t2 (sb-1) (by lia) (by lia);have a2:=Fs t' t3 t4;lia
     rcases qp i (sa+k) with z|z
     ·rw[r2 i (.inl z)]
      rcases qp j (sa+k) with y|y
      ·rw[r2 j (.inl y)];exact u i j hi ik (by lia)
      ·rcases qp j (sb+l) with x|x
       ·obtain⟨t',q1,q2,q3⟩:=r4 j y x
        rw[q3];exact bl i hi z t' q1 q2
       ·rw[r2 j (.inr x)];exact VN i hi z j x hj
     ·rcases qp j (sb+l) with x|x
      ·exact r3 i j z ik x
      ·rw[r2 j (.inr x)]
       rcases qp i (sb+l) with y|y
       ·obtain⟨t',q1,q2,q3⟩:=r4 i z y
        rw[q3];exact br j x hj t' q1 q2
       ·rw[r2 i (.inr y)];exact v i j (by lia) ik hj
    ·rw[er];exact r2 t (by lia)
   by_cases hle:na-k<=l
   ·rw[if_pos hle]
    exact cw (ZI c b1.kd (sub _ _) (sub _ _) sx sy x0 y0 hf hl λm fe g md=>fin m fe g md)
   ·rw[if_neg hle]
    exact cw (ZE c b1.kd (sub _ _) (sub _ _) sx sy x0 y0 hf hl λm fe g md=>fin m fe g md)
end
def Ch:Nat->List (Nat×Nat)->Nat->Prop
 |a,[],b=>a=b
 |a,(p,n)::r,b=>p=a/\0<n/\Ch (a+n) r b
theorem Ch.split:∀{l l':List (Nat×Nat)}{a b:Nat},Ch a (l++l') b->∃m,Ch a l m/\Ch m l' b
 |[],_,a,_,h=>⟨a,rfl,h⟩
 |(p,n)::l,l',a,b,h=>by
  obtain⟨h1,h2,h3⟩:=h
  obtain⟨m,q1,q2⟩:=Ch.split h3
  exact⟨m,⟨h1,h2,q1⟩,q2⟩
theorem Ch.join:∀{l l':List (Nat×Nat)}{a m b:Nat},Ch a l m->Ch m l' b->Ch a (l++l') b
 |[],_,a,m,_,h,h'=>by cases (show a=m from h);exact h'
 |(p,n)::l,l',a,m,b,h,h'=>⟨h.1,h.2.1,Ch.join h.2.2 h'⟩
theorem Ch.len:∀{l:List (Nat×Nat)}{a b:Nat},Ch a l b->a+l.length<=b
 |[],a,b,h=>by cases (show a=b from h);simp
 |(p,n)::l,a,b,h=>by
  have:=Ch.len h.2.2
  have:=h.2.1
  simp;lia
theorem Ch.mem:∀{l:List (Nat×Nat)}{a b:Nat}{r:Nat×Nat},Ch a l b->r∈l->a<=r.1/\r.1+r.2<=b/\0<r.2
 |(p,n)::l,a,b,r,h,hr=>by
  obtain⟨h1,h2,h3⟩:=h
  have hb:=Ch.len h3;rcases eg.mp hr with e|e
  ·subst e
   have h1:p=a:=h1;refine⟨?_,?_,h2⟩
   ·show a<=p;lia
   ·show p+n<=b;lia
  ·have:=Ch.mem h3 e
   exact⟨by lia,this.2.1,this.2.2⟩
def sk (pd:Array (Nat×Nat×Nat)):List (Nat×Nat):=pd.toList.map λr=>(r.1,r.2.1)
theorem vC (pd:Array (Nat×Nat×Nat)):(sk pd).length=pd.size:=by simp[sk]
structure Rn (rk:Keyed->Int)(a:Array Keyed)(l:List (Nat×Nat))(lo:Nat):Prop where
 ch:Ch 0 l lo
 up:∀r∈l,Up rk a r.1 (r.1+r.2)
variable {rk:Keyed→Int}{κ:SortKind}{a0:Array Keyed}{pd:Array (Nat×Nat×Nat)}{st:SortSt}{prog:ba}{w:bd}{A:bc}{E:ax→ay→Prop}{s:ay}{Ok:Keyed→Prop}
theorem Rn.same {a b:Array Keyed}{l:List (Nat×Nat)}{lo:Nat}(h:Rn rk a l lo)(e:∀t,t<lo->Kr rk b t=Kr rk a t):Rn rk b l lo:=⟨h.ch,λr hr i j hi ik hj=>by
 have:=(h.ch.mem hr).2.1
 rw[e i (by lia),e j (by lia)]
 exact h.up r hr i j hi ik hj⟩
theorem Na (c:cV prog w A E s κ Ok rk)(o:bR Ok a0)(b:SB κ a0 pd st){i lo:Nat}{Q:Bool->SortSt->Prop}(hi:i+1<pd.size)(hz:lo<=a0.size)(rn:Rn rk (arrOf st) (sk pd) lo)(h:∀xq bz,SB κ a0 xq bz->xq.size+1=pd.size->Rn rk (arrOf bz) (sk xq) lo->(∀t,lo<=t->Kr rk (arrOf bz) t=Kr rk (arrOf st) t)->Q true bz):wpS (model prog w) A E s (mergeAt' i) Q st:=by
 obtain⟨⟨sa,na,pw⟩,e1⟩:∃r,pd[i]? = some r:=⟨pd[i],getElem?_pos pd i (by lia)⟩
 obtain⟨⟨sb,nb,Ew⟩,e2⟩:∃r,pd[i+1]? = some r:=⟨pd[i+1],getElem?_pos pd (i+1) hi⟩
 have d1:pd.toList=pd.toList.take i++(sa,na,pw)::(sb,nb,Ew)::pd.toList.drop (i+2):=by
  have hl:i<pd.toList.length:=by simp;lia
  have qe:i+1<pd.toList.length:=by simpa using hi
  have g1:pd.toList[i]=(sa,na,pw):=by rw[getElem?_pos pd i (by lia)]at e1;simpa using e1
  have g2:pd.toList[i+1]=(sb,nb,Ew):=by rw[getElem?_pos pd (i+1) hi]at e2;simpa using e2
  have:=yc i pd.toList
  rw[List.drop_eq_getElem_cons hl,List.drop_eq_getElem_cons qe,g1,g2]at this;exact this.symm
 have li:(pd.toList.take i).length=i:=by simp;lia
 have d2:((pd.setIfInBounds i (sa,na+nb,pw)).eraseIdxIfInBounds (i+1)).toList=pd.toList.take i++(sa,na+nb,pw)::pd.toList.drop (i+2):=by
  have e:((pd.setIfInBounds i (sa,na+nb,pw)).eraseIdxIfInBounds (i+1)).toList=(pd.toList.set i (sa,na+nb,pw)).eraseIdx (i+1):=by
   unfold Array.eraseIdxIfInBounds;rw[dif_pos (by rw[Array.size_setIfInBounds];exact hi),Array.toList_eraseIdx,Array.toList_setIfInBounds]
  rw[e]
  conv=>lhs;rw[d1]
  rw[List.set_append_right _ _ (by lia),li,Nat.sub_self,List.set_cons_zero,List.eraseIdx_append_of_length_le (by lia),li,show i+1-i=1 by lia];rfl
 have k1:sk pd=(pd.toList.take i).map (λr=>(r.1,r.2.1))++(sa,na)::(sb,nb)::(pd.toList.drop (i+2)).map (λr=>(r.1,r.2.1)):=by
  unfold sk;conv=>lhs;rw[d1]
  simp
 have k2:sk ((pd.setIfInBounds i (sa,na+nb,pw)).eraseIdxIfInBounds (i+1))=(pd.toList.take i).map (λr=>(r.1,r.2.1))++(sa,na+nb)::(pd.toList.drop (i+2)).map (λr=>(r.1,r.2.1)):=by
  unfold sk;rw[d2];simp
 have ch:=rn.ch;rw[k1]at ch
 obtain⟨m,c1,c2⟩:=ch.split
 obtain⟨f1,f2,f3,f4,f5⟩:=c2
 have f1:sa=m:=f1;have f3:sb=m+na:=f3;have up:=rn.up;rw[k1]at up;have lo2:=f5.len;refine Zz c o b e1 e2 (by lia) f2 f4 (by lia) (by have:=up (sa,na) (by simp);rw[f3,<- f1];exact this) (up (sb,nb) (by simp)) λbz b' u' fr=>h _ bz b' ?_ ⟨?_,?_⟩ λt ht=>fr t (by lia)
 ·rw[<- vC,<- vC,k1,k2];simp;lia
 ·rw[k2]
  refine c1.join ⟨f1,by lia,?_⟩;rw[<- Nat.add_assoc];exact f5
 ·intro r hr
  rw[k2]at hr;rcases jk.mp hr with z|z
  ·intro p q h1 h2 h3
   have:=(c1.mem z).2.1
   rw[fr p (by lia),fr q (by lia)];exact up r (uc _ z) p q h1 h2 h3
  ·rcases eg.mp z with z|z
   ·subst z
    show Up rk (arrOf bz) sa (sa+(na+nb));rw[show sa+(na+nb)=sb+nb by lia];exact u'
   ·intro p q h1 h2 h3
    have:=(f5.mem z).1
    rw[fr p (by lia),fr q (by lia)];exact up r (ny _ (gc _ (gc _ z))) p q h1 h2 h3
abbrev RS:=Option Unit×Nat
def HM (sz pw:Nat):StateT SortSt Sem (Option Unit×Unit):=forIn [0:sz] ((none,()):Option Unit×Unit) λ_ _=>do
 let z <- get
 match (if (pendingOf z).size>1 then (pendingOf z)[(pendingOf z).size-2]? else none) with
 |some (_,_,o)=>if o<=pw then pure (.done (none,())) else do
   let q <- mergeAt' ((pendingOf z).size-2)
   if (!q)=true then pure (.done (some (),())) else pure (.yield (none,()))
 |_=>pure (.done (none,()))
def jn (sz lo n:Nat):StateT SortSt Sem (ForInStep RS):=do
 let z <- get
 match (pendingOf z).back? with
 |some (s1,n1,_)=>do
  let r <- HM sz (power' sz (2*s1+n1) (2*s1+n1+n1+n) sz)
  match r.1 with
  |some u=>pure (.done (some u,lo))
  |none=>do
   modify λs=>setPending s ((pendingOf s).modify ((pendingOf s).size-1) λx=>(x.1,x.2.1,power' sz (2*s1+n1) (2*s1+n1+n1+n) sz))
   modify λs=>setPending s ((pendingOf s).push (lo,n,0))
   pure (.yield (none,lo+n))
 |_=>do
  modify λs=>setPending s ((pendingOf s).push (lo,n,0))
  pure (.yield (none,lo+n))
def Hy (sz mr lo:Nat):StateT SortSt Sem (ForInStep RS):=if lo >= sz then pure (.done (none,lo)) else do
 match <- countRun' lo (sz-lo) with
 |some n=>
  if n<mr then
   liftM (rule "list.sort.binary-insertion")
   let q <- binarySort' lo (min (sz-lo) mr) n
   if (!q)=true then pure (.done (some (),lo)) else jn sz lo (min (sz-lo) mr)
  else jn sz lo n
 |_=>pure (.done (some (),lo))
def MZ (sz:Nat):StateT SortSt Sem (Option Unit×Unit):=forIn [0:sz] ((none,()):Option Unit×Unit) λ_ _=>do
 let z <- get
 if (pendingOf z).size<=1 then pure (.done (none,())) else do
  let q <- mergeAt' (if ((if (pendingOf z).size-2>0 then (pendingOf z)[(pendingOf z).size-2-1]?.map (·.2.1) else none).any (·<((pendingOf z)[(pendingOf z).size-2+1]?.elim 0 (·.2.1))))=true then (pendingOf z).size-2-1 else (pendingOf z).size-2)
  if (!q)=true then pure (.done (some (),())) else pure (.yield (none,()))
theorem Yn:sortRuns'=(do
 let z <- get
 let r <- (forIn [0:(arrOf z).size] ((none,0):RS) λ_ r=>Hy (arrOf z).size (minRun' (arrOf z).size (arrOf z).size 0) r.2)
 match r.1 with
 |some u=>pure u
 |none=>do
  let q <- MZ (arrOf z).size
  match q.1 with
  |some u=>pure u
  |none=>pure ()):=by kernel_rfl
theorem MY {lo nn:Nat}(n1:0<nn){pd:Array (Nat×Nat×Nat)}{a:Array Keyed}(r:Rn rk a (sk pd) lo)(u:Up rk a lo (lo+nn)):Rn rk a (sk (pd.push (lo,nn,0))) (lo+nn):=by
 have e:sk (pd.push (lo,nn,0))=sk pd++[(lo,nn)]:=by simp[sk]
 refine⟨by rw[e];exact r.ch.join ⟨rfl,n1,rfl⟩,λq hq=>?_⟩;rw[e]at hq;rcases jk.mp hq with z|z
 ·exact r.up q z
 ·rw[eh]at z
  subst z;exact u
theorem MX (c:cV prog w A E s κ Ok rk)(o:bR Ok a0)(b:SB κ a0 pd st){lo n:Nat}{Q:ForInStep RS->SortSt->Prop}(n1:1<=n)(n2:lo+n<=a0.size)(rn:Rn rk (arrOf st) (sk pd) lo)(u:Up rk (arrOf st) lo (lo+n))(h:∀xq bz,SB κ a0 xq bz->Rn rk (arrOf bz) (sk xq) (lo+n)->Q (.yield (none,lo+n)) bz):wpS (model prog w) A E s (jn a0.size lo n) Q st:=by
 unfold jn;refine cw (wpS_get ?_);rw[b.pd];cases hb:pd.back? with
 |none=>exact cw (wpS_modify (dk (h (pd.push (lo,n,0)) _ ⟨b.pm,b.kd,b.ok,by show (pendingOf st).push _=_;rw[b.pd]⟩ (MY n1 rn u))))
 |some q=>
  obtain⟨s1,m1,q3⟩:=q
  dsimp only;generalize power' a0.size (2*s1+m1) (2*s1+m1+m1+n) a0.size=pw;unfold HM
  refine cw (uu (tj
   (I:=λ_ r bz=>r=(none,())/\∃pd,SB κ a0 pd bz/\Rn rk (arrOf bz) (sk pd) lo/\Up rk (arrOf bz) lo (lo+n))
   (Q:=λr bz=>r=(none,())/\∃pd,SB κ a0 pd bz/\Rn rk (arrOf bz) (sk pd) lo/\Up rk (arrOf bz) lo (lo+n)) ?_ (λ_ _ z=>z) ⟨rfl,pd,b,rn,u⟩) ?_)
  ·rintro t r zo _ ht ⟨rfl,uh,b4,r4,u4⟩
   refine cw (wpS_get ?_);rw[b4.pd];cases ho:(if uh.size>1 then uh[uh.size-2]? else none) with
   |none=>exact dk ⟨rfl,uh,b4,r4,u4⟩
   |some z=>
    obtain⟨z1,z2,z3⟩:=z
    have h1:uh.size>1:=by
     by_cases y:uh.size>1
     ·exact y
     ·rw[if_neg y]at ho;cases ho
    dsimp only;by_cases hp:z3<=pw
    ·rw[if_pos hp]
     exact dk ⟨rfl,uh,b4,r4,u4⟩
    ·rw[if_neg hp]
     refine cw (Na c o b4 (by lia) (by lia) r4 λQz AE b5 _ r5 f5=>?_);exact dk ⟨rfl,Qz,b5,r5,λi j hi ik hj=>by rw[f5 i hi,f5 j (by lia)];exact u4 i j hi ik hj⟩
  ·rintro r zo ⟨rfl,uh,b4,r4,u4⟩
   refine cw (wpS_modify (cw (wpS_modify (dk ?_))));have e:sk (uh.modify (uh.size-1) λx=>(x.1,x.2.1,pw))=sk uh:=by
    unfold sk;rw[Array.toList_modify];apply List.ext_getElem?;intro t;rw[ij,ij,List.getElem?_modify];cases uh.toList[t]? with
    |none=>simp
    |some v=>by_cases y:uh.size-1=t<;>simp[y]
   refine h ((uh.modify (uh.size-1) λx=>(x.1,x.2.1,pw)).push (lo,n,0)) _ ⟨b4.pm,b4.kd,b4.ok,?_⟩ (MY n1 (by rw[e];exact r4) u4);show ((pendingOf zo).modify ((pendingOf zo).size-1) λx=>(x.1,x.2.1,pw)).push _=_;rw[b4.pd]
theorem Ym (c:cV prog w A E s κ Ok rk)(o:bR Ok a0)(b:SB κ a0 #[] st){Q:Unit->SortSt->Prop}(h2:1<=a0.size)(h:∀bz,(arrOf bz).Perm a0->failedOf bz=none->Up rk (arrOf bz) 0 a0.size->Q () bz):wpS (model prog w) A E s sortRuns' Q st:=by
 rw[Yn];refine cw (wpS_get ?_);rw[b.sz];generalize minRun' a0.size a0.size 0=mr
 refine cw (uu (tj
  (I:=λx r bz=>∃lo pd,r=(none,lo)/\x<=lo/\lo<=a0.size/\SB κ a0 pd bz/\Rn rk (arrOf bz) (sk pd) lo)
  (Q:=λr bz=>∃pd,r=(none,a0.size)/\SB κ a0 pd bz/\Rn rk (arrOf bz) (sk pd) a0.size) ?_ ?_ ⟨0,#[],rfl,da _,lh _,b,⟨rfl,λr hr=>absurd hr (by simp[sk])⟩⟩) ?_)
 ·rintro x r ir _ hx ⟨lo,pd,rfl,xl,lz,b1,rn⟩
  unfold Hy;dsimp only;by_cases hd:lo >= a0.size
  ·rw[if_pos hd]
   have e:lo=a0.size:=by lia
   subst e;exact dk ⟨pd,rfl,b1,rn⟩
  ·rw[if_neg hd]
   refine cw (ZP c o b1 (by lia) (by lia) λn fe b2 n1 n2 u2 l2=>?_);have zq:=rn.same l2;dsimp only;by_cases Il:n<mr
   ·rw[if_pos Il]
    refine cw (wpS_lift (zd ⟨rfl,?_⟩));refine cw (ZO c o b2 (by lia) (by lia) u2 λvz b3 u3 l3=>?_);rw[if_neg (by decide)];exact MX c o b3 (by lia) (by lia) (zq.same l3) u3 λxq bz b' r'=>⟨_,xq,rfl,by lia,by lia,b',r'⟩
   ·rw[if_neg Il]
    exact MX c o b2 n1 (by lia) zq u2 λxq bz b' r'=>⟨lo+n,xq,rfl,by lia,by lia,b',r'⟩
 ·rintro r ir ⟨lo,pd,rfl,xl,lz,b1,rn⟩
  have e:lo=a0.size:=by lia
  subst e
  exact⟨pd,rfl,b1,rn⟩
 ·rintro r ir ⟨pd,rfl,b1,rn⟩
  dsimp only;unfold MZ
  refine cw (uu (tj
   (I:=λt r bz=>r=(none,())/\∃pd,SB κ a0 pd bz/\Rn rk (arrOf bz) (sk pd) a0.size/\(pd.size+t<=a0.size∨pd.size<=1))
   (Q:=λr bz=>r=(none,())/\∃pd,SB κ a0 pd bz/\Rn rk (arrOf bz) (sk pd) a0.size/\pd.size<=1) ?_ ?_ ⟨rfl,pd,b1,rn,.inl (by have:=rn.ch.len;rw[vC]at this;lia)⟩) ?_)
  ·rintro t r fe _ ht ⟨rfl,pd,b2,zq,pr⟩
   refine cw (wpS_get ?_);rw[b2.pd];by_cases h1:pd.size<=1
   ·rw[if_pos h1]
    exact dk ⟨rfl,pd,b2,zq,h1⟩
   ·rw[if_neg h1]
    refine cw (Na c o b2 ?_ (da _) zq λxq vz b3 sz3 Qc _=>?_)
    ·split<;>split<;>lia
    ·exact dk ⟨rfl,xq,b3,Qc,by lia⟩
  ·rintro r fe ⟨rfl,pd,b2,zq,pr⟩
   exact⟨rfl,pd,b2,zq,by lia⟩
  ·rintro r fe ⟨rfl,pd,b2,zq,pr⟩
   refine dk (h fe b2.pm b2.ok ?_);have ch:=zq.ch;have up:=zq.up;rw[<- vC]at pr;cases e:sk pd with
   |nil=>rw[e]at ch;exact absurd (show 0=a0.size from ch) (by lia)
   |cons r l=>
    rw[e]at ch up pr;have el:l = []:=Dc (by have:=pr;rw[sj]at this;lia);subst el
    obtain⟨p,n⟩:=r
    obtain⟨q1,q2,q3⟩:=ch
    have q1:p=0:=q1;have q3:0+n=a0.size:=q3;subst q1
    have:=up (0,n) (by simp)
    rw[<- q3];exact this
end SO
namespace L2
open PySem PySem.Spec PyProof.Rows SO
abbrev eU (h:Heap)(a:az)(vs:List ax):Heap:=((h.update a (Obj.mapSeq λ_=>#[])).push (seqObj "tuple" vs.toArray 0)).push (seqObj "list" #[] 0)
abbrev fJ (h:Heap)(vs:List ax):Heap:=((h.push (seqObj "list" #[] 0)).update h.objs.size (Obj.mapSeq (·++vs.toArray))).push (seqObj "list" vs.toArray 0)
theorem Yl {h:Heap}{vs:List ax}{b:az}{o:Obj}(e:h.get? b=some o):(fJ h vs).get? b=some o:=by
 have l:=fm e;refine ez _ ?_;rw[Heap.get?_update_ne _ _ _ _ (lj l)];exact ez _ e
theorem Yk {h:Heap}{vs:List ax}{a b:az}{o:Obj}(hb:b≠a)(e:h.get? b=some o):(eU h a vs).get? b=some o:=by
 refine ez _ (ez _ ?_);rw[Heap.get?_update_ne _ _ _ _ hb];exact e
theorem Yj {prog:ba}{w:bd}{A:bc}{E:ax->ay->Prop}{s:ay}{a:az}{vs:List ax}{n:Nat}{P:PySem.Fin->ay->Prop}{κ:SortKind}{Ok:Keyed->Prop}{rk:Keyed->Int}(e:s.heap.get? a=some (seqObj "list" vs.toArray n))(h2:2<=vs.length)(big:vs.length<=sizeLine)(hk:∀Q:SortKind->ay->Prop,Q κ { s with heap:=eU s.heap a vs }->wpAny (model prog w) A (keyKind' vs.toArray) Q E { s with heap:=eU s.heap a vs })(c:cV prog w A E { s with heap:=eU s.heap a vs } κ Ok rk)(o:∀v∈vs,Ok (v,v))(q:∀out:List ax,out.Perm vs->out.Pairwise (λu v=>rk (u,u)<=rk (v,v))->P (.done (.ret .none)) { s with heap:=sortedHeap s.heap a vs out.toArray }):wpAny (model prog w) A (Builtin.«list.sort» ⟨[.ref a],[]⟩) P E s:=by
 have la:=fm e;have cc:¬vs.toArray.size<2:=by simpa using h2
 obtain⟨k,ek⟩:∃k,(s.heap.update a (Obj.mapSeq λ_=>#[])).get? a=some (seqObj "list" #[] k):=⟨_,get?_update_seq e λ_=>#[]⟩
 have there:(eU s.heap a vs).get? a=some (seqObj "list" #[] k):=ez _ (ez _ ek);rw[list_sort_plain];apply bw;apply listItems_at e rfl;apply bw;refine listUpdate_at e rfl ?_ (by simpa using big) (lh _);apply bw;apply seqEpoch_at ek rfl;apply bw;refine wpAny_newTuple ?_ big;apply bw;refine wpAny_newList ?_ (lh _);apply xf;simp only[cc,kc];apply bw;refine hk _ ?_;have zl:(vs.toArray.zip vs.toArray).toList=vs.zip vs:=by simp
 apply bw;refine mw (Ym (a0:=vs.toArray.zip vs.toArray) (Q:=λ_ bz=>(arrOf bz).Perm (vs.toArray.zip vs.toArray)/\failedOf bz=none/\Up rk (arrOf bz) 0 (vs.toArray.zip vs.toArray).size) c (λx hx=>?_) ⟨Array.Perm.refl _,rfl,rfl,rfl⟩ (by simp;lia) λbz a1 a2 a3=>⟨a1,a2,a3⟩) ?_ λ_ _ z=>z
 ·have yu:x∈vs.zip vs:=by rw[<- zl];exact Array.mem_toList_iff.mpr hx
  obtain⟨y1,y2⟩:=mem_zip_self yu
  have:=o x.1 y2
  have ex:x=(x.1,x.1):=Prod.ext rfl y1.symm;rw[ex];exact this
 ·rintro⟨⟨⟩,bz⟩ s' ⟨rfl,pm,ok,up⟩
  have lp:(arrOf bz).toList.Perm (vs.zip vs):=by rw[<- zl];exact Array.perm_iff_toList_perm.mp pm
  have out:(arrOf bz).map (·.2)=((arrOf bz).toList.map (·.2)).toArray:=by apply Array.toList_inj.mp;rw[Array.toList_map]
  have op:((arrOf bz).toList.map (·.2)).Perm vs:=by
   have:=lp.map (·.2)
   rw[yT]at this;exact this
  have sz:(arrOf bz).size=vs.length:=by rw[pm.size_eq];simp
  dsimp only;apply bw;apply seqEpoch_at there rfl;apply bw;refine listUpdate_at there rfl ?_ (lh _) (by rw[Array.size_map,sz];exact Nat.le_succ_of_le big);rw[ok];simp only[bne_self_eq_false,mf,kc];refine cy ?_;have hq:=q _ op ?_
  ·rw[<- out]at hq;exact hq
  ·rw[AY,Bb]
   intro i j hi hj ik;have jf:i<(arrOf bz).size:=by simpa using hi
   have By:j<(arrOf bz).size:=by simpa using hj
   have h1:=up i j (lh _) (uw ik) (by simp;lia);rw[cK jf,cK By]at h1;have dg:∀x∈(arrOf bz).toList,(x.2,x.2)=x:=λx hx=>Prod.ext (mem_zip_self (lp.mem_iff.mp hx)).1.symm rfl
   rw[dg _ (AW hi),dg _ (AW hj)];simpa using h1
theorem Yi {vs Hl:List ax}(h:vs.Perm Hl):∀{xs:List V},aI xs vs->∃vx,vx.Perm xs/\aI vx Hl:=by
 induction h with
 |nil=>intro xs r;exact⟨xs,List.Perm.refl _,r⟩
 |cons v _ ih=>
  intro xs r;cases r with
  |cons r t=>
   obtain⟨vx,p,r'⟩:=ih t
   exact⟨_::vx,p.cons _,.cons r r'⟩
 |swap u v l=>
  intro xs r;cases r with
  |cons r t=>cases t with
   |cons r2 t2=>exact⟨_,List.Perm.swap _ _ _,.cons r2 (.cons r t2)⟩
 |trans _ _ Rb Fv=>
  intro xs r
  obtain⟨x1,p1,r1⟩:=Rb r
  obtain⟨x2,p2,r2⟩:=Fv r1
  exact⟨x2,p2.trans p1,r2⟩
end L2
namespace L2
open PySem PySem.Spec PyProof.Rows
section
variable {X:Cx}{ai:List (az×Obj)}{σ:St}{H H':Hp}{s:ay}{a:az}
theorem a6.Hx (I:a6 X ai σ H s)(d:∀b,b≠a->H' b=H b)(ha:∃x,H a=some x)(tup:∀xs,H a≠some (.tup xs))(dq:∀o v,X.cz a≠some (.dq o v))(qb:∀ps,H a≠some (.qb ps))(cj:bS X.prog X.w H' s.heap):a6 X ai σ H' s:=by
 have none:∀b,H b=none->H' b=none:=λb e=>by
  rw[d b λz=>?_];exact e
  obtain⟨x,hx⟩:=ha
  rw[z,hx]at e;cases e
 refine⟨I.ok,I.os,I.bare,⟨I.base.keep,I.base.slot,λb o e n hx=>none b (I.base.free b o e n hx),I.base.there,λb xs q=>?_,λb o u q=>?_,λb ps q=>?_⟩,I.loc,I.cell,none _ I.free,λx c e=>none c (I.ig x c e),λp hp=>?_,cj,I.len⟩
 ·have e:=I.base.fq b xs q
  rw[d b λz=>tup xs (by rw[<- z];exact e)];exact e
 ·rw[d b λz=>dq o u (by rw[<- z];exact q)];exact I.base.mh b o u q
 ·obtain⟨more,e⟩:=I.base.nc b ps q
  exact⟨more,by rw[d b λz=>qb _ (by rw[<- z];exact e)];exact e⟩
 ·obtain⟨e,n,r⟩:=I.pin p hp
  exact⟨e,none _ n,r⟩
end
def Pc (a:az)(o:Obj)(ys:List V):It:=
 ⟨λi H=>(∃u,H a=some (.dq o u))/\i<ys.length,λi H v H'=>H'=H/\ys[i]? = some v,λi H=>(∃u,H a=some (.dq o u))/\i=ys.length⟩
theorem Yh {P:ba}{w:bd}{K:ad}{tg:Expr}{o:Obj}{es:Array DictEntry}{ep:Nat}{ys:List V}(a it:az)(od:o.ExactDict/\o.data = .dict es ep)(vl:aI ys (es.toList.map (·.key))) :
  iH P w K tg (Pc a o ys) [it] it (λi h=>h.IsKeyIter it a i es.size ep):=by
 have hs:es.size=ys.length:=by
  have:=vl.length
  rw[dt,Array.length_toList]at this;exact this.symm
 refine⟨by simp,λi h st b hb=>?_,λi h h' st k=>st.at λo e=>k it (by simp) o e,?_,?_,λ_ _ _ _ _ st q=>wpAny_pyIter_keyiter st q⟩
 ·obtain rfl:b=it:=by simpa using hb
  obtain⟨o,e,c,d⟩:=st
  exact⟨o,e,λv z=>by rw[d]at z;cases z⟩
 ·intro X hP hw hK hc i ai s σ H E I hf st hg
  subst hP hw hK
  obtain⟨⟨u,hu⟩,hi⟩:=hg
  obtain⟨f0,f1,f2,f3,f4,f5⟩:=hf it (by simp)
  refine Raw.turn (I.ok.hd hc) st ⟨o,(I.cj a _ hu).1,od.1,od.2⟩ (λlt h' again sb=>?_) (λge=>absurd ge (by lia));have I1:a6 X ai σ H { s with heap:=h' }:=I.turned (t':=s.toks) (λb o hb e=>(sb.2 b hb).trans e) f0 f1 f3 f4 f5;have hv:=kg hi
  obtain⟨key,hk,rv⟩:=vl.get hv
  obtain rfl:key=es[i].key:=by
   rw[ij]at hk;simp[lt]at hk;exact hk.symm
  obtain⟨o',e,c,d⟩:=id again
  exact⟨es[i].key,rfl,tI (s:={ s with heap:=h' }) e c d (by decide) ⟨_,H,I1,rv,⟨rfl,hv⟩,again,λb hb=>(hf b hb).1⟩⟩
 ·intro X hP hw hK hc i ai s σ H E I hf st hg
  subst hP hw hK
  obtain⟨⟨u,hu⟩,hi⟩:=hg
  obtain⟨f0,f1,f2,f3,f4,f5⟩:=hf it (by simp)
  exact Raw.turn (I.ok.hd hc) st ⟨o,(I.cj a _ hu).1,od.1,od.2⟩ (λlt=>absurd lt (by lia)) λ_ h' eb=>⟨rfl,I.turned (t':=s.toks) (λb o hb e=>eb b o hb e) f0 f1 f3 f4 f5⟩
end L2
namespace Core
open PySem L2 PP
def lK (ns:ag):Bool:=((ns.zip (ns.drop 1)).map λp=>decide (p.1<p.2)).all id
theorem Yg {α β:Type}{l:List α}{f:α->β}{i:Nat}{x:α}(h:l[i]? = some x):(l.take (i+1)).map f=(l.take i).map f++[f x]:=by
 rw[vq,h];simp
theorem nB:∀{ns:ag},lK ns=true->ns.Pairwise (·<·)
 |[],_=>.nil
 |[x],_=>CT _ _
 |x::y::r,h=>by
  have e:lK (x::y::r)=(decide (x<y)&&lK (y::r)):=rfl;rw[e,my]at h;have ih:=nB h.2;refine List.pairwise_cons.mpr ⟨λz hz=>?_,ih⟩;rcases eg.mp hz with rfl|hz
  ·exact zh h.1
  ·exact Int.lt_trans (zh h.1) (List.rel_of_pairwise_cons ih hz)
theorem MW:∀{ns:ag},ns.Pairwise (·<·)->lK ns=true
 |[],_=>rfl
 |[x],_=>rfl
 |x::y::r,h=>by
  have e:lK (x::y::r)=(decide (x<y)&&lK (y::r)):=rfl;have h':=List.pairwise_cons.mp h;rw[e,MW h'.2,Bool.and_true];exact eu (h'.1 y dv)
def mq (ws:ag)(ls:aa)(S:ag)(h:Int):Bool:=!decide (h∈S)&&decide (ws.getD h.toNat 0<=(((bX ls h).filter λx=>decide (x∈S)).length:Int))
def MV (ws:ag)(S:ag):Nat:=(((List.range ws.length).map λ(i:Nat)=>(i:Int)).filter λx=>!decide (x∈S)).length
theorem MU {α:Type}(p q:α->Bool)(h:∀x,q x=true->p x=false):∀L:List α,(L.filter λx=>!p x&&!q x).length+(L.filter q).length=(L.filter λx=>!p x).length
 |[]=>rfl
 |x::r=>by
  have ih:=MU p q h r;cases e1:p x with
  |true=>
   have e2:q x=false:=by
    cases e:q x with
    |false=>rfl
    |true=>have:=h x e;rw[e1]at this;cases this
   simp only[AV,e1,e2,AN,Bool.false_and,mf,kc];exact ih
  |false=>
   cases e2:q x with
   |true=>
    simp only[AV,e1,e2,AN,Bool.not_false,Bool.and_false,mf,kc,if_true,sj];lia
   |false=>
    simp only[AV,e1,e2,Bool.not_false,Bool.and_true,mf,kc,if_true,sj];lia
theorem Yf {ws ns:ag}(hu:ns.Pairwise (·<·))(EG:∀x∈ns,0<=x/\x<(ws.length:Int)):ns.length+MV ws ns<=ws.length:=by
 have nd:ns.Nodup:=hu.imp λh=>Int.ne_of_lt h
 have sub:ns ⊆ ((List.range ws.length).map λ(i:Nat)=>(i:Int)).filter λx=>decide (x∈ns):=λx hx=>by
  refine jv.mpr ⟨gs.mpr ⟨x.toNat,uz.mpr ?_,?_⟩,eu hx⟩
  ·have:=EG x hx;lia
  ·have:=EG x hx;lia
 have h1:=nd.length_le_of_subset sub;have h2:=MU (λ_=>false) (λx=>decide (x∈ns)) (λ_ _=>rfl) ((List.range ws.length).map λ(i:Nat)=>(i:Int));have h3:(((List.range ws.length).map λ(i:Nat)=>(i:Int)).filter λx=>!false&&!decide (x∈ns)).length=MV ws ns:=rfl;have h4:(((List.range ws.length).map λ(i:Nat)=>(i:Int)).filter λx=>!false).length<=ws.length:=by
  refine iw (Cc _ _) ?_;rw[dt,zg];exact da _
 rw[h3]at h2;lia
theorem MT {ns:ag}{i:Nat}{x:PV}(h:(bj ns)[i]? = some x):∃n,x = .int n/\ns[i]? = some n:=by
 rw[ij]at h;cases e:ns[i]? with
 |none=>rw[e]at h;cases h
 |some n=>rw[e]at h;exact⟨n,(ip h).symm,rfl⟩
theorem rO {lo:Int}{n i:Nat}{x:PV}(h:(iQ lo n)[i]? = some x):x = .int (lo+i)/\i<n:=by
 have hi:i<n:=by
  have:=(og.mp h).1
  rwa [dP]at this
 rw[qX hi]at h
 exact⟨(ip h).symm,hi⟩
def de (n:Nat):ag:=(List.range n).map λ(i:Nat)=>(i:Int)
theorem jW (n:Nat):(de n).length=n:=by unfold de;rw[dt,zg]
theorem vD {n i:Nat}(h:i<n):(de n)[i]? = some (i:Int):=by unfold de;rw[ij,CN h];rfl
theorem cN {n:Nat}{x:Int}:x∈de n↔0<=x/\x<(n:Int):=by
 unfold de;rw[gs];constructor
 ·rintro⟨i,hi,rfl⟩
  have:=uz.mp hi
  lia
 ·intro h
  exact⟨x.toNat,uz.mpr (by lia),by lia⟩
theorem MS {α:Type}{l:List α}{p:α->Bool}{i:Nat}{x:α}(h:l[i]? = some x):(l.take (i+1)).filter p=(l.take i).filter p++(if p x=true then [x] else []):=by
 rw[vq,h,tu];congr 1;cases e:p x<;>simp[e]
theorem A6 (a b:ag):bj (a++b)=bj a++bj b:=iz
theorem cL (a:ag):(bj a).length=a.length:=dt _
def gS (ws:ag)(ls:aa):PV:=.tup [.tup (bj ws),.tup (ls.map λl=>.tup [.int l.1,.int l.2])]
structure Wb (ws:ag)(ls:aa):Prop where
 vm:ws.length<=40
 most:ls.length<=1700
 links:∀l∈ls,(0<=l.1/\l.1<ws.length)/\0<=l.2/\l.2<ws.length
def bY (x:PV)(ns:ag):Prop:=x = .tup (bj ns)∨x = .lst (bj ns)
theorem bY.seq {x:PV}{ns:ag}(h:bY x ns):jR x=some (bj ns):=by rcases h with rfl|rfl<;>rfl
theorem A7:∀(ls:aa),cb (ls.map λl=>PV.tup [.int l.1,.int l.2])=true
 |[]=>rfl
 |l::r=>by
  show (flat (.tup [.int l.1,.int l.2])&&cb (r.map λl=>PV.tup [.int l.1,.int l.2]))=true;rw[A7 r];rfl
theorem Ye (ws:ag)(ls:aa):flat (gS ws ls)=true:=by
 show cb [.tup (bj ws),.tup (ls.map λl=>PV.tup [.int l.1,.int l.2])]=true;show (flat (.tup (bj ws))&&(flat (.tup (ls.map λl=>PV.tup [.int l.1,.int l.2]))&&true))=true;show (cb (bj ws)&&(cb (ls.map λl=>PV.tup [.int l.1,.int l.2])&&true))=true;rw[gI,A7];rfl
theorem MR (ns:ag):flat (.tup (bj ns))=true:=gI ns
abbrev jX (t:aY)(N:List Str)(p:aQ):Prop:=∀xs Q,p xs Q->t { nx:=λ_=>Q .cq,rt:=Q } (bB N xs)
def A8 (n:Nat)(x:Int):Bool:=decide (0<=x)&&decide (x<(n:Int))
def dC (n:Nat)(ns:ag):Bool:=lK ns&&(ns.map (A8 n)).all id
theorem Yd {x:PV}{ns:ag}(h:bY x ns):(Slot.sh (flat x) x).tag = .rd->flat x=true:=by
 cases flat x<;>intro z<;>cases z
theorem MQ:∀(xs:List PV),cb xs=true↔∀x∈xs,flat x=true
 |[]=>by simp[cb]
 |x::r=>by
  unfold cb;rw[my,MQ r];simp
def nC (n:Nat)(ls:aa):List PV:=(List.range n).map λ(k:Nat)=>PV.lst (bj (bX ls k))
def MP:aQ:=λxs Q=>∃ws ls,xs = [gS ws ls]/\Wb ws ls/\Q (.lst (nC ws.length ls))
theorem Yc {n:Nat}{ls:aa}{h:Int}(h0:0<=h)(h1:h<(n:Int)):oh (nC n ls) h=some (.lst (bj (bX ls h))):=by
 refine qO h0 ?_;unfold nC;rw[ij,CN (by lia)];show some (PV.lst (bj (bX ls ((h.toNat:Nat):Int))))=_;rw[show ((h.toNat:Nat):Int)=h by lia]
theorem MO {ws:ag}{h:Int}(h0:0<=h)(h1:h<(ws.length:Int)):oh (bj ws) h=some (.int (ws.getD h.toNat 0)):=by
 refine qO h0 ?_
 have:h.toNat<ws.length:=by lia
 rw[ij,kz,kg this];rfl
def fq (rs:ae):List PV:=rs.map λr=>PV.tup (bj r)
theorem A9 {rs:ae}{i:Nat}{x:PV}(h:(fq rs)[i]? = some x):∃r,x = .tup (bj r)/\rs[i]? = some r:=by
 unfold fq at h;rw[ij]at h;cases e:rs[i]? with
 |none=>rw[e]at h;cases h
 |some n=>rw[e]at h;exact⟨n,(ip h).symm,rfl⟩
theorem oT (rs:ae):(fq rs).length=rs.length:=dt _
theorem vE:∀(rs:ae),cb (fq rs)=true
 |[]=>rfl
 |r::t=>by
  show (flat (.tup (bj r))&&cb (fq t))=true;rw[MR,vE t];rfl
theorem fU {n:Nat}{ns:ag}(h:dC n ns=true):lK ns=true/\∀x∈ns,0<=x/\x<(n:Int):=by
 unfold dC at h;rw[my,AX]at h;refine⟨h.1,λx hx=>?_⟩
 have:=h.2 _ (gs.mpr ⟨x,hx,rfl⟩)
 unfold A8 at this;simpa using this
theorem B0 {n:Nat}{ns:ag}(h:dC n ns=true):ns.length<=n:=by
 obtain⟨h1,h2⟩:=fU h
 have:=Yf (ws:=List.replicate n (0:Int)) (nB h1) (by rw[zj];exact h2)
 rw[zj]at this;lia
end Core
namespace PP
open PySem L2
def B1:PV->Tg->PV->Tg->PK->Prop:=λx _ y _ Q=>∃xs n,x = .tup xs/\y = .int n/\cb xs=true/\xs≠[]/\2<=n/\n<=1000000/\xs.length<=10/\Q (.tup (List.replicate n.toNat xs).flatten) .fr
abbrev Yb (ta tb:aA):aA:=q2 B1 ta tb
end PP
namespace Core
open PySem L2 PP
theorem Ya (g:Tg)(n:Int):Nw g (.int n):=by cases g<;>first|exact trivial|rfl
def rQ (x:PV)(ns:ag):Prop:=x = .mn ns∨x = .lst (bj ns)
theorem rQ.seq {x:PV}{ns:ag}(h:rQ x ns):jR x=some (bj ns):=by rcases h with rfl|rfl<;>rfl
theorem rQ.len {x:PV}{ns:ag}(h:rQ x ns):qV x=some ns.length:=by
 rcases h with rfl|rfl
 ·rfl
 ·show some (bj ns).length=_
  rw[cL]
def lM:aQ:=λxs Q=>∃x ns k,xs = [x,.int k]/\rQ x ns/\0<=k/\Q (.int (ns.getD k.toNat 0))
def MN:aY:=(aP (dG (bC (mR (a5 1) (aG d4 (a8 (a5 0) aF)))) (c9 (cR (a5 0) (a5 1))) dF)
 (c9 (qC (.int 0))))
theorem XZ:jX MN ["script","k"] lM:=by
 rintro xs Q ⟨x,ns,k,rfl,hx,h0,q⟩;refine⟨_,rfl,_,rfl,_,_,rfl,hx.len,_,_,rfl,rfl,_,rfl,?_⟩;by_cases h:k<(ns.length:Int)
 ·rw[eu h]
  exact cU ⟨_,rfl,_,rfl,_,_,_,hx.seq,rfl,MO h0 h,Ya _ _,q⟩
 ·rw[dm h]
  rw[kz,List.getElem?_eq_none (by lia)]at q;exact bA ⟨trivial,q⟩
def iC (ls:aa):List PV:=ls.map λl=>PV.tup [.int l.1,.int l.2]
theorem MM (ls:aa):(iC ls).length=ls.length:=dt _
def fV (l m:Int×Int):Prop:=l.1<m.1∨(l.1=m.1/\l.2<m.2)
abbrev si (n:Int):Option Slot:=some (.sh true (.int n))
def j9:aQ:=λxs Q=>∃i,xs = [.int i]/\Q (.bl true)
def ML (K:ad):aY:=(c9 (uC (kN K "int" (a5 0)) (z9 (kN K "bool" (a5 0)))))
theorem bY.len {x:PV}{ns:ag}(h:bY x ns):qV x=some ns.length:=by
 rcases h with rfl|rfl<;>(show some (bj ns).length=_;rw[cL])
theorem XY {K:ad}(k1:PySem.W.kitOne K (.type "int") (.type "int")=some true)(k2:PySem.W.kitOne K (.type "int") (.type "bool")=some false):jX (ML K) ["found"] j9:=by
 rintro xs Q ⟨i,rfl,q⟩
 exact⟨_,rfl,_,_,rfl,k1,_,rfl,cU ⟨_,rfl,_,_,rfl,k2,_,rfl,trivial,q⟩⟩
end Core
namespace PySem
theorem B2:fillsNumberSlot (.type "tuple") "mul" = pure false:=
 fillsNumberSlot_seq (id:="tuple.__mul__") (r:=some (.builtin "tuple.__rmul__")) F.slot_tuple_mul.lookup (by decide +kernel) F.slot_tuple_rmul.lookup (by decide +kernel)
theorem B3:seqRepeat? (.type "tuple")=pure (some (.builtin "tuple.__mul__")):=by
 unfold seqRepeat?;rw[seqSlot_of (T:="tuple") (name:="__mul__") (id:="tuple.__mul__") F.slot_tuple_mul.lookup (by decide +kernel),seqSlot_of (T:="tuple") (name:="__rmul__") (id:="tuple.__rmul__") F.slot_tuple_rmul.lookup (by decide +kernel)];rfl
theorem B4 (a:Int)(t:Tok)(l:az)(items:Array ax)(n:Nat)(dd:Option az)(sl:Array (Option ax)) :
  Meets (Builtin.«int.__rmul__» ⟨[.int a t,.ref l],[]⟩) (λ_ R s=>s.heap.get? l=some { cls:=.type "tuple",dict:=dd,data:=.seq items n,slots:=sl }/\R (.ok (.ret Value.notImplemented)) s):=
 .of_wp λprog w A R s h=>by obtain⟨hp,g,d,tk,os⟩:=s;obtain⟨hl,h⟩:=h;wp_walk;exact⟨_,rfl,h⟩
theorem XX (l:az)(items:Array ax)(n:Nat)(dd:Option az)(sl:Array (Option ax))(x:Int)(u:Tok)(h0:items.isEmpty=false)(h1:2<=x)(h2:items.size*x.toNat<=sizeLine)(h3:x<=1000000) :
  Meets (Builtin.«tuple.__mul__» ⟨[.ref l,.int x u],[]⟩) (λ_ R s=>s.heap.get? l=some { cls:=.type "tuple",dict:=dd,data:=.seq items n,slots:=sl }/\R (.ok (.ret (Value.ref s.heap.objs.size))) { s with heap:=s.heap.push { cls:=Value.type "tuple",data:=Data.seq (List.foldl (λx1 x2=>x1++x2) #[] (List.replicate x.toNat items)) } }):=
 .of_wp λprog w A R s h=>by
  obtain⟨hp,g,d,tk,os⟩:=s;obtain⟨hl,h⟩:=h
  have c1:(decide (x < -(2^63))||decide (x >= 2^63))=false:=by
   rw[Bool.or_eq_false_iff];exact⟨dm (by lia),dm (by lia)⟩
  have c2:(items.isEmpty||x==1)=false:=by rw[h0,Bool.false_or];exact CO.mpr (by lia)
  have c3:(decide (x<=0)||items.isEmpty)=false:=by rw[h0,Bool.or_false];exact dm (by lia)
  have hsz:((items.size:Nat):Int)*x=((items.size*x.toNat:Nat):Int):=by rw[AQ];congr 1;lia
  have RA:(sizeLine:Nat)<=(2^63-1)/8:=by decide
  have c4:decide (((items.size:Nat):Int)*x>(2^63-1)/8)=false:=dm (by rw[hsz];lia);have c5:Builtin.Tuple.tupleTooMany (((items.size:Nat):Int)*x)=false:=by
   rw[hsz];unfold Builtin.Tuple.tupleTooMany;exact dm (by lia)
  wp_walk
  refine wpAny_ite_false (by rw[c1];rfl) ?_
  wp_walk
  refine wpAny_ite_false (by rw[c2];rfl) ?_
  wp_walk
  refine wpAny_ite_false (by rw[c3];rfl) ?_
  wp_walk
  refine wpAny_ite_false c4 ?_
  wp_walk
  refine wpAny_ite_false (by rw[c5];rfl) ?_
  wp_walk
  have f0:∀(m:Nat) (acc:Array ax),(List.foldl (λx1 x2=>x1++x2) acc (List.replicate m items)).size=acc.size+m*items.size:=λm=>by
   induction m with
   |zero=>intro acc;simp
   |succ m ih=>intro acc;rw[xm,AS,ih,Array.size_append,Nat.succ_mul];lia
  have c6:decide ((List.foldl (λx1 x2=>x1++x2) #[] (List.replicate x.toNat items)).size>sizeLine)=false:=dm (by
   rw[f0 x.toNat #[]]
   have:x.toNat*items.size=items.size*x.toNat:=vo _ _
   simp only[Array.size_empty]
   lia)
  refine wpAny_ite_false c6 ?_
  wp_walk
  exact⟨_,rfl,h⟩
end PySem
namespace PP
open PySem L2 PyProof.Rows
def MK (K:ad):R2:=λx y H Q=>∃l k xs,x = .ref l/\y = .int k/\aM K H l xs/\xs≠[]/\2<=k/\k<=1000000/\xs.length*k.toNat<=sizeLine/\∀p,H p=none->Q (.ref p) (upd H p (.tup (List.replicate k.toNat xs).flatten))
theorem MJ {X:Cx}:bT X (binaryOp .Mult) (MK X.K):=by
 intro ai s σ H x y v u Q I rx ry h
 obtain⟨l,k,xs,rfl,rfl,hH,oo,h1,h2,hz,q⟩:=h
 cases rx
 obtain⟨t,rfl⟩:=ry
 obtain⟨bo,r,p,_⟩:=I.tuple hH
 obtain⟨⟨cls,dd,data,sl⟩,ho,hc,n,hd⟩:=id p
 simp only at hc hd;subst hc hd;have hl:=r.length;have BB:bo.toArray.isEmpty=false:=by
  cases bo with
  |nil=>exact absurd (r.jm.mp rfl) oo
  |cons a b=>rfl
 refine wpAny_binaryOp_repeat_ref (T:="tuple") (U:="int") (by decide) ⟨_,ho,rfl⟩ (λs'=>typeIs_int s' k t) B2 F.fills_int_mul AR B3 F.slot_int_index.lookup
  (vn AR (typeIs_int s k t) F.entry_int_rmul (F.args_int_rmul_2 _ _) (B4 k t l bo.toArray n dd sl)
   ⟨ho,rfl,⟨_,ho,rfl⟩,vn F.slot_tuple_mul ⟨_,ho,rfl⟩ F.entry_tuple_mul (F.args_tuple_mul_2 _ _) (XX l bo.toArray n dd sl k t BB h1 (by rw[fu,<- hl];exact hz) h2) ⟨ho,?_⟩⟩)
 have f0:List.foldl (λx1 x2=>x1++x2) #[] (List.replicate k.toNat bo.toArray)=(List.replicate k.toNat bo).flatten.toArray:=by
  have:=xY bo k.toNat []
  rw[List.nil_append]at this;exact this
 rw[f0];refine⟨.ref s.heap.objs.size,_,I.laid (t':=s.toks) (o:=.tup (List.replicate k.toNat xs).flatten) (λb ob q=>ez _ q) (da _) ?_,rfl,q _ (I.cj.fresh (da _))⟩
 exact⟨by rw[yA,vo];exact hz,_,r.rep k.toNat,IsTup.new _ _,iY.new _ _ rfl⟩
theorem bp.rep {K:ad}{M:az->Prop}{H:Hp}{us:List V}{xs:List PV}(r:bp K M H us xs):∀k:Nat,bp K M H (List.replicate k us).flatten (List.replicate k xs).flatten
 |0=>.nil
 |k+1=>by rw[xm,xm,zy,zy];exact r.append (bp.rep r k)
section
variable {X:Cx}{a b e:Expr}{ta tb te:aA}{tr:bV}{pos p2 p3 ug:Pos}
theorem XW:fD X B1 (MK X.K):=by
 rintro W Hs H u v x y g g' Q Q' s n r1 r2 ⟨xs,m,rfl,rfl,f,ne,h1,h2,hl,q⟩ k;cases r2
 obtain⟨a,us,rfl,h,r⟩:=r1.qh
 have lr:=r.length;refine⟨a,m,us,rfl,rfl,aM.of h,λz=>ne (by cases xs with|nil=>rfl|cons _ _=>rw[z]at lr;cases lr),h1,h2,lim ?_,λp hp=>k _ _ _ .fr (bU hp _) (.tup bE (((r.flat f).rep m.toNat).same (bU hp _) λ_ z=>z)) q⟩;have h3:us.length<=10:=by lia
 have h4:m.toNat<=1000000:=by lia
 calc us.length*m.toNat<=10*1000000:=Nat.mul_le_mul h3 h4
  _<=16000000:=by decide
theorem B5 (ha:QE X a ta)(hb:QE X b tb):QE X (.BinOp a .Mult b pos) (q2 B1 ta tb):=gQ MJ XW ha hb
def B6:V->Int
 |.int i=>i
 |_=>0
def kP (H:Hp):V->ag
 |.ref a=>match H a with
  |some (.tup us)=>us.map B6
  |_=>[]
 |_=>[]
theorem XU {H:Hp}{a:az}{ns:ag}(h:H a=some (.tup (ns.map V.int))):kP H (.ref a)=ns:=by
 show (match H a with|some (.tup us)=>us.map B6|_=>[])=ns;rw[h];show (ns.map V.int).map B6=ns;rw[pq];exact List.map_id _
theorem MG {K:ad}{M:az->Prop}{H:Hp}:∀{us:List V}{ys:ae},bp K M H us (ys.map λr=>PV.tup (bj r))->us.map (kP H)=ys/\∀u∈us,∃b,u = .ref b/\H b=some (.tup ((kP H u).map V.int))
 |_,[],.nil=>⟨rfl,λu h=>nomatch h⟩
 |_,y::ys,.cons r t=>by
  obtain⟨a,us,rfl,h,r1⟩:=r.qh
  obtain rfl:=r1.ofInts
  obtain⟨h1,h2⟩:=MG t
  have hk:=XU h;refine⟨by rw[gg,h1,hk],λu hu=>?_⟩;rcases eg.mp hu with rfl|hu
  ·exact⟨a,rfl,by rw[hk];exact h⟩
  ·exact h2 u hu
theorem MF {K:ad}{M:az->Prop}{H:Hp}:∀{us:List V},(∀u∈us,∃b,u = .ref b/\H b=some (.tup ((kP H u).map V.int)))->bp K M H us ((us.map (kP H)).map λr=>PV.tup (bj r))
 |[],_=>.nil
 |u::us,h=>by
  obtain⟨b,rfl,hb⟩:=h u dv
  exact .cons (.tup hb (bp.bj _)) (MF λv hv=>h v (gc _ hv))
end
def ME:Sp:=λvs H Q _=>∃v ws ls,vs = [v]/\Ov H v ws ls/\ws.length<=1000/\ls.length<=2000/\(∀l∈ls,(0<=l.1/\l.1<ws.length)/\0<=l.2/\l.2<ws.length)/\
 ∀(r:az) (bs:List az) (H':Hp),bs.length=ws.length->kI H H' r bs (λk=>bX ls k)->Q (.ref r) H'
section
variable {P:ba}{w:bd}{K:ad}{mg:Str→Option ax}{base:Heap}{f:az}{fd:FuncData}{k:Nat}
theorem MD {M:az->Prop}{H:Hp}:∀{us:List V}{ls:aa},bp K M H us (ls.map λl=>PV.tup [.int l.1,.int l.2])->qN H us ls
 |_,[],.nil=>.nil
 |_,l::ls,.cons r t=>by
  obtain⟨a,us,rfl,h,r1⟩:=r.qh
  obtain⟨u1,u2,rfl,q1,q2⟩:=r1.two
  cases q1;cases q2;exact .cons ⟨a,rfl,h⟩ (MD t)
theorem XT {M:az->Prop}{H:Hp}{v:V}{ws:ag}{ls:aa}(r:aE K M H v (Core.gS ws ls)):Ov H v ws ls:=by
 obtain⟨a,us,rfl,h,r1⟩:=aE.qh r
 obtain⟨u1,u2,rfl,q1,q2⟩:=r1.two
 obtain⟨p,up,rfl,hp,rp⟩:=q1.qh
 obtain⟨q,uq,rfl,hq,rq⟩:=q2.qh
 obtain rfl:=rp.ofInts
 exact⟨a,p,q,uq,rfl,h,hp,hq,MD rq⟩
theorem MC {M:az->Prop}{H:Hp}:∀{bs:List az}{ls:aa} (off:Nat),(∀b∈bs,M b)->(∀(k:Nat) b,bs[k]? = some b->H b=some (.lst ((bX ls ((off+k:Nat):Int)).map V.int)))->bp K M H (bs.map V.ref) ((List.range' off bs.length).map λ(k:Nat)=>PV.lst (bj (bX ls k)))
 |[],_,_,_,_=>.nil
 |b::bs,ls,off,hm,h=>by
  refine .cons (.lst (hm b dv) (h 0 b rfl) (bp.bj _)) (MC (off+1) (λc hc=>hm c (gc _ hc)) λk c hk=>?_)
  have:=h (k+1) c (by rw[Ce];exact hk)
  rw[show off+1+k=off+(k+1) by lia];exact this
end
end PP
namespace Core
open PySem L2 PP
theorem XS (n:Nat):(de n).Nodup:=by
 unfold de;rw[List.nodup_iff_pairwise_ne,AY];exact (List.nodup_range (n:=n)).imp λh e=>h (by lia)
def two (l:Int×Int):ag:=[l.1,l.2]
def rR (r:ag):Int×Int:=(r.getD 0 0,r.getD 1 0)
theorem MB (ls:aa):iC ls=(ls.map two).map λr=>PV.tup (bj r):=by
 unfold iC;rw[pq];rfl
theorem XR {zs:ae}{ls:aa}(h:zs.Perm (ls.map two)):∃HY:aa,zs=HY.map two/\HY.Perm ls:=by
 refine⟨zs.map rR,?_,?_⟩
 ·rw[pq]
  have:∀z∈zs,(two ∘ rR) z=z:=λz hz=>by
   obtain⟨l,_,rfl⟩:=gs.mp (h.mem_iff.mp hz)
   rfl
  rw[va this,List.map_id']
 ·have:=h.map rR
  rw[pq]at this;have e:ls.map (rR ∘ two)=ls:=by
   have:∀l∈ls,(rR ∘ two) l=id l:=λl _=>rfl
   rw[va this,List.map_id]
  rw[e]at this;exact this
theorem XQ {ls:aa}(so:(ls.map two).Pairwise λu v=>HT.b9 v u=false)(nd:ls.Nodup):ls.Pairwise fV:=by
 rw[AY]at so;refine (List.pairwise_and_iff.mpr ⟨so,nd⟩).imp λ{a b} h=>?_
 obtain⟨h1,h2⟩:=h
 unfold two at h1;rw[HT.jN]at h1;unfold fV;by_cases e:b.1=a.1
 ·rw[if_pos e,HT.jN]at h1
  by_cases e2:b.2=a.2
  ·exact absurd (Prod.ext e.symm e2.symm) h2
  ·rw[if_neg e2]at h1
   have:=Ca h1
   lia
 ·rw[if_neg e]at h1
  have:=Ca h1
  lia
theorem XO (ws:ag)(ls:aa):cb [.tup (bj ws),.tup (iC ls)]=true:=Ye ws ls
structure oU (i:Int)(ms:ag):Prop where
 up:ms.Pairwise (·<·)
 yt:∀x∈ms,0<=x/\x<i
 len:(ms.length:Int)<=i
theorem oU.set {n:Nat}{ms:ag}(h:oU (n:Int) ms):dC n ms=true:=by
 unfold dC;rw[MW h.up,xc,AX];intro b hb
 obtain⟨x,hx,rfl⟩:=gs.mp hb
 have:=h.yt x hx
 unfold A8;simp[this]
def fW (n:Nat)(S:ag):List PV:=(de n).map λi=>PV.bl (decide (i∈S))
theorem oV (n:Nat)(S:ag):(fW n S).length=n:=by unfold fW;rw[dt,jW]
theorem MA {n:Nat}{S:ag}{x:Int}(h0:0<=x)(h1:x<(n:Int)):oh (fW n S) x=some (.bl (decide (x∈S))):=by
 refine qO h0 ?_;unfold fW;rw[ij,vD (by lia)];show some (PV.bl (decide (((x.toNat:Nat):Int)∈S)))=_;rw[show ((x.toNat:Nat):Int)=x by lia]
theorem XM {n:Nat}{S:ag}{x:Int}(h0:0<=x)(h1:x<(n:Int)):(fW n S).set x.toNat (.bl true)=fW n (S++[x]):=by
 refine List.ext_getElem? λi=>?_
 by_cases hi:i<n
 ·have e1:(fW n (S++[x]))[i]? = some (.bl (decide ((i:Int)∈S++[x]))):=by unfold fW;rw[ij,vD hi];rfl
  rw[e1];by_cases e:i=x.toNat
  ·subst e
   rw[Ba (by rw[oV];exact hi)]
   have:(((x.toNat:Nat):Int)∈S++[x]):=by rw[show ((x.toNat:Nat):Int)=x by lia];simp
   rw[eu this]
  ·rw[vb (Ne.symm e)]
   unfold fW;rw[ij,vD hi]
   have:decide ((i:Int)∈S++[x])=decide ((i:Int)∈S):=by
    rw[Au];simp;lia
   rw[this];rfl
 ·rw[List.getElem?_eq_none (by rw[xi,oV];lia),List.getElem?_eq_none (by rw[oV];lia)]
theorem XJ:∀{a b:ag},a.Perm b->a.Pairwise (· <= ·)->b.Pairwise (· <= ·)->a=b:=by
 intro a b h ha hb;exact h.eq_of_pairwise (λx y _ _ h1 h2=>Int.le_antisymm h1 h2) ha hb
def vF:aQ:=λxs Q=>∃ns:ag,xs = [.mn ns]/\ns.length<=63/\Q (.bl true)
structure XI (K:ad):Prop where
 ii:PySem.W.kitOne K (.type "int") (.type "int")=some true
 ib:PySem.W.kitOne K (.type "int") (.type "bool")=some false
 tt:PySem.W.kitOne K (.type "tuple") (.type "tuple")=some true
 ll:PySem.W.kitOne K (.type "list") (.type "list")=some true
 bb:PySem.W.kitOne K (.type "bool") (.type "bool")=some true
theorem vG (K:ad):XI K:=by
 have same:∀n:String,PySem.W.kitMeta n=true->True:=λ_ _=>trivial
 refine⟨?_,?_,?_,?_,?_⟩
 ·unfold PySem.W.kitOne;rw[if_pos (by decide)]
 ·have e:(if PySem.W.kitMeta "bool" = true then (fastBuiltinMro "int").map (·.contains (Value.type "bool")) else none)=some false:=by decide +kernel
  unfold PySem.W.kitOne;rw[if_neg (by decide)];exact e
 ·unfold PySem.W.kitOne;rw[if_pos (by decide)]
 ·unfold PySem.W.kitOne;rw[if_pos (by decide)]
 ·unfold PySem.W.kitOne;rw[if_pos (by decide)]
end Core
namespace PP
open PySem L2 PyProof.Rows
def XH (K:ad):Sp:=λvs H Q _=>∃(a:az) (ns:ag),vs = [.ref a]/\kJ K H a ns/\ns.length<=63/\∀H',Q (.bl true) H'
section
variable {X:Cx}{a b e:Expr}{ta tb te:aA}{tr:bV}{pos p2:Pos}
def Mz:PV->Tg->PV->Tg->PK->Prop:=λx _ y _ Q=>∃xs ys,x = .lst xs/\y = .lst ys/\cb xs=true/\cb ys=true/\xs.length+ys.length<=16000000/\Q (.lst (xs++ys)) .fr
abbrev B7 (ta tb:aA):aA:=q2 Mz ta tb
theorem XG:fD X Mz Y7:=by
 rintro W Hs H u v x y g g' Q Q' s n r1 r2 ⟨xs,ys,rfl,rfl,f1,f2,hl,q⟩ k
 obtain⟨a,us,rfl,_,h1,q1⟩:=r1.rh
 obtain⟨b,ws,rfl,_,h2,q2⟩:=r2.rh
 have l1:=q1.length;have l2:=q2.length;refine⟨a,b,us,ws,rfl,rfl,h1,h2,lim (by lia),λp hp=>k _ _ _ .fr (bU hp _) (.lst (s.free hp) bE (((q1.flat f1).append (q2.flat f2)).same (bU hp _) λ_ z=>z)) q⟩
theorem My (ha:QE X a ta)(hb:QE X b tb):QE X (.BinOp a .Add b pos) (B7 ta tb):=gQ aM8 XG ha hb
end
end PP
namespace Zp
open PySem PyProof.Rows
section
variable {prog:ba}{w:bd}{A:bc}{E:ax→ay→Prop}{s:ay}
theorem XF {e it t:az}{i:Nat}{items:Array ax}{x old:ax}{Q:Option ax->ay->Prop}(he:IsEnum s.heap e it i old)(hi:s.heap.IsTupleIter it t i)(ht:s.heap.IsTuple t items)(hx:items[i]? = some x)(ne:e≠it)(q:∀h',IsEnumOut h' e it ((i:Int)+1) x s.heap.objs.size->h'.IsTupleIter it t (i+1)->h'.get? s.heap.objs.size=some { cls:=.type "tuple",data:=.seq #[.int i s.toks,x] }->h'.objs.size=s.heap.objs.size+1->
   (∀b o,b≠e->b≠it->s.heap.get? b=some o->h'.get? b=some o)->Q (some (.ref s.heap.objs.size)) { s with heap:=h',toks:=s.toks+1 }):wpAny (model prog w) A (pyNext (.ref e)) Q E s:=by
 have T:s.TypeIs (.ref e) "enumerate":=⟨_,he,rfl⟩;have slot:=PySem.F.slot_enumerate_next;unfold pyNext;apply bw;apply wpAny_attempt;apply Cf (name:=Str.ofString "__next__") T slot;apply zf slot T PySem.F.entry_enumerate_next _ (PySem.F.args_enumerate_next_1 _)
 change wpAny _ _ (field (.ref e) 2 >>= _) _ _ _
 apply bw;refine qq he rfl (x:=.ref it) rfl ?_;apply bw;refine Ou hi ht hx λg1 QY AF=>?_
 have e1:IsEnum g1 e it i old:=AF.extBut _ _ ne he
 change wpAny _ _ (field (.ref e) 3 >>= _) _ _ _
 apply bw;refine qq e1 rfl (x:=rawInt i) rfl ?_
 change wpAny _ _ (field (.ref e) 4 >>= _) _ _ _
 apply bw;refine qq e1 rfl (x:=.none) rfl ?_
 change wpAny _ _ (mkInt i >>= _) _ _ _
 apply bw;refine wpAny_mkInt ?_
 change wpAny _ _ (setField (.ref e) 3 (rawInt ((i:Int)+1)) >>= _) _ _ _
 apply bw;refine zi e1 (by simp) λg2 e2 Ad=>?_
 apply bw;refine zi e2 (by simp) λg3 e3 wc=>?_
 have e3:IsEnum g3 e it ((i:Int)+1) old:=e3;apply bw;refine wpAny_newTuple ?_ (by show 2<=sizeLine;decide);have e4:IsEnum (g3.push { cls:=.type "tuple",data:=.seq #[.int i s.toks,x] }) e it ((i:Int)+1) old:=ez _ e3;have size:g3.objs.size=s.heap.objs.size:=by rw[wc.1,Ad.1,AF.1]
 change wpAny _ _ (Builtin.SmallTypes.ownedTupleIsFree (.ref e) >>= _) _ _ _
 apply bw;unfold Builtin.SmallTypes.ownedTupleIsFree;apply bw;refine qq e4 rfl (x:=.none) rfl (cy ?_);simp only[if_true];apply bw;apply zd;apply bw;refine qq e4 rfl (x:=old) rfl ?_;apply bw;refine zi e4 (by simp) λg5 e5 yn=>?_
 apply bw;unfold Builtin.SmallTypes.ownedTupleHandOut;apply bw;refine zi e5 (by simp) λg6 e6 Hw=>?_
 refine zi e6 (by simp) λg7 e7 Co=>?_
 have e7:IsEnumOut g7 e it ((i:Int)+1) x g3.objs.size:=e7;have elt:e<g3.objs.size:=fm e3;have up:∀c o,c≠e->(g3.push { cls:=.type "tuple",data:=.seq #[.int i s.toks,x] }).get? c=some o->g7.get? c=some o:=λc o c1 z=>Co.extBut c o c1 (Hw.extBut c o c1 (yn.extBut c o c1 z))
 have Hn:∀c o,c≠e->g1.get? c=some o->g7.get? c=some o:=λc o c1 z=>up c o c1 (ez _ (wc.extBut c o c1 (Ad.extBut c o c1 z)))
 have p7:g7.get? g3.objs.size=some { cls:=.type "tuple",data:=.seq #[.int i s.toks,x] }:=up _ _ (uv elt) (jw _ rfl);have s7:g7.objs.size=g3.objs.size+1:=by rw[Co.1,Hw.1,yn.1,xg]
 apply bw;apply wpAny_letGo;apply cy;rw[size]at e7 p7 s7;refine⟨_,rfl,cy ?_⟩
 change Q (some (.ref g3.objs.size)) _
 rw[size];exact q g7 e7 (QY.at λo z=>Hn it o (Ne.symm ne) z) p7 s7 λb o b1 b2 z=>Hn b o b1 (AF.extBut b o b2 z)
theorem XE {e it t:az}{i:Nat}{items:Array ax}{old:ax}{Q:Option ax->ay->Prop}(hh:A.handled=none)(he:IsEnum s.heap e it i old)(hi:s.heap.IsTupleIter it t i)(ht:s.heap.IsTuple t items)(hx:items[i]? = none)(q:∀h',Heap.ExtBut it s.heap h'->Q none { s with heap:=h' }):wpAny (model prog w) A (pyNext (.ref e)) Q E s:=by
 have T:s.TypeIs (.ref e) "enumerate":=⟨_,he,rfl⟩;have slot:=PySem.F.slot_enumerate_next;unfold pyNext;apply bw;apply wpAny_attempt;apply Cf (name:=Str.ofString "__next__") T slot;apply zf slot T PySem.F.entry_enumerate_next _ (PySem.F.args_enumerate_next_1 _)
 change wpAny _ _ (field (.ref e) 2 >>= _) _ _ _
 apply bw;refine qq he rfl (x:=.ref it) rfl ?_;apply bw;refine Ot hh hi ht hx λg2 ex eb Sy=>?_
 obtain⟨oe,eo,co⟩:=Sy
 apply bw;refine BZ (T:="StopIteration") (b:=true) ⟨oe,eo,co⟩ isSubtype_stop ?_;exact cy (q g2 eb)
theorem XD {M:Model}{A:bc}{E:ax->ay->Prop}{s:ay}{α:Type}{c:Prop}[Decidable c]{m n:Sem α}{Q:α->ay->Prop}(h1:wpAny M A m Q E s)(h2:wpAny M A n Q E s):wpAny M A (if c then m else n) Q E s:=by
 split
 ·exact h1
 ·exact h2
theorem XC (t:az)(xs:Array ax):Meets (Builtin.«enumerate.__new__» ⟨[.type "enumerate",.ref t],[]⟩) (λ_ R s=>s.heap.IsTuple t xs/\R (.ok (.ret (.ref (s.heap.objs.size+1)))) { s with heap:=(s.heap.push { cls:=.type "tuple_iterator",data:=.fields #[.ref t,.int 0 0] }).push { cls:=.type "enumerate",data:=.fields #[.none,.bool false,.ref s.heap.objs.size,rawInt 0,.none,.none] } }):=
 .of_wp λprog w A R s h=>by
  obtain⟨hp,g,d,tk,os⟩:=s
  obtain⟨ht,h⟩:=h
  have sub:=sub_enumerate;have a1:Heap.IsTuple (Shared.heap ⟨hp,g,d,tk,os⟩) t xs:=ht
  wp_walk using Ax a1
  refine wpAny_stack_any λst=>cy ?_
  refine XD ?_ ?_
  all_goals
   apply bw;refine wpAny_of_eq (a:=(Value.ref t,none)) rfl ?_
   wp_walk using Ax a1
   have e:∀(o:Obj) (k:Heap),(k.push o).objs.size=k.objs.size+1:=λo k=>xg ..
   refine⟨_,rfl,?_⟩;simp only[e]at h ⊢;exact h
theorem XB {t:az}{xs:Array ax}{Q:ax->ay->Prop}(ht:s.heap.IsTuple t xs)(q:∀h',IsEnum h' (s.heap.objs.size+1) s.heap.objs.size 0 .none->h'.IsTupleIter s.heap.objs.size t 0->h'.objs.size=s.heap.objs.size+2->(∀c o,s.heap.get? c=some o->h'.get? c=some o)->Q (.ref (s.heap.objs.size+1)) { s with heap:=h' }) :
  wpAny (model prog w) A (call (.type "enumerate") [.ref t]) Q E s:=by
 refine callType_new PySem.F.called_enumerate (by decide) (PySem.F.typeCall_enumerate_1 _) (PySem.F.newCall_enumerate_1 _) (λobj=>PySem.F.args_object_init_2 obj _) PySem.F.entry_enumerate_new (XC t xs) ⟨ht,?_⟩;have e:∀(o:Obj) (k:Heap),(k.push o).objs.size=k.objs.size+1:=λo k=>xg ..
 have g0:((s.heap.push { cls:=.type "tuple_iterator",data:=.fields #[.ref t,.int 0 0] }).push { cls:=.type "enumerate",data:=.fields #[.none,.bool false,.ref s.heap.objs.size,rawInt 0,.none,.none] }).get? s.heap.objs.size=some { cls:=.type "tuple_iterator",data:=.fields #[.ref t,.int 0 0] }:=ez _ (jw _ rfl);have g1:((s.heap.push { cls:=.type "tuple_iterator",data:=.fields #[.ref t,.int 0 0] }).push { cls:=.type "enumerate",data:=.fields #[.none,.bool false,.ref s.heap.objs.size,rawInt 0,.none,.none] }).get? (s.heap.objs.size+1)=some { cls:=.type "enumerate",data:=.fields #[.none,.bool false,.ref s.heap.objs.size,rawInt 0,.none,.none] }:=by
  have:=jw (h:=s.heap.push { cls:=.type "tuple_iterator",data:=.fields #[.ref t,.int 0 0] }) (o:={ cls:=.type "enumerate",data:=.fields #[.none,.bool false,.ref s.heap.objs.size,rawInt 0,.none,.none] }) rfl
  rw[e]at this;exact this
 exact⟨⟨_,g1,rfl⟩,q _ g1 ⟨_,g0,rfl,rfl⟩ (by rw[e,e]) λc o z=>ez _ (ez _ z)⟩
end
end Zp
namespace L2
open PySem PySem.Spec PyProof.Rows
def B8 (t:Bool)(K:ad)(a:az):It:=
  ⟨λi H=>∃xs x,Sq t K H a xs/\xs[i]? = some x,
   λi H v H'=>∃T x,H T=none/\v = .ref T/\H'=upd H T (.tup [.int i,x])/\∀xs,Sq t K H a xs->xs[i]? = some x,
   λi H=>∃xs,Sq t K H a xs/\xs.length<=i⟩
structure B9 (t:Bool)(e it a:az)(i:Nat)(h:Heap):Prop where
 ee:∃old,IsEnum h e it i old
 s1:fP t h it a i
abbrev C0 (K:ad)(a:az):It:=B8 false K a
abbrev XA (e it a:az):Nat->Heap->Prop:=B9 false e it a
abbrev C1 (K:ad)(a:az):It:=B8 true K a
abbrev Xz (e it a:az):Nat->Heap->Prop:=B9 true e it a
theorem Xy (t:Bool){prog:ba}{w:bd}{A:bc}{E:ax->ay->Prop}{s:ay}{e it a:az}{i:Nat}{items:Array ax}{x old:ax}{Q:Option ax->ay->Prop}(he:IsEnum s.heap e it i old)(hi:fP t s.heap it a i)(ht:qP t s.heap a items)(hx:items[i]? = some x)(ne:e≠it)(q:∀h',IsEnumOut h' e it ((i:Int)+1) x s.heap.objs.size->fP t h' it a (i+1)->h'.get? s.heap.objs.size=some { cls:=.type "tuple",data:=.seq #[.int i s.toks,x] }->h'.objs.size=s.heap.objs.size+1->
   (∀b o,b≠e->b≠it->s.heap.get? b=some o->h'.get? b=some o)->Q (some (.ref s.heap.objs.size)) { s with heap:=h',toks:=s.toks+1 }):wpAny (model prog w) A (pyNext (.ref e)) Q E s:=by
 cases t with
 |true=>exact Zp.XF he hi ht hx ne q
 |false=>exact wpAny_pyNext_enum_item he hi ht hx ne q
theorem Xx (t:Bool){prog:ba}{w:bd}{A:bc}{E:ax->ay->Prop}{s:ay}{e it a:az}{i:Nat}{items:Array ax}{old:ax}{Q:Option ax->ay->Prop}(hh:A.handled=none)(he:IsEnum s.heap e it i old)(hi:fP t s.heap it a i)(ht:qP t s.heap a items)(hx:items[i]? = none)(q:∀h',Heap.ExtBut it s.heap h'->Q none { s with heap:=h' }):wpAny (model prog w) A (pyNext (.ref e)) Q E s:=by
 cases t with
 |true=>exact Zp.XE hh he hi ht hx q
 |false=>exact wpAny_pyNext_enum_end hh he hi ht hx q
theorem a6.Ht {t:Bool}{X:Cx}{ai:List (az×Obj)}{σ:St}{H:Hp}{s:ay}{a:az}{xs:List V}(I:a6 X ai σ H s)(h:Sq t X.K H a xs):∃us:List ax,aI xs us/\qP t s.heap a us.toArray/\xs.length<=sizeLine:=by
 cases t with
 |true=>exact I.tuple h
 |false=>obtain⟨us,v,p,l⟩:=I.list h;exact⟨us,v,p.isList,l⟩
theorem a6.Ac {t:Bool}{X:Cx}{ai:List (az×Obj)}{σ:St}{H:Hp}{s:ay}{a:az}{xs ys:List V}(I:a6 X ai σ H s)(h:Sq t X.K H a xs)(h':Sq t X.K H a ys):xs=ys:=by
 cases t with
 |true=>exact I.kq h h'
 |false=>exact I.ni h h'
theorem Mx (t:Bool){P:ba}{w:bd}{K:ad}{elts:List Expr}{k:Nat}{pos:Pos}(a e it:az)(d:e≠it) :
  iH P w K (.Tuple elts k pos) (B8 t K a) [e,it] e (B9 t e it a):=by
 refine⟨by simp,λi h st c hc=>?_,λi h h' st kp=>?_,?_,?_,λA i s Q E st q=>?_⟩
 ·simp only[eg,ky,kx]at hc
  obtain⟨old,ee⟩:=st.ee
  obtain⟨o1,f1,d1⟩:=st.s1.ob
  rcases hc with rfl|rfl
  ·exact⟨_,ee,λv q=>by cases q⟩
  ·exact⟨_,f1,d1⟩
 ·obtain⟨old,ee⟩:=st.ee
  exact⟨⟨old,kp e (by simp) _ ee⟩,st.s1.at λo z=>kp it (by simp) o z⟩
 ·intro X hP hw hK hc i ai s σ H E I hf st hg
  subst hP hw hK
  obtain⟨xs,x,ha,hx⟩:=hg
  obtain⟨us,ru,pu,lu⟩:=I.Ht ha
  obtain⟨ux,EL,EZ⟩:=ru.get hx
  obtain⟨old,ee⟩:=st.ee
  refine Xy t ee st.s1 pu (by simpa using EL) d λh' eo QZ pr sz kp=>⟨_,rfl,?_⟩
  refine wpAny_letOwnedTupleGo_enum (s:={ s with heap:=h',toks:=s.toks+1 }) eo λg zz sb=>?_
  have DB:e<s.heap.objs.size:=fm ee;have up:∀c o,c≠e->c≠it->s.heap.get? c=some o->g.get? c=some o:=λc o c1 c2 z=>sb.extBut c o c1 (kp c o c1 c2 z)
  have hT:H s.heap.objs.size=none:=I.cj.fresh (da _);have Di:g.get? s.heap.objs.size=some { cls:=.type "tuple",data:=.seq #[.int i s.toks,ux] }:=sb.extBut _ _ (uv DB) pr;have BM:∀c u,H c=some u->c∉[e,it]:=λc u z hm=>by rw[(hf c hm).1]at z;cases z
  have yg:∀c o u,H c=some u->s.heap.get? c=some o->g.get? c=some o:=λc o u q z=>by
   have:=BM c u q
   simp only[eg,ky,kx,not_or]at this;exact up c o this.1 this.2 z
  have ns:∀m,s.heap.Ns X.env.locals m->g.Ns X.env.locals m:=λm hm=>by
   obtain⟨o,es,ep,e1,e2⟩:=hm
   exact⟨o,es,ep,up _ o (Ne.symm (hf e (by simp)).2.1) (Ne.symm (hf it (by simp)).2.1) e1,e2⟩
  have I2:a6 X ai σ (upd H s.heap.objs.size (.tup [.int i,x])) { s with heap:=g,toks:=s.toks+1 }:=by
   refine I.step (g':=s.gens) (d':=s.drawn) (ch:=[e,it]) (λc dj=>?_) (λc o _ _ dj z _=>?_) (λc o _ _ dj z _=>⟨o.slots,?_⟩) (λc o _ z n=>?_) (λc o dj z=>⟨o,?_⟩)
    (λc zs z=>by rw[aH (dL z hT)];exact z) (λc u zs z=>by rw[aH (dL z hT)];exact z) (λc ps z=>⟨#[],by rw[aH (dL z hT),z];simp⟩) ns (λc u z=>?_) I.bare
   ·exact⟨(hf c dj).2.2.2.1,(hf c dj).2.1,(hf c dj).2.2.2.2.1,(hf c dj).2.2.2.2.2⟩
   ·simp only[eg,ky,kx,not_or]at dj
    exact up c o dj.1 dj.2 z
   ·simp only[eg,ky,kx,not_or]at dj
    exact up c o dj.1 dj.2 z
   ·rw[aH (lj (fm z))];exact n
   ·simp only[eg,ky,kx,not_or]at dj
    exact up c o dj.1 dj.2 z
   ·by_cases DM:c=s.heap.objs.size
    ·subst DM
     rw[bE]at z;cases z
     exact⟨by show 2<=sizeLine;decide,[.int i s.toks,ux],.cons ⟨_,rfl⟩ (.cons EZ .nil),⟨_,Di,rfl,_,rfl⟩,λu e=>by rw[Di]at e;cases e;rfl⟩
    ·rw[aH DM]at z
     refine (I.cj c u z).fw (λc' o' hc2 q'=>?_) (λc' q'=>by rw[aH (dL q' hT)];exact q') λc' zs q'=>by rw[aH (dL q' hT)];exact q'
     rcases hc2 with rfl|hc2
     ·exact yg _ _ _ z q'
     ·exact yg _ _ _ hc2 q'
  refine⟨.ref s.heap.objs.size,_,I2,rfl,⟨_,x,hT,rfl,rfl,λvx Gn=>?_⟩,⟨⟨ux,by push_cast;exact zz⟩,QZ.at λo z=>sb.extBut _ o (Ne.symm d) z⟩,λc dj=>?_⟩
  ·rw[I.Ac Gn ha];exact hx
  ·obtain⟨o,z⟩:∃o,s.heap.get? c=some o:=by
    simp only[eg,ky,kx]at dj
    obtain⟨o1,f1,_⟩:=st.s1.ob
    rcases dj with rfl|rfl
    ·exact⟨_,ee⟩
    ·exact⟨_,f1⟩
   rw[aH (lj (fm z))];exact (hf c dj).1
 ·intro X hP hw hK hc i ai s σ H E I hf st hg
  subst hP hw hK
  obtain⟨xs,ha,hi⟩:=hg
  obtain⟨us,ru,pu,lu⟩:=I.Ht ha
  obtain⟨old,ee⟩:=st.ee
  have hh:X.A.handled=none:=I.ok.hd hc;have e1:=ru.length;refine Xx t hh ee st.s1 pu (by rw[Array.getElem?_eq_none];simp only[fu];lia) λg kp=>⟨rfl,?_⟩
  have BM:∀c u,H c=some u->c∉[e,it]:=λc u z hm=>by rw[(hf c hm).1]at z;cases z
  have yg:∀c o u,H c=some u->s.heap.get? c=some o->g.get? c=some o:=λc o u q z=>by
   have:=BM c u q
   simp only[eg,ky,kx,not_or]at this;exact kp c o this.2 z
  have ns:∀m,s.heap.Ns X.env.locals m->g.Ns X.env.locals m:=λm hm=>by
   obtain⟨o,es,ep,e1,e2⟩:=hm
   exact⟨o,es,ep,kp _ o (Ne.symm (hf it (by simp)).2.1) e1,e2⟩
  refine I.step (g':=s.gens) (d':=s.drawn) (ch:=[it]) (λc dj=>?_) (λc o _ _ dj z _=>?_) (λc o _ _ dj z _=>⟨o.slots,?_⟩) (λc o _ z n=>n) (λc o dj z=>⟨o,?_⟩)
   (λc zs z=>z) (λc u zs z=>z) (λc ps z=>⟨#[],by rw[z];simp⟩) ns (λc u z=>?_) I.bare
  ·have hm:c∈[e,it]:=gc _ dj
   exact⟨(hf c hm).2.2.2.1,(hf c hm).2.1,(hf c hm).2.2.2.2.1,(hf c hm).2.2.2.2.2⟩
  ·exact kp c o (λy=>dj (by rw[y];simp)) z
  ·exact kp c o (λy=>dj (by rw[y];simp)) z
  ·exact kp c o (λy=>dj (by rw[y];simp)) z
  ·refine (I.cj c u z).fw (λc' o' hc2 q'=>?_) (λ_ q'=>q') λ_ _ q'=>q'
   rcases hc2 with rfl|hc2
   ·exact yg _ _ _ z q'
   ·exact yg _ _ _ hc2 q'
 ·obtain⟨old,ee⟩:=st.ee
  exact wpAny_pyIter_enum ee q
section
variable {X:Cx}
theorem Xw {P:ba}{w:bd}{K:ad}{elts:List Expr}{k:Nat}{pos:Pos}(a e it:az)(d:e≠it):iH P w K (.Tuple elts k pos) (C0 K a) [e,it] e (XA e it a):=Mx false a e it d
theorem Xv {P:ba}{w:bd}{K:ad}{elts:List Expr}{k:Nat}{pos:Pos}(a e it:az)(d:e≠it):iH P w K (.Tuple elts k pos) (C1 K a) [e,it] e (Xz e it a):=Mx true a e it d
end
section
variable {X:Cx}
def Mw (K:ad)(ta:TA):TI:=λσ H R=>ta σ H λvs H1=>∃a,vs = [.ref a]/\((∃xs,aN K H1 a xs/\R (C0 K a) H1)∨(∃xs,aM K H1 a xs/\R (C1 K a) H1))
theorem Xu {elts:List Expr}{kt:Nat}{pt:Pos}{a:Expr}{ta:TA}{p pos:Pos}(hg:Gl X "enumerate")(hm:X.mg "enumerate" = none)(ha:PA X [a] ta)(hs:starEach [a] X.env = [(false,eval a X.env)]:=by rfl) :
  PI X (.Tuple elts kt pt) (.Call (.Name "enumerate" p) [a] [] pos) (Mw X.K ta):=by
 intro ai s σ H R I h;refine Call_ (nX I hg hm PyProof.Rows.boot_enumerate (EN (aL (ha pos ai s σ H _ I h) λus s1 ⟨vs,H1,I1,r1,q1⟩=>?_) (by rw[hs];rfl) (by rfl)))
 obtain⟨a',e,q⟩:=q1
 subst e;have fresh:∀k,H1 (s1.heap.objs.size+k)=none:=λk=>I1.cj.fresh (ze _ _)
 cases r1 with
 |cons r rr=>
  cases rr;cases r;rcases q with⟨xs,h1,q⟩|⟨xs,h1,q⟩
  ·obtain⟨us,_,p1,_⟩:=I1.list h1
   refine call_enumerate_list p1.isList λh' z Bi sz kp=>wpAny_pyIter_enum z ?_
   refine⟨s1.heap.objs.size+1,[s1.heap.objs.size+1,s1.heap.objs.size],_,_,H1,rfl,I1.kept (t':=s1.toks) kp,
    Xw a' _ _ (Nat.succ_ne_self _),⟨⟨_,z⟩,Bi⟩,λc hc=>?_,q⟩
   simp only[eg,ky,kx]at hc;rcases hc with rfl|rfl
   ·exact I1.kn (ze _ _) (fresh 1)
   ·exact I1.kn (da _) (fresh 0)
  ·obtain⟨us,_,p1,_⟩:=I1.tuple h1
   refine Zp.XB p1 λh' z Bi sz kp=>wpAny_pyIter_enum z ?_
   refine⟨s1.heap.objs.size+1,[s1.heap.objs.size+1,s1.heap.objs.size],_,_,H1,rfl,I1.kept (t':=s1.toks) kp,
    Xv a' _ _ (Nat.succ_ne_self _),⟨⟨_,z⟩,Bi⟩,λc hc=>?_,q⟩
   simp only[eg,ky,kx]at hc;rcases hc with rfl|rfl
   ·exact I1.kn (ze _ _) (fresh 1)
   ·exact I1.kn (da _) (fresh 0)
end
end L2
namespace Zp
open PySem PyProof.Rows
theorem Xt (t b:az)(xs ys:Array ax)(n n2:Nat)(dd tf:Option az)(sl su:Array (Option ax))(hx:xs.isEmpty=true):Meets (Builtin.«tuple.__add__» ⟨[.ref t,.ref b],[]⟩)
  (λ_ R s=>s.heap.get? t=some { cls:=.type "tuple",dict:=dd,data:=.seq xs n,slots:=sl }/\s.heap.get? b=some { cls:=.type "tuple",dict:=tf,data:=.seq ys n2,slots:=su }/\R (.ok (.ret (.ref b))) s):=
 .of_wp λprog w A R s h=>by
  obtain⟨h1,h2,h⟩:=h
  have sub:isSubtype (Value.type "tuple") (Value.type "tuple")=pure true:=rfl
  wp_walk
  exact⟨_,rfl,h⟩
end Zp
namespace L2
open PySem PySem.Spec PyProof.Rows
section
variable {X:Cx}
def Mv (K:ad):R2:=λx y H Q=>∃a b xs ys,x = .ref a/\y = .ref b/\aM K H a xs/\aM K H b ys/\xs.length+ys.length<=sizeLine/\
 (xs = []->Q (.ref b) H)/\(xs≠[]->ys = []->Q (.ref a) H)/\(xs≠[]->ys≠[]->∀p,H p=none->Q (.ref p) (upd H p (.tup (xs++ys))))
theorem Xs:bT X (binaryOp .Add) (Mv X.K):=by
 intro ai s σ H x y v u Q I rx ry h
 obtain⟨a,b,xs,ys,ex,ey,ha,hb,hz,q0,q1,q2⟩:=h
 by_cases hx:xs = []
 ·subst ex ey
  cases rx;cases ry
  obtain⟨bo,r1,p1,_⟩:=I.tuple ha
  obtain⟨av,r2,p2,_⟩:=I.tuple hb
  have hi:bo = []:=r1.jm.mpr hx
  obtain⟨⟨cls,dd,data,sl⟩,ho,hc,n,hd⟩:=id p1
  obtain⟨⟨Aq,tf,data2,su⟩,ui,hc2,n2,hd2⟩:=id p2
  simp only at hc hd hc2 hd2;subst hc hd hc2 hd2;exact concat_meets ⟨_,ho,rfl⟩ ⟨_,ui,rfl⟩ noFill_tuple_add seq_tuple_add PySem.F.slot_tuple_add PySem.F.entry_tuple_add (PySem.F.args_tuple_add_2 _ _)
   (Zp.Xt a b bo.toArray av.toArray n n2 dd tf sl su (by simp[hi])) ⟨ho,ui,⟨.ref b,H,I,rfl,q0 hx⟩⟩
 ·exact aK9 ai s σ H x y v u Q I rx ry ⟨a,b,xs,ys,ex,ey,ha,hb,hx,hz,q1 hx,q2 hx⟩
end
end L2
namespace PP
open PySem L2 PyProof.Rows
def lN (xs:List PV):List PV:=xs.mapIdx λi x=>PV.tup [.int (i:Int),x]
theorem oW (xs:List PV):(lN xs).length=xs.length:=by unfold lN;rw[List.length_mapIdx]
theorem vH {xs:List PV}{i:Nat}{x:PV}(h:xs[i]? = some x):(lN xs)[i]? = some (.tup [.int (i:Int),x]):=by
 unfold lN;rw[List.getElem?_mapIdx,h];rfl
def vI (te:aA):gB:=λρ Q=>te ρ λx g=>∃xs,(x = .lst xs∨x = .tup xs)/\(g = .rd->flat x=true)/\Q (lN xs) (zE g xs)
theorem Xr {K:ad}{H0:Hp}{W:az->Prop}{g:Bool}{H1:Hp}{a:az}{us:List V}{xs:List PV}(tw:∀a,W a->∃o,H1 a=some o/\eQ o=true)(ha:∀W' H',Ev W H1 W' H'->aN K H' a us)(r:bp K (Ms H0 W g) H1 us xs):mM K H0 W g H1 (C0 K a) (lN xs):=by
 have lr:=r.length;have ll:=oW xs;refine⟨λW' H' i e hi=>⟨us,us[i]'(by lia),ha W' H' e,by simp⟩,λW' H' i v H2 e y hi=>?_,λW' H' e=>⟨us,ha W' H' e,by lia⟩⟩
 obtain⟨T,x,hT,rfl,rfl,y⟩:=y
 obtain⟨z,hz,rz⟩:=r.get (y us (ha W' _ e))
 have sm:=bU hT (HO.tup [.int (i:Int),x])
 exact⟨sm,_,vH hz,.tup bE (.cons (.int _) (.cons ((rz.keep (e.keep tw)).same sm λ_ q=>q) .nil))⟩
theorem Xq {K:ad}{H0:Hp}{W:az->Prop}{g:Bool}{H1:Hp}{a:az}{us:List V}{xs:List PV}(tw:∀a,W a->∃o,H1 a=some o/\eQ o=true)(ha:∀W' H',Ev W H1 W' H'->aM K H' a us)(r:bp K (Ms H0 W g) H1 us xs):mM K H0 W g H1 (C1 K a) (lN xs):=by
 have lr:=r.length;have ll:=oW xs;refine⟨λW' H' i e hi=>⟨us,us[i]'(by lia),ha W' H' e,by simp⟩,λW' H' i v H2 e y hi=>?_,λW' H' e=>⟨us,ha W' H' e,by lia⟩⟩
 obtain⟨T,x,hT,rfl,rfl,y⟩:=y
 obtain⟨z,hz,rz⟩:=r.get (y us (ha W' _ e))
 have sm:=bU hT (HO.tup [.int (i:Int),x])
 exact⟨sm,_,vH hz,.tup bE (.cons (.int _) (.cons ((rz.keep (e.keep tw)).same sm λ_ q=>q) .nil))⟩
section
variable {X:Cx}{σ:L2.St}{H:Hp}{te:aA}{R:It→Hp→Prop}
theorem Xp (h:LI X (vI te) σ H R):Mw X.K (g9 (LE X te) kD) σ H R:=by
 obtain⟨W,ρ,Q,px,q,k⟩:=h
 refine⟨W,ρ,_,px,q,?_⟩;rintro v H1 x g s r ⟨xs,hx,hg,q⟩;have Ag:=px.mono s;have tw:∀a,W a->∃o,H1 a=some o/\eQ o=true:=λa z=>(Ag.wm a z).2
 rcases hx with rfl|rfl
 ·obtain⟨a,us,rfl,m,h,r⟩:=r.rh
  have wa:¬W a:=by
   cases g with
   |fr=>exact (px.new m).1
   |nw=>exact m.1
   |sh=>exact m
   |rd=>have:=hg rfl;unfold flat at this;cases this
  exact⟨a,rfl,.inl ⟨us,aN.of h,k _ _ _ _ s (Xr tw (λW' H' e=>aN.of (e _ _ h wa rfl).1) (mN px (λz=>by have:=hg z;unfold flat at this;cases this) r)) q⟩⟩
 ·obtain⟨a,us,rfl,h,r⟩:=r.qh
  refine⟨a,rfl,.inr ⟨us,aM.of h,k _ _ _ _ s (Xq tw (λW' H' e=>aM.of (e _ _ h (λz=>?_) rfl).1) (mN px (λz=>by have:=hg z;unfold flat at this;exact this) r)) q⟩⟩
  obtain⟨o,h',mu⟩:=tw _ z;rw[h]at h';cases h';cases mu
theorem Mu {elts:List Expr}{kt:Nat}{pt p2 pos:Pos}{a:Expr}{ta:aA}(hg:Gl X "enumerate")(hm:X.mg "enumerate" = none)(ha:QE X a ta)(hs:starEach [a] X.env = [(false,eval a X.env)]:=by rfl):QI X (.Tuple elts kt pt) (.Call (.Name "enumerate" p2) [a] [] pos) (vI ta):=
 rA (Xu hg hm (eO ha iJ hs) hs) λ_ _ _=>Xp
end
section
variable {X:Cx}{e:Expr}{te:aA}{pos p2:Pos}{scope:Scope}{N:List Str}{fr:List (Option Nat)}{x y:Str}{tp xp yp:Pos}{kt:Nat}{iter elt:Expr}{ti:gB}
abbrev C2 (x y:Str)(xp yp:Pos)(kt:Nat)(tp:Pos):Expr:=.Tuple [.Name x xp,.Name y yp] kt tp
theorem Xo {ifs:List Expr}{Aa:cQ}(hc:X.calm=true)(he:∀(s:ay) (H:Hp) (C:az) (fp:List az),QE (cG X scope N s H C fp dX) elt te)(hi:∀(s:ay) (H:Hp) (C:az) (fp:List az),l8 (cG X scope N s H C fp dX) ifs (LT (cG X scope N s H C fp dX) Aa))(hN:N.Nodup)(h0:N[0]? = some x)(h1:N[1]? = some y)(hl:∀(s:ay) (H:Hp) (C:az) (fp:List az),(cG X scope N s H C fp dX).env.scope.names.lookup x=some .local)(qe:∀(s:ay) (H:Hp) (C:az) (fp:List az),(cG X scope N s H C fp dX).env.scope.names.lookup y=some .local)(s:ay)(H:Hp) :
  o7 X scope N (C2 x y xp yp kt tp) ifs elt s H (tH X.K 2 (mF (dN 0) (mF (dN 1) tG))) (LT (X.vk H) Aa) (LE (X.vk H) te):=
 ⟨λC fp=>xC (X:=cG X scope N s H C fp dX) hc (nY (jK hN h0 (.inl (hl s H C fp)) (.inr (hl s H C fp))) (nY (jK hN h1 (.inl (qe s H C fp)) (.inr (qe s H C fp))) xB)),λC fp=>hi s H C fp,λC fp=>he s H C fp⟩
theorem Mt (hi:QI X (C2 x y xp yp kt tp) iter ti)(he:∀(s:ay) (H:Hp) (C:az) (fp:List az),QE (cG X scope N s H C fp dX) elt te)(hc:X.calm=true:=by rfl)(S:fC X scope N fr:=by exact fC.of rfl rfl)(hN:N.Nodup:=by decide +kernel)(h0:N[0]? = some x:=by rfl)(h1:N[1]? = some y:=by rfl)(hl:∀(s:ay) (H:Hp) (C:az) (fp:List az),(cG X scope N s H C fp dX).env.scope.names.lookup x=some .local:=by intro _ _ _ _;rfl)(qe:∀(s:ay) (H:Hp) (C:az) (fp:List az),(cG X scope N s H C fp dX).env.scope.names.lookup y=some .local:=by intro _ _ _ _;rfl)(hf:fr[0]? = some none:=by rfl)(hf2:fr[1]? = some none:=by rfl)(hs:∀x,foldedSetIterable iter X.env x=pure x:=by intro _;rfl):QE X (.ListComp elt [⟨C2 x y xp yp kt tp,iter,[],0⟩] scope pos) (gL ti fr (lC 0 1) gM te):=
 cB (yQ (gh:=λ_=>tH X.K 2 (mF (dN 0) (mF (dN 1) tG))) (tch:=λH=>LT (X.vk H) gM) (teh:=λH=>LE (X.vk H) te) hc S hi (Xo hc he (λ_ _ _ _=>zT) hN h0 h1 hl qe) hs) λ_ _ _=>uK (NP _ 0 1) (λi e=>by rcases e with e|e<;>(subst e;assumption))
end
section
variable {X:Cx}{a b e o f:Expr}{ta tb te td tk tx:aA}{pos p2 aj am:Pos}{σ:L2.St}{H:Hp}{Q':VK}
def Mr:PV->Tg->PV->Tg->PK->Prop:=λx _ y _ Q=>∃xs n,x = .lst xs/\y = .int n/\cb xs=true/\-1000000<=n/\n<=1000000/\xs.length<=10/\Q (.lst (List.replicate n.toNat xs).flatten) .fr
abbrev vJ (ta tb:aA):aA:=q2 Mr ta tb
theorem Xn:fD X Mr Y8:=by
 rintro W Hs H u v x y g g' Q Q' s n r1 r2 ⟨xs,m,rfl,rfl,f,h1,h2,hl,q⟩ k;cases r2
 obtain⟨a,us,rfl,mm,h,r⟩:=r1.rh
 have lr:=r.length;refine⟨a,m,us,rfl,rfl,h,by lia,by lia,lim ?_,λp hp=>k _ _ _ .fr (bU hp _) (.lst (s.free hp) bE (((r.flat f).rep m.toNat).same (bU hp _) λ_ z=>z)) q⟩;have h3:us.length<=10:=by lia
 have h4:m.toNat<=1000000:=by lia
 calc us.length*m.toNat<=10*1000000:=Nat.mul_le_mul h3 h4
  _<=16000000:=by decide
theorem C3 (ha:QE X a ta)(hb:QE X b tb):QE X (.BinOp a .Mult b pos) (vJ ta tb):=gQ aM9 Xn ha hb
theorem oX {x:Str}{n:Int}{t:Nat}(hg:Gl X x)(hm:X.mg x=some (.int n t))(hd:(x==("__debug__":Str))=false:=by decide):QE X (.Name x pos) (qC (.int n)):=
 cB (aE2 (v:=.int n) hg hm ⟨t,rfl⟩ hd) λ_ _ _=>u7 λ_=>.int n
end
section
variable {X:Cx}{a b:Expr}{ta tb:aA}{pos:Pos}
def Mq:PV->Tg->PV->Tg->PK->Prop:=λx _ y _ Q=>∃xs ys,x = .tup xs/\y = .tup ys/\cb xs=true/\cb ys=true/\xs.length+ys.length<=16000000/\Q (.tup (xs++ys)) .fr
abbrev C4 (ta tb:aA):aA:=q2 Mq ta tb
theorem Xm:fD X Mq (Mv X.K):=by
 rintro W Hs H u v x y g g' Q Q' s n r1 r2 ⟨xs,ys,rfl,rfl,f1,f2,hl,q⟩ k
 obtain⟨a,us,rfl,h1,q1⟩:=r1.qh
 obtain⟨b,ws,rfl,h2,q2⟩:=r2.qh
 have l1:=q1.length;have l2:=q2.length;refine⟨a,b,us,ws,rfl,rfl,aM.of h1,aM.of h2,lim (by lia),λz=>?_,λ_ z=>?_,λ_ _ p hp=>k _ _ _ .fr (bU hp _) (.tup bE (((q1.flat f1).append (q2.flat f2)).same (bU hp _) λ_ z=>z)) q⟩
 ·obtain rfl:xs = []:=by cases xs with
   |nil=>rfl
   |cons _ _=>rw[z]at l1;cases l1
  exact k _ _ _ .fr (aD.refl _) (.tup h2 (q2.flat f2)) q
 ·obtain rfl:ys = []:=by cases ys with
   |nil=>rfl
   |cons _ _=>rw[z]at l2;cases l2
  rw[nv]at q;exact k _ _ _ .fr (aD.refl _) (.tup h1 (q1.flat f1)) q
theorem Mp (ha:QE X a ta)(hb:QE X b tb):QE X (.BinOp a .Add b pos) (C4 ta tb):=gQ Xs Xm ha hb
end
end PP
namespace Core
open PySem L2 PP
section
variable {ws:ag}{ls:aa}{os ns:ag}
theorem rS {S T:ag}{h:Int}(hk:mq ws ls S h=true)(st:∀x∈S,x∈T)(hn:h∉T):mq ws ls T h=true:=by
 unfold mq at hk ⊢;rw[my]at hk ⊢;refine⟨by rw[dm hn];rfl,eu ?_⟩;have h1:=zh hk.2;have h2:((bX ls h).filter λx=>decide (x∈S)).length<=((bX ls h).filter λx=>decide (x∈T)).length:=by
  rw[<- List.countP_eq_length_filter,<- List.countP_eq_length_filter];exact List.countP_mono_left λx _ hx=>eu (st x (zh hx))
 lia
def iD (ws:ag)(ls:aa)(T:ag):Prop:=∀h∈de ws.length,mq ws ls T h=false
theorem Mo (n:Nat):(de n).Nodup:=XS n
end
theorem C5 {i:Nat}{h:Int}{g:Bool}{ρ:bM}{Q:bM->Prop}(q:Q (ρ.set i (some (.sh true (.int h))))):d8 i (.int h) g ρ Q:=by
 show Q (ρ.set i (some (.sh (g||true) (.int h))));rw[Bool.or_true];exact q
theorem Xl {n:Nat}{S:ag}(h:dC n S=true)(p:Int->Bool):dC n (S.filter p)=true:=by
 obtain⟨h1,h2⟩:=fU h
 have u:oU (n:Int) (S.filter p):=⟨(nB h1).filter p,λx hx=>h2 x (jv.mp hx).1,by
  have:=B0 h
  have:=Cc p S
  lia⟩
 exact u.set
section
variable {ws:ag}{ls:aa}{S T:ag}
theorem Mn {n:Nat}{A B:ag}(ha:dC n A=true)(hb:dC n B=true)(h:∀x,x∈A↔x∈B):A=B:=by
 have ua:=nB (fU ha).1;have ub:=nB (fU hb).1;have p:A.Perm B:=(List.perm_ext_iff_of_nodup (ua.imp λz=>Int.ne_of_lt z) (ub.imp λz=>Int.ne_of_lt z)).mpr h;exact XJ p (ua.imp λz=>Int.le_of_lt z) (ub.imp λz=>Int.le_of_lt z)
end
section
variable {ws:ag}{ls:aa}{ns:ag}
theorem Xk (wb:Wb ws ls){h x:Int}(hx:x∈bX ls h):x∈de ws.length:=by
 unfold bX at hx
 obtain⟨l,hl,hx⟩:=AU.mp hx
 have:=wb.links l hl
 rcases jk.mp hx with hx|hx
 ·split at hx
  ·rw[eh.mp hx];exact cN.mpr this.2
  ·cases hx
 ·split at hx
  ·rw[eh.mp hx];exact cN.mpr this.1
  ·cases hx
def rT (n:Nat)(S:ag):ag:=(de n).filter λx=>!decide (x∈S)
theorem Xj {n:Nat}{S:ag}{x:Int}:x∈rT n S↔x∈de n/\x∉S:=by
 unfold rT;rw[jv];simp
theorem Xi (n:Nat)(S:ag):dC n (rT n S)=true:=by
 have u:oU (n:Int) (rT n S):=⟨by
   refine List.Pairwise.filter _ ?_;unfold de;rw[AY];exact List.pairwise_lt_range.imp λh=>by lia,λx hx=>cN.mp (Xj.mp hx).1,by
   have:=Cc (λx=>!decide (x∈S)) (de n)
   rw[jW]at this;show ((List.filter (λx=>!decide (x∈S)) (de n)).length:Int)<=_
   lia⟩
 exact u.set
end
theorem Xh {xs:List PV}{w:Int}(h:0<=w):oJ xs none (some w)=xs.take w.toNat:=by
 unfold oJ;rw[HT.aK1,List.drop_zero,Nat.sub_zero]
 have:HT.eG xs.length xs.length (some w)=min w.toNat xs.length:=by
  show (if w<0 then (w+(xs.length:Int)).toNat else min w.toNat xs.length)=_;rw[if_neg (by lia)]
 rw[this,<- List.take_take,xj]
theorem Mm {ls:aa}{h x:Int}:x∈bX ls h↔∃l∈ls,(l.1=h/\l.2=x)∨(l.2=h/\l.1=x):=by
 unfold bX;rw[AU];constructor
 ·rintro⟨l,hl,hx⟩
  refine⟨l,hl,?_⟩;rcases jk.mp hx with hx|hx
  ·split at hx
   ·rename_i e;exact .inl ⟨e,(eh.mp hx).symm⟩
   ·cases hx
  ·split at hx
   ·rename_i e;exact .inr ⟨e,(eh.mp hx).symm⟩
   ·cases hx
 ·rintro⟨l,hl,⟨e1,e2⟩|⟨e1,e2⟩⟩
  ·exact⟨l,hl,uc _ (by rw[if_pos e1,e2];exact List.mem_singleton_self _)⟩
  ·exact⟨l,hl,ny _ (by rw[if_pos e1,e2];exact List.mem_singleton_self _)⟩
theorem Ml {h:Int}:∀{ls:aa},(∀l∈ls,l.1<l.2)->ls.Pairwise fV->(bX ls h).Nodup
 |[],_,_=>.nil
 |l::r,hl,hp=>by
  have ih:=Ml (h:=h) (ls:=r) (λm hm=>hl m (gc _ hm)) (List.pairwise_cons.mp hp).2;have h0:=hl l dv;have e:bX (l::r) h=((if l.1=h then [l.2] else [])++(if l.2=h then [l.1] else []))++bX r h:=rfl;rw[e];refine List.nodup_append.mpr ⟨?_,ih,λx hx y hy q=>?_⟩
  ·by_cases e1:l.1=h
   ·rw[if_pos e1,if_neg (by lia),nv];exact CT _ _
   ·rw[if_neg e1]
    split
    ·exact CT _ _
    ·exact .nil
  ·subst q
   obtain⟨m,hm,c⟩:=Mm.mp hy
   have h1:=hl m (gc _ hm);have h2:=(List.pairwise_cons.mp hp).1 m hm;have c':(l.1=h/\l.2=x)∨(l.2=h/\l.1=x):=by
    rcases jk.mp hx with hx|hx
    ·split at hx
     ·rename_i e;exact .inl ⟨e,(eh.mp hx).symm⟩
     ·cases hx
    ·split at hx
     ·rename_i e;exact .inr ⟨e,(eh.mp hx).symm⟩
     ·cases hx
   unfold fV at h2;lia
end Core
namespace L2
open PySem PySem.Spec PyProof.Rows
theorem Mk:∀(n:Nat) (ns:ag),n<=ns.length->preSum (λi=>ns.getD i 0) n=(ns.take n).sum
 |0,_,_=>by simp[preSum]
 |n+1,ns,h=>by
  show preSum (λi=>ns.getD i 0) n+ns.getD n 0=_;have h1:ns[n]? = some (ns[n]'(by lia)):=kg (by lia);have h2:ns.take (n+1)=ns.take n++[ns[n]'(by lia)]:=by rw[vq,h1];rfl
  have h3:ns.getD n 0=ns[n]'(by lia):=by rw[kz,h1];rfl
  rw[Mk n ns (by lia),h2,h3,BV,ma,List.sum_nil];lia
section
variable {X:Cx}
theorem Xg (hc:X.calm=true):dO X (.builtin "sum") (λxs H Q=>∃(a:az) (ns:ag),xs = [.ref a]/\(aN X.K H a (ns.map V.int)∨aM X.K H a (ns.map V.int))/\Q (.int ns.sum) H):=by
 intro ai s σ H xs us Q I r h
 obtain⟨a,ns,rfl,hq,q⟩:=h
 obtain⟨u,rfl,ru⟩:=jM r
 cases ru;have hh:X.A.in1.handled=none:=I.ok.hd hc;have fin:∀(bo:List ax) (o:Obj) (wr:List az) (hw:∀b∈wr,s.heap.objs.size<=b),aI (ns.map V.int) bo->∀s' t',Moved wr (λa b=>b=a) { s with heap:=s.heap.push o } s'->
   ∃x H',a6 X ai σ H' s'/\aO x (.int (preSum (λi=>ns.getD i 0) bo.toArray.size) t')/\Q x H':=λbo o wr hw rv s' t' hm=>by
  have hl:=rv.length;rw[dt]at hl;have e:=Moved.eq_with hm;have e2:preSum (λi=>ns.getD i 0) bo.toArray.size=ns.sum:=by rw[fu,<- hl,Mk _ _ (da _),xj]
  rw[e2,e];refine⟨.int ns.sum,H,I.kept (t':=s'.toks) (h':=s'.heap) λb o' eb=>hm.heap b o' (λz=>?_) (ez _ eb),⟨t',rfl⟩,q⟩;exact absurd (fm eb) (Nat.not_lt.mpr (hw b z))
 have val:∀(bo:List ax),aI (ns.map V.int) bo->∀(i:Nat) (v:ax),bo.toArray[i]? = some v->∃t,v = .int (ns.getD i 0) t:=λbo rv i v hv=>by
  have hi:bo[i]? = some v:=by simpa using hv
  have hl:=rv.length;rw[dt]at hl;have Iq:i<ns.length:=by rw[hl];exact (og.mp hi).1
  obtain⟨u,e1,e2⟩:=rv.get (i:=i) (x:=.int ns[i]) (by simp[Iq])
  rw[hi]at e1;cases e1
  obtain⟨t,rfl⟩:=e2
  exact⟨t,by rw[kz,kg Iq];rfl⟩
 rcases hq with hq|hq
 ·obtain⟨bo,rv,p,hz⟩:=I.list hq
  have jq:a<s.heap.objs.size:=by obtain⟨o,e,_⟩:=p.isList;exact fm e
  refine call_sum_walkAnyS (wpAny_pyIter_list p.isList ?_);refine⟨s.heap.objs.size,_,_,_,_,_,_,λi=>ns.getD i 0,rfl,(Walks.list hh s.heap.objs.size a (lj jq) bo.toArray).toS,⟨⟨_,jw _ rfl,rfl,rfl⟩,p.isList.push _⟩,?_,val bo rv,λs' t' hm=>fin bo _ _ ?_ rv s' t' hm⟩
  ·intro b hb
   have hs:(s.heap.push { cls:=.type "list_iterator",data:=.fields #[.ref a,.int 0 0] }).objs.size=s.heap.objs.size+1:=size_push' _ _;show b<(s.heap.push _).objs.size;rw[size_push'];rcases eg.mp hb with rfl|hb
   ·exact Nat.lt_succ_self _
   ·rw[eh.mp hb];exact Nat.lt_succ_of_lt jq
  ·intro b hb
   rw[eh.mp hb];exact da _
 ·obtain⟨bo,rv,p,hz⟩:=I.tuple hq
  have jq:a<s.heap.objs.size:=by obtain⟨o,e,_⟩:=p;exact fm e
  refine call_sum_walkAnyS (Ax p ?_);refine⟨s.heap.objs.size,_,_,_,_,_,_,λi=>ns.getD i 0,rfl,(Walks.tuple hh s.heap.objs.size a (lj jq) bo.toArray).toS,⟨⟨_,jw _ rfl,rfl,rfl⟩,?_⟩,?_,val bo rv,λs' t' hm=>fin bo _ _ ?_ rv s' t' hm⟩
  ·obtain⟨o,e,h⟩:=p
   exact⟨o,ez _ e,h⟩
  ·intro b hb
   show b<(s.heap.push _).objs.size;rw[size_push'];rcases eg.mp hb with rfl|hb
   ·exact Nat.lt_succ_self _
   ·rw[eh.mp hb];exact Nat.lt_succ_of_lt jq
  ·intro b hb
   rw[eh.mp hb];exact da _
end
end L2
namespace PP
open PySem L2 PyProof.Rows
section
variable {X:Cx}{a b e:Expr}{ta tb te:aA}{tr:bV}{pos p2:Pos}
def vK:List PV->(PV->Prop)->Prop:=λxs Q=>∃x ns,xs = [x]/\jR x=some (bj ns)/\Q (.int ns.sum)
theorem Xf:fQ X vK (λxs H Q=>∃(a:az) (ns:ag),xs = [.ref a]/\(aN X.K H a (ns.map V.int)∨aM X.K H a (ns.map V.int))/\Q (.int ns.sum) H):=by
 rintro H vs xs Q Q' r ⟨x,ns,rfl,e,q⟩ k
 obtain⟨v,rfl,r1⟩:=r.one
 obtain⟨a,us,rfl,hs,r2⟩:=r1.seq e
 obtain rfl:=r2.ofInts
 exact⟨a,ns,rfl,hs,k _ _ _ (aD.refl _) (.int _) q⟩
theorem Mj (B:Bt X.mg)(hc:X.calm=true)(ha:QA X [e] tr)(hg:Gl X "sum":=by rfl)(he:starEach [e] X.env=(false,eval e X.env)::starEach [] X.env:=by rfl)(hpl:(backTo pos (starEach [] X.env)).any (·.1)=false:=by rfl):QE X (.Call (.Name "sum" p2) [e] [] pos) (aG vK tr):=
 mW (Xg hc) Xf hg B.sum PyProof.Rows.boot_sum ha (he:=he) (hpl:=hpl)
end
def kQ (xs ys:List PV):List PV:=List.zipWith (λx y=>PV.tup [x,y]) xs ys
theorem C6 (xs ys:List PV):(kQ xs ys).length=min xs.length ys.length:=by unfold kQ;rw[List.length_zipWith]
theorem Xe {xs ys:List PV}{i:Nat}{x y:PV}(h:xs[i]? = some x)(h':ys[i]? = some y):(kQ xs ys)[i]? = some (.tup [x,y]):=by
 unfold kQ;rw[List.getElem?_zipWith,h,h']
theorem Xd {xs ys:List PV}{i:Nat}{z:PV}(h:(kQ xs ys)[i]? = some z):∃x y,xs[i]? = some x/\ys[i]? = some y/\z = .tup [x,y]:=by
 unfold kQ at h;rw[List.getElem?_zipWith]at h;cases e:xs[i]? with
 |none=>rw[e]at h;cases h
 |some x=>
  cases e':ys[i]? with
  |none=>rw[e,e']at h;cases h
  |some y=>rw[e,e']at h;exact⟨x,y,rfl,rfl,(ip h).symm⟩
end PP
namespace Core
open PySem L2 PP
theorem Xc {ns:ag}{w:Int}(h:0<=w):oJ (bj ns) none (some w)=bj (ns.take w.toNat):=by
 rw[Xh h];exact List.map_take.symm
theorem Xb (n:Nat):(de n).Pairwise (·<·):=by
 unfold de;rw[AY];exact (List.pairwise_lt_range (n:=n)).imp λh=>by lia
theorem Xa (n:Nat)(p:Int->Bool):dC n ((de n).filter p)=true:=by
 refine oU.set ⟨(Xb n).sublist List.filter_sublist,λx hx=>?_,?_⟩
 ·have:=cN.mp (jv.mp hx).1
  exact this
 ·have:=Cc p (de n)
  rw[jW]at this;lia
end Core
namespace PP
open PySem L2 PyProof.Rows
abbrev Mi:=(Str->Prop)->aQ
end PP
namespace PP
open PySem L2
theorem Mh {α β:Type}{F:α->β->Prop}:∀{l:List α}{m:List β}{i:Nat}{x:α},Paired F l m->l[i]? = some x->∃y,m[i]? = some y/\F x y
 |_,_,_,_,.nil,e=>by simp at e
 |_,_,0,_,.cons r _,e=>by simp at e;subst e;exact⟨_,rfl,r⟩
 |_,_,i+1,x,.cons _ t,e=>by
  rw[Ce]at e
  obtain⟨y,h1,h2⟩:=Mh t e
  exact⟨y,by rw[Ce];exact h1,h2⟩
theorem ve {us:List ax}(h:us.length=1):∃a,us = [a]:=List.length_eq_one_iff.mp h
theorem jo {us:List ax}(h:us.length=2):∃a b,us = [a,b]:=by
 cases us with
 |nil=>cases h
 |cons a r=>
  obtain⟨b,rfl⟩:=ve (us:=r) (by simpa using h)
  exact⟨a,b,rfl⟩
theorem C7 {us:List ax}(h:us.length=3):∃a b c,us = [a,b,c]:=by
 cases us with
 |nil=>cases h
 |cons a r=>
  obtain⟨b,c,rfl⟩:=jo (us:=r) (by simpa using h)
  exact⟨a,b,c,rfl⟩
theorem kR {us:List ax}(h:us.length=4):∃a b c d,us = [a,b,c,d]:=by
 cases us with
 |nil=>cases h
 |cons a r=>
  obtain⟨b,c,d,rfl⟩:=C7 (us:=r) (by simpa using h)
  exact⟨a,b,c,d,rfl⟩
theorem C8 {us:List ax}(h:us.length=5):∃a b c d e,us = [a,b,c,d,e]:=by
 cases us with
 |nil=>cases h
 |cons a r=>
  obtain⟨b,c,d,e,rfl⟩:=kR (us:=r) (by simpa using h)
  exact⟨a,b,c,d,e,rfl⟩
section
variable {X:Cx}{e:Expr}{tr:bV}{pos p2:Pos}
def Mf:List PV->(PV->Prop)->Prop:=λxs Q=>∃ys:ae,xs = [.lst (ys.map λr=>PV.tup (bj r))]/\ys.length<=4096/\(∀y∈ys,y.length=2)/\∀zs:ae,zs.Perm ys->zs.Pairwise (λu v=>HT.b9 v u=false)->Q (.lst (zs.map λr=>PV.tup (bj r)))
end
section
variable {X:Cx}{a:Expr}{tk:aA}{σ:St}{H:Hp}{Q':VK}{pos p2:Pos}
theorem WZ (hN:X.N.Nodup)(i j:Nat){x y:Str}{aj am dw:Pos}(hi:X.N[i]? = some x:=by rfl)(hj:X.N[j]? = some y:=by rfl)(hv:dM X.env.scope x:=by first|exact Or.inl rfl|exact Or.inr (Or.inl rfl)|exact Or.inr (Or.inr rfl))(hd:(x==("__debug__":Str))=false:=by decide)(gf:(x==("__classdict__":Str))=false:=by decide)(jg:attributeBase (.Name x dw) "pop" X.env (eval (.Name x dw) X.env)=eval (.Name x dw) X.env:=by rfl)(jd:(aj.endLine==am.line)=true:=by rfl)(hx:hZ X.env.scope y:=by first|exact Or.inl rfl|exact Or.inr rfl)(hs:swapsWith (.Call (.Attribute (.Name x dw) "pop" aj) [] [] am) (some (.Name y p2)) pos.line X.env=pure false:=by rfl)(hf:X.fn y=true∨X.env.scope.names.lookup y=some .local:=by first|exact .inl rfl|exact .inr rfl) :
  QS X (.Assign [.Name y p2] (.Call (.Attribute (.Name x dw) "pop" aj) [] [] am) pos) (zA i j):=
 dQ (qD hN hj hx (Y2 CV PySem.F.slot_list_pop PySem.F.type_list_pop aM6 (gX hi hv hd gf) jg jd) hs hf) λ_ _ _=>aU8
end
end PP
namespace Core
open PySem L2 PP
def dY (hs:ag):ae:=hs.foldl (λacc h=>acc++acc.map λp=>p++[h]) [[]]
theorem vL (hs:ag)(h:Int):dY (hs++[h])=dY hs++(dY hs).map λp=>p++[h]:=by
 unfold dY;rw[zx];rfl
theorem C9 (n:Nat):de (n+1)=de n++[(n:Int)]:=by
 unfold de;rw[AO,iz];rfl
theorem WY:∀hs:ag,∀k,(dY (hs.take k)).length=2^min k hs.length:=by
 intro hs k
 induction k with
 |zero=>simp[dY]
 |succ k ih=>
  by_cases h:k<hs.length
  ·have tk:hs.take (k+1)=hs.take k++[hs[k]]:=by rw[vq,kg h];rfl
   rw[tk,vL,gq,dt,ih,show min (k+1) hs.length=min k hs.length+1 by lia,Nat.pow_succ];lia
  ·rw[Ay (by lia),show min (k+1) hs.length=min k hs.length by lia,<- ih,Ay (by lia)]
theorem Me (n:Nat):(dY (de n)).length=2^n:=by
 have:=WY (de n) n
 rw[Ay (by rw[jW];exact da _),jW,Nat.min_self]at this;exact this
theorem vM (n:Nat):∀S:ag,S∈dY (de n)↔S.Sublist (de n):=by
 induction n with
 |zero=>
  intro S;show S∈[[]]↔S.Sublist [];rw[eh,List.sublist_nil]
 |succ n ih=>
  intro S;rw[C9,vL,jk];refine⟨λh=>?_,λh=>?_⟩
  ·rcases h with h|h
   ·exact ((ih S).mp h).trans (List.sublist_append_left _ _)
   ·obtain⟨T,hT,rfl⟩:=gs.mp h
    exact ((ih T).mp hT).append (List.Sublist.refl _)
  ·obtain⟨p1,p2,rfl,s1,s2⟩:=List.sublist_append_iff.mp h
   cases s2 with
   |cons _ s3=>rw[List.sublist_nil.mp s3,nv];exact .inl ((ih p1).mpr s1)
   |cons_cons _ s3=>rw[List.sublist_nil.mp s3];exact .inr (gs.mpr ⟨p1,(ih p1).mpr s1,rfl⟩)
theorem vN {n:Nat}{S:ag}:S.Sublist (de n)↔dC n S=true:=by
 refine⟨λh=>?_,λh=>?_⟩
 ·have up:(de n).Pairwise (·<·):=by
   unfold de;rw[AY];exact List.pairwise_lt_range.imp λh=>by lia
  have u:oU (n:Int) S:=⟨up.sublist h,λx hx=>cN.mp (h.subset hx),by have:=h.length_le;rw[jW]at this;lia⟩;exact u.set
 ·have e:S=(de n).filter λx=>decide (x∈S):=by
   refine Mn h ?_ λx=>?_
   ·exact Xl (show dC n (de n)=true by have:=Xi n [];unfold rT at this;rwa [List.filter_eq_self.mpr λx _=>by simp]at this) _
   ·rw[jv,kf]
    exact⟨λz=>⟨cN.mpr ((fU h).2 x z),z⟩,λz=>z.2⟩
  rw[e];exact List.filter_sublist
end Core
namespace PP
open PySem L2
section
variable {X:Cx}{a b:Expr}{ta tb:aA}{pos ug p2 p3:Pos}
theorem WX (ha:QE X a ta)(hb:QE X b tb):QE X (.BinOp a .BitAnd b pos) (q2 (fE λi j=>.int (Builtin.bitAnd i j)) ta tb):=gQ aH7 u9 ha hb
end
section
variable {P:ba}{w:bd}{K:ad}{mg:Str→Option ax}{base:Heap}{k:Nat}{f:az}{fd:FuncData}
theorem WW (F:d7 P w K mg base c7 k f fd ["web"] ME)(b:iK K fd ["web"] [])(kp:PySem.W.keepIn K (.ref f)=true)(m:mg "_law_beside" = some (.ref f)):Df P w K mg base k "_law_beside" ["web"] Core.MP:=by
 refine⟨f,fd,F.imp λvs H Q E h=>?_,b,kp,m⟩
 obtain⟨xs,Qp,r,⟨ws,ls,rfl,wb,q⟩,k⟩:=h
 obtain⟨v,rfl,r1⟩:=r.one
 have:=wb.vm
 have:=wb.most
 refine⟨v,ws,ls,rfl,XT r1,by lia,by lia,wb.links,λt bs H' hb R=>k _ H' _ R.same (.lst R.new R.row ?_) q⟩
 have:=MC (K:=K) (M:=λa=>H a=none) (H:=H') (bs:=bs) (ls:=ls) 0 (λb hb=>(R.news b hb).1) λk b hk=>by rw[qa];exact R.rows k b hk
 rw[hb,<- List.range_eq_range']at this;exact this
end
end PP
namespace Core
open PySem L2 PP
noncomputable def hE (ws:ag)(ls:aa)(C:ag):Bool:=@decide (∀U:ag,iD ws ls U->(∀x∈C,x∈U)->∀h∈de ws.length,h∈U) (Classical.propDecidable _)
section
variable {ws:ag}{ls:aa}{C D:ag}
theorem E1:hE ws ls C=true↔∀U:ag,iD ws ls U->(∀x∈C,x∈U)->∀h∈de ws.length,h∈U:=
 ⟨λz=>@zh _ (Classical.propDecidable _) z,λz=>@eu _ (Classical.propDecidable _) z⟩
theorem WV {T:ag}(sh:iD ws ls T)(sub:∀x∈C,x∈T)(le:∀U,iD ws ls U->(∀x∈C,x∈U)->∀x∈T,x∈U):hE ws ls C=true↔∀h∈de ws.length,h∈T:=
 ⟨λf=>E1.mp f T sh sub,λa=>E1.mpr λU sU hU h hh=>le U sU hU h (a h hh)⟩
end
abbrev Md:aQ:=MP
def rV:aQ:=λxs Q=>∃ws ls x ns,xs = [gS ws ls,x]/\Wb ws ls/\bY x ns/\(∀x∈ns,x∈de ws.length)/\∀T,iD ws ls T->(∀x∈ns,x∈T)->(∀U,iD ws ls U->(∀x∈ns,x∈U)->∀x∈T,x∈U)->Q (.lst (fW ws.length T))
def Mc:aY:=(aP (bW 2 (aG Md (a8 (a5 0) aF)))
 (aP (lA 3 (gL (j7 (aG d4 (a8 (cR (a5 0) (qC (.int 0))) aF))) [none,some 1] (d8 0) gM (q2 (zI false) (a5 0) (a5 1))))
 (aP (bW 4 (qC (.bl true)))
 (aP (qT (bC (a5 4))
  (aP (bW 4 (qC (.bl false)))
  (gC (j7 (aG d4 (a8 (cR (a5 0) (qC (.int 0))) aF))) (d8 5)
   (aP (bW 6 (aG d4 (a8 (gL (jS (cR (a5 2) (a5 5))) [none,some 3] (d8 0) (kM (cR (a5 1) (a5 0))) (a5 0)) aF)))
   (dG (z0 (iP (kM (cR (a5 3) (a5 5)))) (bC (zK (a5 6) (cR (cR (a5 0) (qC (.int 0))) (a5 5))))) (aP (uH 3 (a5 5) (qC (.bl true)))
    (bW 4 (qC (.bl true)))) dF)))))
 (oF 3)))))
theorem WU:jX Mc ["web","seeds","beside","burning","left","hearth","count"] rV:=by
 rintro xs Q ⟨ws,ls,x,ns,rfl,wb,hx,yt,q⟩;have vm:=wb.vm;refine⟨_,rfl,ws,ls,rfl,wb,trivial,?_⟩;refine⟨_,rfl,_,_,_,rfl,rfl,rfl,_,_,rfl,rfl,_,rfl,by rw[cL];lia,by rw[cL];lia,by rw[dP,cL];lia,λi acc=>acc=((de ws.length).take i).map λi=>PV.bl (decide (i∈ns)),rfl,?_,?_⟩
 ·rintro i y acc hy rfl
  obtain⟨rfl,hi⟩:=rO hy
  rw[cL]at hi;have hi:i<ws.length:=by lia
  refine⟨_,rfl,_,rfl,_,ns,rfl,hx.seq,trivial,?_⟩;have tk:=Yg (f:=λ(i:Int)=>PV.bl (decide (i∈ns))) (vD hi);show _=List.map _ (List.take (i+1) _);rw[tk,Int.zero_add];rfl
 rintro bu rfl;rw[dP,cL,Ay (by rw[jW];lia)];have flb:∀S,cb (fW ws.length S)=true:=λS=>by
  rw[MQ];intro x hx;unfold fW at hx
  obtain⟨i,_,rfl⟩:=gs.mp hx
  rfl
 refine⟨rfl,flb ns,?_⟩;refine⟨trivial,?_⟩
 refine⟨λn ρ=>∃(T:ag) (g:Bool) (y5 y6:Option Slot),ρ = [some (.sh (flat (gS ws ls)) (gS ws ls)),some (.sh (flat x) x),some (.sh true (.lst (nC ws.length ls))),some (.own (.lst (fW ws.length T))),some (.sh true (.bl g)),y5,y6]/\
   (∀x∈ns,x∈T)/\(∀U,iD ws ls U->(∀x∈ns,x∈U)->∀x∈T,x∈U)/\(g=false->iD ws ls T)/\n=2*((de ws.length).filter λz=>!decide (z∈T)).length+(if g=true then 1 else 0),⟨_,ns,true,none,none,rfl,λ_ h=>h,λ_ _ h=>h,(λz=>by cases z),rfl⟩,?_⟩
 rintro n ρ ⟨T,g,y5,y6,rfl,sub,le,sh,rfl⟩;refine⟨_,rfl,_,rfl,?_⟩;cases g with
 |false=>exact bA ⟨_,rfl,trivial,q T (sh rfl) sub le⟩
 |true=>
  refine cU ⟨trivial,?_⟩
  refine⟨_,rfl,_,_,_,rfl,rfl,rfl,_,_,rfl,rfl,_,rfl,by rw[cL];lia,by rw[cL];lia,λi ρ=>∃(T2:ag) (g2:Bool) (y5 y6:Option Slot),ρ = [some (.sh (flat (gS ws ls)) (gS ws ls)),some (.sh (flat x) x),some (.sh true (.lst (nC ws.length ls))),some (.own (.lst (fW ws.length T2))),some (.sh true (.bl g2)),y5,y6]/\
   (∀x∈ns,x∈T2)/\(∀U,iD ws ls U->(∀x∈ns,x∈U)->∀x∈T2,x∈U)/\(g2=false->T2=T/\∀j:Nat,j<i->mq ws ls T j=false)/\(g2=true->((de ws.length).filter λz=>!decide (z∈T2)).length<((de ws.length).filter λz=>!decide (z∈T)).length),⟨T,false,y5,y6,rfl,sub,le,(λ_=>⟨rfl,λj hj=>absurd hj (As _)⟩),λz=>by cases z⟩,?_,?_⟩
  ·rintro i y ρ hy ⟨T2,g2,y5,y6,rfl,yi,Cv,h0,h1⟩
   obtain⟨rfl,hi⟩:=rO hy
   have hi:i<ws.length:=by rw[cL,mz]at hi;exact hi
   refine C5 ?_;rw[Int.zero_add];have hr:(i:Int)∈de ws.length:=cN.mpr ⟨by lia,by lia⟩;refine⟨_,rfl,_,rfl,_,_,_,rfl,rfl,Yc (by lia) (by lia),_,rfl,(λz=>by cases z),?_,λj acc=>acc=bj (((bX ls (i:Int)).take j).filter λz=>decide (z∈T2)),rfl,?_,?_⟩
   ·rw[cL];have:=yV ls (i:Int);have:=wb.most;lia
   ·rintro j z acc hz rfl
    obtain⟨o,rfl,ho⟩:=MT hz
    have tk:=MS (p:=λz=>decide (z∈T2)) ho;have om:=cN.mp (Xk wb (sr ho));refine⟨_,rfl,_,rfl,_,_,_,rfl,rfl,MA om.1 om.2,_,rfl,?_⟩;show if decide (o∈T2)=true then _ else _
    cases hm:decide (o∈T2) with
    |true=>
     rw[hm]at tk;refine cU ⟨_,rfl,trivial,?_⟩;dsimp only;rw[tk,A6];rfl
    |false=>
     rw[hm]at tk;refine bA ?_;dsimp only;rw[tk];exact congrArg bj (nv _).symm
   rintro acc rfl;rw[cL,xj];have ix:L2.oh (bj ws) (i:Int)=some (.int (ws.getD (i:Int).toNat 0)):=MO (by lia) (by lia);refine⟨_,_,rfl,rfl,trivial,?_⟩;refine⟨_,rfl,_,rfl,_,_,_,rfl,rfl,MA (by lia) (by lia),_,rfl,?_⟩;show if (!decide ((i:Int)∈T2))=true then _ else _
   have fw:mq ws ls T2 (i:Int)=false->∃(T3:ag) (g3:Bool) (y5 Pr:Option Slot),[some (Slot.sh (flat (gS ws ls)) (gS ws ls)),some (.sh (flat x) x),some (.sh true (.lst (nC ws.length ls))),some (.own (.lst (fW ws.length T2))),some (.sh true (.bl g2)),si (i:Int),some (.sh true (.int (((bX ls (i:Int)).filter λz=>decide (z∈T2)).length:Nat)))] = [some (.sh (flat (gS ws ls)) (gS ws ls)),some (.sh (flat x) x),some (.sh true (.lst (nC ws.length ls))),some (.own (.lst (fW ws.length T3))),some (.sh true (.bl g3)),y5,Pr]/\
     (∀x∈ns,x∈T3)/\(∀U,iD ws ls U->(∀x∈ns,x∈U)->∀x∈T3,x∈U)/\(g3=false->T3=T/\∀j:Nat,j<i+1->mq ws ls T j=false)/\(g3=true->((de ws.length).filter λz=>!decide (z∈T3)).length<((de ws.length).filter λz=>!decide (z∈T)).length):=λhk=>by
    refine⟨T2,g2,_,_,rfl,yi,Cv,λz=>?_,h1⟩
    obtain⟨e,a⟩:=h0 z
    refine⟨e,λj hj=>?_⟩;by_cases je:j=i
    ·rw[je,<- e];exact hk
    ·exact a j (by lia)
   by_cases hm:(i:Int)∈T2
   ·have hk:mq ws ls T2 (i:Int)=false:=by unfold mq;rw[eu hm];rfl
    rw[eu hm]
    have:=fw hk
    refine bA (bA ?_);dsimp only;rw[cL];exact this
   ·rw[dm hm]
    refine cU ⟨_,rfl,_,rfl,_,_,_,rfl,rfl,rfl,_,rfl,_,_,_,rfl,rfl,ix,_,_,rfl,rfl,_,rfl,?_⟩;have ek:mq ws ls T2 (i:Int)=decide ((((bX ls (i:Int)).filter λz=>decide (z∈T2)).length:Int) >= ws.getD (i:Int).toNat 0):=by unfold mq;rw[dm hm];rfl
    dsimp only;rw[cL];rw[<- ek];cases hk:mq ws ls T2 (i:Int) with
    |false=>exact bA (fw hk)
    |true=>
     refine cU ⟨_,rfl,_,rfl,_,i,rfl,?_,trivial,?_⟩
     ·unfold gZ
      rw[oV,if_pos (by lia),if_pos (by lia),mz]
     have bs:=XM (n:=ws.length) (S:=T2) (x:=(i:Int)) (by lia) (by lia);rw[mz]at bs;rw[bs];refine⟨trivial,T2++[(i:Int)],true,_,_,rfl,λx hx=>uc _ (yi x hx),λU sU hU x hx=>?_,(λz=>by cases z),λ_=>?_⟩
     ·rcases jk.mp hx with hx|hx
      ·exact Cv U sU hU x hx
      ·rw[eh.mp hx]
       refine Classical.byContradiction λhn=>?_
       have:=rS hk (Cv U sU hU) hn
       rw[sU (i:Int) hr]at this;cases this
     ·have lt:((de ws.length).filter λz=>!decide (z∈T2++[(i:Int)])).length<((de ws.length).filter λz=>!decide (z∈T2)).length:=by
       have n1:((de ws.length).filter λz=>!decide (z∈T2++[(i:Int)])).Nodup:=(Mo _).filter _;have n2:(i:Int)∉(de ws.length).filter λz=>!decide (z∈T2++[(i:Int)]):=λz=>by
        have:=(jv.mp z).2
        rw[eu (ny _ (List.mem_singleton_self _))]at this;cases this
       have:=(qu.mpr ⟨n2,n1⟩).length_le_of_subset (l₂:=(de ws.length).filter λz=>!decide (z∈T2)) λz hz=>by
        rcases eg.mp hz with e|hz
        ·rw[e];exact jv.mpr ⟨hr,by rw[dm hm];rfl⟩
        ·have h2:=jv.mp hz
         refine jv.mpr ⟨h2.1,?_⟩;rw[dm λw=>?_];rfl;rw[eu (uc _ w)]at h2;exact absurd h2.2 (by decide)
       rw[sj]at this;lia
      cases g2 with
      |true=>have:=h1 rfl;lia
      |false=>have e:=(h0 rfl).1;rw[e]at lt ⊢;exact lt
  ·rintro ρ ⟨T2,g2,y5,y6,rfl,yi,Cv,h0,h1⟩
   rw[dP,cL,mz]at h0;cases g2 with
   |true=>exact⟨_,by have:=h1 rfl;rw[if_pos rfl];lia,T2,true,y5,y6,rfl,yi,Cv,(λz=>by cases z),rfl⟩
   |false=>
    obtain⟨e,PQ⟩:=h0 rfl
    subst e;refine⟨_,by rw[if_pos rfl,if_neg (by decide)];lia,T2,false,y5,y6,rfl,yi,Cv,(λ_ h hh=>?_),rfl⟩;have hm:=cN.mp hh
    have:=PQ h.toNat (by lia)
    rwa [show ((h.toNat:Nat):Int)=h by lia]at this
def lO:aQ:=λxs Q=>∃ws ls x ns,xs = [gS ws ls,x]/\Wb ws ls/\bY x ns/\(∀x∈ns,x∈de ws.length)/\Q (.bl (hE ws ls ns))
def Mb:aY:=(c9 (qZ (aG d4 (a8 (gL (jS (aG rV (a8 (a5 0) (a8 (a5 1) aF)))) [none] (d8 0) (iP (kM (a5 0))) (a5 0)) aF)) (qC (.int 0))))
theorem WT:jX Mb ["web","seeds"] lO:=by
 rintro xs Q ⟨ws,ls,x,ns,rfl,wb,hx,yt,q⟩;have vm:=wb.vm;refine⟨_,rfl,_,rfl,ws,ls,x,ns,rfl,wb,hx,yt,λT sh sub le=>?_⟩;refine⟨_,rfl,(λz=>by cases z),by rw[oV];lia,λi acc=>acc.length=(((de ws.length).take i).filter λz=>!decide (z∈T)).length,rfl,?_,?_⟩
 ·rintro i y acc hy e
  unfold fW at hy;rw[ij]at hy;cases hz:(de ws.length)[i]? with
  |none=>rw[hz]at hy;cases hy
  |some z=>
   rw[hz]at hy;cases hy;have tk:=MS (p:=λz=>!decide (z∈T)) hz;refine⟨_,rfl,_,rfl,?_⟩;show if (!decide (z∈T))=true then _ else _
   cases hm:decide (z∈T) with
   |true=>
    rw[hm]at tk;refine bA ?_;dsimp only;rw[tk,e];exact congrArg List.length (nv _).symm
   |false=>
    rw[hm]at tk;refine cU ⟨_,rfl,trivial,?_⟩;dsimp only;rw[tk,gq,gq,e];rfl
 ·intro acc e
  rw[oV,Ay (by rw[jW];exact da _)]at e;refine⟨_,_,rfl,rfl,.inl ⟨_,_,rfl,rfl,trivial,?_⟩⟩;have ef:hE ws ls ns=decide ((acc.length:Int)=0):=by
   rw[Au,kf,WV sh sub le,e];constructor
   ·intro a
    rw[List.filter_eq_nil_iff.mpr λz hz=>by rw[eu (a z hz)];decide];rfl
   ·intro z h hh
    have nl:(de ws.length).filter (λz=>!decide (z∈T)) = []:=Dc (by lia)
    have:=List.filter_eq_nil_iff.mp nl h hh
    simpa using this
  rw[ef]at q;exact q
def oY:aQ:=λxs Q=>∃(ms:ag) (n:Nat),xs = [.tup (bj ms),.int n]/\dC n ms=true/\Q (.bl true)
def Ma (K:ad):aY:=(aP (dG (iP (bC (kN K "tuple" (a5 0)))) (c9 (qC (.bl false))) dF)
 (aP (bW 2 (zH (qC (.int 1))))
 (aP (gC (jS (a5 0)) (d8 3)
  (aP (dG (gK (iP (bC (aG j9 (a8 (a5 3) aF)))) (gK (bC (Qe (a5 3) (a5 2))) (bC (zK (a5 3) (a5 1))))) (c9 (qC (.bl false))) dF)
  (bW 2 (a5 3))))
 (c9 (qC (.bl true))))))
theorem WS {K:ad}(kt:PySem.W.kitOne K (.type "tuple") (.type "tuple")=some true):jX (Ma K) ["found","many","last","hearth"] oY:=by
 rintro xs Q ⟨ms,n,rfl,hs,q⟩;have up:=nB (fU hs).1;refine⟨_,rfl,_,_,rfl,kt,_,rfl,bA ?_⟩;refine⟨_,rfl,trivial,?_⟩;refine⟨_,rfl,_,rfl,Yd (.inl rfl),λi ρ=>∃(l:Int) (y3:Option Slot),ρ = [some (.sh (flat (.tup (bj ms))) (.tup (bj ms))),si n,si l,y3]/\∀h,ms[i]? = some h->l<h,⟨-1,none,rfl,λh hh=>by have:=(fU hs).2 h (sr hh);lia⟩,?_,?_⟩
 ·rintro i y ρ hy ⟨l,y3,rfl,lo⟩
  obtain⟨h,rfl,hh⟩:=MT hy
  have b:=(fU hs).2 h (sr hh);have l1:=lo h hh;refine C5 ?_;refine⟨_,rfl,h,rfl,_,rfl,bA ⟨_,rfl,_,rfl,_,_,rfl,rfl,_,rfl,?_⟩⟩;show if decide (h<=l)=true then _ else _
  rw[dm (by lia)];refine bA ⟨_,rfl,_,rfl,_,_,rfl,rfl,_,rfl,?_⟩;show if decide (h >= (n:Int))=true then _ else _
  rw[dm (by lia)];refine bA ⟨_,rfl,trivial,h,_,rfl,λh2 RG=>?_⟩
  obtain⟨i1,e1⟩:=og.mp hh
  obtain⟨i2,e2⟩:=og.mp RG
  have:=Bb.mp up i (i+1) i1 i2 (by lia)
  rw[e1,e2]at this;exact this
 ·rintro ρ ⟨l,y3,rfl,_⟩
  exact⟨trivial,q⟩
end Core
namespace L2
open PySem PySem.Spec PyProof.Rows
theorem WR {a b c:ag}(h1:HT.b9 a b=true)(h2:HT.b9 b c=true):HT.b9 a c=true:=by
 cases e:HT.b9 a c with
 |true=>rfl
 |false=>
  have ca:=yU (qL h2) (qL h1)
  have:=Z9 e ca
  subst this
  have:=qL h1
  rw[h2]at this;cases this
theorem E2 {α:Type}{p q:α->Bool}:∀{l:List α},(∀x∈l,p x=true->q x=true)->(l.filter p).length<=(l.filter q).length
 |[],_=>da _
 |x::l,h=>by
  have ih:=E2 (l:=l) λy hy=>h y (gc _ hy)
  have hx:=h x dv;rw[AV,AV];cases ep:p x with
  |false=>cases q x<;>simp<;>lia
  |true=>rw[hx ep];simp;lia
theorem LZ {α:Type}{p q:α->Bool}:∀{l:List α},(∀x∈l,p x=true->q x=true)->(∃x∈l,q x=true/\p x=false)->(l.filter p).length<(l.filter q).length
 |[],_,e=>by obtain⟨_,z,_⟩:=e;cases z
 |x::l,h,e=>by
  have hx:=h x dv;have h':∀y∈l,p y=true->q y=true:=λy hy=>h y (gc _ hy)
  have le:=E2 h';rw[AV,AV]
  obtain⟨y,hy,qy,py⟩:=e
  rcases eg.mp hy with rfl|hy
  ·rw[qy,py];simp;lia
  ·have ih:=LZ h' ⟨y,hy,qy,py⟩
   cases ep:p x with
   |false=>cases q x<;>simp<;>lia
   |true=>rw[hx ep];simp;lia
def nD (ys:ae)(x:ag):Nat:=(ys.filter λy=>HT.b9 y x).length
theorem E3 {ys:ae}{u v:ag}(hu:u∈ys)(hv:v∈ys):HT.b9 u v=decide ((nD ys u:Int)<(nD ys v:Int)):=by
 have Ra:∀a:ag,HT.b9 a a=false:=λa=>by
  cases e:HT.b9 a a with
  |false=>rfl
  |true=>have:=qL e;rw[e]at this;cases this
 cases e:HT.b9 u v with
 |true=>
  have:nD ys u<nD ys v:=LZ (λx _ h=>WR h e) ⟨u,hu,e,Ra u⟩
  exact (eu (by lia)).symm
 |false=>
  have:nD ys v<=nD ys u:=E2 λx _ h=>by
   cases e2:HT.b9 x u with
   |true=>rfl
   |false=>have:=yU e2 e;rw[h]at this;cases this
  exact (dm (by lia)).symm
end L2
namespace L2
open PySem PySem.Spec PyProof.Rows SO
section
variable {prog:ba}{w:bd}{A:bc}{E:ax→ay→Prop}{s:ay}
theorem WQ {l b:az}{items items2:Array ax}{ns ms:ag}{Q:Bool->ay->Prop}(hl:IsTup s.heap l items)(hb:IsTup s.heap b items2)(hi:IntsAre items.toList ns)(hj:IntsAre items2.toList ms)(hu:A.units<cLine)(h:Q (HT.b9 ns ms) s):wpAny (model prog w) A (oneLt' true (.ref l) (.ref b)) Q E s:=by
 obtain⟨⟨cls,dd,data,sl⟩,ho,hc,n,hd⟩:=id hl
 obtain⟨⟨Aq,tf,data2,su⟩,ui,hc2,n2,hd2⟩:=id hb
 simp only at hc hd hc2 hd2;subst hc hd hc2 hd2;rw[oneLt'_eq];simp only[if_true];refine bw (wpAny_cRoomFor hu ?_);refine bw (wpAny_callSpecialIfBound?_slot (T:="tuple") ⟨_,ho,rfl⟩ PySem.F.slot_tuple_lt (vn PySem.F.slot_tuple_lt ⟨_,ho,rfl⟩ PySem.F.entry_tuple_lt (PySem.F.args_tuple_lt_2 _ _) (HT.X0 l b items items2 n n2 dd tf sl su ns ms hi hj) ⟨ho,ui,?_⟩));exact Aw h
structure gT (h:Heap)(v:ax)(ns:ag):Prop where
 at_:∃b ob us n,v = .ref b/\h.get? b=some ob/\ob.cls = .type "tuple"/\ob.data = .seq (List.toArray us) n/\IntsAre us ns
def E4 (h:Heap)(v:ax):ag:=match v with
 |.ref b=>match h.get? b with
  |some ob=>match ob.data with
   |.seq us _=>us.toList.map numOf
   |_=>[]
  |none=>[]
 |_=>[]
theorem LY:∀{us:List ax}{ns:ag},IntsAre us ns->us.map numOf=ns
 |_,_,.nil=>rfl
 |_,_,.cons _ _ h=>by rw[gg,LY h];rfl
theorem gT.ints {h:Heap}{v:ax}{ns:ag}(z:gT h v ns):E4 h v=ns:=by
 obtain⟨b,ob,us,n,rfl,e2,_,e4,e5⟩:=z.at_
 unfold E4;dsimp only;rw[e2];dsimp only;rw[e4];exact LY e5
def nF (h:Heap)(ys:ae)(x:Keyed):Int:=(nD ys (E4 h x.1):Int)
theorem WO (ys:ae)(hu:A.units<cLine):cV prog w A E s oneType' (λx=>∃ns∈ys,gT s.heap x.1 ns) (nF s.heap ys):=by
 rintro x y ⟨ns,m1,z⟩ ⟨ms,m2,z'⟩ st Q hk hq;unfold nF at hq;rw[z.ints,z'.ints,<- E3 m1 m2]at hq
 obtain⟨b,ob,us,n,e1,e2,e3,e4,e5⟩:=z.at_
 obtain⟨b',QD,Hm,n',GV,GU,EM,GP,GO⟩:=z'.at_
 rw[lt'_eq];refine cw (wpS_get ?_);rw[hk,e1,GV,keyLt'_oneType];refine cw (wpS_lift (wpAny_attempt (WQ (items:=us.toArray) (items2:=Hm.toArray) ⟨_,e2,e3,_,e4⟩ ⟨_,GU,EM,_,GP⟩ (by simpa using e5) (by simpa using GO) hu ?_)))
 exact⟨rfl,dk hq⟩
def oZ (h:Heap)(v:ax):Option ax:=match v with
 |.ref b=>match h.get? b with
  |some ob=>match ob.data with
   |.seq us _=>us[0]?
   |_=>none
  |none=>none
 |_=>none
theorem gT.first {h:Heap}{v:ax}(z:gT h v []):oZ h v=none:=by
 obtain⟨b,ob,us,n,rfl,e2,_,e4,e5⟩:=z.at_
 cases e5;unfold oZ;dsimp only;rw[e2];dsimp only;rw[e4];rfl
end
section
variable {M:Model}{A:bc}{E:ax→ay→Prop}{s:ay}
theorem LX:∀(vs:List ax) {Q:List (Option ax)->ay->Prop},(∀v∈vs,∃ns,gT s.heap v ns)->Q (vs.map (oZ s.heap)) s->wpAny M A (vs.mapM firstOfTuple') Q E s
 |[],_,_,h=>by rw[List.mapM_nil];exact cy h
 |v::vs,Q,t,h=>by
  obtain⟨ns,z⟩:=t v dv
  obtain⟨b,ob,us,n,rfl,e2,e3,e4,e5⟩:=z.at_
  have ef:oZ s.heap (.ref b)=us.toArray[0]?:=by
   unfold oZ;dsimp only;rw[e2];dsimp only;rw[e4]
  rw[List.mapM_cons];refine bw ?_;rw[PySem.W.kas_first_eq];refine bw (PySem.W.Looks.here (show PySem.W.Looks M s.heap (typeOf (.ref b)) ob.cls from (PySem.W.Looks.ld e2).andThen .now) ?_);rw[e3,if_neg (by first|decide|simp)];refine bw (listItems_at e2 e4 (cy ?_));rw[<- ef];exact bw (LX vs (Q:=λbs s'=>wpAny M A (pure (oZ s.heap (.ref b)::bs)) Q E s') (λy hy=>t y (gc _ hy)) (cy h))
theorem WN {v:ax}{vs:List ax}{Q:SortKind->ay->Prop}(t:∀y∈v::vs,∃ns,gT s.heap y ns)(t0:gT s.heap v [])(h:Q oneType' s):wpAny M A (keyKind' (v::vs).toArray) Q E s:=by
 rw[keyKind'_eq,List.mapM_toArray,map_eq_pure_bind];refine bw (bw (LX _ t (cy ?_)));rw[gg,t0.first,if_neg (by simp),if_neg (by simp)];rw[oneTypeOnly'_eq,List.mapM_toArray,map_eq_pure_bind];refine bw (bw (bw (PySem.W.kas_mapM (r:=Value.type "tuple") _ (λy hy Q' hq=>?_) (cy ?_))))
 ·obtain⟨ns,z⟩:=t y (by simpa using hy)
  obtain⟨b,ob,us,n,rfl,e2,e3,e4,e5⟩:=z.at_
  refine PySem.W.Looks.here (show PySem.W.Looks M s.heap (typeOf (.ref b)) ob.cls from (PySem.W.Looks.ld e2).andThen .now) ?_;rw[e3];exact hq
 ·have DO:((List.map (λ_=>Value.type "tuple") (v::vs)).toArray.all λx=>x==Value.type "tuple")=true:=by
   simp only[List.all_toArray,List.all_map,AX];intro _ _;rfl
  have h0:(List.map (λ_=>Value.type "tuple") (v::vs)).toArray[0]? = some (Value.type "tuple"):=by simp
  rw[h0];simp only[DO,if_true];exact cy (cy h)
end
theorem LW {prog:ba}{w:bd}{A:bc}{E:ax->ay->Prop}{s:ay}{l:az}{vs:List ax}{Q:ax->ay->Prop}{κ:SortKind}{Ok:Keyed->Prop}{rk:Keyed->Int}(hl:s.heap.IsList l vs.toArray)(h2:2<=vs.length)(big:vs.length<=sizeLine)(hk:∀(A:bc) (E:ax->ay->Prop) (Q:SortKind->ay->Prop),Q κ { s with heap:=eU (fJ s.heap vs) (s.heap.objs.size+1) vs }->wpAny (model prog w) A (keyKind' vs.toArray) Q E { s with heap:=eU (fJ s.heap vs) (s.heap.objs.size+1) vs })(hu:A.units+3<cLine)(c:∀(A:bc) (E:ax->ay->Prop),A.units<cLine->cV prog w A E { s with heap:=eU (fJ s.heap vs) (s.heap.objs.size+1) vs } κ Ok rk)(o:∀v∈vs,Ok (v,v))(q:∀out:List ax,out.Perm vs->out.Pairwise (λu v=>rk (u,u)<=rk (v,v))->Q (.ref (s.heap.objs.size+1)) { s with heap:=sortedAll s.heap vs out.toArray }):wpAny (model prog w) A (call (.builtin "sorted") [.ref l]) Q E s:=by
 apply Calls.call_function_entry kind_sorted plain_sorted entry_sorted (args_sorted1 _);simp only[Builtin.«sorted»];apply bw (m:=checkCount "sorted" 1 1 _);apply cy;apply bw;refine collect_list hl ?_ big;apply bw;refine wpAny_newList ?_ big;have one:((s.heap.push (seqObj "list" #[] 0)).update s.heap.objs.size (Obj.mapSeq (·++vs.toArray))).objs.size=s.heap.objs.size+1:=(Heap.size_update _ _ _).trans (size_push' _ _);have AA:(fJ s.heap vs).get? (s.heap.objs.size+1)=some (seqObj "list" vs.toArray 0):=one▸jw _ rfl
 change wpAny _ _ _ _ _ { s with heap:=fJ s.heap vs }
 rw[one];apply bw;apply xf;refine zf slot_list_sort ⟨_,AA,rfl⟩ entry_list_sort ?_ (args_list_sort _);exact Yj (s:={ s with heap:=fJ s.heap vs }) AA h2 big (hk _ _) (c _ _ (by show A.units+2<cLine;lia)) o λout a1 a2=>⟨_,rfl,cy ⟨_,rfl,q out a1 a2⟩⟩
end L2
namespace PP
open PySem L2
section
variable {X:Cx}{e:Expr}{tr:bV}{pos p2:Pos}
def LV:List PV->(PV->Prop)->Prop:=λxs Q=>∃ys:ae,xs = [.lst (ys.map λr=>PV.tup (bj r))]/\ys.length<=4096/\(∀y,ys.head? = some y->y = [])/\∀zs:ae,zs.Perm ys->zs.Pairwise (λu v=>HT.b9 v u=false)->Q (.lst (zs.map λr=>PV.tup (bj r)))
end
end PP
namespace L2
open PySem PySem.Spec PyProof.Rows
section
variable {X:Cx}
theorem WM (hc:X.calm=true):dO X (.builtin "min") (λxs H Q=>∃(a:az) (ns:ag),xs = [.ref a]/\aN X.K H a (ns.map V.int)/\ns≠[]/\∀M:Int,M∈ns->(∀x∈ns,M<=x)->Q (.int M) H):=by
 intro ai s σ H xs us Q I r h
 obtain⟨a,ns,rfl,hq,ne,q⟩:=h
 obtain⟨u,rfl,ru⟩:=jM r
 cases ru
 obtain⟨bo,rv,p,hz⟩:=I.list hq
 have ia:=mG rv
 obtain⟨ys,ey⟩:=ia.allInts.items
 have en:ns=ys.toList.map (·.1):=by
  have e1:=nums_intItems ys;rw[<- ey]at e1;exact ia.numsOf.symm.trans e1
 have pos:0<ys.size:=Nat.pos_of_ne_zero λz=>ne (by rw[en,EO z];rfl)
 have hl:s.heap.IsList a (intItems ys):=ey▸p.isList;refine min_intList (I.ok.hd hc) hl pos λv h' tk ev old=>?_
 obtain⟨t,rfl⟩:=intItems_at ev
 have best:=argBest_lt (numAt ys) (ys.size-1);have mem:∀x:Int,x∈ns↔∃j,j<ys.size/\numAt ys j=x:=λx=>by
  rw[en];constructor
  ·intro z
   obtain⟨j,hj,e⟩:=mem_getD z
   exact⟨j,by simpa using hj,by rw[numAt_eq];exact e⟩
  ·rintro⟨j,hj,rfl⟩
   rw[numAt_eq];exact getD_mem (by simpa using hj)
 refine⟨.int _,H,I.kept (t':=tk) (h':=h') old,⟨t,rfl⟩,q _ ?_ λx hx=>?_⟩
 ·exact (mem _).mpr ⟨_,by have:=best.1;lia,rfl⟩
 ·obtain⟨j,hj,rfl⟩:=(mem x).mp hx
  exact best.2 j (by lia)
end
end L2
namespace PP
open PySem L2
section
variable {X:Cx}{e:Expr}{tr:bV}{pos p2:Pos}
def LU:List PV->(PV->Prop)->Prop:=λxs Q=>∃ns:ag,xs = [.lst (bj ns)]/\ns≠[]/\∀M:Int,M∈ns->(∀x∈ns,M<=x)->Q (.int M)
theorem WL:fQ X LU (λxs H Q=>∃(a:az) (ns:ag),xs = [.ref a]/\aN X.K H a (ns.map V.int)/\ns≠[]/\∀M:Int,M∈ns->(∀x∈ns,M<=x)->Q (.int M) H):=by
 rintro H vs xs Q Q' r ⟨ns,rfl,ne,q⟩ k
 obtain⟨v,rfl,r1⟩:=r.one
 obtain⟨a,us,rfl,_,h,r2⟩:=r1.rh
 rw[r2.ofInts]at h
 exact⟨a,ns,rfl,aN.of h,ne,λM m1 m2=>k _ _ _ (aD.refl _) (.int M) (q M m1 m2)⟩
end
end PP
namespace Core
open PySem L2 PP
theorem LR:∀n,(dY (de n))[0]? = some []
 |0=>rfl
 |n+1=>by
  have l:=LR n;rw[C9,vL,Az (og.mp l).1];exact l
def p5:aQ:=λxs Q=>∃n:Nat,xs = [.int n]/\n<=12/\∀Z:ae,Z.Perm (dY (de n))->Z.Pairwise (λu v=>HT.b9 v u=false)->Q (.lst (fq Z))
def LQ:aY:=(aP (bW 1 (jO (a8 (eS aF) aF)))
 (aP (gC (j7 (a5 0)) (d8 2)
  (bW 1 (B7 (a5 1) (gL (jS (a5 1)) [none,some 2] (d8 0) gM (C4 (a5 0) (eS (a8 (a5 1) aF)))))))
 (c9 (aG LV (a8 (a5 1) aF)))))
theorem WK:jX LQ ["many","sets","hearth"] p5:=by
 rintro xs Q ⟨n,rfl,hn,q⟩;have ln:=Me n;have l12:2^n<=4096:=iw (Nat.pow_le_pow_right (by decide) hn) (by decide);refine⟨by decide,rfl,by show 1<=1000;decide,rfl,trivial,?_⟩;refine⟨_,rfl,(n:Int),rfl,by lia,by lia,λi ρ=>∃y,ρ = [some (.sh true (.int (n:Int))),some (.sh true (.lst (fq (dY (de i))))),y] , ⟨none,rfl⟩,?_,?_⟩
 ·rintro i y ρ hy ⟨y2,rfl⟩
  obtain⟨rfl,hi⟩:=rO hy
  have hi:i<n:=by lia
  have li:=Me i;have QV:2^i<=4096:=iw (Nat.pow_le_pow_right (by decide) (show i<=12 by lia)) (by decide);refine C5 ?_;rw[Int.zero_add];have sh:∀S∈dY (de i),S.length<=12:=λS hS=>by
   have:=B0 (n:=i) (vN.mp ((vM i S).mp hS))
   lia
  have nx:dY (de (i+1))=dY (de i)++(dY (de i)).map λp=>p++[(i:Int)]:=by rw[C9,vL]
  generalize dY (de i)=A at *;refine⟨_,rfl,_,rfl,_,rfl,(λz=>by cases z),by rw[oT];lia,λj acc=>acc=fq ((A.take j).map λp=>p++[(i:Int)]),rfl,?_,?_⟩
  ·rintro j z acc hz rfl
   obtain⟨S,rfl,hS⟩:=A9 hz
   have sl:=sh S (sr hS);refine⟨_,rfl,_,rfl,by show 1<=1000;decide,rfl,bj S,bj [(i:Int)],rfl,rfl,gI _,gI _,by rw[cL];show S.length+1<=_;lia,?_⟩;rw[<- A6];refine⟨trivial,?_⟩;dsimp only;rw[vq,hS,iz];unfold fq;rw[iz];rfl
  rintro acc rfl;rw[oT,xj];refine⟨_,_,rfl,rfl,vE _,vE _,by rw[oT,oT,dt];lia,trivial,?_⟩;refine⟨si i,?_⟩;rw[nx];unfold fq;rw[iz];rfl
 ·rintro ρ ⟨y,rfl⟩
  rw[dP,mz];refine⟨_,rfl,dY (de n),rfl,by lia,λy hy=>?_,λZ pz so=>⟨trivial,q Z pz so⟩⟩;have h0:(dY (de n))[0]? = some y:=by rw[<- List.head?_eq_getElem?];exact hy
  rw[LR]at h0;exact (ip h0).symm
end Core
namespace PP
open PySem L2
section
variable {X:Cx}{σ:St}{H:Hp}{D:fN}{te:aA}{c:cQ}{e ec:Expr}{pos:Pos}
def E5 (i:Nat):aY:=λD ρ=>∃xs,ρ[i]? = some (some (.own (.lst xs)))/\D.nx (ρ.set i (some (.own (.lst []))))
theorem WJ {i:Nat}(h:LS X (E5 i) D σ H):mC (xW X.K "list" Y6 (cZ i)) D σ H:=by
 obtain⟨W,ρ,D',px,⟨xs,hi,q⟩,k⟩:=h
 obtain⟨v,ev,a,rfl,wa,us,ea,r⟩:=px.sl i _ hi
 refine⟨_,ev,o8 (aN.of ea),a,us,rfl,rfl,ea,?_⟩;exact k.nx W σ _ _ (Ev.upd wa) (px.yf hi ev wa .nil) q
theorem WI (i:Nat){x:Str}{aj am dw:Pos}(hN:X.N[i]? = some x:=by rfl)(hv:dM X.env.scope x:=by first|exact Or.inl rfl|exact Or.inr (Or.inl rfl)|exact Or.inr (Or.inr rfl))(hd:(x==("__debug__":Str))=false:=by decide)(gf:(x==("__classdict__":Str))=false:=by decide)(jg:attributeBase (.Name x dw) "clear" X.env (eval (.Name x dw) X.env)=eval (.Name x dw) X.env:=by rfl)(jd:(aj.endLine==am.line)=true:=by rfl)(yv:swapsWith (.Call (.Attribute (.Name x dw) "clear" aj) [] [] am) none pos.line X.env=pure false:=by rfl):QS X (.Expr (.Call (.Attribute (.Name x dw) "clear" aj) [] [] am) pos) (E5 i):=
 dQ (kZ (Y2 CV PySem.F.slot_list_clear PySem.F.type_list_clear aM7 (gX hN hv hd gf) jg jd) yv) λ_ _ _=>WJ
def E6 (i j:Nat)(c:cQ)(te:aA):aY:=λD ρ=>∃xs,ρ[i]? = some (some (.own (.lst xs)))/\i≠j/\cb xs=true/\(∀x∈xs,c (ρ.set j (some (.sh true x))) λb=>if b=true then te (ρ.set j (some (.sh true x))) λy g=>Nw g y/\D.rt y else True)/\D.nx ρ/\∀o,D.nx (ρ.set j o)
theorem WH {i j:Nat}(h:LS X (E6 i j c te) D σ H):xE (zD X.K (cZ i)) (dN j) (qB (LT X c) (tD (LE X te)) x9) D σ H:=by
 obtain⟨W,ρ,D',px,⟨xs,hi,ik,fl,turn,GD,fin⟩,k⟩:=h
 obtain⟨v,ev,a,rfl,wa,us,ea,r⟩:=px.sl i _ hi
 refine⟨_,ev,a,rfl,.inl ⟨us,aN.of ea,?_⟩⟩;refine⟨λn m jx H2=>m=us.length-n/\n<=us.length/\aD H H2/\∃jl,PX X.K X.cz W jx jl H2/\(jl=ρ∨∃o,jl=ρ.set j o),⟨us.length,by lia,lh _,aD.refl _,ρ,px,.inl rfl⟩,?_⟩;rintro n m jx H2 ⟨rfl,hn,s2,jl,wd,Ic⟩;have Ao:=s2 _ _ ea;by_cases jq:n<us.length
 ·refine .inr ⟨⟨us,us[n],aN.of Ao,by simp[jq]⟩,λqw H3=>aD H H3/\∃o,PX X.K X.cz W qw (ρ.set j o) H3,λqw H3 ⟨s3,o,p3⟩=>⟨us.length-(n+1),by lia,rfl,jq,s3,_,p3,.inr ⟨o,rfl⟩⟩,?_⟩
  rintro v H3 ⟨rfl,y⟩
  obtain⟨x,hx,rx⟩:=r.get (y us (aN.of Ao))
  have Cq:=wd.nh (i:=j) (g:=true) (rx.same (M':=Ms X.cz W true) s2 λ_ z=>z);have e3:jl.set j (some (.sh true x))=ρ.set j (some (.sh true x)):=by
   rcases Ic with rfl|⟨o,rfl⟩
   ·rfl
   ·rw[List.set_set]
  rw[e3]at Cq;refine⟨W,_,_,Cq,turn x (sr hx),λb H4 s4 q4=>?_⟩;cases b with
  |false=>exact bA ⟨s2.trans s4,_,Cq.mono s4⟩
  |true=>
   refine cU ⟨W,_,_,Cq.mono s4,by simpa using q4,?_⟩;rintro v5 H5 x5 g5 s5 r5 ⟨n5,q5⟩;exact k.rt v5 H5 x5 ((Cq.mono s4).same.trans s5) ((Nw.rep (Cq.mono s4) n5 r5).same (aD.refl _) λ_ z=>z.2) q5
 ·have e:n=us.length:=by lia
  subst e;refine .inl ⟨⟨us,aN.of Ao,da _⟩,k.nx W jx H2 jl (Ev.same s2) wd ?_⟩;rcases Ic with rfl|⟨o,rfl⟩
  ·exact GD
  ·exact fin o
theorem WE (i j:Nat){x y:Str}{tp yp p2 p3:Pos}(hN:X.N.Nodup)(EH:QT X ec c)(he:QE X e te)(hx:X.N[j]? = some x:=by rfl)(hl:hZ X.env.scope x:=by first|exact Or.inl rfl|exact Or.inr rfl)(hf:X.fn x=true∨X.env.scope.names.lookup x=some .local:=by first|exact .inl rfl|exact .inr rfl)(hy:X.N[i]? = some y:=by rfl)(hv:dM X.env.scope y:=by first|exact Or.inl rfl|exact Or.inr (Or.inl rfl)|exact Or.inr (Or.inr rfl))(hd:(y==("__debug__":Str))=false:=by decide)(gf:(y==("__classdict__":Str))=false:=by decide)(hp:PassesOwn (model X.prog X.w) X.A X.env X.xe:=by exact BW)(hc:X.calm=true:=by rfl)(hs:∀z,foldedSetIterable (.Name y yp) X.env z=pure z:=by intro _;rfl) :
  QS X (.For (.Name x tp) (.Name y yp) [.If ec [.Return (some e) p2] [] p3] [] pos) (E6 i j c te):=
 dQ (xF hp hc (NC (gX hy hv hd gf)) (jK hN hx hl hf) (d6 (l5 EH (d6 (tE he)) T6)) hs) λ_ _ _=>WH
end
end PP
namespace L2
open PySem PySem.Spec PyProof.Rows
section
variable {X:Cx}
theorem WD (hc:X.calm=true):dO X (.builtin "max") (λxs H Q=>∃(a:az) (ns:ag),xs = [.ref a]/\aN X.K H a (ns.map V.int)/\ns≠[]/\∀M:Int,M∈ns->(∀x∈ns,x<=M)->Q (.int M) H):=by
 intro ai s σ H xs us Q I r h
 obtain⟨a,ns,rfl,hq,ne,q⟩:=h
 obtain⟨u,rfl,ru⟩:=jM r
 cases ru
 obtain⟨bo,rv,p,hz⟩:=I.list hq
 have ia:=mG rv
 obtain⟨ys,ey⟩:=ia.allInts.items
 have en:ns=ys.toList.map (·.1):=by
  have e1:=nums_intItems ys;rw[<- ey]at e1;exact ia.numsOf.symm.trans e1
 have pos:0<ys.size:=Nat.pos_of_ne_zero λz=>ne (by rw[en,EO z];rfl)
 have hl:s.heap.IsList a (intItems ys):=ey▸p.isList;refine max_intList (I.ok.hd hc) hl pos λv h' tk ev old=>?_
 obtain⟨t,rfl⟩:=intItems_at ev
 have best:=argBest_gt (numAt ys) (ys.size-1);have mem:∀x:Int,x∈ns↔∃j,j<ys.size/\numAt ys j=x:=λx=>by
  rw[en];constructor
  ·intro z
   obtain⟨j,hj,e⟩:=mem_getD z
   exact⟨j,by simpa using hj,by rw[numAt_eq];exact e⟩
  ·rintro⟨j,hj,rfl⟩
   rw[numAt_eq];exact getD_mem (by simpa using hj)
 refine⟨.int _,H,I.kept (t':=tk) (h':=h') old,⟨t,rfl⟩,q _ ?_ λx hx=>?_⟩
 ·exact (mem _).mpr ⟨_,by have:=best.1;lia,rfl⟩
 ·obtain⟨j,hj,rfl⟩:=(mem x).mp hx
  exact best.2 j (by lia)
end
end L2
namespace PP
open PySem L2
section
variable {X:Cx}{a b e o:Expr}{ta tb te to:aA}{tr:bV}{pos p2 aj am:Pos}{σ:St}{H:Hp}{Q':VK}
def LN:List PV->(PV->Prop)->Prop:=λxs Q=>∃ns:ag,xs = [.lst (bj ns)]/\ns≠[]/\∀M:Int,M∈ns->(∀x∈ns,x<=M)->Q (.int M)
theorem WC:fQ X LN (λxs H Q=>∃(a:az) (ns:ag),xs = [.ref a]/\aN X.K H a (ns.map V.int)/\ns≠[]/\∀M:Int,M∈ns->(∀x∈ns,x<=M)->Q (.int M) H):=by
 rintro H vs xs Q Q' r ⟨ns,rfl,ne,q⟩ k
 obtain⟨v,rfl,r1⟩:=r.one
 obtain⟨a,us,rfl,_,h,r2⟩:=r1.rh
 rw[r2.ofInts]at h
 exact⟨a,ns,rfl,aN.of h,ne,λM m1 m2=>k _ _ _ (aD.refl _) (.int M) (q M m1 m2)⟩
end
end PP
namespace Core
open PySem L2 PP
theorem WB {n k:Nat}(h:k<n):gZ n (k:Int)=some k:=by
 unfold gZ;rw[if_pos (by lia),if_pos (by lia),mz]
end Core
namespace HT
open PySem PyProof.Rows
section
open PySem.SeqAt
open PySem.AutoSeq1 (wpAny_loadPart')
open PySem.MeetsSeq PySem.MeetsSeq2 PySem.MeetsSeq3
theorem WA (l b:az)(n n2:Nat)(dd tf:Option az)(sl su:Array (Option ax))(a c:Int)(t u:Tok)(v x:ax)(e lt:Bool) :
  Meets (Builtin.«tuple.__lt__» ⟨[.ref l,.ref b],[]⟩)
   (λA R s=>s.heap.get? l=some { cls:=.type "tuple",dict:=dd,data:=.seq #[.int a t,v] n,slots:=sl }/\s.heap.get? b=some { cls:=.type "tuple",dict:=tf,data:=.seq #[.int c u,x] n2,slots:=su }/\
    SeqAt.EqAt A.in1 s v x e/\(∀(prog:ba) (w:bd) (E Q:ax->ay->Prop),Q (.bool lt) s->wpAny (model prog w) A.in1 (richCompare .Lt v x) Q E s)/\
    R (.ok (.ret (.bool (if a=c then (if e then false else lt) else decide (a<c))))) s):=
 .of_wp λprog w A R s h=>by
  obtain⟨hp,g,d,tk,os⟩:=s;obtain⟨hl,hb,he2,jq,h⟩:=h
  have f2:=AutoSeq1.sub_tuple_tuple
  wp_walk using wpAny_loadPart' hl,wpAny_loadPart' hb,wpAny_forIn_list _ (λrest z s'=>z.1=none/\s'=⟨hp,g,d,tk,os⟩/\(rest = [(Value.int a t,Value.int c u),(v,x)]∨(rest = [(v,x)]/\a=c)∨(rest = []/\a=c/\e=true))) _
  case turn=>
   rintro⟨p,q⟩ rest z s' ⟨hz,rfl,c1|⟨c1,ac⟩|⟨c1,_⟩⟩
   ·injection c1 with c2 c3
    injection c2 with c4 c5
    subst c4 c5
    obtain⟨e1,RL,yy⟩:=W8 A.in1 ⟨hp,g,d,tk,os⟩ a t c u
    refine bw (RL prog w _ _ ?_);cases e1 with
    |true=>
     wp_walk
     exact⟨rfl,rfl,.inr (.inl ⟨c3,yy.mp rfl⟩)⟩
    |false=>
     rw[if_neg (λq=>absurd (yy.mpr q) gu)]at h;have DF:=W9 A.in1 ⟨hp,g,d,tk,os⟩ a t c u prog w
     wp_walk using DF
     exact⟨_,rfl,by simpa using h⟩
   ·injection c1 with c2 c3
    injection c2 with c4 c5
    subst c4 c5;rw[if_pos ac]at h;refine bw (he2 prog w _ _ ?_);cases e with
    |true=>
     wp_walk
     exact⟨rfl,rfl,.inr (.inr ⟨c3,ac,rfl⟩)⟩
    |false=>
     have DF:=jq prog w
     wp_walk using DF
     exact⟨_,rfl,by simpa using h⟩
   ·cases c1
  case fin=>
   rintro⟨b1,b2⟩ s' ⟨hz,rfl,c1|⟨c1,ac⟩|⟨c1,ac,et⟩⟩
   ·cases c1
   ·cases c1
   ·simp only at hz
    subst hz;subst et;rw[if_pos ac,if_pos rfl]at h
    wp_walk
    exact⟨_,rfl,by simpa[Builtin.Tuple.tupleCompareSizes] using h⟩
  case h=>exact⟨rfl,rfl,.inl rfl⟩
end
end HT
namespace L2
open PySem PySem.Spec PyProof.Rows PP
section
variable {X:Cx}{ai:List (az×Obj)}{s:ay}{σ:St}{H:Hp}{M M':az→Prop}
abbrev iR (a:Int)(ns:ag):PV:=.tup [.int a,.tup (bj ns)]
theorem LM:∀ns:ag,HT.b9 ns ns=false
 |[]=>rfl
 |x::xs=>by rw[HT.jN,if_pos rfl];exact LM xs
end
section
variable {prog:ba}{w:bd}{A:bc}{R:Result→ay→Prop}{I S:az}{n:Nat}{l:az}{bo:Array ax}{s0:ay}{bt:Nat→Nat→Bool}
abbrev at_ (s:ay)(h:Heap)(k:Nat):ay:={ s with heap:=h,toks:=k }
abbrev jY (g h:Heap):Prop:=∀b o,g.get? b=some o->h.get? b=some o
end
section
variable {prog:ba}{w:bd}{A:bc}{s0:ay}{l:az}{bo:Array ax}{bt:Nat→Nat→Bool}
theorem LL {h:Heap}{a:az}(z:h.objs.size<=a):h.get? a=none:=by
 cases q:h.get? a with
 |none=>rfl
 |some o=>exact absurd (fm q) (Nat.not_lt.mpr z)
end
end L2
namespace PP
open PySem L2
section
variable {X:Cx}{a b e:Expr}{ta tb:aA}{tr:bV}{pos p2:Pos}
theorem vO (a:Int)(ns:ag):flat (iR a ns)=true:=by
 show (flat (.int a)&&(flat (.tup (bj ns))&&true))=true;rw[show flat (.tup (bj ns))=true from gI ns];rfl
end
end PP
namespace L2
open PySem PySem.Spec PyProof.Rows
section
variable {prog:ba}{w:bd}{A:bc}{E:ax→ay→Prop}{s:ay}{l:az}{xs:Array (Int×Tok)}
theorem LK {Q:ax->ay->Prop}(hl:s.heap.IsTuple l (intItems xs))(h:∀h2:Heap,(h2.IsTupleIter s.heap.objs.size l 0/\h2.IsTuple l (intItems xs))->(∀b∈[s.heap.objs.size,l],b<h2.objs.size)->l≠s.heap.objs.size->(∀b o,s.heap.get? b=some o->b∉[s.heap.objs.size]/\h2.get? b=some o)->Q (.ref s.heap.objs.size) { s with heap:=h2 }):wpAny (model prog w) A (pyIter (.ref l)) Q E s:=by
 have lb:l<s.heap.objs.size:=by obtain⟨_,e,_⟩:=hl;exact fm e
 refine Ax hl (h _ ⟨⟨_,jw _ rfl,rfl,rfl⟩,hl.push _⟩ (λb hb=>?_) (lj lb) λb o e=>⟨λhm=>?_,ez _ e⟩)
 ·rw[xg]
  rcases eg.mp hb with rfl|hb
  ·exact Nat.lt_succ_self _
  ·rw[eh.mp hb];exact Nat.lt_succ_of_lt lb
 ·rw[eh.mp hm]at e
  exact absurd (fm e) (qr _)
theorem Wz {Q:ax->ay->Prop}(hh:A.handled=none)(hl:s.heap.IsTuple l (intItems xs))(oo:0<xs.size)(h:∀v h' tk,(intItems xs)[argBest (λi j=>decide (numAt xs i>numAt xs j)) (xs.size-1)]? = some v->(∀b o,s.heap.get? b=some o->h'.get? b=some o)->Q v { s with heap:=h',toks:=tk }):wpAny (model prog w) A (call (.builtin "max") [.ref l]) Q E s:=by
 refine call_max_walk (LK hl λh2 st Ga ne old=>?_)
 exact⟨_,_,_,_,_,_,_,rfl,Walks.tuple (A:=A.in1) hh _ l ne (intItems xs),st,Ga,by simpa[intItems] using oo,CmpOf.ints_gt (numAt xs) (λ_ _=>intItems_at),λv h' tk hP hk=>h v h' tk (by simpa[intItems] using hP) λb o e=>hk b o (old b o e).1 (old b o e).2⟩
theorem Wy {Q:ax->ay->Prop}(hh:A.handled=none)(hl:s.heap.IsTuple l (intItems xs))(oo:0<xs.size)(h:∀v h' tk,(intItems xs)[argBest (λi j=>decide (numAt xs i<numAt xs j)) (xs.size-1)]? = some v->(∀b o,s.heap.get? b=some o->h'.get? b=some o)->Q v { s with heap:=h',toks:=tk }):wpAny (model prog w) A (call (.builtin "min") [.ref l]) Q E s:=by
 refine call_min_walk (LK hl λh2 st Ga ne old=>?_)
 exact⟨_,_,_,_,_,_,_,rfl,Walks.tuple (A:=A.in1) hh _ l ne (intItems xs),st,Ga,by simpa[intItems] using oo,CmpOf.ints_lt (numAt xs) (λ_ _=>intItems_at),λv h' tk hP hk=>h v h' tk (by simpa[intItems] using hP) λb o e=>hk b o (old b o e).1 (old b o e).2⟩
end
section
variable {X:Cx}
theorem Wx (hc:X.calm=true):dO X (.builtin "max") (λxs H Q=>∃(a:az) (ns:ag),xs = [.ref a]/\aM X.K H a (ns.map V.int)/\ns≠[]/\∀M:Int,M∈ns->(∀x∈ns,x<=M)->Q (.int M) H):=by
 intro ai s σ H xs us Q I r h
 obtain⟨a,ns,rfl,hq,ne,q⟩:=h
 obtain⟨u,rfl,ru⟩:=jM r
 cases ru
 obtain⟨bo,rv,p,hz⟩:=I.tuple hq
 have ia:=mG rv
 obtain⟨ys,ey⟩:=ia.allInts.items
 have en:ns=ys.toList.map (·.1):=by
  have e1:=nums_intItems ys;rw[<- ey]at e1;exact ia.numsOf.symm.trans e1
 have pos:0<ys.size:=Nat.pos_of_ne_zero λz=>ne (by rw[en,EO z];rfl)
 have hl:s.heap.IsTuple a (intItems ys):=by rw[<- ey];exact p
 refine Wz (I.ok.hd hc) hl pos λv h' tk ev old=>?_
 obtain⟨t,rfl⟩:=intItems_at ev
 have best:=argBest_gt (numAt ys) (ys.size-1);have mem:∀x:Int,x∈ns↔∃j,j<ys.size/\numAt ys j=x:=λx=>by
  rw[en];constructor
  ·intro z
   obtain⟨j,hj,e⟩:=mem_getD z
   exact⟨j,by simpa using hj,by rw[numAt_eq];exact e⟩
  ·rintro⟨j,hj,rfl⟩
   rw[numAt_eq];exact getD_mem (by simpa using hj)
 refine⟨.int _,H,I.kept (t':=tk) (h':=h') old,⟨t,rfl⟩,q _ ?_ λx hx=>?_⟩
 ·exact (mem _).mpr ⟨_,by have:=best.1;lia,rfl⟩
 ·obtain⟨j,hj,rfl⟩:=(mem x).mp hx
  exact best.2 j (by lia)
theorem Ww (hc:X.calm=true):dO X (.builtin "min") (λxs H Q=>∃(a:az) (ns:ag),xs = [.ref a]/\aM X.K H a (ns.map V.int)/\ns≠[]/\∀M:Int,M∈ns->(∀x∈ns,M<=x)->Q (.int M) H):=by
 intro ai s σ H xs us Q I r h
 obtain⟨a,ns,rfl,hq,ne,q⟩:=h
 obtain⟨u,rfl,ru⟩:=jM r
 cases ru
 obtain⟨bo,rv,p,hz⟩:=I.tuple hq
 have ia:=mG rv
 obtain⟨ys,ey⟩:=ia.allInts.items
 have en:ns=ys.toList.map (·.1):=by
  have e1:=nums_intItems ys;rw[<- ey]at e1;exact ia.numsOf.symm.trans e1
 have pos:0<ys.size:=Nat.pos_of_ne_zero λz=>ne (by rw[en,EO z];rfl)
 have hl:s.heap.IsTuple a (intItems ys):=by rw[<- ey];exact p
 refine Wy (I.ok.hd hc) hl pos λv h' tk ev old=>?_
 obtain⟨t,rfl⟩:=intItems_at ev
 have best:=argBest_lt (numAt ys) (ys.size-1);have mem:∀x:Int,x∈ns↔∃j,j<ys.size/\numAt ys j=x:=λx=>by
  rw[en];constructor
  ·intro z
   obtain⟨j,hj,e⟩:=mem_getD z
   exact⟨j,by simpa using hj,by rw[numAt_eq];exact e⟩
  ·rintro⟨j,hj,rfl⟩
   rw[numAt_eq];exact getD_mem (by simpa using hj)
 refine⟨.int _,H,I.kept (t':=tk) (h':=h') old,⟨t,rfl⟩,q _ ?_ λx hx=>?_⟩
 ·exact (mem _).mpr ⟨_,by have:=best.1;lia,rfl⟩
 ·obtain⟨j,hj,rfl⟩:=(mem x).mp hx
  exact best.2 j (by lia)
end
end L2
namespace PP
open PySem L2
section
variable {X:Cx}{a b e:Expr}{ta tb:aA}{tr:bV}{pos p2:Pos}
def LJ:List PV->(PV->Prop)->Prop:=λxs Q=>∃ns:ag,xs = [.tup (bj ns)]/\ns≠[]/\∀M:Int,M∈ns->(∀x∈ns,x<=M)->Q (.int M)
def LG:List PV->(PV->Prop)->Prop:=λxs Q=>∃ns:ag,xs = [.tup (bj ns)]/\ns≠[]/\∀M:Int,M∈ns->(∀x∈ns,M<=x)->Q (.int M)
theorem Wv:fQ X LJ (λxs H Q=>∃(a:az) (ns:ag),xs = [.ref a]/\aM X.K H a (ns.map V.int)/\ns≠[]/\∀M:Int,M∈ns->(∀x∈ns,x<=M)->Q (.int M) H):=by
 rintro H vs xs Q Q' r ⟨ns,rfl,ne,q⟩ k
 obtain⟨v,rfl,r1⟩:=r.one
 obtain⟨a,us,rfl,h,r2⟩:=r1.qh
 rw[r2.ofInts]at h
 exact⟨a,ns,rfl,aM.of h,ne,λM m1 m2=>k _ _ _ (aD.refl _) (.int M) (q M m1 m2)⟩
theorem Wu:fQ X LG (λxs H Q=>∃(a:az) (ns:ag),xs = [.ref a]/\aM X.K H a (ns.map V.int)/\ns≠[]/\∀M:Int,M∈ns->(∀x∈ns,M<=x)->Q (.int M) H):=by
 rintro H vs xs Q Q' r ⟨ns,rfl,ne,q⟩ k
 obtain⟨v,rfl,r1⟩:=r.one
 obtain⟨a,us,rfl,h,r2⟩:=r1.qh
 rw[r2.ofInts]at h
 exact⟨a,ns,rfl,aM.of h,ne,λM m1 m2=>k _ _ _ (aD.refl _) (.int M) (q M m1 m2)⟩
end
end PP
namespace L2
open PySem PySem.Spec PyProof.Rows
section
variable {X:Cx}
def LF (K:ad)(ta:TA):TI:=λσ H R=>ta σ H λvs H1=>∃a b,vs = [.ref a,.ref b]/\((∃xs ys,aM K H1 a xs/\aM K H1 b ys/\R (Pb K a b) H1)∨∃xs ys,aN K H1 a xs/\aN K H1 b ys/\R (yY K a b) H1)
theorem Wt {elts:List Expr}{kt:Nat}{pt:Pos}{a b:Expr}{ta:TA}{p pos:Pos}(hg:Gl X "zip")(hm:X.mg "zip" = none)(ha:PA X [a,b] ta)(hs:starEach [a,b] X.env = [(false,eval a X.env),(false,eval b X.env)]:=by rfl)(CA:starEach [b] X.env = [(false,eval b X.env)]:=by rfl) :
  PI X (.Tuple elts kt pt) (.Call (.Name "zip" p) [a,b] [] pos) (LF X.K ta):=by
 intro ai s σ H R I h;refine Call_ (nX I hg hm PyProof.Rows.boot_zip (EN (aL (ha pos ai s σ H _ I h) λus s1 ⟨vs,H1,I1,r1,q1⟩=>?_) (by rw[hs,CA]) (by rw[CA];rfl)))
 obtain⟨a',b',e,q1⟩:=q1
 subst e
 obtain⟨u1,u2,rfl,r,r'⟩:=aI.two r1
 cases r;cases r';have fresh:∀k,H1 (s1.heap.objs.size+k)=none:=λk=>I1.cj.fresh (ze _ _)
 have fp:∀c∈[s1.heap.objs.size+4,s1.heap.objs.size+2,s1.heap.objs.size+3,s1.heap.objs.size,s1.heap.objs.size+1],i5 X ai H1 c:=λc hc=>by
  simp only[eg,ky,kx]at hc;rcases hc with rfl|rfl|rfl|rfl|rfl
  ·exact I1.kn (ze _ _) (fresh 4)
  ·exact I1.kn (ze _ _) (fresh 2)
  ·exact I1.kn (ze _ _) (fresh 3)
  ·exact I1.kn (da _) (fresh 0)
  ·exact I1.kn (ze _ _) (fresh 1)
 rcases q1 with⟨xs,ys,h1,h2,q⟩|⟨xs,ys,h1,h2,q⟩
 ·obtain⟨us,_,p1,_⟩:=I1.tuple h1
  obtain⟨ws,_,p2,_⟩:=I1.tuple h2
  refine Zp.aP6 p1 p2 λh' z ti to Bi EY kp=>wpAny_pyIter_zip z ?_
  exact⟨s1.heap.objs.size+4,[s1.heap.objs.size+4,s1.heap.objs.size+2,s1.heap.objs.size+3,s1.heap.objs.size,s1.heap.objs.size+1],_,_,H1,rfl,I1.kept (t':=s1.toks) kp,aP9 a' b' _ _ _ _ _ (by simp),⟨z,ti,⟨_,_,to⟩,Bi,EY⟩,fp,q⟩
 ·obtain⟨us,_,p1,_⟩:=I1.list h1
  obtain⟨ws,_,p2,_⟩:=I1.list h2
  refine call_zip_2 p1.isList p2.isList λh' z ti to Bi EY _ kp=>wpAny_pyIter_zip z ?_
  exact⟨s1.heap.objs.size+4,[s1.heap.objs.size+4,s1.heap.objs.size+2,s1.heap.objs.size+3,s1.heap.objs.size,s1.heap.objs.size+1],_,_,H1,rfl,I1.kept (t':=s1.toks) kp,aQ1 a' b' _ _ _ _ _ (by simp),⟨z,ti,⟨_,_,to⟩,Bi,EY⟩,fp,q⟩
end
end L2
namespace PP
open PySem L2
theorem Ws {K:ad}{H0:Hp}{W:az->Prop}{g:Bool}{H1:Hp}{a b:az}{us vs:List V}{xs ys:List PV}(tw:∀a,W a->∃o,H1 a=some o/\eQ o=true)(ha:∀W' H',Ev W H1 W' H'->aN K H' a us)(hb:∀W' H',Ev W H1 W' H'->aN K H' b vs)(r:bp K (Ms H0 W g) H1 us xs)(r':bp K (Ms H0 W g) H1 vs ys):mM K H0 W g H1 (yY K a b) (kQ xs ys):=by
 have lr:=r.length;have lr':=r'.length;have ll:=C6 xs ys;refine⟨λW' H' i e hi=>⟨us,vs,us[i]'(by lia),vs[i]'(by lia),ha W' H' e,hb W' H' e,by simp,by simp⟩,λW' H' i v H2 e y hi=>?_,λW' H' e=>⟨us,vs,ha W' H' e,hb W' H' e,by lia⟩⟩
 obtain⟨T,x,y',hT,rfl,rfl,y⟩:=y
 obtain⟨h1,h2⟩:=y us vs (ha W' _ e) (hb W' _ e)
 obtain⟨z,hz,rz⟩:=r.get h1
 obtain⟨z',FA,Dh⟩:=r'.get h2
 have sm:=bU hT (HO.tup [x,y'])
 exact⟨sm,_,Xe hz FA,.tup bE (.cons ((rz.keep (e.keep tw)).same sm λ_ q=>q) (.cons ((Dh.keep (e.keep tw)).same sm λ_ q=>q) .nil))⟩
end PP
namespace Core
open PySem L2 PP
theorem Wr {ls:aa}(h:ls.Pairwise fV):ls.Nodup:=h.imp λ{a b} z e=>by subst e;unfold fV at z;lia
theorem Wq {a b:aa}(p:a.Perm b)(ha:a.Pairwise fV)(hb:b.Pairwise fV):a=b:=
 p.eq_of_pairwise (λx y _ _ h1 h2=>by unfold fV at h1 h2;lia) ha hb
end Core
namespace L2
open PySem PySem.Spec PyProof.Rows
section
variable {X:Cx}{ai:List (az×Obj)}{σ:St}{H:Hp}{s:ay}{a:az}
def E7 (H:Hp)(y:V)(k:List (Int×Bool)):Prop:=∃q,y = .ref q/\gF H k q
theorem Wo {bq:List (List (Int×Bool)×V)}(I:a6 X ai σ H s)(h:H a=some (.dA bq)):∃es ep ys,Raw.qM s.heap a es ep/\(a==sysModules)=false/\Paired (E7 H) ys (bq.map (·.1))/\aI ys (es.toList.map (·.key))/\bq.length<=sizeLine:=by
 obtain⟨z,BO,xs,rel,o,es,ep,e1,e2,e3,e4,nd⟩:=(show bK X.prog X.w H s.heap a (.dA bq) from I.cj a _ h)
 refine⟨es,ep,xs.map λq=>V.ref q.2.1,⟨o,e1,e2,e3⟩,BO,?_,?_,z⟩
 ·clear e4 nd h z
  induction rel with
  |nil=>exact .nil
  |cons r rs ih=>exact .cons ⟨_,rfl,r.2.1⟩ ih
 ·rw[e4]
  clear rel e4 nd
  induction xs with
  |nil=>exact .nil
  |cons q qs ih=>exact .cons rfl ih
end
def Wn:HO->Bool
 |.dK _=>true
 |.dT _=>true
 |.dA _=>true
 |_=>false
section
variable {X:Cx}{ai:List (az×Obj)}{σ:St}{H H':Hp}{s:ay}{a:az}
theorem a6.BJ {o:Obj}{u:HO}(I:a6 X ai σ H s)(h:H a=some u)(du:Wn u=true)(e:s.heap.get? a=some o):a6 X ai σ (upd H a (.dq o u)) s:=by
 have own:∀{c:az}{y:az},H c=some (.own y)->c≠a:=λ{c y} q z=>by rw[z,h]at q;cases q;cases du
 have tp:∀{c:az}{xs:List V},H c=some (.tup xs)->c≠a:=λ{c xs} q z=>by rw[z,h]at q;cases q;cases du
 have cd:∀{c:az}{y:Str},H c=some (.code y)->c≠a:=λ{c y} q z=>by rw[z,h]at q;cases q;cases du
 refine I.Hx (a:=a) (λb n=>aH n) ⟨_,h⟩ (λxs q=>by rw[h]at q;cases q;cases du) (λo' v q=>by have:=I.base.mh a o' v q;rw[h]at this;cases this;cases du) (λps q=>by rw[h]at q;cases q;cases du) λb v q=>?_
 by_cases hb:b=a
 ·subst hb
  rw[bE]at q;cases q
  exact⟨e,(I.cj b _ h).fw (λ_ _ _ q=>q) (λc q=>by rw[aH (own q)];exact q) (λc xs q=>by rw[aH (tp q)];exact q) (λc r q=>by rw[aH (cd q)];exact q)⟩
 ·rw[aH hb]at q
  exact (I.cj b v q).fw (λ_ _ _ q=>q) (λc q=>by rw[aH (own q)];exact q) (λc xs q=>by rw[aH (tp q)];exact q) (λc r q=>by rw[aH (cd q)];exact q)
end
end L2
namespace PP
open PySem L2
theorem LD {K:ad}{M:az->Prop}{H:Hp}{k:List (Int×Bool)}{b:az}(h:gF H k b):aE K M H (.ref b) (.tup (k.map λq=>.tup [.int q.1,.bl q.2])):=by
 obtain⟨us,e,r⟩:=h
 refine .tup e ?_;clear e
 induction r with
 |nil=>exact .nil
 |@cons p u ps us hd t ih=>
  obtain⟨c,rfl,hc⟩:=hd
  exact .cons (.tup hc (.cons (.int _) (.cons (.bl _) .nil))) ih
end PP
namespace PySem
theorem Wm (l:az)(items:Array ax)(n:Nat)(dd:Option az)(sl:Array (Option ax))(x:Int)(u:Tok)(hx:x=1) :
  Meets (Builtin.«tuple.__mul__» ⟨[.ref l,.int x u],[]⟩) (λ_ R s=>s.heap.get? l=some { cls:=.type "tuple",dict:=dd,data:=.seq items n,slots:=sl }/\R (.ok (.ret (Value.ref l))) s):=
 .of_wp λprog w A R s h=>by
  obtain⟨hp,g,d,tk,os⟩:=s;obtain⟨hl,h⟩:=h
  have c1:(decide (x < -(2^63))||decide (x >= 2^63))=false:=by
   rw[Bool.or_eq_false_iff];exact⟨dm (by lia),dm (by lia)⟩
  have c2:(items.isEmpty||x==1)=true:=by rw[hx,show ((1:Int)==1)=true from rfl,Bool.or_true]
  wp_walk
  exact⟨_,rfl,h⟩
end PySem
namespace PP
open PySem L2 PyProof.Rows
def Wl (K:ad):R2:=λx y H Q=>∃l k xs,x = .ref l/\y = .int k/\aM K H l xs/\xs≠[]/\1<=k/\k<=1000000/\xs.length*k.toNat<=sizeLine/\(k=1->Q (.ref l) H)/\∀p,H p=none->Q (.ref p) (upd H p (.tup (List.replicate k.toNat xs).flatten))
theorem Wj {X:Cx}:bT X (binaryOp .Mult) (Wl X.K):=by
 intro ai s σ H x y v u Q I rx ry h
 obtain⟨l,k,xs,rfl,rfl,hH,oo,h1,h2,hz,q1,q⟩:=h
 by_cases hk:k=1
 ·subst hk
  cases rx
  obtain⟨t,rfl⟩:=ry
  obtain⟨bo,r,p,_⟩:=I.tuple hH
  obtain⟨⟨cls,dd,data,sl⟩,ho,hc,n,hd⟩:=id p
  simp only at hc hd;subst hc hd;exact wpAny_binaryOp_repeat_ref (T:="tuple") (U:="int") (by decide) ⟨_,ho,rfl⟩ (λs'=>typeIs_int s' 1 t) B2 F.fills_int_mul AR B3 F.slot_int_index.lookup
   (vn AR (typeIs_int s 1 t) F.entry_int_rmul (F.args_int_rmul_2 _ _) (B4 1 t l bo.toArray n dd sl)
    ⟨ho,rfl,⟨_,ho,rfl⟩,vn F.slot_tuple_mul ⟨_,ho,rfl⟩ F.entry_tuple_mul (F.args_tuple_mul_2 _ _) (Wm l bo.toArray n dd sl 1 t rfl) ⟨ho,.ref l,H,I,rfl,q1 rfl⟩⟩)
 ·exact MJ ai s σ H _ _ v u Q I rx ry ⟨l,k,xs,rfl,rfl,hH,oo,by lia,h2,hz,q⟩
end PP
namespace Core
open PySem L2 PP
def nG (many:Nat)(c:Int):aa:=((de many).filter λh=>decide ((h+1)%c>0)).map λh=>(h,h+1)
def nH (many:Int)(c:Int):aa:=(de (many-c).toNat).map λh=>(h,h+c)
theorem Wi {many:Nat}{c:Int}{l:Int×Int}:l∈nG many c↔0<=l.1/\l.1<(many:Int)/\(l.1+1)%c>0/\l.2=l.1+1:=by
 unfold nG;rw[gs];constructor
 ·rintro⟨h,hm,rfl⟩
  obtain⟨h1,h2⟩:=jv.mp hm
  have:=cN.mp h1
  exact⟨this.1,this.2,zh h2,rfl⟩
 ·rintro⟨h0,h1,h2,h3⟩
  exact⟨l.1,jv.mpr ⟨cN.mpr ⟨h0,h1⟩,eu h2⟩,Prod.ext rfl h3.symm⟩
theorem Wh {many c:Int}{l:Int×Int}:l∈nH many c↔0<=l.1/\l.1<many-c/\l.2=l.1+c:=by
 unfold nH;rw[gs];constructor
 ·rintro⟨h,hm,rfl⟩
  have:=cN.mp hm
  exact⟨this.1,by show h<many-c;lia,rfl⟩
 ·rintro⟨h0,h1,h2⟩
  exact⟨l.1,cN.mpr ⟨h0,by lia⟩,Prod.ext rfl h2.symm⟩
end Core
namespace PySem
theorem Wg (l:az)(items:Array ax)(n:Nat)(dd:Option az)(sl:Array (Option ax))(x:Int)(u:Tok)(h0:items.isEmpty=false)(hx:x=0) :
  Meets (Builtin.«tuple.__mul__» ⟨[.ref l,.int x u],[]⟩) (λ_ R s=>s.heap.get? l=some { cls:=.type "tuple",dict:=dd,data:=.seq items n,slots:=sl }/\R (.ok (.ret (Value.ref s.heap.objs.size))) { s with heap:=s.heap.push { cls:=Value.type "tuple",data:=Data.seq #[] } }):=
 .of_wp λprog w A R s h=>by
  obtain⟨hp,g,d,tk,os⟩:=s;obtain⟨hl,h⟩:=h
  have c1:(decide (x < -(2^63))||decide (x >= 2^63))=false:=by
   rw[Bool.or_eq_false_iff];exact⟨dm (by lia),dm (by lia)⟩
  have c2:(items.isEmpty||x==1)=false:=by rw[h0,Bool.false_or];exact CO.mpr (by lia)
  have c3:(decide (x<=0)||items.isEmpty)=true:=by rw[eu (by lia)];rfl
  wp_walk
  exact⟨_,rfl,h⟩
end PySem
namespace PP
open PySem L2 PyProof.Rows
def LC (K:ad):R2:=λx y H Q=>∃l k xs,x = .ref l/\y = .int k/\aM K H l xs/\xs≠[]/\0<=k/\k<=1000000/\xs.length*k.toNat<=sizeLine/\(k=1->Q (.ref l) H)/\∀p,H p=none->Q (.ref p) (upd H p (.tup (List.replicate k.toNat xs).flatten))
theorem Wf {X:Cx}:bT X (binaryOp .Mult) (LC X.K):=by
 intro ai s σ H x y v u Q I rx ry h
 obtain⟨l,k,xs,rfl,rfl,hH,oo,h1,h2,hz,q1,q⟩:=h
 by_cases hk:k=0
 ·subst hk
  cases rx
  obtain⟨t,rfl⟩:=ry
  obtain⟨bo,r,p,_⟩:=I.tuple hH
  obtain⟨⟨cls,dd,data,sl⟩,ho,hc,n,hd⟩:=id p
  simp only at hc hd;subst hc hd;have BB:bo.toArray.isEmpty=false:=by
   cases bo with
   |nil=>exact absurd (r.jm.mp rfl) oo
   |cons a b=>rfl
  refine wpAny_binaryOp_repeat_ref (T:="tuple") (U:="int") (by decide) ⟨_,ho,rfl⟩ (λs'=>typeIs_int s' 0 t) B2 F.fills_int_mul AR B3 F.slot_int_index.lookup
   (vn AR (typeIs_int s 0 t) F.entry_int_rmul (F.args_int_rmul_2 _ _) (B4 0 t l bo.toArray n dd sl)
    ⟨ho,rfl,⟨_,ho,rfl⟩,vn F.slot_tuple_mul ⟨_,ho,rfl⟩ F.entry_tuple_mul (F.args_tuple_mul_2 _ _) (Wg l bo.toArray n dd sl 0 t BB rfl) ⟨ho,?_⟩⟩)
  refine⟨.ref s.heap.objs.size,_,I.laid (t':=s.toks) (o:=.tup []) (λb ob q=>ez _ q) (da _) ?_,rfl,q _ (I.cj.fresh (da _))⟩
  exact⟨lh _,[],.nil,IsTup.new _ _,iY.new _ _ rfl⟩
 ·exact Wj ai s σ H _ _ v u Q I rx ry ⟨l,k,xs,rfl,rfl,hH,oo,by lia,h2,hz,q1,q⟩
section
variable {X:Cx}{a b e:Expr}{ta tb te:aA}{tr:bV}{pos p2:Pos}
def E8:PV->Tg->PV->Tg->PK->Prop:=λx _ y _ Q=>∃xs n,x = .tup xs/\y = .int n/\cb xs=true/\xs≠[]/\0<=n/\n<=1000000/\xs.length<=10/\Q (.tup (List.replicate n.toNat xs).flatten) .fr
theorem We:fD X E8 (LC X.K):=by
 rintro W Hs H u v x y g g' Q Q' s n r1 r2 ⟨xs,m,rfl,rfl,f,ne,h1,h2,hl,q⟩ k;cases r2;have r1':=r1
 obtain⟨a,us,rfl,h,r⟩:=r1.qh
 have lr:=r.length;refine⟨a,m,us,rfl,rfl,aM.of h,λz=>ne (by cases xs with|nil=>rfl|cons _ _=>rw[z]at lr;cases lr),h1,h2,lim ?_,λe=>?_,λp hp=>k _ _ _ .fr (bU hp _) (.tup bE (((r.flat f).rep m.toNat).same (bU hp _) λ_ z=>z)) q⟩
 ·have h3:us.length<=10:=by lia
  have h4:m.toNat<=1000000:=by lia
  calc us.length*m.toNat<=10*1000000:=Nat.mul_le_mul h3 h4
   _<=16000000:=by decide
 ·subst e
  rw[show (List.replicate (1:Int).toNat xs).flatten=xs by simp]at q;exact k _ _ _ .fr (aD.refl _) (.tup h (r.flat f)) q
theorem Wd (ha:QE X a ta)(hb:QE X b tb):QE X (.BinOp a .Mult b pos) (q2 E8 ta tb):=gQ Wf We ha hb
theorem fQ.or {R1 R2:List PV->(PV->Prop)->Prop}{r1 r2:List V->Hp->(V->Hp->Prop)->Prop}(h1:fQ X R1 r1)(h2:fQ X R2 r2):fQ X (λxs Q=>R1 xs Q∨R2 xs Q) (λxs H Q=>r1 xs H Q∨r2 xs H Q):=by
 rintro H vs xs Q Q' r (h|h) k
 ·exact .inl (h1 H vs xs Q Q' r h k)
 ·exact .inr (h2 H vs xs Q Q' r h k)
def E9:List PV->(PV->Prop)->Prop:=λxs Q=>LU xs Q∨LG xs Q
def G0:List PV->(PV->Prop)->Prop:=λxs Q=>LN xs Q∨LJ xs Q
theorem Wc (B:Bt X.mg)(hc:X.calm=true)(ha:QA X [e] tr)(hg:Gl X "min":=by rfl)(he:starEach [e] X.env=(false,eval e X.env)::starEach [] X.env:=by rfl)(hpl:(backTo pos (starEach [] X.env)).any (·.1)=false:=by rfl):QE X (.Call (.Name "min" p2) [e] [] pos) (aG E9 tr):=
 mW ((WM hc).or (Ww hc)) (WL.or Wu) hg B.min PyProof.Rows.boot_min ha (he:=he) (hpl:=hpl)
theorem Wa (B:Bt X.mg)(hc:X.calm=true)(ha:QA X [e] tr)(hg:Gl X "max":=by rfl)(he:starEach [e] X.env=(false,eval e X.env)::starEach [] X.env:=by rfl)(hpl:(backTo pos (starEach [] X.env)).any (·.1)=false:=by rfl):QE X (.Call (.Name "max" p2) [e] [] pos) (aG G0 tr):=
 mW ((WD hc).or (Wx hc)) (WC.or Wv) hg B.max PyProof.Rows.boot_max ha (he:=he) (hpl:=hpl)
theorem VZ {x:PV}{ns:ag}(h:Core.bY x ns)(ne:ns≠[]){Q:PV->Prop}(q:∀M:Int,M∈ns->(∀x∈ns,M<=x)->Q (.int M)):E9 [x] Q:=by
 rcases h with rfl|rfl
 ·exact .inr ⟨ns,rfl,ne,q⟩
 ·exact .inl ⟨ns,rfl,ne,q⟩
theorem VY {x:PV}{ns:ag}(h:Core.bY x ns)(ne:ns≠[]){Q:PV->Prop}(q:∀M:Int,M∈ns->(∀x∈ns,x<=M)->Q (.int M)):G0 [x] Q:=by
 rcases h with rfl|rfl
 ·exact .inr ⟨ns,rfl,ne,q⟩
 ·exact .inl ⟨ns,rfl,ne,q⟩
end
end PP
namespace Core
open PySem L2 PP
def dH (ws:ag):Prop:=ws≠[]/\ws.length<=2/\∀x∈ws,0<=x/\x<=6
def vP:Mi:=λEp xs Q=>∃x ws L,xs = [x,.int L]/\bY x ws/\(dH ws->0<=L->Q .cq)/\(¬(dH ws/\0<=L)->Ep "BadBoard")
def vQ:Mi:=λEp xs Q=>∃L m:Int,xs = [.int L,.int m]/\(L<=m->Q .cq)/\(m<L->Ep "TooMany")
theorem VX (ws:ag)(n:Nat):(List.replicate n (bj ws)).flatten=bj (List.replicate n ws).flatten:=by
 induction n with
 |zero=>rfl
 |succ n ih=>rw[xm,xm,zy,zy,ih,A6]
def cI (ws:ag)(L:Int):ag:=(List.replicate L.toNat ws).flatten
theorem VW (ws:ag){L:Int}(l0:0<=L):((cI ws L).length:Int)=(ws.length:Int)*L:=by
 unfold cI;rw[yA,AQ,Int.mul_comm,show ((L.toNat:Nat):Int)=L by lia]
def nI:aQ:=λxs Q=>∃c:Int,xs = [.int c]/\∀ws,dH ws->Q (.tup (bj ws))
def LB:aY:=(aP (dG (bC (qZ (lD (a5 0) (qC (.int 3))) (qC (.int 0)))) (c9 (eS (a8 (lD (mQ (a5 0) (qC (.int 3))) (qC (.int 7))) aF))) dF)
 (aP (dG (bC (qZ (lD (a5 0) (qC (.int 3))) (qC (.int 1)))) (c9 (eS (a8 (lD (mQ (a5 0) (qC (.int 3))) (qC (.int 7))) (a8 (lD (mQ (a5 0) (qC (.int 21))) (qC (.int 7))) aF)))) dF)
 (c9 (eS (a8 (fG (qC (.int 1)) (lD (mQ (a5 0) (qC (.int 3))) (qC (.int 3)))) (a8 (fG (qC (.int 1)) (lD (mQ (a5 0) (qC (.int 9))) (qC (.int 3)))) aF))))))
theorem Lz {a:Int}(h:0<=a/\a<=6):dH [a]:=⟨by simp,Nat.le_succ 1,λx hx=>by rw[eh.mp hx];exact h⟩
theorem G2 {a b:Int}(h:0<=a/\a<=6)(k:0<=b/\b<=6):dH [a,b]:=⟨by simp,da 2,λx hx=>by
 rcases eg.mp hx with rfl|hx
 ·exact h
 ·rw[eh.mp hx];exact k⟩
theorem VV:jX LB ["cell"] nI:=by
 rintro xs Q ⟨c,rfl,q⟩;refine⟨_,rfl,_,_,rfl,rfl,(by show (0:Int)<3;decide),.inl ⟨_,_,rfl,rfl,_,rfl,?_⟩⟩;show if decide (c%3=0)=true then _ else _
 by_cases h:c%3=0
 ·rw[eu h]
  exact cU ⟨_,rfl,_,_,rfl,rfl,⟨by decide,by decide⟩,_,_,rfl,rfl,(by show (0:Int)<7;decide),by show 1<=1000;decide,rfl,trivial,q [_] (Lz (by lia))⟩
 rw[dm h];refine bA ⟨_,rfl,_,_,rfl,rfl,(by show (0:Int)<3;decide),.inl ⟨_,_,rfl,rfl,_,rfl,?_⟩⟩;show if decide (c%3=1)=true then _ else _
 by_cases h:c%3=1
 ·rw[eu h]
  exact cU ⟨_,rfl,_,_,rfl,rfl,⟨by decide,by decide⟩,_,_,rfl,rfl,(by show (0:Int)<7;decide),_,rfl,_,_,rfl,rfl,⟨by decide,by decide⟩,_,_,rfl,rfl,(by show (0:Int)<7;decide),by show 2<=1000;decide,rfl,trivial,q [_,_] (G2 (by lia) (by lia))⟩
 rw[dm h];exact bA ⟨_,rfl,_,_,rfl,rfl,⟨by decide,by decide⟩,_,_,rfl,rfl,(by show (0:Int)<3;decide),_,_,rfl,rfl,_,rfl,_,_,rfl,rfl,⟨by decide,by decide⟩,_,_,rfl,rfl,(by show (0:Int)<3;decide),_,_,rfl,rfl,by show 2<=1000;decide,rfl,trivial,q [_,_] (G2 (by lia) (by lia))⟩
def G3 (m c:Int)(l:Int×Int):Prop:=((l.1+1)%c>0/\l.2=l.1+1)∨(l.1<m-c/\l.2=l.1+c)
structure jZ (m c:Int)(k:Int)(ls:aa):Prop where
 ord:ls.Pairwise fV
 len:(ls.length:Int)<=2*k
 mem:∀l:Int×Int,l∈ls↔0<=l.1/\l.1<k/\G3 m c l
theorem jZ.nil {m c:Int}:jZ m c 0 []:=⟨.nil,by decide,λl=>⟨(λh=>nomatch h),λh=>by lia⟩⟩
def iE (c k:Int):aa:=if (k+1)%c>0 then [(k,k+1)] else []
def k6 (m c k:Int):aa:=if k<m-c then [(k,k+c)] else []
theorem G4 {c k:Int}{l:Int×Int}:l∈iE c k↔l.1=k/\(k+1)%c>0/\l.2=k+1:=by
 unfold iE;split
 ·rename_i h
  rw[eh]
  exact⟨λe=>by rw[e];exact⟨rfl,h,rfl⟩,λe=>Prod.ext e.1 e.2.2⟩
 ·rename_i h
  exact⟨(λz=>nomatch z),λz=>absurd z.2.1 h⟩
theorem Ly {m c k:Int}{l:Int×Int}:l∈k6 m c k↔l.1=k/\k<m-c/\l.2=k+c:=by
 unfold k6;split
 ·rename_i h
  rw[eh]
  exact⟨λe=>by rw[e];exact⟨rfl,h,rfl⟩,λe=>Prod.ext e.1 e.2.2⟩
 ·rename_i h
  exact⟨(λz=>nomatch z),λz=>absurd z.2.1 h⟩
theorem jZ.step {m c k:Int}{ls:aa}(g:jZ m c k ls)(k0:0<=k)(hc:c=1∨c=2):jZ m c (k+1) (ls++iE c k++k6 m c k):=by
 have lt:∀l∈ls,l.1<k:=λl hl=>((g.mem l).mp hl).2.1
 refine⟨yb.mpr ⟨yb.mpr ⟨g.ord,?_,λa ha b hb=>?_⟩,?_,λa ha b hb=>?_⟩,?_,λl=>?_⟩
 ·unfold iE;split<;>simp
 ·have:=lt a ha
  have:=(G4.mp hb).1
  unfold fV;lia
 ·unfold k6;split<;>simp
 ·have b2:=Ly.mp hb
  rcases jk.mp ha with ha|ha
  ·have:=lt a ha
   unfold fV;lia
  ·have a1:=G4.mp ha
   unfold fV;rcases hc with rfl|rfl
   ·have:=a1.2.1;rw[Int.emod_one]at this;lia
   ·lia
 ·have l1:(iE c k).length<=1:=by unfold iE;split<;>simp
  have l2:(k6 m c k).length<=1:=by unfold k6;split<;>simp
  have:=g.len
  rw[gq,gq];lia
 ·rw[jk,jk,g.mem l,G4,Ly]
  unfold G3;constructor
  ·rintro ((⟨a,b,h⟩|⟨a,b,h⟩)|⟨a,b,h⟩)
   ·exact⟨a,by lia,h⟩
   ·exact⟨by lia,by lia,.inl ⟨by rw[a];exact b,by lia⟩⟩
   ·exact⟨by lia,by lia,.inr ⟨by lia,by lia⟩⟩
  ·rintro⟨a,b,h⟩
   by_cases e:l.1=k
   ·rcases h with⟨h1,h2⟩|⟨h1,h2⟩
    ·exact .inl (.inr ⟨e,by rw[<- e];exact h1,by lia⟩)
    ·exact .inr ⟨e,by lia,by lia⟩
   ·exact .inl (.inl ⟨a,by lia,h⟩)
theorem jZ.all {m c:Int}{ls:aa}(g:jZ m c m ls)(c1:1<=c)(m0:0<=m)(l:Int×Int):l∈ls↔l∈nG m.toNat c++nH m c:=by
 rw[g.mem l,jk,Wi,Wh];unfold G3;constructor
 ·rintro⟨a,b,⟨h1,h2⟩|⟨h1,h2⟩⟩
  ·exact .inl ⟨a,by lia,h1,h2⟩
  ·exact .inr ⟨a,h1,h2⟩
 ·rintro (⟨a,b,h1,h2⟩|⟨a,h1,h2⟩)
  ·exact⟨a,by lia,.inl ⟨h1,h2⟩⟩
  ·exact⟨a,by lia,.inr ⟨h1,h2⟩⟩
def lP:aQ:=λxs Q=>∃(ws:ag) (L:Int),xs = [.tup (bj ws),.int L]/\dH ws/\0<=L/\L<=40/\∀ls,ls.Pairwise fV->(∀l,l∈ls↔l∈nG ((ws.length:Int)*L).toNat ws.length++nH ((ws.length:Int)*L) ws.length)->Q (gS (cI ws L) ls)
def Lx:aY:=(aP (bW 2 (aG d4 (a8 (a5 0) aF)))
 (aP (lA 3 (jO aF))
 (aP (gC (j7 (a5 1)) (d8 4)
  (gC (j7 (a5 2)) (d8 5)
   (aP (bW 6 (fG (NM (a5 4) (a5 2)) (a5 5)))
   (aP (dG (bC (mR (fG (a5 5) (qC (.int 1))) (a5 2))) (qU 3 (eS (a8 (a5 6) (a8 (fG (a5 6) (qC (.int 1))) aF)))) dF)
   (dG (bC (mR (fG (a5 4) (qC (.int 1))) (a5 1))) (qU 3 (eS (a8 (a5 6) (a8 (fG (a5 6) (a5 2)) aF)))) dF)))))
 (c9 (eS (a8 (q2 E8 (aG r9 (a8 (a5 0) aF)) (a5 1)) (a8 (aG r9 (a8 (aG Mf (a8 (a5 3) aF)) aF)) aF)))))))
theorem VU:jX Lx ["wants","length","width","links","slice_number","place","hearth"] lP:=by
 rintro xs Q ⟨ws,L,rfl,ok,l0,l40,q⟩;have w1:1<=(ws.length:Int):=by have:=List.length_pos_iff.mpr ok.1;lia
 have w2:(ws.length:Int)<=2:=by have:=ok.2.1;lia
 have hw:(ws.length:Int)=1∨(ws.length:Int)=2:=by lia
 refine⟨_,rfl,_,_,rfl,rfl,trivial,?_⟩;rw[cL];refine⟨by decide,rfl,rfl,rfl,?_⟩;have nE:bj ws≠[]:=λz=>ok.1 (List.map_eq_nil_iff.mp z)
 have wl:ws.length<=10:=by lia
 generalize hc:(ws.length:Int)=c at *
 refine⟨_,rfl,L,rfl,by lia,by lia,λi ρ=>∃(y4 y5 y6:Option Slot) (ls:aa),ρ = [some (.sh true (.tup (bj ws))),si L,si c,some (.own (.lst (iC ls))),y4,y5,y6]/\jZ (c*L) c ((i:Int)*c) ls,
  ⟨none,none,none,[],?_,by rw[show ((0:Nat):Int)*c=0 by lia];exact .nil⟩,?_,?_⟩
 ·show [some (Slot.sh (flat (.tup (bj ws))) (.tup (bj ws))),_,_,_,_,_,_]=_
  rw[MR];rfl
 ·rintro i y ρ hy ⟨y4,y5,y6,ls,rfl,g⟩
  obtain⟨rfl,hi⟩:=rO hy
  rw[show (0:Int)+(i:Int)=(i:Int) by lia];have i0:0<=(i:Int)*c:=Int.mul_nonneg (by lia) (by lia);have ib:(i:Int)*c<=80:=by rcases hw with rfl|rfl<;>lia
  refine⟨_,rfl,c,rfl,by lia,by lia,λj ρ=>∃(y5 y6:Option Slot) (ls:aa),ρ = [some (.sh true (.tup (bj ws))),si L,si c,some (.own (.lst (iC ls))),si i,y5,y6]/\jZ (c*L) c ((i:Int)*c+(j:Int)) ls,
   ⟨y5,y6,ls,rfl,by rw[show (i:Int)*c+((0:Nat):Int)=(i:Int)*c by lia];exact g⟩,?_,?_⟩
  ·rintro j y ρ hy ⟨z5,z6,zt,rfl,g2⟩
   obtain⟨rfl,hj⟩:=rO hy
   rw[show (0:Int)+(j:Int)=(j:Int) by lia];have hjc:(j:Int)<c:=by lia
   have c1:((j:Int)+1<c)=((((i:Int)*c+(j:Int))+1)%c>0):=by
    refine propext ?_;rcases hw with rfl|rfl<;>lia
   have c2:((i:Int)+1<L)=((i:Int)*c+(j:Int)<c*L-c):=by
    refine propext ?_;rcases hw with rfl|rfl<;>lia
   have st:=g2.step (by lia) hw;have gl:zt.length<=200:=by have:=g2.len;lia
   refine⟨_,rfl,_,rfl,_,_,rfl,rfl,.inl ⟨by lia,by lia⟩,_,rfl,_,_,rfl,rfl,trivial,?_⟩;dsimp only;have ej:(i:Int)*c+((j+1:Nat):Int)=(i:Int)*c+(j:Int)+1:=by lia
   rw[<- ej]at st;generalize (i:Int)*c+((j+1:Nat):Int)=h' at *;generalize (i:Int)*c+(j:Int)=h at *;refine⟨_,rfl,_,_,rfl,rfl,_,rfl,_,_,rfl,rfl,_,rfl,?_⟩;show if decide ((j:Int)+1<c)=true then _ else _
   have two:∀Fp:aa,Fp=zt++iE c h->(dG (bC (mR (fG (a5 4) (qC (.int 1))) (a5 1))) (qU 3 (eS (a8 (a5 6) (a8 (fG (a5 6) (a5 2)) aF)))) dF) { nx:=λρ=>∃(y5 y6:Option Slot) (ls:aa),ρ = [some (.sh true (.tup (bj ws))),si L,si c,some (.own (.lst (iC ls))),si i,y5,y6]/\jZ (c*L) c h' ls,rt:=Q } [some (.sh true (.tup (bj ws))),si L,si c,some (.own (.lst (iC Fp))),si i,si j,si h]:=by
    rintro Fp rfl;refine⟨_,rfl,_,_,rfl,rfl,_,rfl,_,_,rfl,rfl,_,rfl,?_⟩;show if decide ((i:Int)+1<L)=true then _ else _
    by_cases t:(i:Int)+1<L
    ·rw[eu t]
     have e2:k6 (c*L) c h = [(h,h+c)]:=by unfold k6;rw[if_pos (by rw[<- c2];exact t)]
     rw[e2]at st;have l1:(iE c h).length<=1:=by unfold iE;split<;>simp
     refine cU ⟨_,rfl,_,rfl,_,rfl,_,rfl,_,_,rfl,rfl,by show 2<=1000;decide,rfl,trivial,by rw[MM,gq];lia,si j,si h,zt++iE c h++[(h,h+c)],?_,st⟩;unfold iC;rw[iz (l₂:=[(h,h+c)])];rfl
    ·rw[dm t]
     have e2:k6 (c*L) c h = []:=by unfold k6;rw[if_neg (by rw[<- c2];exact t)]
     rw[e2,nv]at st;exact bA ⟨si j,si h,zt++iE c h,rfl,st⟩
   by_cases t:(j:Int)+1<c
   ·rw[eu t]
    refine cU ⟨_,rfl,_,rfl,_,rfl,_,_,rfl,rfl,by show 2<=1000;decide,rfl,trivial,by rw[MM];lia,?_⟩
    have:=two (zt++[(h,h+1)]) (by unfold iE;rw[if_pos (by rw[<- c1];exact t)])
    have e:iC (zt++[(h,h+1)])=iC zt++[.tup [.int h,.int (h+1)]]:=by unfold iC;rw[iz];rfl
    rw[e]at this;exact this
   ·rw[dm t]
    have:=two zt (by unfold iE;rw[if_neg (by rw[<- c1];exact t),nv])
    exact bA this
  ·rintro ρ ⟨z5,z6,zt,rfl,g2⟩
   rw[dP]at g2;refine⟨_,z5,z6,zt,rfl,?_⟩;rw[show ((i+1:Nat):Int)*c=(i:Int)*c+((c.toNat:Nat):Int) by rw[show ((i+1:Nat):Int)=(i:Int)+1 by lia,Int.add_mul,Int.one_mul];lia];exact g2
 ·rintro ρ ⟨y4,y5,y6,ls,rfl,g⟩
  rw[dP,show ((L.toNat:Nat):Int)*c=c*L by rw[show ((L.toNat:Nat):Int)=L by lia,Int.mul_comm]]at g;have m0:0<=c*L:=Int.mul_nonneg (by lia) l0;have gl:=g.len;have ml:c*L<=80:=by rcases hw with rfl|rfl<;>lia
  have nd:=Wr g.ord;refine⟨_,rfl,⟨_,_,rfl,rfl,gI _,_,rfl,_,L,rfl,rfl,gI _,nE,l0,by lia,by rw[cL];exact wl,?_⟩,λns z=>by cases z⟩;rw[VX];refine⟨_,rfl,ls.map two,by rw[MB];rfl,by rw[dt];lia,λr hr=>by obtain⟨l,_,rfl⟩:=gs.mp hr;rfl,λZ pz so=>?_⟩
  obtain⟨l2,rfl,pp⟩:=XR pz
  have el:l2=ls:=Wq pp (XQ so (pp.nodup_iff.mpr nd)) g.ord;subst el;rw[show ((l2.map two).map λr=>PV.tup (bj r))=iC l2 from (MB _).symm];refine⟨⟨_,_,rfl,rfl,A7 _,by show 2<=1000;decide,?_,trivial,?_⟩,λns z=>by cases z⟩
  ·exact XO _ _
  ·have:=q l2 g.ord λl=>g.all (by lia) m0 l
   exact this
end Core
namespace L2
open PySem PySem.Spec PyProof.Rows SO
def rW (h:Heap)(ys:ae)(v:ax):Prop:=∃ns∈ys,ns≠[]/\gT h v ns
theorem VT {prog:ba}{w:bd}{A:bc}{E:ax->ay->Prop}{s:ay}(ys:ae):SO.cV prog w A E s (tuples' true) (λx=>rW s.heap ys x.1) (nF s.heap ys):=by
 rintro x y ⟨ns,m1,_,z⟩ ⟨ms,m2,_,z'⟩ st Q hk hq;unfold nF at hq;rw[z.ints,z'.ints,<- E3 m1 m2]at hq
 obtain⟨b,ob,us,n,e1,e2,e3,e4,e5⟩:=z.at_
 obtain⟨b',QD,Hm,n',GV,GU,EM,GP,GO⟩:=z'.at_
 rw[lt'_eq];refine cw (wpS_get ?_);rw[hk,e1,GV];refine cw (wpS_lift (wpAny_attempt (PySem.W.kat_lt e2 e4 GU GP ?_)))
 have:=Ox (prog:=prog) (w:=w) (A:=A) (s:=s) (Q:=λa s'=>s'=s/\wpS (model prog w) A E s (pure (some a)) Q st) 0 e5 GO ⟨rfl,dk hq⟩
 simpa using this
theorem VS {h:Heap}{ys:ae}:∀{vs:List ax},(∀v∈vs,rW h ys v)->∃fs:List ax,PySem.W.KatTups h vs fs/\fs.length=vs.length/\∀v∈fs,∃i t,v=Value.int i t:=by
 intro vs
 induction vs with
 |nil=>intro _;exact⟨[],PySem.W.KatTups.nil,rfl,λ_ z=>nomatch z⟩
 |cons v vs ih=>
  intro hh
  obtain⟨fs,t1,t2,t3⟩:=ih λy hy=>hh y (gc _ hy)
  obtain⟨ns,_,ne,z⟩:=hh v dv
  obtain⟨b,ob,us,n,rfl,e2,e3,e4,e5⟩:=z.at_
  cases e5 with
  |nil=>exact absurd rfl ne
  |cons p t e6=>exact⟨Value.int p t::fs,PySem.W.KatTups.cons e2 e3 e4 (by simp) t1,by simp[t2],λv hv=>(eg.mp hv).elim (λz=>⟨p,t,z⟩) (t3 v)⟩
theorem VR {M:Model}{A:bc}{E:ax->ay->Prop}{s:ay}{ys:ae}{vs:List ax}{Q:SortKind->ay->Prop}(hh:∀v∈vs,rW s.heap ys v)(h2:2<=vs.length)(hQ:Q (tuples' true) s):wpAny M A (keyKind' vs.toArray) Q E s:=by
 obtain⟨fs,t1,t2,t3⟩:=VS hh
 refine PySem.W.kat_kind (T:=.type "int") t1 (by lia) (λv hv=>?_) (by decide) ?_
 ·obtain⟨i,t,rfl⟩:=t3 v hv
  exact PySem.W.Looks.now
 ·have eT:(Value.type "int" != Value.type "tuple")=true:=by decide
  rw[eT];exact hQ
end L2
namespace L2
open PySem PySem.Spec PyProof.Rows PP
section
variable {prog:ba}{w:bd}{A:bc}{R:Result→ay→Prop}{I S:az}{n:Nat}{s0:ay}{a b:ax}{lt:Bool}{fp:List az}{P:Nat→ax→Prop}{St:Nat→Heap→Prop}
theorem VQ (W:Walks prog w A.in1 I fp [I] 2 P St)(p0:∀v,P 0 v->v=a)(p1:∀v,P 1 v->v=b)(sI:S≠I)(sf:S∉fp)(fI:s0.heap.get? I=none)(fS:s0.heap.get? S=none)(ask:∀(h:Heap) (k:Nat) (Q E:ax->ay->Prop),jY s0.heap h->Q (.bool lt) (at_ s0 h k)->wpAny (model prog w) A.in1 (richCompare .Lt b a) Q E (at_ s0 h k))(fin:∀h k,jY s0.heap h->R (.ok (.ret (if lt=true then b else a))) (at_ s0 h k)){h:Heap}{k c:Nat}(old:jY s0.heap h)(st:St 0 h)(hS:h.get? S=some { cls:=.type "list",dict:=none,data:=.seq #[] c,slots:=#[] }):codeAny (model prog w) A (.builtin "min.loop" ⟨[.ref I,.none,.ref S],[]⟩) R (at_ s0 h k):=by
 have nm:(toString "min"++toString ".loop":String)="min.loop":=by decide
 have nS:S∉[I]:=λz=>sI (eh.mp z)
 have put:∀{h h':Heap},jY s0.heap h->(∀b o,b∉[I]->h.get? b=some o->h'.get? b=some o)->jY s0.heap h':=λ{h h'} o1 o2 b o e=>o2 b o (λz=>by rw[eh.mp z,fI]at e;cases e) (o1 b o e)
 have put2:∀{h:Heap}{f:Obj->Obj},jY s0.heap h->jY s0.heap (h.update S f):=λ{h f} o1 b o e=>(Heap.get?_update_other _ _ (λz:S=b=>by rw[<- z,fS]at e;cases e)).trans (o1 b o e)
 have last:∀(h:Heap) (k c:Nat),jY s0.heap h->St 2 h->h.get? S=some { cls:=.type "list",dict:=none,data:=.seq #[if lt=true then b else a,if lt=true then b else a] c,slots:=#[] }->codeAny (model prog w) A (.builtin "min.loop" ⟨[.ref I,.none,.ref S],[]⟩) R (at_ s0 h k):=λh k c old st hS=>by
  refine codeAny_builtin PySem.F.entry_min_loop ?_;rw[Around.under_plainId Cd];refine bw (xh hS rfl ?_);refine bw (wpAny_tryCatch (W.done _ _ _ st λh2 k2 o2=>?_));exact bw (wpAny_updateSeq (o2 S _ nS hS) rfl (bw (wpAny_letGo (cy (fin _ k2 (put2 (put old o2)))))))
 have fr:∀{h:Heap}{f:Obj->Obj}{j:Nat},St j h->St j (h.update S f):=λ{h f j} st=>W.frame _ _ _ st λb hb o e=>(Heap.get?_update_other _ _ (λz:S=b=>sf (by rw[z];exact hb))).trans e
 refine codeAny_builtin PySem.F.entry_min_loop ?_;rw[Around.under_plainId Cd];refine bw (xh hS rfl ?_);refine bw (wpAny_tryCatch (W.item 0 _ _ _ (by decide) st λv h2 k2 hv fe o2=>?_));obtain rfl:=p0 v hv;have IB:=o2 S _ nS hS;refine bw (cy ?_);refine bw (m:=updateSeq _ (λ_=>#[v,v])) (wpAny_updateSeq IB rfl ?_);rw[nm];refine cy ⟨plainId_quiet Cd _,codeAny_builtin PySem.F.entry_min_loop ?_⟩;rw[Around.under_plainId Cd];have IA:(h2.update S (Obj.mapSeq λ_=>#[v,v])).get? S=some (Obj.mapSeq (λ_=>#[v,v]) { cls:=.type "list",dict:=none,data:=.seq #[] c,slots:=#[] }):=Ee _ IB rfl;refine bw (xh IA rfl ?_);refine bw (wpAny_tryCatch (W.item 1 _ _ _ (by decide) (fr fe) λu h4 k4 hu zo o4=>?_));obtain rfl:=p1 u hu;have Gp:=o4 S _ nS IA;have Bk:=put (put2 (f:=Obj.mapSeq λ_=>#[v,v]) (put old o2)) o4;refine bw (cy ?_);refine bw (m:=tryCatch (holding [u,u] (richCompare .Lt u v >>= _)) _) (wpAny_tryCatch (xf (bw (ask h4 k4 _ _ Bk ?_))));refine bw (xf (Aw (bw (wpAny_letGo (cy ?_)))));cases lt with
 |false=>
  simp only[mf,kc];refine bw (wpAny_letGo ?_);rw[nm];exact cy ⟨plainId_quiet Cd _,last h4 k4 _ Bk zo Gp⟩
 |true=>
  simp only[if_true];refine bw (wpAny_updateSeq Gp rfl (bw (wpAny_letGo ?_)));rw[nm];exact cy ⟨plainId_quiet Cd _,last _ k4 _ (put2 Bk) (fr zo) (Ee _ Gp rfl)⟩
theorem VP {Q E:ax->ay->Prop}(hh:A.in1.handled=none)(ask:∀(h:Heap) (k:Nat) (Q E:ax->ay->Prop),jY s0.heap h->Q (.bool lt) (at_ s0 h k)->wpAny (model prog w) A.in1 (richCompare .Lt b a) Q E (at_ s0 h k))(fin:∀h k,jY s0.heap h->Q (if lt=true then b else a) (at_ s0 h k)):wpAny (model prog w) A (call (.builtin "min") [a,b]) Q E s0:=by
 have nm:(toString "min"++toString ".loop":String)="min.loop":=by decide
 refine call_function_tree PySem.F.kind_min PySem.F.plain_min PySem.F.entry_min (PySem.F.args_min2 _ _) ?_;refine bw (wpAny_of_eq (show Builtin.Builtins.bindParams "min" ["key","default"] 0 ⟨[],[]⟩=pure [none,none] from rfl) ?_);show wpAny _ A.in1 (newTuple [a,b] >>= _) _ _ _;refine bw (AZ ?_);have hT:(s0.heap.push { cls:=.type "tuple",data:=.seq #[a,b] }).IsTuple s0.heap.objs.size #[a,b]:=⟨_,jw _ rfl,rfl,0,rfl⟩;have z1:(s0.heap.push { cls:=.type "tuple",data:=.seq #[a,b] }).objs.size=s0.heap.objs.size+1:=xg ..;refine bw (Ax hT ?_);refine bw (AZ ?_);rw[nm];have z2:((s0.heap.push { cls:=.type "tuple",data:=.seq #[a,b] }).push { cls:=.type "tuple_iterator",data:=.fields #[.ref s0.heap.objs.size,.int 0 0] }).objs.size=s0.heap.objs.size+2:=by rw[xg,z1]
 have ne:s0.heap.objs.size≠(s0.heap.push { cls:=.type "tuple",data:=.seq #[a,b] }).objs.size:=by lia
 refine cy ⟨plainId_quiet Cd _,VQ (lt:=lt) (Walks.tuple (A:=A.in1) hh _ s0.heap.objs.size ne #[a,b]) (λv hv=>?_) (λv hv=>?_) (λz=>?_) (λz=>?_) (LL (iw (Nat.le_succ _) (Nat.le_of_eq z1.symm))) (LL (iw (ze _ 2) (Nat.le_of_eq z2.symm))) ask fin (λb o e=>ez _ (ez _ (ez _ e)))
  ⟨⟨_,ez _ (jw _ rfl),rfl,rfl⟩,(hT.push _).push _⟩ (jw _ rfl)⟩
 ·exact (ip (show some a=some v from hv)).symm
 ·exact (ip (show some b=some v from hv)).symm
 ·have z:=z2.symm.trans (z.trans z1)
  lia
 ·rcases eg.mp z with z|z
  ·have z:=z2.symm.trans (z.trans z1)
   lia
  ·have z:=z2.symm.trans (eh.mp z)
   lia
end
end L2
namespace L2
open PySem PySem.Spec PyProof.Rows
section
variable {X:Cx}{ai:List (az×Obj)}{σ:St}{H H':Hp}{s:ay}{a:az}
theorem a6.BI {o:Obj}{us:List V}(I:a6 X ai σ H s)(h:H a=some (.lst us))(e:s.heap.get? a=some o):a6 X ai σ (upd H a (.dq o (.lst us))) s:=by
 have own:∀{c:az}{y:az},H c=some (.own y)->c≠a:=λ{c y} q z=>by rw[z,h]at q;cases q
 have tp:∀{c:az}{xs:List V},H c=some (.tup xs)->c≠a:=λ{c xs} q z=>by rw[z,h]at q;cases q
 refine I.Hx (a:=a) (λb n=>aH n) ⟨_,h⟩ (λxs q=>by rw[h]at q;cases q) (λo' v q=>by have:=I.base.mh a o' v q;rw[h]at this;cases this) (λps q=>by rw[h]at q;cases q) λb v q=>?_
 by_cases hb:b=a
 ·subst hb
  rw[bE]at q;cases q
  exact⟨e,(I.cj b _ h).fw (λ_ _ _ q=>q) (λc q=>by rw[aH (own q)];exact q) λc xs q=>by rw[aH (tp q)];exact q⟩
 ·rw[aH hb]at q
  exact (I.cj b v q).fw (λ_ _ _ q=>q) (λc q=>by rw[aH (own q)];exact q) λc xs q=>by rw[aH (tp q)];exact q
def Lw (t:TE):TE:=λσ H Q=>t σ H λv H1=>∃a us,v = .ref a/\H1 a=some (.lst us)/\∀o,Q v (upd H1 a (.dq o (.lst us)))
theorem VO {e:Expr}{t:TE}(h:PE X e t):PE X e (Lw t):=by
 intro ai s σ H Q I hq;refine aL (h ai s σ H _ I hq) λv s1 h1=>?_
 obtain⟨x,H1,I1,r1,a,us,ex,ea,q⟩:=h1
 obtain⟨_,_,_,_,ho⟩:=(show bK X.prog X.w H1 s1.heap a (.lst us) from I1.cj a _ ea)
 exact⟨x,_,I1.BI ea ho,r1,q _⟩
end
end L2
namespace PP
open PySem L2
section
variable {X:Cx}{e:Expr}{te:aA}{σ:St}{H:Hp}{Q':VK}
def p6 (te:aA):aA:=λρ Q=>te ρ λx g=>∃xs,x = .lst xs/\g = .fr/\cb xs=true/\Q (.fL xs) .fr
theorem VM (h:LE X (p6 te) σ H Q'):Lw (LE X te) σ H Q':=by
 obtain⟨W,ρ,Q,px,q,k⟩:=h
 refine⟨W,ρ,_,px,q,?_⟩;rintro v H1 x g s r ⟨xs,rfl,rfl,f,q⟩;cases r with
 |@lst a us _ m e r=>
  refine⟨a,us,rfl,e,λo=>k _ _ _ .fr (λb u hb=>?_) (.fL bE ((r.flat (M':=λ_=>False) f).keep (.upd e rfl λb z=>z.elim))) q⟩;have nb:b≠a:=λz=>by have m:H a=none:=m;rw[z,m]at hb;cases hb
  rw[aH nb];exact s b u hb
theorem rX (h:QE X e te):QE X e (p6 te):=cB (VO h) λ_ _ _=>VM
end
mutual
def pl:PV->Bool
 |.tup xs=>zr xs
 |.cq=>true
 |.bl _=>true
 |.int _=>true
 |.str _=>true
 |_=>false
def zr:List PV->Bool
 |[]=>true
 |x::r=>pl x&&zr r
end
mutual
theorem aE.pl {K:ad}{M M':az->Prop}{H H':Hp}(k:∀a us,H a=some (.tup us)->H' a=some (.tup us)){v:V}{x:PV}(f:pl x=true)(r:aE K M H v x):aE K M' H' v x:=by
 cases r with
 |cq=>exact .cq
 |bl b=>exact .bl b
 |int i=>exact .int i
 |str x=>exact .str x
 |tup h r=>exact .tup (k _ _ h) (bp.pl k (by unfold PP.pl at f;exact f) r)
 |lst m h r=>unfold PP.pl at f;cases f
 |dK m h e r=>unfold PP.pl at f;cases f
 |dT m h e r=>unfold PP.pl at f;cases f
 |mn h=>unfold PP.pl at f;cases f
 |kt h r=>unfold PP.pl at f;cases f
 |exc h e c=>unfold PP.pl at f;cases f
 |fK h e r=>unfold PP.pl at f;cases f
 |fT h e r=>unfold PP.pl at f;cases f
 |fL h r=>unfold PP.pl at f;cases f
 |fn h=>unfold PP.pl at f;cases f
 |ob=>unfold PP.pl at f;cases f
 |lm h=>unfold PP.pl at f;cases f
 |dA m h e r=>unfold PP.pl at f;cases f
 |dB m h e r=>unfold PP.pl at f;cases f
 |fA h e r=>unfold PP.pl at f;cases f
theorem bp.pl {K:ad}{M M':az->Prop}{H H':Hp}(k:∀a us,H a=some (.tup us)->H' a=some (.tup us)){vs:List V}{xs:List PV}(f:zr xs=true)(r:bp K M H vs xs):bp K M' H' vs xs:=by
 cases r with
 |nil=>exact .nil
 |cons r t=>
  unfold PP.zr at f;rw[my]at f;exact .cons (aE.pl k f.1 r) (bp.pl k f.2 t)
end
theorem vR:∀ns:ag,zr (bj ns)=true
 |[]=>rfl
 |n::r=>by show (pl (.int n)&&zr (bj r))=true;rw[vR r];rfl
def dZ (H:Hp):Hp:=λb=>match H b with
 |some (.dq o (.lst _))=>some (.ext λh=>h.get? b=some o)
 |x=>x
theorem G5 {H:Hp}{b:az}{o:Obj}{us:List V}(e:H b=some (.dq o (.lst us))):dZ H b=some (.ext λh=>h.get? b=some o):=by unfold dZ;rw[e]
theorem jC {H:Hp}{b:az}{x:Option HO}(e:H b=x)(n:∀o us,x≠some (.dq o (.lst us))):dZ H b=x:=by
 unfold dZ;rw[e];cases x with
 |none=>rfl
 |some y=>
  cases y with
  |dq o u=>
   cases u with
   |lst us=>exact absurd rfl (n o us)
   |_=>rfl
  |_=>rfl
theorem VL {H:Hp}{b:az}{o:Obj}{us:List V}:dZ H b≠some (.dq o (.lst us)):=by
 unfold dZ;split
 ·exact λz=>by cases z
 ·rename_i x h;exact λz=>h _ _ z
theorem Lv (H:Hp)(b:az):(∃o us,H b=some (.dq o (.lst us)))∨dZ H b=H b:=by
 by_cases h:∃o us,H b=some (.dq o (.lst us))
 ·exact .inl h
 ·exact .inr (jC rfl λo us e=>h ⟨o,us,e⟩)
theorem VJ {P:ba}{w:bd}{H:Hp}{h:Heap}(k:bS P w H h):bS P w (dZ H) h:=by
 intro b o e;rcases Lv H b with⟨ob,us,eb⟩|eb
 ·rw[G5 eb]at e
  cases e
  obtain⟨g,_⟩:=k b _ eb
  exact⟨g,⟨_,g⟩,λh1 h2 φ kk=>kk _ φ⟩
 ·rw[eb]at e
  exact (k b o e).fw (λ_ _ _ q=>q) (λc q=>jC q λ_ _ z=>by cases z) (λc xs q=>jC q λ_ _ z=>by cases z) (λc r q=>jC q λ_ _ z=>by cases z)
structure lQ (K:ad)(mg:Str->Option ax)(x:Str):Prop where
 ex:∃f,mg x=some (.ref f)/\PySem.W.nsIn K mainGlobals x=some (some (.ref f))
section
variable {X:Cx}{σ:L2.St}{H:Hp}{tr:bV}{Q':VK}{e:Expr}{es:List Expr}{pos p2 cp np:Pos}
theorem Lu {x:Str}(fv:lQ X.K X.mg x)(hg:Gl X x:=by rfl)(hd:(x==("__debug__":Str))=false:=by decide):QE X (.Name x pos) (qC (.fn x)):=by
 obtain⟨f,m,n⟩:=fv.ex
 exact cB (t:=tC (.ref f)) (λai s σ H Q I h=>t8 I hg m ⟨.ref f,H,I,rfl,h⟩ hd) λ_ _ _=>u7 λ_=>.fn n
end
abbrev kS (k:List (Int×Bool)):PV:=.tup (k.map λq=>.tup [.int q.1,.bl q.2])
def rY (k:Int)(y:PV):Prop:=y = .int k∨∃b:Bool,y = .bl b/\k=if b then 1 else 0
theorem vS {K:ad}{M:az->Prop}{H:Hp}{v:V}{k:List (Int×Bool)}(r:aE K M H v (kS k)):∃b,v = .ref b/\gF H k b:=by
 generalize e:kS k=x at r;cases r with
 |tup h r=>
  cases e;refine⟨_,rfl,_,h,?_⟩;clear h
  rename_i us
  induction k generalizing us with
  |nil=>cases r;exact .nil
  |cons p k ih=>
   rw[gg]at r;cases r with
   |cons r1 t=>
    refine .cons ?_ (ih t);generalize e:PV.tup [PV.int p.1,PV.bl p.2]=z at r1;cases r1 with
    |tup h r2=>
     cases e;cases r2 with
     |cons q1 t1=>
      cases t1 with
      |cons q2 t2=>
       cases t2;cases q1;cases q2
       exact⟨_,rfl,h⟩
    |_=>cases e
 |_=>cases e
theorem rY.rep {K:ad}{M:az->Prop}{H:Hp}{v:V}{y:PV}{k:Int}(n:rY k y)(r:aE K M H v y):mJ k v:=by
 rcases n with rfl|⟨b,rfl,rfl⟩
 ·cases r;exact .inl rfl
 ·cases r;exact .inr ⟨b,rfl,rfl⟩
def VI:PV->PV
 |.fA ps=>.dA ps
 |x=>x
def kT (x y:PV)(o:Option PV):Prop:=(∃ps k,VI x = .dA ps/\y=kS k/\o=eI ps k)∨∃ps k,x = .dB ps/\rY k y/\o=eI ps k
theorem G6 {K:ad}{M M2:az->Prop}{H:Hp}{v w:V}{x y:PV}{o:Option PV}(h:kT x y o)(rx:aE K M H v x)(ry:aE K M2 H w y):∃a o',v = .ref a/\l9 H a w o'/\(o=none->o'=none)/\∀z,o=some z->∃u,o'=some u/\aE K M H u z:=by
 rcases h with⟨ps,k,ex,rfl,rfl⟩|⟨ps,k,rfl,n,rfl⟩
 ·obtain⟨b,rfl,hb⟩:=vS ry
  cases rx with
  |dA m h e r=>cases ex;exact⟨_,_,rfl,.inl ⟨_,k,b,.inl h,rfl,hb,rfl⟩,(mP k e r).1,(mP k e r).2⟩
  |fA h e r=>cases ex;exact⟨_,_,rfl,.inl ⟨_,k,b,.inr ⟨_,h⟩,rfl,hb,rfl⟩,(mP k e r).1,(mP k e r).2⟩
  |_=>cases ex
 ·cases rx with
  |dB m h e r=>exact⟨_,_,rfl,.inr ⟨_,k,.inl h,n.rep ry,rfl⟩,(mP k e r).1,(mP k e r).2⟩
section
variable {X:Cx}{σ:L2.St}{H:Hp}{D:fN}{tk td te tv:aA}{Q':VK}
def p9 (neg:Bool)(tk td:aA):aA:=λρ Q=>tk ρ λy _=>td ρ λx _=>∃o,kT x y o/\Q (.bl (if neg=true then !o.isSome else o.isSome)) .fr
theorem VH (h:LE X (p9 false tk td) σ H Q'):Oh (LE X tk) (LE X td) σ H Q':=by
 obtain⟨W,ρ,Q,px,q,k⟩:=h
 refine⟨W,ρ,_,px,q,λw H1 y g s r q=>⟨W,ρ,_,px.mono s,q,?_⟩⟩;rintro v H2 x g' s2 r2 ⟨o,ak,q⟩
 obtain⟨a,o',rfl,dg,h1,h2⟩:=G6 ak r2 (r.same s2 λ_ z=>z)
 refine⟨a,o',rfl,dg,?_⟩;rw[NN h1 h2];exact k _ _ _ .fr (s.trans s2) (.bl _) q
theorem VG (h:LE X (p9 true tk td) σ H Q'):Og (LE X tk) (LE X td) σ H Q':=by
 obtain⟨W,ρ,Q,px,q,k⟩:=h
 refine⟨W,ρ,_,px,q,λw H1 y g s r q=>⟨W,ρ,_,px.mono s,q,?_⟩⟩;rintro v H2 x g' s2 r2 ⟨o,ak,q⟩
 obtain⟨a,o',rfl,dg,h1,h2⟩:=G6 ak r2 (r.same s2 λ_ z=>z)
 refine⟨a,o',rfl,dg,?_⟩;rw[NN h1 h2];exact k _ _ _ .fr (s.trans s2) (.bl _) q
def jD (td tk:aA):aA:=λρ Q=>td ρ λx g=>tk ρ λy _=>∃z,kT x y (some z)/\Q z g
theorem VF (h:LE X (jD td tk) σ H Q'):Oi (LE X td) (LE X tk) σ H Q':=by
 obtain⟨W,ρ,Q,px,q,k⟩:=h
 refine⟨W,ρ,_,px,q,λv H1 x g s r q=>⟨W,ρ,_,px.mono s,q,?_⟩⟩;rintro w H2 y g' s2 r2 ⟨z,ak,q⟩
 obtain⟨a,o',rfl,dg,h1,h2⟩:=G6 ak (r.same s2 λ_ z=>z) r2
 obtain⟨u,rfl,ru⟩:=h2 z rfl
 exact⟨a,u,rfl,dg,k _ _ _ g (s.trans s2) ru q⟩
def G7 (i:Nat)(tk te:aA):aY:=λD ρ=>te ρ λz g=>∃ps,ρ[i]? = some (some (.own (.dA ps)))/\tk ρ λy _=>∃k,y=kS k/\Nw g z/\ps.length<16000000/\D.nx (ρ.set i (some (.own (.dA (gN ps k z)))))
theorem VE {i:Nat}(h:LS X (G7 i tk te) D σ H):oC (cZ i) (LE X tk) (LE X te) D σ H:=by
 obtain⟨W,ρ,D',px,q,k⟩:=h
 refine⟨W,ρ,_,px,q,?_⟩;rintro w H1 z g s rz ⟨ps,hi,q⟩
 obtain⟨v,ev,a,rfl,wa,bq,ea,e1,r⟩:=(px.mono s).sl i _ hi
 refine⟨_,ev,W,ρ,_,px.mono s,q,?_⟩;rintro kv H2 y g' s2 ry ⟨kk,rfl,nw,hl,q⟩
 obtain⟨b,rfl,hb⟩:=vS ry
 have Ao:=s2 _ _ ea;refine⟨a,_,rfl,.inl ⟨_,kk,b,Ao,rfl,hb,j5 (by rw[oH e1];lia),rfl⟩,?_⟩
 obtain⟨h1,h2⟩:=zG kk ((Nw.rep px nw rz).same s2 λ_ z=>z) e1 (r.same s2 λ_ z=>z)
 exact k.nx W σ _ _ ((Ev.same (s.trans s2)).trans (Ev.upd wa)) ((px.mono (s.trans s2)).qf hi ev wa rfl (y:=.dA (gN ps kk z)) ⟨_,bE,h1,h2.keep (.upd Ao rfl λb m=>⟨jP wa m,m⟩)⟩) q
theorem VD (h:LE X (qC (.dA [])) σ H Q'):Of σ H Q':=by
 obtain⟨W,ρ,Q,px,q,k⟩:=h
 exact λp hp=>k _ _ _ .fr (bU hp _) (.dA hp bE rfl .nil) q
theorem VC (h:LE X (qC (.dB [])) σ H Q'):Oe σ H Q':=by
 obtain⟨W,ρ,Q,px,q,k⟩:=h
 exact λp hp=>k _ _ _ .fr (bU hp _) (.dB hp bE rfl .nil) q
def G8 (tk tv:aA):aA:=λρ Q=>tk ρ λy _=>tv ρ λz _=>flat z=true/\∃k,y=kS k/\Q (.dA [(k,z)]) .fr
theorem VB (h:LE X (G8 tk tv) σ H Q'):Od (LE X tk) (LE X tv) σ H Q':=by
 obtain⟨W,ρ,Q,px,q,k⟩:=h
 intro p hp;have s0:aD H (upd H p (.dA [])):=bU hp _;refine⟨W,ρ,_,px.mono s0,q,λw H1 y g s r q=>⟨W,ρ,_,(px.mono s0).mono s,q,?_⟩⟩;rintro v H2 z g' s2 rz ⟨fl,kk,rfl,q2⟩;have ep:H2 p=some (.dA []):=s2 _ _ (s _ _ bE)
 obtain⟨b,rfl,nb⟩:=vS r
 have QG:gF H2 kk b:=nb.keeps λc xs e=>s2 _ _ e
 refine⟨ep,b,kk,rfl,QG,?_⟩;have Px:aD H (upd H2 p (.dA [(kk,v)])):=λc o e=>by
  rw[aH (λz=>by rw[z,hp]at e;cases e)];exact s2 _ _ (s _ _ (s0 _ _ e))
 refine k _ _ _ .fr Px (.dA (ps:=[(kk,z)]) hp bE rfl (.cons ?_ .nil)) q2;exact (rz.flat (M':=λ_=>False) fl).keep (.upd ep rfl λ_ z=>z.elim)
end
section
variable {X:Cx}{a b e ke:Expr}{pos:Pos}{ta tb te tk tv:aA}
theorem eV (hu:X.A.units+16<cLine)(ha:QE X a ta)(hb:QE X b tb)(hs:yE b:=by exact λ_ _=>rfl):QE X (.Subscript a b pos) (jD ta tb):=cB (aR5 hu ha hb hs) λ_ _ _=>VF
theorem pA (hu:X.A.units+16<cLine)(hk:QE X a tk)(hd:QE X b te)(hm:behindInMarks .In b=false:=by rfl):QT X (.Compare a [.In] [b] pos) (bC (p9 false tk te)):=oK (S7 (aR6 hu hk hd) hm) λ_ _ _ h=>VH (uB h)
theorem VA (hu:X.A.units+16<cLine)(hk:QE X a tk)(hd:QE X b te)(hm:behindInMarks .NotIn b=false:=by rfl):QT X (.Compare a [.NotIn] [b] pos) (bC (p9 true tk te)):=oK (S7 (aR7 hu hk hd) hm) λ_ _ _ h=>VG (uB h)
theorem vT:QE X (.Dict [] [] pos) (qC (.dA [])):=cB aR9 λ_ _ _=>VD
theorem G9:QE X (.Dict [] [] pos) (qC (.dB [])):=cB aS0 λ_ _ _=>VC
theorem J0 (hu:X.A.units+16<cLine)(hk:QE X ke tk)(hv:QE X e tv):QE X (.Dict [some ke] [e] pos) (G8 tk tv):=cB (aS1 hu hk hv) λ_ _ _=>VB
theorem Vz {i:Nat}{x:Str}{dw qz:Pos}(hu:X.A.units+16<cLine)(hk:QE X a tk)(he:QE X e te)(hN:X.N[i]? = some x:=by rfl)(hv:dM X.env.scope x:=by first|exact Or.inl rfl|exact Or.inr (Or.inl rfl)|exact Or.inr (Or.inr rfl))(hd:(x==("__debug__":Str))=false:=by decide)(gf:(x==("__classdict__":Str))=false:=by decide)(hs:swapsWith e (some (.Subscript (.Name x dw) a qz)) pos.line X.env=pure false:=by rfl):QS X (.Assign [.Subscript (.Name x dw) a qz] e pos) (G7 i tk te):=dQ (i8 hu (gX hN hv hd gf) hk he hs) λ_ _ _=>VE
end
end PP
namespace L2
open PySem PySem.Spec PyProof.Rows
section
variable {X:Cx}{CX:fB}{k:Nat}{sp:Sp}{E:XK}{x:Str}{p pos:Pos}{e:Expr}{es:List Expr}{t:TA}{i:Nat}
theorem iM.fnAt {P:ba}{w:bd}{H:Hp}{h:Heap}{f:az}{l:b7}(q:iM H f l)(ok:bS P w H h):PySem.W.FnAt f h:=by
 obtain⟨pm,ju,c,ho,_⟩:=q.at ok
 exact⟨_,_,_,_,ho⟩
def Vy (i:Nat)(G:b7->Sp->Prop)(E:XK)(t:TA):TE:=λσ H Q=>∃f l sp,σ[i]? = some (some (.ref f))/\iM H f l/\G l sp/\t σ H λvs H1=>iM H1 f l/\sp vs H1 Q E
theorem Vx {G:b7->Sp->Prop}(F:∀l sp,G l sp->tY X.prog X.w X.K X.mg X.base CX k l sp)(hr:bL k X.A)(hN:X.N[i]? = some x)(hv:dM X.env.scope x)(hx:o3 CX X E)(ha:PA X (e::es) t)(jy:(x==("__debug__":Str))=false:=by decide)(gf:(x==("__classdict__":Str))=false:=by decide)(he:starEach (e::es) X.env=(false,eval e X.env)::starEach es X.env:=by rfl)(hpl:(backTo pos (starEach es X.env)).any (·.1)=false:=by rfl) :
  PE X (.Call (.Name x p) (e::es) [] pos) (Vy i G E t):=by
 intro ai s σ H Q I h
 obtain⟨f,l,sp,Fy,la,g,h⟩:=h
 refine CL (aL (gX (pos:=p) hN hv jy gf ai s σ H (λv H'=>v = .ref f/\H'=H) I ⟨_,Fy,rfl,rfl⟩) λu s0 h0=>?_)
 obtain⟨v,H',I0,r0,rfl,rfl⟩:=h0
 obtain rfl:u = .ref f:=r0;refine PySem.W.callWith_F (la.fnAt I0.cj) (aL (ha pos ai s0 σ H' _ I0 h) λus s1 ⟨vs,H1,I1,r,HZ,q⟩=>⟨HZ.fnAt I1.cj,?_⟩) he hpl;refine wpAny_call (codeAny_mono ((F l sp g).run X.A X.stack s1 H1 f us vs Q E hr I1.DV HZ r q) λrs s' hq=>?_);cases rs with
 |error ev=>exact hx ai σ H1 s1 ev s' I1 hq
 |ok fl=>
  cases fl with
  |ret u=>exact I1.after hq
  |next=>exact False.elim hq
  |brk=>exact False.elim hq
  |cont=>exact False.elim hq
end
end L2
namespace PP
open PySem L2 PyProof.Rows PySem.Spec
section
variable {X:Cx}{σ:L2.St}{H:Hp}{tr:bV}{Q':VK}{e:Expr}{es:List Expr}{pos p2 np:Pos}{P0:az}{l:b7}
def pB (l:b7):aA:=λ_ Q=>Q (.lm l) .fr
theorem Vw (hT:∃t:Tok,X.cz P0=some (.qb #[.str l.qual t]))(h:LE X (pB l) σ H Q'):Ol P0 l σ H Q':=by
 obtain⟨W,ρ,Q,px,q,k⟩:=h
 obtain⟨t,hT⟩:=hT
 exact⟨⟨t,px.same _ _ hT⟩,λf H' s hf la=>k (.ref f) H' (.lm l) .fr s (.lm la) q⟩
theorem vU {params:Arguments}{body:Expr}{scope:Scope}{c0:az}{gp:List (Str×az)}(hT:∃t:Tok,X.cz P0=some (.qb #[.str l.qual t]))(hl:l=⟨X.env.qual++"<lambda>",params,body,scope,gp⟩)(vh:X.env.code = .ref c0)(hK:PySem.W.codeHdIn X.K c0 P0=true)(B:iN X.base X.mg P0)(zu:mainGlobals≠P0)(BD:defaultsOf params X.env=([],[]):=by rfl)(za:closureFor scope X.env=pure gp:=by rfl):QE X (.Lambda params body scope pos) (pB l):=
 cB (aQ6 hl vh hK B zu BD za) λ_ _ _=>Vw hT
def eW (P:ba)(w:bd)(K:ad)(mg:Str->Option ax)(base:Heap)(k:Nat)(l:b7)(p:aQ):Prop:=tY P w K mg base c7 k l (kK K p)
def vV (i:Nat)(tab:List (b7×aQ))(t:bV):aA:=λρ Q=>∃g l p,ρ[i]? = some (some (.sh g (.lm l)))/\(l,p)∈tab/\aG p t ρ Q
theorem pC (i:Nat){k j:Nat}{x:Str}{tab:List (b7×aQ)}(ds:∀z,z∈tab->eW X.prog X.w X.K X.mg X.base k z.1 z.2)(hr:bL j X.A)(ha:QA X (e::es) tr)(wu:k<=j:=by decide)(hN:X.N[i]? = some x:=by rfl)(hv:dM X.env.scope x:=by first|exact Or.inl rfl|exact Or.inr (Or.inl rfl)|exact Or.inr (Or.inr rfl))(jy:(x==("__debug__":Str))=false:=by decide)(gf:(x==("__classdict__":Str))=false:=by decide)(he:starEach (e::es) X.env=(false,eval e X.env)::starEach es X.env:=by rfl)(hpl:(backTo pos (starEach es X.env)).any (·.1)=false:=by rfl):QE X (.Call (.Name x p2) (e::es) [] pos) (vV i tab tr):=by
 refine cB (Vx (k:=k) (t:=LA X tr) (E:=E0) (CX:=c7) (G:=λl sp=>∃z,z∈tab/\z.1=l/\sp=kK X.K z.2) (λl sp g=>?_) (hr.mono wu) hN hv mH ha jy gf he hpl) λσ H Q' h=>?_
 ·obtain⟨z,hz,rfl,rfl⟩:=g
  exact ds z hz
 obtain⟨W,ρ,Q,px,⟨g,l,p,hi,hz,q⟩,k⟩:=h
 obtain⟨v,hv,r⟩:=px.sl i _ hi
 have r:aE X.K (Ms X.cz W g) H v (.lm l):=r;cases r with
 |lm la=>
  refine⟨_,l,_,hv,la,⟨_,hz,rfl,rfl⟩,W,ρ,_,px,q,λvs H1 xs s1 r1 q1=>⟨la.same s1,_,_,r1.any,q1,λv H' x s2 r2 q2=>k v H' x .fr (s1.trans s2) (r2.same (aD.refl _) λ_ z=>s1.free z) q2⟩⟩
theorem eW.of {P:ba}{w:bd}{K:ad}{mg:Str->Option ax}{base:Heap}{k:Nat}{l:b7}{N ps:List Str}{p:aQ}(hc:l.gp = [])(S:bx N ps l.scope)(hb:∀(pm cv ju:ax) (us:List ax),us.length=ps.length->bindArgs (qQ l pm cv ju) ⟨us,[]⟩=pure (ps.zip us))(len:∀xs Q,p xs Q->xs.length=ps.length)(body:∀(f:az) (cv:ax) (A:bc) (outer:List Env) (s:ay) (H:Hp) (E:XK),bL k (A.deeper (envOfC l.qual l.scope s.heap.objs.size f cv))->
   ∃t,QE (eF c7 P w K mg base N l.qual l.scope f cv A outer s H E) l.body t/\∀xs Q,p xs Q->t (bB N xs) λx _=>flat x=true/\Q x):eW P w K mg base (k+1) l p:=by
 refine aQ7 hc S hb (λvs H Q E h=>?_) λA outer s H f cv vs Q E hr h=>?_
 ·obtain⟨xs,Qp,r,q,_⟩:=h
  rw[r.length];exact len xs Qp q
 ·obtain⟨xs,Qp,r,q,k⟩:=h
  obtain⟨t,ht,hq⟩:=body f cv A outer s H E hr
  exact⟨_,ht,λ_=>False,bB N xs,_,lI r,hq xs Qp q,λv H' x g s rx ⟨fx,qx⟩=>k v H' x s (rx.flat fx) qx⟩
end
def jn {κ:Type}[DecidableEq κ](J:PV->PV->PV)(ps:List (κ×PV))(k:κ)(z:PV):PV:=match eI ps k with
 |none=>z
 |some w=>J w z
def Ls (K:ad)(g:PV)(Ok:PV->Prop)(J:PV->PV->PV):Sp:=λvs H Q _=>∃d b y f ks bq ps z,vs = [.ref d,.ref b,y,f]/\H d=some (.dA bq)/\gF H ks b/\bq.map (·.1)=ps.map (·.1)/\bp K (λ_=>True) H (bq.map (·.2)) (ps.map (·.2))/\
 (∀w,eI ps ks=some w->Ok w)/\aE K (λ_=>True) H y z/\flat z=true/\Ok z/\aE K (λ_=>True) H f g/\ps.length<16000000/\∀H' v,aD H H'->aE K (λ_=>False) H' v (jn J ps ks z)->flat (jn J ps ks z)=true->Q .cq (upd H' d (.dA (gG bq ks v)))
def Lr (K:ad)(g:PV)(Ok:PV->Prop)(J:PV->PV->PV):Sp:=λvs H Q _=>∃d x y f ks bq ps z,vs = [.ref d,x,y,f]/\H d=some (.dB bq)/\mJ ks x/\bq.map (·.1)=ps.map (·.1)/\bp K (λ_=>True) H (bq.map (·.2)) (ps.map (·.2))/\
 (∀w,eI ps ks=some w->Ok w)/\aE K (λ_=>True) H y z/\flat z=true/\Ok z/\aE K (λ_=>True) H f g/\ps.length<16000000/\∀H' v,aD H H'->aE K (λ_=>False) H' v (jn J ps ks z)->flat (jn J ps ks z)=true->Q .cq (upd H' d (.dB (gG bq ks v)))
structure iS (P:ba)(w:bd)(K:ad)(mg:Str->Option ax)(base:Heap)(k:Nat)(x:Str)(ps:List Str)(g:PV)(Ok:PV->Prop)(J:PV->PV->PV):Prop where
 ex:∃f fd,d7 P w K mg base c7 k f fd ps (Ls K g Ok J)/\iK K fd ps []/\PySem.W.keepIn K (.ref f)=true/\mg x=some (.ref f)
structure iT (P:ba)(w:bd)(K:ad)(mg:Str->Option ax)(base:Heap)(k:Nat)(x:Str)(ps:List Str)(g:PV)(Ok:PV->Prop)(J:PV->PV->PV):Prop where
 ex:∃f fd,d7 P w K mg base c7 k f fd ps (Lr K g Ok J)/\iK K fd ps []/\PySem.W.keepIn K (.ref f)=true/\mg x=some (.ref f)
def Lq:cQ:=bC (p9 false (a5 1) (a5 0))
theorem Vv {k:Int}{x:V}{K:ad}{M:az->Prop}{H:Hp}(n:mJ k x):∃y,rY k y/\aE K M H x y:=by
 rcases n with rfl|⟨b,rfl,e⟩
 ·exact⟨.int k,.inl rfl,.int _⟩
 ·exact⟨.bl b,.inr ⟨b,rfl,e⟩,.bl _⟩
section
variable {P:ba}{w:bd}{K:ad}{mg:Str→Option ax}{base:Heap}{k:Nat}{x:Str}{p1 p2 p3 p4:Str}{st:Stmt}{f:az}{fd:FuncData}{g:PV}{Ok:PV→Prop}{J:PV→PV→PV}
theorem iS.of (F:bF K x x st f fd)(m:mg x=some (.ref f))(S:bx [p1,p2,p3,p4] [p1,p2,p3,p4] (aJ st))(hb:∀(kV doc pm:ax) (an:Option az) (cm ct:ax) (us:List ax),us.length = [p1,p2,p3,p4].length->bindArgs (PySem.W.fnOf x x (dE st) (cF st) (aJ st) .none kV doc pm an cm ct) ⟨us,[]⟩=pure ([p1,p2,p3,p4].zip us))(body:∀(cm:ax) (A:bc) (outer:List Env) (s:ay) (H:Hp) (E:XK),bL k (A.deeper (envOfC x (aJ st) s.heap.objs.size f cm))->
   ∃te:aA,eN (eF c7 P w K mg base [p1,p2,p3,p4] x (aJ st) f cm A outer s H E).sv (cF st) (qB (LT (eF c7 P w K mg base [p1,p2,p3,p4] x (aJ st) f cm A outer s H E).sv Lq)
    (oC (cZ 0) (cZ 1) (LE (eF c7 P w K mg base [p1,p2,p3,p4] x (aJ st) f cm A outer s H E).sv te)) (oC (cZ 0) (cZ 1) (cZ 2)))/\
    ∀d y w z,kT d y (some w)->Ok w->Ok z->te (bB [p1,p2,p3,p4] [d,y,z,g]) λv _=>v=J w z/\flat v=true):iS P w K mg base (k+1) x [p1,p2,p3,p4] g Ok J:=by
 refine⟨f,fd,F.ok S (λvs H Q E h=>?_) (λcm A outer s H vs Q E hr h=>?_),F.binds hb,F.kp,m⟩
 ·obtain⟨d,b,y,f',ks,bq,ps,z,rfl,_⟩:=h
  rfl
 ·obtain⟨te,Gk,FL⟩:=body cm A outer s H E hr
  refine⟨_,Gk,?_⟩
  obtain⟨d,b,y,f',ks,bq,ps,z,rfl,ed,eb,e1,r,al,ry,fz,oz,rg,hl,q⟩:=h
  have px:=lI (N:=[p1,p2,p3,p4]) (K:=K) (H:=H) (vs:=[.ref d,.ref b,y,f']) (xs:=[.dA ps,kS ks,z,g]) (.cons (.dA trivial ed e1 r) (.cons (LD eb) (.cons ry (.cons rg .nil))));refine⟨_,_,λc=>c=(eI ps ks).isSome,px,⟨_,rfl,_,rfl,eI ps ks,.inl ⟨ps,ks,rfl,rfl,rfl⟩,_,rfl,rfl⟩,λc H1 s1 ec=>?_⟩;subst ec;cases ev:eI ps ks with
  |none=>
   rw[if_neg (by simp)];have ej:jn J ps ks z=z:=by unfold jn;rw[ev]
   refine⟨y,rfl,.ref d,rfl,.ref b,rfl,d,_,rfl,.inl ⟨_,ks,b,s1 _ _ ed,rfl,eb.keeps λc xs e=>s1 _ _ e,j5 (by rw[oH e1];lia),rfl⟩,q H1 y s1 ?_ ?_⟩
   ·rw[ej];exact (ry.flat fz).same s1 λ_ z=>z
   ·rw[ej];exact fz
  |some w=>
   rw[if_pos (by rfl)];have ej:jn J ps ks z=J w z:=by unfold jn;rw[ev]
   refine⟨_,_,_,px.mono s1,FL (.dA ps) (kS ks) w z (.inl ⟨ps,ks,rfl,rfl,ev.symm⟩) (al w ev) oz,λv H2 v2 g2 s2 rv hv=>?_⟩
   obtain⟨rfl,fv⟩:=hv
   have Cp:=s1.trans s2;refine⟨.ref d,rfl,.ref b,rfl,d,_,rfl,.inl ⟨_,ks,b,Cp _ _ ed,rfl,eb.keeps λc xs e=>Cp _ _ e,j5 (by rw[oH e1];lia),rfl⟩,q H2 v Cp ?_ ?_⟩
   ·rw[ej];exact rv.flat fv
   ·rw[ej];exact fv
theorem iT.of (F:bF K x x st f fd)(m:mg x=some (.ref f))(S:bx [p1,p2,p3,p4] [p1,p2,p3,p4] (aJ st))(hb:∀(kV doc pm:ax) (an:Option az) (cm ct:ax) (us:List ax),us.length = [p1,p2,p3,p4].length->bindArgs (PySem.W.fnOf x x (dE st) (cF st) (aJ st) .none kV doc pm an cm ct) ⟨us,[]⟩=pure ([p1,p2,p3,p4].zip us))(body:∀(cm:ax) (A:bc) (outer:List Env) (s:ay) (H:Hp) (E:XK),bL k (A.deeper (envOfC x (aJ st) s.heap.objs.size f cm))->
   ∃te:aA,eN (eF c7 P w K mg base [p1,p2,p3,p4] x (aJ st) f cm A outer s H E).sv (cF st) (qB (LT (eF c7 P w K mg base [p1,p2,p3,p4] x (aJ st) f cm A outer s H E).sv Lq)
    (oC (cZ 0) (cZ 1) (LE (eF c7 P w K mg base [p1,p2,p3,p4] x (aJ st) f cm A outer s H E).sv te)) (oC (cZ 0) (cZ 1) (cZ 2)))/\
    ∀d y w z,kT d y (some w)->Ok w->Ok z->te (bB [p1,p2,p3,p4] [d,y,z,g]) λv _=>v=J w z/\flat v=true):iT P w K mg base (k+1) x [p1,p2,p3,p4] g Ok J:=by
 refine⟨f,fd,F.ok S (λvs H Q E h=>?_) (λcm A outer s H vs Q E hr h=>?_),F.binds hb,F.kp,m⟩
 ·obtain⟨d,b,y,f',ks,bq,ps,z,rfl,_⟩:=h
  rfl
 ·obtain⟨te,Gk,FL⟩:=body cm A outer s H E hr
  refine⟨_,Gk,?_⟩
  obtain⟨d,xv,y,f',ks,bq,ps,z,rfl,ed,en,e1,r,al,ry,fz,oz,rg,hl,q⟩:=h
  obtain⟨xp,np,rx⟩:=Vv (K:=K) (M:=λ_=>True) (H:=H) en
  have px:=lI (N:=[p1,p2,p3,p4]) (K:=K) (H:=H) (vs:=[.ref d,xv,y,f']) (xs:=[.dB ps,xp,z,g]) (.cons (.dB trivial ed e1 r) (.cons rx (.cons ry (.cons rg .nil))));refine⟨_,_,λc=>c=(eI ps ks).isSome,px,⟨_,rfl,_,rfl,eI ps ks,.inr ⟨ps,ks,rfl,np,rfl⟩,_,rfl,rfl⟩,λc H1 s1 ec=>?_⟩;subst ec;cases ev:eI ps ks with
  |none=>
   rw[if_neg (by simp)];have ej:jn J ps ks z=z:=by unfold jn;rw[ev]
   refine⟨y,rfl,.ref d,rfl,xv,rfl,d,_,rfl,.inr ⟨_,ks,s1 _ _ ed,en,j5 (by rw[oH e1];lia),rfl⟩,q H1 y s1 ?_ ?_⟩
   ·rw[ej];exact (ry.flat fz).same s1 λ_ z=>z
   ·rw[ej];exact fz
  |some w=>
   rw[if_pos (by rfl)];have ej:jn J ps ks z=J w z:=by unfold jn;rw[ev]
   refine⟨_,_,_,px.mono s1,FL (.dB ps) xp w z (.inr ⟨ps,ks,rfl,np,ev.symm⟩) (al w ev) oz,λv H2 v2 g2 s2 rv hv=>?_⟩
   obtain⟨rfl,fv⟩:=hv
   have Cp:=s1.trans s2;refine⟨.ref d,rfl,xv,rfl,d,_,rfl,.inr ⟨_,ks,Cp _ _ ed,en,j5 (by rw[oH e1];lia),rfl⟩,q H2 v Cp ?_ ?_⟩
   ·rw[ej];exact rv.flat fv
   ·rw[ej];exact fv
end
section
variable {X:Cx}{σ:L2.St}{H:Hp}{D:fN}{t1 t2 t3:aA}{g:PV}{Ok:PV→Prop}{J:PV→PV→PV}
def J1 (i:Nat)(g:PV)(Ok:PV->Prop)(J:PV->PV->PV)(t1 t2 t3:aA):aY:=λD ρ=>∃ps,ρ[i]? = some (some (.own (.dA ps)))/\t1 ρ λy _=>t2 ρ λz _=>t3 ρ λf _=>∃k,y=kS k/\f=g/\flat z=true/\Ok z/\(∀w,eI ps k=some w->Ok w)/\ps.length<16000000/\D.nx (ρ.set i (some (.own (.dA (gN ps k (jn J ps k z))))))
def J2 (i:Nat)(g:PV)(Ok:PV->Prop)(J:PV->PV->PV)(t1 t2 t3:aA):aY:=λD ρ=>∃ps,ρ[i]? = some (some (.own (.dB ps)))/\t1 ρ λy _=>t2 ρ λz _=>t3 ρ λf _=>∃k,rY k y/\f=g/\flat z=true/\Ok z/\(∀w,eI ps k=some w->Ok w)/\ps.length<16000000/\D.nx (ρ.set i (some (.own (.dB (gN ps k (jn J ps k z))))))
theorem Vu {i:Nat}(h:LS X (J1 i g Ok J t1 t2 t3) D σ H):mC (qI (Ls X.K g Ok J) [] E0 (g9 (cZ i) (g9 (LE X t1) (g9 (LE X t2) (g9 (LE X t3) kD))))) D σ H:=by
 obtain⟨W,ρ,D',px,⟨ps,hi,q⟩,k⟩:=h
 obtain⟨v,ev,a,rfl,wa,bq,ea,e1,r⟩:=px.sl i _ hi
 refine⟨_,ev,W,ρ,_,px,q,?_⟩;intro v1 H1 y g1 s1 r1 q1;refine⟨W,ρ,_,px.mono s1,q1,?_⟩;intro v2 H2 z g2 s2 r2 q2;refine⟨W,ρ,_,px.mono (s1.trans s2),q2,?_⟩;rintro v3 H3 f g3 s3 r3 ⟨kk,rfl,rfl,fz,oz,al,hl,q3⟩
 obtain⟨b,rfl,hb⟩:=vS r1
 have Et:=s2.trans s3;have Bh:=s1.trans Et;have DW:=Bh _ _ ea;refine⟨a,b,v2,v3,kk,bq,ps,z,rfl,DW,hb.keeps λc xs e=>Et _ _ e,e1,r.same Bh λ_ _=>trivial,al,((r2.flat (M':=λ_=>True) fz).same s3 λ_ z=>z),fz,oz,r3.same (aD.refl _) λ_ _=>trivial,hl,λH4 v s4 rv fv=>?_⟩;have Bg:=Bh.trans s4;have GN:=s4 _ _ DW
 obtain⟨h1,h2⟩:=zG kk (rv.flat (M':=Ms X.cz W true) fv) e1 (r.same Bg λ_ z=>z)
 exact k.nx W σ _ _ ((Ev.same Bg).trans (Ev.upd wa)) ((px.mono Bg).qf hi ev wa rfl (y:=.dA (gN ps kk (jn J ps kk z))) ⟨_,bE,h1,h2.keep (.upd GN rfl λb m=>⟨jP wa m,m⟩)⟩) q3
theorem Vt {i:Nat}(h:LS X (J2 i g Ok J t1 t2 t3) D σ H):mC (qI (Lr X.K g Ok J) [] E0 (g9 (cZ i) (g9 (LE X t1) (g9 (LE X t2) (g9 (LE X t3) kD))))) D σ H:=by
 obtain⟨W,ρ,D',px,⟨ps,hi,q⟩,k⟩:=h
 obtain⟨v,ev,a,rfl,wa,bq,ea,e1,r⟩:=px.sl i _ hi
 refine⟨_,ev,W,ρ,_,px,q,?_⟩;intro v1 H1 y g1 s1 r1 q1;refine⟨W,ρ,_,px.mono s1,q1,?_⟩;intro v2 H2 z g2 s2 r2 q2;refine⟨W,ρ,_,px.mono (s1.trans s2),q2,?_⟩;rintro v3 H3 f g3 s3 r3 ⟨kk,n,rfl,fz,oz,al,hl,q3⟩;have Et:=s2.trans s3;have Bh:=s1.trans Et;have DW:=Bh _ _ ea;refine⟨a,v1,v2,v3,kk,bq,ps,z,rfl,DW,n.rep r1,e1,r.same Bh λ_ _=>trivial,al,((r2.flat (M':=λ_=>True) fz).same s3 λ_ z=>z),fz,oz,r3.same (aD.refl _) λ_ _=>trivial,hl,λH4 v s4 rv fv=>?_⟩;have Bg:=Bh.trans s4;have GN:=s4 _ _ DW
 obtain⟨h1,h2⟩:=zG kk (rv.flat (M':=Ms X.cz W true) fv) e1 (r.same Bg λ_ z=>z)
 exact k.nx W σ _ _ ((Ev.same Bg).trans (Ev.upd wa)) ((px.mono Bg).qf hi ev wa rfl (y:=.dB (gN ps kk (jn J ps kk z))) ⟨_,bE,h1,h2.keep (.upd GN rfl λb m=>⟨jP wa m,m⟩)⟩) q3
theorem J3 {k j:Nat}{x y:Str}{ps:List Str}{a b c:Expr}{p2 p3 pos ug:Pos}(d:iS X.prog X.w X.K X.mg X.base k x ps g Ok J)(hr:bL j X.A)(i:Nat)(ha:QE X a t1)(hb:QE X b t2)(hc:QE X c t3)(wu:k<=j:=by decide)(hN:X.N[i]? = some y:=by rfl)(hv:dM X.env.scope y:=by first|exact Or.inl rfl|exact Or.inr (Or.inl rfl)|exact Or.inr (Or.inr rfl))(hd:(y==("__debug__":Str))=false:=by decide)(gf:(y==("__classdict__":Str))=false:=by decide)(hg:Gl X x:=by rfl)(jy:(x==("__debug__":Str))=false:=by decide)(he:starEach [.Name y p3,a,b,c] X.env=(false,eval (.Name y p3) X.env)::starEach [a,b,c] X.env:=by rfl)(he2:starEach [a,b,c] X.env=(false,eval a X.env)::starEach [b,c] X.env:=by rfl)(Gh:starEach [b,c] X.env=(false,eval b X.env)::starEach [c] X.env:=by rfl)(Gg:starEach [c] X.env=(false,eval c X.env)::starEach [] X.env:=by rfl)(hpl:(backTo pos (starEach [a,b,c] X.env)).any (·.1)=false:=by rfl)(hs:swapsWith (.Call (.Name x p2) [.Name y p3,a,b,c] [] pos) none ug.line X.env=pure false:=by rfl):QS X (.Expr (.Call (.Name x p2) [.Name y p3,a,b,c] [] pos) ug) (J1 i g Ok J t1 t2 t3):=by
 obtain⟨f,fd,F,b,kp,m⟩:=d.ex
 exact dQ (kZ (tN F (hr.mono wu) hg m kp b .nil mH (eO (gX hN hv hd gf) (eO ha (eO hb (eO hc iJ Gg) Gh) he2) he) jy he hpl) hs) λ_ _ _=>Vu
theorem J4 {k j:Nat}{x y:Str}{ps:List Str}{a b c:Expr}{p2 p3 pos ug:Pos}(d:iT X.prog X.w X.K X.mg X.base k x ps g Ok J)(hr:bL j X.A)(i:Nat)(ha:QE X a t1)(hb:QE X b t2)(hc:QE X c t3)(wu:k<=j:=by decide)(hN:X.N[i]? = some y:=by rfl)(hv:dM X.env.scope y:=by first|exact Or.inl rfl|exact Or.inr (Or.inl rfl)|exact Or.inr (Or.inr rfl))(hd:(y==("__debug__":Str))=false:=by decide)(gf:(y==("__classdict__":Str))=false:=by decide)(hg:Gl X x:=by rfl)(jy:(x==("__debug__":Str))=false:=by decide)(he:starEach [.Name y p3,a,b,c] X.env=(false,eval (.Name y p3) X.env)::starEach [a,b,c] X.env:=by rfl)(he2:starEach [a,b,c] X.env=(false,eval a X.env)::starEach [b,c] X.env:=by rfl)(Gh:starEach [b,c] X.env=(false,eval b X.env)::starEach [c] X.env:=by rfl)(Gg:starEach [c] X.env=(false,eval c X.env)::starEach [] X.env:=by rfl)(hpl:(backTo pos (starEach [a,b,c] X.env)).any (·.1)=false:=by rfl)(hs:swapsWith (.Call (.Name x p2) [.Name y p3,a,b,c] [] pos) none ug.line X.env=pure false:=by rfl):QS X (.Expr (.Call (.Name x p2) [.Name y p3,a,b,c] [] pos) ug) (J2 i g Ok J t1 t2 t3):=by
 obtain⟨f,fd,F,b,kp,m⟩:=d.ex
 exact dQ (kZ (tN F (hr.mono wu) hg m kp b .nil mH (eO (gX hN hv hd gf) (eO ha (eO hb (eO hc iJ Gg) Gh) he2) he) jy he hpl) hs) λ_ _ _=>Vt
end
end PP
namespace L2
open PySem PySem.Spec PyProof.Rows
section
variable {X:Cx}{CX:fB}{k:Nat}{E:XK}{x:Str}{p pos:Pos}{e:Expr}{es:List Expr}{t:TA}{i:Nat}
def Vs (i:Nat)(G:az->Sp->Prop)(E:XK)(t:TA):TE:=λσ H Q=>∃f sp,σ[i]? = some (some (.ref f))/\G f sp/\t σ H λvs H1=>sp vs H1 Q E
theorem Vr {G:az->Sp->Prop}(F:∀f sp,G f sp->∃fd ps,d7 X.prog X.w X.K X.mg X.base CX k f fd ps sp/\PySem.W.keepIn X.K (.ref f)=true/\iK X.K fd ps [])(hr:bL k X.A)(hN:X.N[i]? = some x)(hv:dM X.env.scope x)(hx:o3 CX X E)(ha:PA X (e::es) t)(jy:(x==("__debug__":Str))=false:=by decide)(gf:(x==("__classdict__":Str))=false:=by decide)(he:starEach (e::es) X.env=(false,eval e X.env)::starEach es X.env:=by rfl)(hpl:(backTo pos (starEach es X.env)).any (·.1)=false:=by rfl) :
  PE X (.Call (.Name x p) (e::es) [] pos) (Vs i G E t):=by
 intro ai s σ H Q I h
 obtain⟨f,sp,Fy,g,h⟩:=h
 obtain⟨fd,ps,F,hk,hb⟩:=F f sp g
 refine CL (aL (gX (pos:=p) hN hv jy gf ai s σ H (λv H'=>v = .ref f/\H'=H) I ⟨_,Fy,rfl,rfl⟩) λu s0 h0=>?_)
 obtain⟨v,H',I0,r0,rfl,rfl⟩:=h0
 obtain rfl:u = .ref f:=r0;refine PySem.W.callWith_K (h₀:=X.base) I0.ok.mod.mq hk (aL (ha pos ai s0 σ H' _ I0 h) λus s1 ⟨vs,H1,I1,r,q⟩=>⟨I1.nj,?_⟩) he hpl;exact V5 F hr hb .nil hx I1 r (by rw[nv];exact q)
end
end L2
namespace PP
open PySem L2 PyProof.Rows PySem.Spec
section
variable {X:Cx}{σ:L2.St}{H:Hp}{tr:bV}{Q':VK}{e:Expr}{es:List Expr}{pos p2 np:Pos}
def J5 (i:Nat)(tab:List (Str×aQ))(t:bV):aA:=λρ Q=>∃g x p,ρ[i]? = some (some (.sh g (.fn x)))/\(x,p)∈tab/\aG p t ρ Q
theorem J6 (i:Nat){k j:Nat}{x:Str}{tab:List (Str×aQ)}(ds:∀z,z∈tab->(∃f,X.mg z.1=some (.ref f)/\PySem.W.nsIn X.K mainGlobals z.1=some (some (.ref f)))/\∃ps,Df X.prog X.w X.K X.mg X.base k z.1 ps z.2)(hr:bL j X.A)(ha:QA X (e::es) tr)(wu:k<=j:=by decide)(hN:X.N[i]? = some x:=by rfl)(hv:dM X.env.scope x:=by first|exact Or.inl rfl|exact Or.inr (Or.inl rfl)|exact Or.inr (Or.inr rfl))(jy:(x==("__debug__":Str))=false:=by decide)(gf:(x==("__classdict__":Str))=false:=by decide)(he:starEach (e::es) X.env=(false,eval e X.env)::starEach es X.env:=by rfl)(hpl:(backTo pos (starEach es X.env)).any (·.1)=false:=by rfl):QE X (.Call (.Name x p2) (e::es) [] pos) (J5 i tab tr):=by
 refine cB (Vr (k:=k) (t:=LA X tr) (E:=E0) (CX:=c7) (G:=λf sp=>∃z,z∈tab/\X.mg z.1=some (.ref f)/\sp=kK X.K z.2) (λf sp g=>?_) (hr.mono wu) hN hv mH ha jy gf he hpl) λσ H Q' h=>?_
 ·obtain⟨z,hz,m,rfl⟩:=g
  obtain⟨_,ps,d⟩:=ds z hz
  obtain⟨f',fd,F,b,kp,m'⟩:=d.ex
  rw[m]at m';cases m'
  exact⟨fd,ps,F,kp,b⟩
 obtain⟨W,ρ,Q,px,⟨g,y,p,hi,hz,q⟩,k⟩:=h
 obtain⟨v,hv,r⟩:=px.sl i _ hi
 have r:aE X.K (Ms X.cz W g) H v (.fn y):=r;cases r with
 |fn n=>
  obtain⟨f,m,n'⟩:=(ds _ hz).1
  rw[n']at n;cases n
  exact⟨_,_,hv,⟨_,hz,m,rfl⟩,W,ρ,_,px,q,λvs H1 xs s1 r1 q1=>⟨_,_,r1.any,q1,λv H' x s2 r2 q2=>k v H' x .fr (s1.trans s2) (r2.same (aD.refl _) λ_ z=>s1.free z) q2⟩⟩
end
def gU (T:List (az×Str))(H:Hp):Prop:=∀z∈T,∃t:Tok,H z.1=some (.qb #[.str z.2 t])
theorem gU.same {T:List (az×Str)}{H H':Hp}(h:gU T H)(s:aD H H'):gU T H':=λz hz=>let ⟨t,e⟩:=h z hz;⟨t,s _ _ e⟩
def lS (K:ad)(T:List (az×Str))(p:aQ):Sp:=λvs H Q E=>gU T H/\kK K p vs H Q E
structure cW (P:ba)(w:bd)(K:ad)(mg:Str->Option ax)(base:Heap)(T:List (az×Str))(k:Nat)(x:Str)(ps:List Str)(p:aQ):Prop where
 ex:∃f fd,d7 P w K mg base c7 k f fd ps (lS K T p)/\iK K fd ps []/\PySem.W.keepIn K (.ref f)=true/\mg x=some (.ref f)
section
variable {X:Cx}{σ:L2.St}{H:Hp}{tr:bV}{Q':VK}{e:Expr}{es:List Expr}{pos p2:Pos}{T:List (az×Str)}
theorem Vq {p:aQ}{E:XK}(hT:gU T X.cz)(h:LE X (aG p tr) σ H Q'):qI (lS X.K T p) [] E (LA X tr) σ H Q':=by
 obtain⟨W,ρ,Q,px,q,k⟩:=h
 exact⟨W,ρ,_,px,q,λvs H1 xs s1 r1 q1=>⟨hT.same (px.same.trans s1),_,_,by rw[nv];exact r1.any,q1,λv H' x s2 r2 q2=>k v H' x .fr (s1.trans s2) (r2.same (aD.refl _) λ_ z=>s1.free z) q2⟩⟩
theorem kU {k j:Nat}{x:Str}{ps:List Str}{p:aQ}(hT:gU T X.cz)(d:cW X.prog X.w X.K X.mg X.base T k x ps p)(hr:bL j X.A)(ha:QA X (e::es) tr)(wu:k<=j:=by decide)(hg:Gl X x:=by rfl)(jy:(x==("__debug__":Str))=false:=by decide)(he:starEach (e::es) X.env=(false,eval e X.env)::starEach es X.env:=by rfl)(hpl:(backTo pos (starEach es X.env)).any (·.1)=false:=by rfl):QE X (.Call (.Name x p2) (e::es) [] pos) (aG p tr):=by
 obtain⟨f,fd,F,b,kp,m⟩:=d.ex
 exact cB (tN F (hr.mono wu) hg m kp b .nil mH ha jy he hpl) λ_ _ _=>Vq hT
theorem cW.of {P:ba}{w:bd}{K:ad}{mg:Str->Option ax}{base:Heap}{k:Nat}{x:Str}{ps N:List Str}{p:aQ}{st:Stmt}{f:az}{fd:FuncData}(F:bF K x x st f fd)(m:mg x=some (.ref f))(S:bx N ps (aJ st))(hb:∀(kV doc pm:ax) (an:Option az) (cm ct:ax) (us:List ax),us.length=ps.length->bindArgs (PySem.W.fnOf x x (dE st) (cF st) (aJ st) .none kV doc pm an cm ct) ⟨us,[]⟩=pure (ps.zip us))(len:∀xs Q,p xs Q->xs.length=ps.length)(body:∀(cm:ax) (A:bc) (outer:List Env) (s:ay) (H:Hp) (E:XK),bL k (A.deeper (envOfC x (aJ st) s.heap.objs.size f cm))->gU T H->
   ∃t,gO (eF c7 P w K mg base N x (aJ st) f cm A outer s H E).sv (cF st) t/\∀xs Q,p xs Q->t { nx:=λ_=>Q .cq,rt:=Q } (bB N xs)):cW P w K mg base T (k+1) x ps p:=by
 refine⟨f,fd,F.ok S (λvs H Q E h=>?_) (λcm A outer s H vs Q E hr h=>?_),F.binds hb,F.kp,m⟩
 ·obtain⟨_,xs,Qp,r,q,_⟩:=h
  rw[r.length];exact len xs Qp q
 ·obtain⟨hT,xs,Qp,r,q,k⟩:=h
  obtain⟨t,ht,hq⟩:=body cm A outer s H E hr hT
  refine⟨_,ht,λ_=>False,bB N xs,_,lI r,hq xs Qp q,?_,?_,?_,?_⟩
  ·exact λW' cn H' fk e px q=>k _ _ _ px.same .cq q
  ·exact λv H' x s r q=>k _ _ _ s r q
  ·exact λW' cn H' fk e px q=>q
  ·exact λW' cn H' fk e px q=>q
end
end PP
namespace L2
open PySem PySem.Spec PyProof.Rows
def k7 (T:List (az×Str)):Hp:=λb=>(T.find? λz=>decide (z.1=b)).map λz=>.qb #[.str z.2 0]
def rZ (H:Hp):Prop:=∀b,H b=none∨(∃o xs,H b=some (.dq o (.lst xs)))∨∃ps,H b=some (.qb ps)
def Lp (K:ad)(h:Heap)(T:List (az×Str)):Prop:=(∀z∈T,h.get? z.1=some (PySem.W.tabObj #[])/\K.lookup z.1=none/\isCodeTable h z.1)/\(T.map (·.1)).Nodup
theorem Lo (T:List (az×Str)):rZ (k7 T):=λb=>by
 unfold k7;cases T.find? λz=>decide (z.1=b) with
 |none=>exact .inl rfl
 |some z=>exact .inr (.inr ⟨_,rfl⟩)
theorem J7 {T:List (az×Str)}{b:az}(h:k7 T b≠none):∃z∈T,b=z.1:=by
 unfold k7 at h;cases e:T.find? λz=>decide (z.1=b) with
 |none=>rw[e]at h;exact absurd rfl h
 |some z=>exact⟨z,CY e,by have:=List.find?_some e;exact (by simpa using this:z.1=b).symm⟩
theorem Ln:∀{T:List (az×Str)}{z:az×Str},(T.map (·.1)).Nodup->z∈T->(T.find? λy=>decide (y.1=z.1))=some z
 |[],_,_,h=>by cases h
 |y::r,z,n,h=>by
  rw[gg,qu]at n;rw[qt];rcases eg.mp h with rfl|h
  ·simp
  ·have ne:¬y.1=z.1:=λe=>n.1 (e▸CM h)
   rw[dm ne];exact Ln n.2 h
theorem Lm {T:List (az×Str)}(n:(T.map (·.1)).Nodup):PP.gU T (k7 T):=λz hz=>⟨0,by unfold k7;rw[Ln n hz];rfl⟩
theorem Ll {P:ba}{w:bd}{H:Hp}{h:Heap}{T:List (az×Str)}{b:az}{u:HO}(t:∀z∈T,h.get? z.1=some (PySem.W.tabObj #[]))(e:k7 T b=some u):bK P w H h b u:=by
 unfold k7 at e;cases q:T.find? λz=>decide (z.1=b) with
 |none=>rw[q]at e;cases e
 |some z=>
  rw[q]at e;cases e;have hb:z.1=b:=by have:=List.find?_some q;simpa using this
  have g:=t z (CY q);rw[hb]at g
  exact⟨#[],g,trivial,λpos cv h=>by cases h⟩
theorem Vp {P:ba}{w:bd}{K:ad}{mg mb:Str->Option ax}{CX:fB}{k:Nat}{fa a:az}{fd:FuncData}{x:Str}{sp:Sp}{cg:ay}{vs:List ax}{ns:ag}{T:List (az×Str)}(KX:K.In cg.heap)(uk:cg.heap.Ns mainGlobals mg)(hb:cg.heap.Ns builtinsNs mb)(RQ:∀x:Str,x≠"__name__"->mb x=bootBuiltins x)(FW:cg.heap.NoLimit)(hg:cg.gens = #[])(ha:cg.heap.get? a=some { cls:=.type "list",data:=.seq vs.toArray })(hi:IntsAre vs ns)(hl:ns.length<=sizeLine)(hr:bL k callerA)(TK:Lp K cg.heap T)(bmain:∃bm ob,mg "__builtins__" = some (.ref bm)/\bm≠builtinsNs/\cg.heap.get? bm=some ob/\ob.cls = .type "module"/\ob.dict=some builtinsNs/\ob.data = .plain)(F:∀base:Heap,K.In base->base.Ns mainGlobals mg->(∀z∈T,iN base mg z.1)->d7 P w K mg base CX k fa fd [x] sp)(zc:∀(s:ay) (u:ax),BindsTo s fd ⟨[u],[]⟩ [(x,u)])(vg:∀H:Hp,rZ H->PP.gU T H->aN K H a (ns.map V.int)->sp [.ref a] H (λv _=>v = .bl true) λ_ _ _=>False)(Gu:∀H e s',CX [] H cg (λ_ _ _=>False) e s'->False) :
  codeAny (model P w) callerA (.call (.ref fa) ⟨[.ref a],[]⟩) (λr s'=>r = .ok (.ret (.bool true))/\OldK cg.heap s'.heap/\s'.os=cg.os/\AllBare s'.gens) cg:=by
 have rv:=Z3 hi;have Fq:=hi.length;have core:∀H:Hp,rZ H->PP.gU T H->aN K H a (ns.map V.int)->bS P w H cg.heap->(∀b,H b≠none->b=a∨∃z∈T,b=z.1)->(H a≠none->K.lookup a=none)->
   codeAny (model P w) callerA (.call (.ref fa) ⟨[.ref a],[]⟩) (λr s'=>r = .ok (.ret (.bool true))/\OldK cg.heap s'.heap/\s'.os=cg.os/\AllBare s'.gens) cg:=by
  intro H hO hT hS cj hA hK;have qo:∀{b:az}{o:Obj},cg.heap.get? b=some o->H b=none->(iZ cg.heap H).get? b=some o:=λe n=>S3 e n
  have Ai:∀{b:az}{o:Obj}{es:Array DictEntry}{ep:Nat},cg.heap.get? b=some o->o.data = .dict es ep->H b=none:=λ{b o es ep} e d=>by
   cases q:H b with
   |none=>rfl
   |some u=>
    rcases hA b (by rw[q];simp) with e'|⟨z,hz,e'⟩
    ·subst e'
     rw[ha]at e;cases e;have d':Data.seq vs.toArray _=Data.dict es ep:=d;cases d'
    ·subst e'
     rw[(TK.1 z hz).1]at e;cases e;have d':Data.fields #[]=Data.dict es ep:=d;cases d'
  have Ex:∀{b:az}{m:Str->Option ax},cg.heap.Ns b m->(iZ cg.heap H).Ns b m:=λ{b m} ⟨o,es,ep,e,d,r⟩=>⟨o,es,ep,qo e (Ai e d),d,r⟩
  have ID:K.In (iZ cg.heap H):=λb o e=>qo (KX b o e) (by
   cases q:H b with
   |none=>rfl
   |some u=>
    rcases hA b (by rw[q];simp) with e'|⟨z,hz,e'⟩
    ·subst e'
     rw[hK (by rw[q];simp)]at e;cases e
    ·subst e'
     rw[(TK.1 z hz).2.1]at e;cases e)
  have RT:∀z∈T,iN (iZ cg.heap H) mg z.1:=λz hz=>by
   obtain⟨bm,ob,b1,b2,b3,b4,b5,b6⟩:=bmain
   have nP:∀y∈T,bm≠y.1:=λy hy e=>by
    rw[e,(TK.1 y hy).1]at b3;cases b3;have d':Data.fields #[]=Data.plain:=b6;cases d'
   refine⟨bm,ob,b1,b2,λe=>?_,nP z hz,qo b3 ?_,b4,b5,b6⟩
   ·obtain⟨o,es,ep,e1,e2,_⟩:=uk
    rw[e,e1]at b3;cases b3;rw[b6]at e2;cases e2
   ·cases q:H bm with
    |none=>rfl
    |some u=>
     rcases hA bm (by rw[q];simp) with e'|⟨y,hy,e'⟩
     ·rw[e',ha]at b3;cases b3
      have d':Data.seq vs.toArray _=Data.plain:=b6;cases d'
     ·exact absurd e' (nP y hy)
  have hM:Mod K mg (iZ cg.heap H):=⟨ID,Ex uk,⟨mb,Ex hb,RQ⟩,let ⟨mc,h1,h2⟩:=FW;⟨mc,Ex h1,h2⟩⟩;have e0:l7 P w K mg (iZ cg.heap H) callerA [] cg H:=⟨rfl,hM,λb o e=>S4 e,Nat.le_of_eq (S2 _ _),trivial,λb hb=>absurd (show b∈([]:List az) from hb) (by simp),cj,.of_eq hg⟩;refine codeAny_mono ((F _ ID (Ex uk) RT).run callerA [] cg H ⟨[.ref a],[]⟩ [.ref a] [.ref a] _ _ hr e0 (zc cg (.ref a)) (.cons rfl .nil) (vg H hO hT hS)) λr s' h=>?_
  cases r with
  |error e=>exact (Gu H e s' h).elim
  |ok fl=>
   cases fl with
   |next=>exact False.elim h
   |brk=>exact False.elim h
   |cont=>exact False.elim h
   |ret u=>
    obtain⟨v,H',os,bare,un,DH,r',q⟩:=h
    have q':v = .bl true:=q;subst q';obtain rfl:u=Value.bool true:=r';refine⟨rfl,⟨λb o e=>?_,λb o e=>?_⟩,os,bare⟩
    ·cases q:H b with
     |none=>exact .inl (un.keep b o e q (by intro z;exact absurd (show b∈([]:List az) from z) (by simp)) (by simp))
     |some u=>
      rcases hO b with z|⟨ob,xs,z⟩|⟨ps,z⟩
      ·rw[q]at z;cases z
      ·have z2:=un.mh b ob _ z
       obtain⟨e1,_⟩:=cj b _ z
       obtain⟨e2,_⟩:=DH b _ z2
       rw[e]at e1;cases e1;exact .inl e2
      ·rcases hA b (by rw[q];simp) with e'|⟨y,hy,e'⟩
       ·subst e'
        obtain⟨qs,e1,_⟩:=(show bK P w H cg.heap b (.qb ps) from cj b _ z)
        rw[ha]at e1;cases e1
       ·subst e'
        obtain⟨more,z2⟩:=un.nc _ ps z
        obtain⟨qs,e2,_⟩:=(show bK P w H' s'.heap y.1 (.qb (ps++more)) from DH _ _ z2)
        rw[(TK.1 y hy).1]at e;cases e;exact .inr (.inl ⟨(TK.1 y hy).2.2,rfl,#[],qs,rfl,by simpa using e2⟩)
    ·exact un.there b o e (by simp)
 cases hk:K.lookup a with
 |some o=>
  have e:=KX a o hk;rw[ha]at e;cases e;have aT:∀z∈T,z.1≠a:=λz hz e=>by have:=(TK.1 z hz).1;rw[e,ha]at this;cases this
  refine core (k7 T) (Lo T) (Lm TK.2) (.inr ⟨_,vs.toArray,_,hk,rfl,rfl,rfl,by rw[fu,Fq];exact hl,by simpa using rv⟩) (λb u z=>Ll (λy hy=>(TK.1 y hy).1) z) (λb z=>.inr (J7 z)) λz=>(by
   obtain⟨y,hy,e⟩:=J7 z
   exact absurd e.symm (aT y hy))
 |none=>
  have aT:∀z∈T,z.1≠a:=λz hz e=>by have:=(TK.1 z hz).1;rw[e,ha]at this;cases this
  refine core (λb=>if b=a then some (.dq { cls:=.type "list",data:=.seq vs.toArray } (.lst (ns.map V.int))) else k7 T b) (λb=>?_) (λz hz=>?_) (.inl (.inr ⟨{ cls:=.type "list",data:=.seq vs.toArray },if_pos rfl⟩)) (λb u z=>?_) (λb z=>?_) λ_=>hk
  ·by_cases hb:b=a
   ·exact .inr (.inl ⟨_,_,if_pos hb⟩)
   ·rcases Lo T b with e|⟨o,xs,e⟩|⟨ps,e⟩
    ·exact .inl ((if_neg hb).trans e)
    ·exact .inr (.inl ⟨o,xs,(if_neg hb).trans e⟩)
    ·exact .inr (.inr ⟨ps,(if_neg hb).trans e⟩)
  ·obtain⟨t,e⟩:=Lm TK.2 z hz
   exact⟨t,(if_neg (aT z hz)).trans e⟩
  ·by_cases hb:b=a
   ·have z':=(if_pos hb).symm.trans z
    cases z';subst hb
    exact⟨ha,by rw[dt];exact hl,vs,_,rv,ha⟩
   ·have z':=(if_neg hb).symm.trans z
    exact Ll (λy hy=>(TK.1 y hy).1) z'
  ·by_cases hb:b=a
   ·exact .inl hb
   ·exact .inr (J7 λe=>z ((if_neg hb).trans e))
theorem J8 {K:ad}{h:Heap}{c P:az}(X:K.In h)(e:PySem.W.codeHdIn K c P=true):isCodeTable h P:=by
 obtain⟨o,vs,_,_,_,_,_,_,_,h1,h2,h3,h4,_⟩:=PySem.W.codeHd_of_K X e
 exact⟨c,o,vs,h1,h2,h3,h4⟩
theorem Vo {K:ad}{H:Hp}{a:az}{ns:ag}(hO:rZ H)(h:aN K H a (ns.map V.int)):PP.kJ K H a ns:=by
 rcases h with (h|⟨o,h⟩)|h
 ·rcases hO a with e|⟨o,xs,e⟩|⟨ps,e⟩<;>(rw[h]at e;cases e)
 ·exact .inl ⟨o,h⟩
 ·exact .inr h
theorem Vn {l:PySem.W.OpenLaw}{n k:Nat}{q:ba}{loose:List Str}{XP:(Str->Option ax)->Heap->Prop}{YP:bd->Heap->Prop}{d:DefRec}{K:Params->ad}{CX:bd->fB}{sp:bd->Sp}{x:Str}{T:List (az×Str)}(hn:l.most=some n)(Ru:n<=sizeLine)(BC:d.params.defaults = [])(hr:bL k callerA)(hY:∀(w:bd) (h:Heap),YP w h->(K w.params).In h)(hT:∀(w:bd) (h:Heap),YP w h->Lp (K w.params) h T)(F:∀(w:bd) (mg:Str->Option ax) (fa:az) (h:Heap),(K w.params).In h->h.Ns mainGlobals mg->mg d.name=some (.ref fa)->
   ∃fd:FuncData,(∀(s:ay) (u:ax),BindsTo s fd ⟨[u],[]⟩ [(x,u)])/\
    ∀base:Heap,(K w.params).In base->base.Ns mainGlobals mg->(∀z∈T,iN base mg z.1)->d7 l.prog w (K w.params) mg base (CX w) k fa fd [x] (sp w))(vg:∀(w:bd) (H:Hp) (a:az) (ns:ag),ns.length<=n->rZ H->PP.gU T H->aN (K w.params) H a (ns.map V.int)->sp w [.ref a] H (λv _=>v = .bl true) λ_ _ _=>False)(Gu:∀(w:bd) (H:Hp) (s:ay) (e:ax) (s':ay),CX w [] H s (λ_ _ _=>False) e s'->False) :
  PySem.W.WalkO q loose XP YP l.row.toRowW d [] (λf vs=>PySem.call f vs):=by
 refine Pp.aN4 hn BC λw fh cg mg mb fa o pm cd doc a vs ns G Y ho hd gf hmg yw hints ao hg=>?_
 have KX:=hY w _ Y
 obtain⟨fd,hb,hF⟩:=F w mg fa _ KX G.T.g hmg
 exact Vp KX G.T.g G.T.b G.T.builtins G.T.nolimit hg yw hints (iw ao Ru) hr (hT w _ Y) G.T.bmain hF hb (λH hO hT hS=>vg w H a ns ao hO hT hS) λH e s'=>Gu w H cg e s'
def J9 (base:Heap)(c:az):Hp:=λb=>if b=c then none else match base.get? b with
 |some _=>none
 |none=>some (.de 0 0)
def sA (h base:Heap)(c:az):Heap:=iZ h (J9 base c)
section
variable {h base:Heap}{c:az}
theorem vW (hb:∀b o,base.get? b=some o->h.get? b=some o){b:az}{o:Obj}:(sA h base c).get? b=some o↔h.get? b=some o/\(b=c∨base.get? b=some o):=by
 constructor
 ·intro e
  obtain⟨e1,e2⟩:=S4 e
  refine⟨e1,?_⟩;unfold J9 at e2;by_cases z:b=c
  ·exact .inl z
  ·rw[if_neg z]at e2
   cases q:base.get? b with
   |none=>rw[q]at e2;cases e2
   |some o'=>
    have:=hb b o' q
    rw[e1]at this;cases this;exact .inr rfl
 ·rintro⟨e,z⟩
  refine S3 e ?_;unfold J9;by_cases q:b=c
  ·rw[if_pos q]
  ·rw[if_neg q]
   rcases z with z|z
   ·exact absurd z q
   ·rw[z]
theorem Lk {AM:Heap}(hb:∀b,base.get? b=none->b≠c->AM.get? b=none):∀{l:List Env},h.FunFrames base l->(∀b∈gW l,b≠c)->h.FunFrames AM l
 |[],_,_=>trivial
 |env::r,hl,hc=>by
  obtain⟨hk,⟨L,o,hf,hn,ho,hd⟩,hr⟩:=hl
  refine⟨hk,⟨L,o,hf,hb L hn (hc L (by unfold gW;rw[List.filterMap_cons,hf];exact dv)),ho,hd⟩,Lk hb hr λb z=>hc b (by unfold gW;rw[List.filterMap_cons,hf];exact gc _ z)⟩
end
section
variable {X:Cx}{ai:List (az×Obj)}{σ:St}{H:Hp}{s:ay}{y:Str}{c:az}
theorem a6.DU (I:a6 X ai σ H s)(hf:X.fn y=true)(hc:X.env.cells.lookup y=some c):l7 X.prog X.w X.K X.mg (sA s.heap X.base c) X.A X.stack s H:=by
 have hb:∀b o,X.base.get? b=some o->s.heap.get? b=some o:=I.bk
 have up:∀b o,X.base.get? b=some o->(sA s.heap X.base c).get? b=some o:=λb o e=>(vW hb).mpr ⟨hb b o e,.inr e⟩
 have M:=I.ok.mod;refine⟨I.ok.frames,⟨λb o e=>up b o (M.mq b o e),M.glob.keeps up,let ⟨mb,h1,h2⟩:=M.blt;⟨mb,h1.keeps up,h2⟩,M.nolimit.keeps up⟩,λb o e=>?_,Nat.le_of_eq (S2 _ _),?_,I.qg,I.cj,I.bare⟩
 ·obtain⟨e1,z⟩:=(vW hb).mp e
  rcases z with rfl|z
  ·exact⟨e1,I.ig y b hc⟩
  ·exact I.bs b o z
 ·refine Lk (c:=c) (λb n z=>?_) I.stack λb hbm e=>?_
  ·cases q:(sA s.heap X.base c).get? b with
   |none=>rfl
   |some o=>
    obtain⟨_,w⟩:=(vW hb).mp q
    rcases w with w|w
    ·exact absurd w z
    ·rw[n]at w;cases w
  ·subst e
   rcases eg.mp (I.ng b hbm) with e|hbm
   ·exact I.AL y b hc e
   ·obtain⟨_,o,ho,_⟩:=I.ok.kj.mem hbm
    exact absurd (iu (fm ho) (I.ok.CJ y b hf hc)) (qr _)
def Lj (i:Nat)(spv:Int->Sp)(E:XK)(t:TA):TE:=λσ H Q=>t σ H λvs H1=>∃v:Int,σ[i]? = some (some (.int v))/\spv v vs H1 Q E
theorem Vm {CX:fB}{k i:Nat}{f:az}{ps:List Str}{spv:Int->Sp}{x:Str}{p pos:Pos}{e:Expr}{es:List Expr}{t:TA}{E:XK}(hN:X.N[i]? = some y)(hk:X.env.kindOf y=some .cell)(hv:dM X.env.scope y)(hc:X.env.cells.lookup y=some c)(hf:X.fn y=true)(F:∀(base:Heap) (v:Int) (u:ax),X.K.In base->base.Ns mainGlobals X.mg->base.IsCell c (some u)->aO (.int v) u->∃fd,d7 X.prog X.w X.K X.mg base CX k f fd ps (spv v)/\iK X.K fd ps [])(hr:bL k X.A)(hg:Gl X x)(hm:X.mg x=some (.ref f))(RC:PySem.W.keepIn X.K (.ref f)=true)(hx:o3 CX X E)(ha:PA X (e::es) t)(jy:(x==("__debug__":Str))=false:=by decide)(he:starEach (e::es) X.env=(false,eval e X.env)::starEach es X.env:=by rfl)(hpl:(backTo pos (starEach es X.env)).any (·.1)=false:=by rfl) :
  PE X (.Call (.Name x p) (e::es) [] pos) (Lj i spv E t):=by
 intro ai s σ H Q I h;refine CL (t8 I hg hm ?_ jy);refine PySem.W.callWith_K (h₀:=X.base) I.ok.mod.mq RC (aL (ha pos ai s σ H _ I h) λus s1 ⟨vs,H1,I1,r,v,ev,q⟩=>⟨I1.nj,?_⟩) he hpl
 obtain⟨m,hn,hl⟩:=I1.loc
 obtain⟨u,rv,lk⟩:=hl i y (.int v) hN ev hv
 rcases lk with⟨z,_⟩|⟨_,c',dj,iq⟩
 ·rw[hk]at z;cases z
 ·rw[hc]at dj;cases dj
  have e0:=I1.DU hf hc;have BE:(sA s1.heap X.base c).IsCell c (some u):=let ⟨o,ho,hd⟩:=iq;⟨o,(vW I1.bk).mpr ⟨ho,.inl rfl⟩,hd⟩
  obtain⟨fd,FF,hb⟩:=F _ v u e0.mod.mq e0.mod.glob BE rv
  have ao:us.length=ps.length:=by rw[<- r.length];exact FF.len _ _ _ _ q
  have Iv:=hb s1 us I1.nj (by rw[nv];exact ao);rw[nv]at Iv;refine wpAny_call (codeAny_mono (FF.run X.A X.stack s1 H1 ⟨us,[]⟩ us vs Q E hr e0 Iv r q) λrs s' hq=>?_);cases rs with
  |error e=>exact hx ai σ H1 s1 e s' I1 hq
  |ok fl=>
   cases fl with
   |ret u=>exact I1.after hq
   |next=>exact False.elim hq
   |brk=>exact False.elim hq
   |cont=>exact False.elim hq
end
structure vX (N P:List Str)(y:Str)(sc:Scope):Prop where
 kind:sc.kind = .function
 co:sc.isCoroutine=false
 gen:sc.isGenerator=false
 nd:N.Nodup
 eq:N=P++[y]
 par:∀x∈P,sc.names.lookup x=some .local
 fr:sc.names.lookup y=some .free
 yo:∀z∈sc.names,z.2≠.cell
 one:∀z∈sc.names,z.2 = .free->z.1=y
def vY (CX:fB)(P:ba)(w:bd)(K:ad)(mg:Str->Option ax)(base:Heap)(N:List Str)(y:Str)(l:b7)(f:az)(cd:ax)(A:bc)(outer:List Env)(s:ay)(H:Hp)(E:XK):Cx where
 prog:=P
 w:=w
 K:=K
 mg:=mg
 base:=base
 A:=A.deeper (PySem.W.envX l.qual l.scope s.heap.objs.size f cd l.gp)
 N:=N
 fh:=s
 cz:=H
 env:=PySem.W.envX l.qual l.scope s.heap.objs.size f cd l.gp
 outer:=outer
 stack:=PySem.W.envX l.qual l.scope s.heap.objs.size f cd l.gp::outer
 ex:=[]
 calm:=true
 fn:=λx=>!decide (x=y)
 pn:=[]
 xe:=λe s'=>wpAny (model P w) (A.deeper (PySem.W.envX l.qual l.scope s.heap.objs.size f cd l.gp)) (leaving (PySem.W.envX l.qual l.scope s.heap.objs.size f cd l.gp) e) (λ_ Ae=>CX outer H s E e Ae) (λe' Ae=>CX outer H s E e' Ae) s'
theorem Li {α:Type}{x:Str}{u:α}:∀{l:List (Str×α)},(l.map (·.1)).Nodup->(x,u)∈l->l.lookup x=some u
 |[],_,h=>by cases h
 |(a,b)::r,n,h=>by
  rw[gg,qu]at n;rw[tm];rcases eg.mp h with e|h
  ·cases e;rw[beq_self_eq_true]
  ·have ne:¬x=a:=λe=>n.1 (by rw[<- e];exact CM (f:=(·.1)) h)
   rw[show (x==a)=false by simpa using ne];exact Li n.2 h
section
variable {CX:fB}{P:ba}{w:bd}{K:ad}{mg:Str→Option ax}{base:Heap}{k:Nat}{l:b7}{N ps:List Str}{sp:Sp}{y:Str}{c0:az}{v0:V}{u0:ax}
theorem Vl {f:az}{cd:ax}{A:bc}{outer:List Env}{s:ay}{H:Hp}{E:XK}{us:List ax}{vs:List V}{h1:Heap}{tk:Nat}(za:l.gp = [(y,c0)])(iq:base.IsCell c0 (some u0))(rv:aO v0 u0)(S:vX N ps y l.scope)(hd:A.handled=none)(e0:l7 P w K mg base A outer s H)(hl:vs.length=ps.length)(r:aI vs us)(uk:h1.Ns s.heap.objs.size (λx=>(ps.zip us).reverse.lookup x))(hk:∀b o,s.heap.get? b=some o->h1.get? b=some o) :
  a6 (vY CX P w K mg base N y l f cd A outer s H E) [] ((vs++[v0]).map some) H { s with heap:=h1,toks:=tk }:=by
 have Ai:∀b:az,b∉(vY CX P w K mg base N y l f cd A outer s H E).ex:=λb z=>absurd (show b∈([]:List az) from z) (by simp)
 have lk:∀{x:Str}{c:az},l.gp.lookup x=some c->x=y/\c=c0:=λ{x c} e=>by
  rw[za,tm]at e;by_cases z:x=y
  ·subst z;rw[beq_self_eq_true]at e;cases e;exact⟨rfl,rfl⟩
  ·rw[show (x==y)=false by simpa using z]at e;cases e
 have ly:l.gp.lookup y=some c0:=by rw[za,tm,beq_self_eq_true]
 obtain⟨oc,AG,RN⟩:=iq
 obtain⟨Rj,RW⟩:=e0.bs c0 oc AG
 have zb:h1.IsCell c0 (some u0):=⟨oc,hk _ _ Rj,RN⟩;have Ez:ps.Nodup:=by have:=S.nd;rw[S.eq]at this;exact this.sublist (List.sublist_append_left _ _)
 refine⟨⟨e0.mod,S.kind,rfl,rfl,da _,λa b c h1 h2=>(lk h1).1.trans (lk h2).1.symm,λa ha=>?_,λa c hf h=>?_,λ_=>hd,Around.frames_deeper e0.frames,.inr ⟨rfl,rfl⟩,λb z=>absurd z (Ai b),e0.bs,e0.xt,λb _ _=>Ai b,λb z=>absurd z (Ai b),e0.kj,e0.AJ⟩,
  rfl,e0.bare,Un.kept hk,⟨_,uk,λi x v h2 h3 h4=>?_⟩,λa c h=>?_,e0.cj.fresh (da _),λa c h=>?_,λp hp=>absurd (show p∈([]:List (az×Obj)) from hp) (by simp),e0.cj.kept hk,?_⟩
 ·have ha:l.scope.names.lookup a=some .cell∨l.scope.names.lookup a=some .free:=ha
  rcases ha with ha|ha
  ·exact absurd rfl (S.yo _ (vt ha))
  ·have ea:a=y:=S.one _ (vt ha) rfl
   rw[ea];exact⟨c0,ly⟩
 ·have hf:(!decide (a=y))=true:=hf
  have:=(lk h).1
  rw[eu this]at hf;cases hf
 ·have h3:((vs++[v0]).map some)[i]? = some (some v):=h3
  rw[ij]at h3;have h2:N[i]? = some x:=h2;rw[S.eq]at h2;by_cases hi:i<vs.length
  ·rw[Az hi]at h3
   rw[Az (by lia)]at h2;have ha:vs[i]? = some v:=by
    cases e:vs[i]? with
    |none=>rw[e]at h3;cases h3
    |some a=>rw[e]at h3;cases h3;rfl
   obtain⟨u,hu,rv⟩:=r.get ha
   refine⟨u,rv,.inl ⟨S.par x (sr h2),?_⟩⟩;refine Li ?_ ?_
   ·rw[List.map_reverse]
    have e:(ps.zip us).map (·.1)=ps:=List.map_fst_zip (by rw[<- r.length,hl];exact da _);rw[e];exact List.pairwise_reverse.mpr (Ez.imp λz e=>z e.symm)
   ·rw[List.mem_reverse]
    refine sr (i:=i) ?_;rw[List.getElem?_zip_eq_some]
    exact⟨h2,hu⟩
  ·rw[CZ (by lia)]at h3 h2
   have z:i=vs.length:=by
    by_cases q:i-vs.length=0
    ·lia
    ·rw[List.getElem?_singleton,if_neg q]at h3;cases h3
   subst z;rw[Nat.sub_self]at h3;rw[show vs.length-ps.length=0 by lia]at h2;cases h3;cases h2
   exact⟨u0,rv,.inr ⟨.inr S.fr,c0,ly,zb⟩⟩
 ·obtain⟨rfl,rfl⟩:=lk h
  exact⟨_,zb⟩
 ·obtain⟨rfl,rfl⟩:=lk h
  exact RW
 ·show _=N.length
  rw[S.eq,dt,gq,gq,hl];rfl
theorem Vk (za:l.gp = [(y,c0)])(iq:base.IsCell c0 (some u0))(rv:aO v0 u0)(S:vX N ps y l.scope)(hb:∀(pm cv ju:ax) (us:List ax),us.length=ps.length->bindArgs (qQ l pm cv ju) ⟨us,[]⟩=pure (ps.zip us))(len:∀vs H Q E,sp vs H Q E->vs.length=ps.length)(nq:∀(A:bc) (outer:List Env) (s:ay) (H:Hp) (f:az) (cv:ax) (vs:List V) (Q:VK) (E:XK),bL k (A.deeper (PySem.W.envX l.qual l.scope s.heap.objs.size f cv l.gp))->sp vs H Q E->
   ∃t,PE (vY CX P w K mg base N y l f cv A outer s H E) l.body t/\t ((vs++[v0]).map some) H Q) :
  tY P w K mg base CX (k+1) l sp:=by
 refine⟨λA outer s H f us vs Q E hr e0 hl r vg=>?_⟩;have ao:=len _ _ _ _ vg
 obtain⟨pm,ju,c,ho,gf⟩:=hl.at e0.cj
 have lim:s.heap.NoLimit:=e0.mod.nolimit.keeps λb o e=>(e0.bs b o e).1
 refine PySem.W.kla_callFunE hr.depth ho rfl S.co S.gen rfl gf ?_;rw[hb pm (.ref c) ju us (by rw[<- r.length];exact ao)];refine cy (wpAny_newFunctionEnv S.yo (λz hz=>S.par z.1 (List.of_mem_zip hz).1) (λh1 uk Bw=>⟨lim.fresh _ Bw,?_⟩) S.kind);have hk:∀b o,s.heap.get? b=some o->h1.get? b=some o:=λb o e=>Bw.extBut b o (lj (fm e)) (ez _ e)
 refine PySem.W.kla_codeExpr ?_
 obtain⟨t,ht,hq⟩:=nq A outer s H f (.ref c) vs Q E (hr.deeper _) vg
 have I:=Vl (CX:=CX) (E:=E) (f:=f) (cd:=.ref c) (tk:=s.toks+(ps.zip us).length) za iq rv S hr.hd e0 ao r uk hk;refine mw (ht [] _ _ H _ I hq) (λu s' hs=>?_) λe s' hs=>hs
 obtain⟨v,H',J,rv,q⟩:=hs
 exact⟨v,H',J.os,J.bare,J.base,J.cj,rv,q⟩
end
section
variable {X:Cx}
def Lh:R2:=λx y H Q=>∃l b xs zs,x = .ref l/\y = .ref b/\H l=some (.lst xs)/\Rd H b (.lst zs)/\xs.length+zs.length<=sizeLine/\∀p,H p=none->Q (.ref p) (upd H p (.lst (xs++zs)))
theorem Vj:bT X (binaryOp .Add) Lh:=by
 intro ai s σ H x y v u Q I rx ry h
 obtain⟨l,b,xs,zs,rfl,rfl,hH,hB,hz,q⟩:=h
 cases rx;cases ry
 obtain⟨_,bo,n,r,e⟩:=(show bK X.prog X.w H s.heap l (.lst xs) from I.cj l _ hH)
 obtain⟨_,av,n2,r2,e2⟩:=(show bK X.prog X.w H s.heap b (.lst zs) from tR I.cj hB)
 have l1:=aI.length r;have l2:=aI.length r2;refine PySem.P.add_list e e2 ?_ (by rw[fu,fu];lia);have ea:bo.toArray++av.toArray=(bo++av).toArray:=by simp
 rw[ea]
 exact⟨.ref _,_,I.Bp (t':=s.toks) (r.append r2) (by rw[gq];lia),rfl,q _ I.fresh⟩
end
end L2
namespace PP
open PySem L2 PyProof.Rows PySem.Spec
theorem eW.Fg {P:ba}{w:bd}{K:ad}{mg:Str->Option ax}{base:Heap}{k:Nat}{l:b7}{N ps:List Str}{p:aQ}{y:Str}{c0:az}{w0:Int}{u0:ax}(za:l.gp = [(y,c0)])(iq:base.IsCell c0 (some u0))(rv:aO (.int w0) u0)(S:vX N ps y l.scope)(hb:∀(pm cv ju:ax) (us:List ax),us.length=ps.length->bindArgs (qQ l pm cv ju) ⟨us,[]⟩=pure (ps.zip us))(len:∀xs Q,p xs Q->xs.length=ps.length)(body:∀(f:az) (cv:ax) (A:bc) (outer:List Env) (s:ay) (H:Hp) (E:XK),bL k (A.deeper (PySem.W.envX l.qual l.scope s.heap.objs.size f cv l.gp))->
   ∃t,QE (vY c7 P w K mg base N y l f cv A outer s H E) l.body t/\∀xs Q,p xs Q->t (bB N (xs++[.int w0])) λx _=>flat x=true/\Q x):eW P w K mg base (k+1) l p:=by
 refine Vk (sp:=kK K p) za iq rv S hb (λvs H Q E h=>?_) λA outer s H f cv vs Q E hr h=>?_
 ·obtain⟨xs,Qp,r,q,_⟩:=h
  rw[r.length];exact len xs Qp q
 ·obtain⟨xs,Qp,r,q,k⟩:=h
  obtain⟨t,ht,hq⟩:=body f cv A outer s H E hr
  have lv:vs.length=ps.length:=by rw[r.length];exact len xs Qp q
  have e:L2.gA N (vs++[V.int w0])=(vs++[V.int w0]).map some:=by
   unfold L2.gA;rw[S.eq,gq,gq,lv,show ps.length+[y].length-(ps.length+[V.int w0].length)=0 from Nat.sub_self _,List.replicate_zero,nv]
  have px:=lI (N:=N) (vs:=vs++[V.int w0]) (xs:=xs++[PV.int w0]) (r.append (.cons (.int w0) .nil));rw[e]at px
  exact⟨_,ht,λ_=>False,bB N (xs++[PV.int w0]),_,px,hq xs Qp q,λv H' x g s rx ⟨fx,qx⟩=>k v H' x s (rx.flat fx) qx⟩
section
variable {X:Cx}{σ:L2.St}{H:Hp}{tr:bV}{Q':VK}{e a b:Expr}{es:List Expr}{pos p2 np:Pos}{ta tb:aA}{R:It→Hp→Prop}
def K0 (i:Nat)(pv:Int->aQ)(tr:bV):aA:=λρ Q=>tr ρ λxs=>∃g w,ρ[i]? = some (some (.sh g (.int w)))/\pv w (xs.map (·.1)) λz=>Q z .fr
theorem Vi {i:Nat}{pv:Int->aQ}{E:XK}(h:LE X (K0 i pv tr) σ H Q'):Lj i (λw=>kK X.K (pv w)) E (LA X tr) σ H Q':=by
 obtain⟨W,ρ,Q,px,q,k⟩:=h
 refine⟨W,ρ,_,px,q,λvs H1 xs s1 r1 ⟨g,w,hi,q1⟩=>?_⟩
 obtain⟨v,hv,r⟩:=px.sl i _ hi
 have r:aE X.K (Ms X.cz W g) H v (.int w):=r;cases r with
 |int w=>exact⟨w,hv,_,_,r1.any,q1,λv H' x s2 r2 q2=>k v H' x .fr (s1.trans s2) (r2.same (aD.refl _) λ_ z=>s1.free z) q2⟩
theorem Vh (i:Nat){y x:Str}{c f:az}{k j:Nat}{ps:List Str}{pv:Int->aQ}(hc:X.env.cells.lookup y=some c)(d:∀(base:Heap) (w:Int) (u:ax),X.K.In base->base.Ns mainGlobals X.mg->base.IsCell c (some u)->aO (.int w) u->Df X.prog X.w X.K X.mg base k x ps (pv w))(m:X.mg x=some (.ref f))(kp:PySem.W.keepIn X.K (.ref f)=true)(hr:bL j X.A)(ha:QA X (e::es) tr)(wu:k<=j:=by decide)(hN:X.N[i]? = some y:=by rfl)(hk:X.env.kindOf y=some .cell:=by rfl)(hv:dM X.env.scope y:=by first|exact Or.inl rfl|exact Or.inr (Or.inl rfl)|exact Or.inr (Or.inr rfl))(hf:X.fn y=true:=by rfl)(hg:Gl X x:=by rfl)(jy:(x==("__debug__":Str))=false:=by decide)(he:starEach (e::es) X.env=(false,eval e X.env)::starEach es X.env:=by rfl)(hpl:(backTo pos (starEach es X.env)).any (·.1)=false:=by rfl):QE X (.Call (.Name x p2) (e::es) [] pos) (K0 i pv tr):=by
 refine cB (Vm (f:=f) (ps:=ps) (spv:=λw=>kK X.K (pv w)) (E:=E0) (CX:=c7) hN hk hv hc hf (λbase v u h1 h2 h3 h4=>?_) (hr.mono wu) hg m kp mH ha jy he hpl) λ_ _ _=>Vi
 obtain⟨f',fd,F,b,_,m'⟩:=(d base v u h1 h2 h3 h4).ex
 rw[m]at m';cases m'
 exact⟨fd,F,b⟩
def Lg:PV->Tg->PV->Tg->PK->Prop:=λx _ y _ Q=>∃xs ys,x = .lst xs/\y = .fL ys/\cb xs=true/\cb ys=true/\xs.length+ys.length<=16000000/\Q (.lst (xs++ys)) .fr
abbrev Lf (ta tb:aA):aA:=q2 Lg ta tb
theorem Vg:fD X Lg Lh:=by
 rintro W Hs H u v x y g g' Q Q' s n r1 r2 ⟨xs,ys,rfl,rfl,f1,f2,hl,q⟩ k
 obtain⟨a,us,rfl,_,h1,q1⟩:=r1.rh
 cases r2 with
 |@fL b o ws _ h2 q2=>
  have l1:=q1.length;have l2:=q2.length
  exact⟨a,b,us,ws,rfl,rfl,h1,.inr ⟨_,h2⟩,lim (by lia),λp hp=>k _ _ _ .fr (bU hp _) (.lst (s.free hp) bE (((q1.flat f1).append (q2.flat f2)).same (bU hp _) λ_ z=>z)) q⟩
theorem Vf (ha:QE X a ta)(hb:QE X b tb):QE X (.BinOp a .Add b pos) (Lf ta tb):=gQ Vj Vg ha hb
def K1 (ta tb:aA):gB:=λρ Q=>ta ρ λx _=>tb ρ λy _=>∃xs ys,x = .fL xs/\y = .fL ys/\cb xs=true/\cb ys=true/\Q (kQ xs ys) true
theorem Ve (h:LI X (K1 ta tb) σ H R):LF X.K (g9 (LE X ta) (g9 (LE X tb) kD)) σ H R:=by
 obtain⟨W,ρ,Q,px,q,k⟩:=h
 refine⟨W,ρ,_,px,q,λv0 H0 x0 g0 s0 r0 q0=>⟨W,ρ,_,px.mono s0,q0,?_⟩⟩;rintro v H1 x g s r ⟨xs,ys,rfl,rfl,fx,fy,q⟩;have S:=s0.trans s;have Ag:=px.mono S;have tw:∀a,W a->∃o,H1 a=some o/\eQ o=true:=λa z=>(Ag.wm a z).2
 have Dq:∀{c:az}{u:HO},H1 c=some u->eQ u=false->¬W c:=λ{c u} e m z=>by
  obtain⟨w,e2,m2⟩:=tw c z
  rw[e]at e2;cases e2;rw[m]at m2;cases m2
 have Qd:=r0.same (M':=λ_=>True) s λ_ _=>trivial
 cases Qd with
 |@fL a o us _ h1 ra=>
  cases r with
  |@fL b o2 vs _ h2 rb=>
   have fw:∀{c:az}{o:Obj}{us:List V},H1 c=some (.dq o (.lst us))->∀W' H',Ev W H1 W' H'->aN X.K H' c us:=λ{c o us} e W' H' ev=>.inl (.inr ⟨_,(ev _ _ e (Dq e rfl) rfl).1⟩)
   exact⟨a,b,rfl,.inr ⟨us,vs,.inl (.inr ⟨_,h1⟩),.inl (.inr ⟨_,h2⟩),k _ _ _ _ S (Ws tw (fw h1) (fw h2) (ra.flat fx) (rb.flat fy)) q⟩⟩
theorem Vd {elts:List Expr}{kt:Nat}{pt:Pos}(B:Bt X.mg)(ha:QE X a ta)(hb:QE X b tb)(hg:Gl X "zip":=by rfl)(hs:starEach [a,b] X.env = [(false,eval a X.env),(false,eval b X.env)]:=by rfl)(CA:starEach [b] X.env = [(false,eval b X.env)]:=by rfl):QI X (.Tuple elts kt pt) (.Call (.Name "zip" p2) [a,b] [] pos) (K1 ta tb):=
 rA (Wt hg B.zip (eO ha (eO hb iJ CA) (by rw[hs,CA])) hs CA) λ_ _ _=>Ve
end
end PP
namespace bf
abbrev a9:=List (Nat×Bool)
def has (m p:Nat):Nat:=(m >>> p) &&& 1
def lT (w:ag)(behind ko ahead:Nat):Nat->ag->Nat->Nat
 |_,[],lit=>lit
 |p,want::r,lit=>lT w behind ko ahead (p+1) r (if ((has behind p+has ahead p+(if p<=1 then has ko (1-p) else 0):Nat):Int) >= want then lit ||| (1 <<< p) else lit)
def bJ (w:ag)(behind ko ahead:Nat):Nat:=lT w behind ko ahead 0 w ko
def hI (w:ag)(a:a9)(ahead:Nat):Nat->Nat->Nat
 |0,b=>b
 |n+1,b=>let m:=bJ w (a.getD b (0,false)).1 b ahead;if m=b then b else hI w a ahead n m
def lU (w:ag)(a:a9)(ym ahead:Nat):Nat×Bool:=
 let b:=hI w a ahead (w.length+1) ym
 (b,b==a.length-1&&(a.getD (a.length-1) (0,false)).2)
def next (w:ag)(a:a9)(ym:Nat):a9:=(List.range a.length).map (lU w a ym)
def aZ (w:ag):a9:=List.replicate (2^w.length) (0,true)
def kept (a:a9):Bool:=(a.getD (a.length-1) (0,false)).2
def lit (a:a9):Bool:=(a.getD 0 (0,false)).2
def after (w:ag)(a:a9):List (Nat×a9):=((List.range a.length).map λs=>(s,next w a s)).filter λp=>kept p.2
def bN (w:ag):Nat->a9->Nat
 |0,a=>if lit a then 1 else 0
 |n+1,a=>((List.range a.length).map λs=>if kept (next w a s) then bN w n (next w a s) else 0).sum
theorem K2 (w:ag)(n:Nat)(a:a9):bN w (n+1) a=((List.range a.length).map λs=>if kept (next w a s) then bN w n (next w a s) else 0).sum:=rfl
def one (m:Nat):Nat:=has m 0+has m 1
def row (w:ag):List Nat->a9->Bool
 |[],a=>lit a
 |s::r,a=>decide (s<a.length)&&kept (next w a s)&&row w r (next w a s)
def cX (l:List Nat):Nat:=(l.map one).sum
theorem Le {α:Type}{f:α->Nat}(c:Nat):∀{l:List α},(l.map f).sum*c=(l.map λx=>f x*c).sum
 |[]=>by simp
 |x::r=>by rw[gg,gg,ma,ma,Nat.add_mul,Le c]
section
variable {w:ag}{S:List a9}{R:List (a9×a9)}
theorem K3 (l l':List Nat):cX (l++l')=cX l+cX l':=by unfold cX;rw[iz,BV]
end
section
variable {β:Type}
def bQ (ps:List (a9×β))(k:a9):Option β:=(ps.find? λp=>decide (p.1=k)).map (·.2)
def eL (ps:List (a9×β))(k:a9)(x:β):List (a9×β):=if (ps.any λp=>decide (p.1=k))=true then ps.map (λp=>if p.1=k then (p.1,x) else p) else ps++[(k,x)]
def cS (J:β->β->β)(ps:List (a9×β))(k:a9)(z:β):List (a9×β):=eL ps k (match bQ ps k with|none=>z|some w=>J w z)
def eY (w:ag)(kr:β->Nat->β)(J:β->β->β)(later:List (a9×β))(p:a9×β):List (a9×β):=(after w p.1).foldl (λl q=>cS J l q.2 (kr p.2 q.1)) later
def K4 (w:ag)(kr:β->Nat->β)(J:β->β->β)(ps:List (a9×β)):List (a9×β):=ps.foldl (eY w kr J) []
def bD (w:ag)(kr:β->Nat->β)(J:β->β->β)(first:β):Nat->List (a9×β)
 |0=>[(aZ w,first)]
 |n+1=>K4 w kr J (bD w kr J first n)
theorem Vc {ps:List (a9×β)}{k:a9}{x:β}:(eL ps k x).map (·.1)=if (ps.any λp=>decide (p.1=k))=true then ps.map (·.1) else ps.map (·.1)++[k]:=by
 unfold eL;split
 ·rw[pq]
  refine va λp _=>?_
  show (if p.1=k then (p.1,x) else p).1=p.1;split<;>rfl
 ·rw[iz];rfl
theorem Ld {ps:List (a9×β)}{k:a9}{x:β}(h:(ps.map (·.1)).Nodup):((eL ps k x).map (·.1)).Nodup:=by
 rw[Vc];split
 ·exact h
 ·rename_i n
  rw[List.nodup_append];refine⟨h,by simp,λa ha b hb=>?_⟩;obtain rfl:=eh.mp hb;rintro rfl
  obtain⟨p,hp,e⟩:=gs.mp ha
  exact n (BY.mpr ⟨p,hp,by simpa using e⟩)
theorem K5 {J:β->β->β}{ps:List (a9×β)}{k:a9}{z:β}(h:(ps.map (·.1)).Nodup):((cS J ps k z).map (·.1)).Nodup:=Ld h
end
def wt (f:a9->Nat)(ps:List (a9×Nat)):Nat:=(ps.map λp=>p.2*f p.1).sum
theorem K6 (f:a9->Nat)(p:a9×Nat)(r:List (a9×Nat)):wt f (p::r)=p.2*f p.1+wt f r:=rfl
theorem Vb (f:a9->Nat)(l r:List (a9×Nat)):wt f (l++r)=wt f l+wt f r:=by unfold wt;rw[iz,BV]
theorem Va {ps:List (a9×Nat)}{k:a9}{x:Nat}(h:k∉ps.map (·.1)):(ps.map λp=>if p.1=k then (p.1,x) else p)=ps:=by
 conv=>rhs;rw[<- List.map_id ps]
 refine va λp hp=>?_
 have ne:¬p.1=k:=λe=>h (by rw[<- e];exact CM hp)
 rw[if_neg ne];rfl
theorem Lc (f:a9->Nat){k:a9}{z:Nat}:∀{ps:List (a9×Nat)}{v:Nat},(ps.map (·.1)).Nodup->bQ ps k=some v->wt f (ps.map λp=>if p.1=k then (p.1,v+z) else p)=wt f ps+z*f k
 |[],v,_,e=>by simp[bQ]at e
 |p::r,v,n,e=>by
  rw[gg,qu]at n;rw[gg,K6,K6];by_cases h:p.1=k
  ·have ev:p.2=v:=by simpa[bQ,qt,h] using e
   rw[if_pos h,Va (by rw[<- h];exact n.1),ev,<- h];show (v+z)*f p.1+wt f r=v*f p.1+wt f r+z*f p.1;rw[Nat.add_mul];lia
  ·have ev:bQ r k=some v:=by simpa[bQ,qt,h] using e
   rw[if_neg h,Lc f n.2 ev];lia
theorem UZ (f:a9->Nat){k:a9}{z:Nat}{ps:List (a9×Nat)}(n:(ps.map (·.1)).Nodup):wt f (cS (·+·) ps k z)=wt f ps+z*f k:=by
 unfold cS eL;cases e:bQ ps k with
 |none=>
  have no:¬(ps.any λp=>decide (p.1=k))=true:=λh=>by
   obtain⟨p,hp,q⟩:=BY.mp h
   have:(ps.find? λp=>decide (p.1=k))=none:=by simpa[bQ] using e
   rw[List.find?_eq_none]at this;exact this p hp q
  rw[if_neg no,Vb];show wt f ps+(z*f k+0)=_;lia
 |some v=>
  have yes:(ps.any λp=>decide (p.1=k))=true:=by
   obtain⟨p,hp,_⟩:=Option.map_eq_some_iff.mp e
   exact BY.mpr ⟨p,CY hp,by have:=List.find?_some hp;simpa using this⟩
  rw[if_pos yes];exact Lc f n e
theorem Lb (w:ag)(f:a9->Nat)(v:Nat):∀(qs:List (Nat×a9)) {l:List (a9×Nat)},(l.map (·.1)).Nodup->(((qs.foldl (λl q=>cS (·+·) l q.2 v) l).map (·.1)).Nodup/\wt f (qs.foldl (λl q=>cS (·+·) l q.2 v) l)=wt f l+v*(qs.map λq=>f q.2).sum)
 |[],l,n=>⟨n,by simp⟩
 |q::r,l,n=>by
  obtain⟨h1,h2⟩:=Lb w f v r (K5 (J:=(·+·)) (k:=q.2) (z:=v) n)
  refine⟨h1,?_⟩;rw[AS,h2,UZ f n,gg,ma,Nat.mul_add];lia
theorem La (w:ag)(f:a9->Nat):∀(ps:List (a9×Nat)) {l:List (a9×Nat)},(l.map (·.1)).Nodup->(((ps.foldl (eY w (λv _=>v) (·+·)) l).map (·.1)).Nodup/\wt f (ps.foldl (eY w (λv _=>v) (·+·)) l)=wt f l+wt (λa=>((after w a).map λq=>f q.2).sum) ps)
 |[],l,n=>⟨n,by show _=_+0;simp⟩
 |p::r,l,n=>by
  obtain⟨g1,g2⟩:=Lb w f p.2 (after w p.1) n
  obtain⟨h1,h2⟩:=La w f r g1
  refine⟨h1,?_⟩;rw[AS,K6];have e:eY w (λv _=>v) (·+·) l p=(after w p.1).foldl (λl q=>cS (·+·) l q.2 p.2) l:=rfl;rw[e,h2,g2];lia
theorem K7 {α:Type}(p:α->Bool)(f:α->Nat):∀l:List α,((l.filter p).map f).sum=(l.map λx=>if p x then f x else 0).sum
 |[]=>rfl
 |x::r=>by
  rw[AV,gg,ma,<- K7 p f r];split
  ·rw[gg,ma]
  ·lia
theorem UY (w:ag)(n:Nat)(a:a9):((after w a).map λq=>bN w n q.2).sum=bN w (n+1) a:=by
 unfold after;rw[K7,K2,pq];rfl
theorem KZ (w:ag):∀(n m:Nat),(((bD w (λv _=>v) (·+·) 1 n).map (·.1)).Nodup/\wt (bN w m) (bD w (λv _=>v) (·+·) 1 n)=bN w (n+m) (aZ w))
 |0,m=>⟨by simp[bD],by show 1*bN w m (aZ w)+0=_;rw[qa];lia⟩
 |n+1,m=>by
  obtain⟨h1,h2⟩:=La w (bN w m) (bD w (λv _=>v) (·+·) 1 n) (l:=[]) (by simp)
  refine⟨h1,?_⟩;show wt (bN w m) (K4 w _ _ _)=_;unfold K4;rw[h2];have e:(λa=>((after w a).map λq=>bN w m q.2).sum)=bN w (m+1):=funext λa=>UY w m a
  rw[e,(KZ w n (m+1)).2];show 0+_=_;rw[qa,show n+(m+1)=n+1+m by lia]
theorem UX (w:ag)(n:Nat):(((bD w (λv _=>v) (·+·) 1 n).filter λp=>lit p.1).map (·.2)).sum=bN w n (aZ w):=by
 have h:=(KZ w n 0).2;rw[Nat.add_zero]at h;rw[<- h,K7];unfold wt;refine congrArg List.sum (va λp _=>?_);show (if lit p.1 then p.2 else 0)=p.2*(if lit p.1 then 1 else 0);split<;>lia
def k8 (w:ag):List Nat->a9->Option a9
 |[],a=>some a
 |s::r,a=>if s<a.length/\kept (next w a s)=true then k8 w r (next w a s) else none
theorem K8 (w:ag)(l':List Nat):∀(l:List Nat) (a:a9),k8 w (l++l') a=(k8 w l a).bind (k8 w l')
 |[],a=>rfl
 |s::r,a=>by
  show (if _ then _ else _)=(if _ then _ else _:Option a9).bind _;split
  ·exact K8 w l' r _
  ·rfl
theorem KY (w:ag)(s:Nat)(a b:a9):k8 w [s] a=some b↔(s,b)∈after w a:=by
 show (if _ then some (next w a s) else none)=some b↔_;unfold after;rw[jv,gs];constructor
 ·intro h
  split at h
  ·rename_i c
   cases h
   exact⟨⟨s,uz.mpr c.1,rfl⟩,c.2⟩
  ·cases h
 ·rintro⟨⟨t,ht,e⟩,k⟩
  cases e;rw[if_pos ⟨uz.mp ht,k⟩]
theorem K9 (w:ag):∀(l:List Nat) (a:a9),row w l a=true↔∃b,k8 w l a=some b/\lit b=true
 |[],a=>⟨λh=>⟨a,rfl,h⟩,λ⟨b,e,h⟩=>by cases e;exact h⟩
 |s::r,a=>by
  unfold row k8;rw[my,my,kf,K9 w r];constructor
  ·rintro⟨c,b,e,h⟩
   exact⟨b,by rw[if_pos c];exact e,h⟩
  ·rintro⟨b,e,h⟩
   split at e
   ·rename_i c;exact⟨c,b,e,h⟩
   ·cases e
abbrev PR:=Nat×List Nat
structure k9 (J:PR->PR->PR):Prop where
 or:∀x y,J x y=x∨J x y=y
 l:∀x y,(J x y).1<=x.1
 r:∀x y,(J x y).1<=y.1
def aV (p:PR)(s:Nat):PR:=(p.1+one s,p.2++[s])
def nJ (C:a9->PR->Prop)(ps:List (a9×PR)):Prop:=∀b v,(b,v)∈ps->C b v
def nK (C:a9->PR->Prop)(ps:List (a9×PR)):Prop:=∀b v,C b v->∃u,(b,u)∈ps/\u.1<=v.1
section
variable {J:PR→PR→PR}{C D:a9→PR→Prop}{k b:a9}{z u:PR}{ps:List (a9×PR)}
theorem KW {x:PR}(h:(b,u)∈eL ps k x):(b=k/\u=x)∨(b,u)∈ps:=by
 unfold eL at h;split at h
 ·obtain⟨p,hp,e⟩:=gs.mp h
  split at e
  ·rename_i c;cases e;exact .inl ⟨c,rfl⟩
  ·subst e;exact .inr hp
 ·rcases jk.mp h with h|h
  ·exact .inr h
  ·have:=eh.mp h;cases this;exact .inl ⟨rfl,rfl⟩
theorem L0 (ps:List (a9×PR))(k:a9)(x:PR):(k,x)∈eL ps k x:=by
 unfold eL;split
 ·rename_i h
  obtain⟨p,hp,e⟩:=BY.mp h
  have e:p.1=k:=by simpa using e
  exact gs.mpr ⟨p,hp,by rw[if_pos e,e]⟩
 ·exact ny _ (by simp)
theorem KU {x:PR}(n:b≠k)(h:(b,u)∈ps):(b,u)∈eL ps k x:=by
 unfold eL;split
 ·exact gs.mpr ⟨(b,u),h,by rw[if_neg n]⟩
 ·exact uc _ h
theorem UW {w:PR}(h:bQ ps k=some w):(k,w)∈ps:=by
 unfold bQ at h
 obtain⟨p,hp,e⟩:=Option.map_eq_some_iff.mp h
 have h1:=CY hp;have h2:p.1=k:=by have:=List.find?_some hp;simpa using this
 subst e h2;exact h1
theorem KS (n:(ps.map (·.1)).Nodup)(h:(k,u)∈ps):bQ ps k=some u:=by
 induction ps with
 |nil=>cases h
 |cons p r ih=>
  rw[gg,qu]at n;unfold bQ;rw[qt];rcases eg.mp h with h|h
  ·subst h;simp
  ·have ne:¬p.1=k:=λe=>n.1 (by rw[e];exact CM (f:=(·.1)) h)
   rw[dm ne];exact ih n.2 h
theorem UU (P:k9 J)(n:(ps.map (·.1)).Nodup)(s:nJ C ps)(c:nK C ps):nJ (λb v=>C b v∨(b=k/\v=z)) (cS J ps k z)/\nK (λb v=>C b v∨(b=k/\v=z)) (cS J ps k z):=by
 unfold cS;cases e:bQ ps k with
 |none=>
  refine⟨λb v h=>?_,λb v h=>?_⟩
  ·rcases KW h with⟨rfl,rfl⟩|h
   ·exact .inr ⟨rfl,rfl⟩
   ·exact .inl (s b v h)
  ·rcases h with h|⟨rfl,rfl⟩
   ·obtain⟨u,hu,l⟩:=c b v h
    have nb:b≠k:=λq=>by subst q;rw[KS n hu]at e;cases e
    exact⟨u,KU nb hu,l⟩
   ·exact⟨_,L0 ps _ _,da _⟩
 |some w=>
  have hw:=UW e;refine⟨λb v h=>?_,λb v h=>?_⟩
  ·rcases KW h with⟨rfl,rfl⟩|h
   ·rcases P.or w z with q|q
    ·show C b (J w z)∨_
     rw[q];exact .inl (s _ _ hw)
    ·exact .inr ⟨rfl,q⟩
   ·exact .inl (s b v h)
  ·rcases h with h|⟨rfl,rfl⟩
   ·obtain⟨u,hu,l⟩:=c b v h
    by_cases q:b=k
    ·subst q
     rw[KS n hu]at e;cases e
     exact⟨_,L0 ps _ _,iw (P.l _ _) l⟩
    ·exact⟨u,KU q hu,l⟩
   ·exact⟨_,L0 ps _ _,P.r w v⟩
theorem KR (P:k9 J)(v:PR):∀(qs:List (Nat×a9)) {ps:List (a9×PR)}{C:a9->PR->Prop},(ps.map (·.1)).Nodup->nJ C ps->nK C ps->
  ((qs.foldl (λl q=>cS J l q.2 (aV v q.1)) ps).map (·.1)).Nodup/\nJ (λb u=>C b u∨∃s,(s,b)∈qs/\u=aV v s) (qs.foldl (λl q=>cS J l q.2 (aV v q.1)) ps)/\nK (λb u=>C b u∨∃s,(s,b)∈qs/\u=aV v s) (qs.foldl (λl q=>cS J l q.2 (aV v q.1)) ps)
 |[],ps,C,n,s,c=>⟨n,λb u h=>.inl (s b u h),λb u h=>c b u (h.elim id λ⟨_,z,_⟩=>by cases z)⟩
 |q::r,ps,C,n,s,c=>by
  obtain⟨s1,c1⟩:=UU (k:=q.2) (z:=aV v q.1) P n s c
  obtain⟨h1,h2,h3⟩:=KR P v r (K5 (J:=J) (k:=q.2) (z:=aV v q.1) n) s1 c1
  refine⟨h1,λb u h=>?_,λb u h=>?_⟩
  ·rcases h2 b u h with (h|⟨rfl,e⟩)|⟨t,ht,e⟩
   ·exact .inl h
   ·exact .inr ⟨q.1,dv,e⟩
   ·exact .inr ⟨t,gc _ ht,e⟩
  ·refine h3 b u ?_
   rcases h with h|⟨t,ht,e⟩
   ·exact .inl (.inl h)
   ·rcases eg.mp ht with z|z
    ·subst z;exact .inl (.inr ⟨rfl,e⟩)
    ·exact .inr ⟨t,z,e⟩
theorem KQ (P:k9 J)(w:ag):∀(vs:List (a9×PR)) {ps:List (a9×PR)}{C:a9->PR->Prop},(ps.map (·.1)).Nodup->nJ C ps->nK C ps->
  ((vs.foldl (eY w aV J) ps).map (·.1)).Nodup/\nJ (λb u=>C b u∨∃a v s,(a,v)∈vs/\(s,b)∈after w a/\u=aV v s) (vs.foldl (eY w aV J) ps)/\nK (λb u=>C b u∨∃a v s,(a,v)∈vs/\(s,b)∈after w a/\u=aV v s) (vs.foldl (eY w aV J) ps)
 |[],ps,C,n,s,c=>⟨n,λb u h=>.inl (s b u h),λb u h=>c b u (h.elim id λ⟨_,_,_,z,_⟩=>by cases z)⟩
 |p::r,ps,C,n,s,c=>by
  obtain⟨n1,s1,c1⟩:=KR P p.2 (after w p.1) n s c
  obtain⟨h1,h2,h3⟩:=KQ P w r n1 s1 c1
  refine⟨h1,λb u h=>?_,λb u h=>?_⟩
  ·rcases h2 b u h with (h|⟨t,ht,e⟩)|⟨a,v,t,hv,ht,e⟩
   ·exact .inl h
   ·exact .inr ⟨p.1,p.2,t,dv,ht,e⟩
   ·exact .inr ⟨a,v,t,gc _ hv,ht,e⟩
  ·refine h3 b u ?_
   rcases h with h|⟨a,v,t,hv,ht,e⟩
   ·exact .inl (.inl h)
   ·rcases eg.mp hv with z|z
    ·subst z;exact .inl (.inr ⟨t,ht,e⟩)
    ·exact .inr ⟨a,v,t,z,ht,e⟩
theorem UT {l:List Nat}(h:l≠[]):cX l=cX l.dropLast+one (l.getLast h):=by
 have e:cX (l.dropLast++[l.getLast h])=cX l.dropLast+one (l.getLast h):=by
  rw[K3];show _+(one (l.getLast h)+0)=_;rw[Nat.add_zero]
 rwa [List.dropLast_concat_getLast h]at e
def Pe (w:ag)(n:Nat)(b:a9)(v:PR):Prop:=v.2.length=n/\k8 w v.2 (aZ w)=some b/\v.1=cX v.2
theorem KP (P:k9 J)(w:ag):∀n,((bD w aV J (0,[]) n).map (·.1)).Nodup/\nJ (Pe w n) (bD w aV J (0,[]) n)/\nK (Pe w n) (bD w aV J (0,[]) n)
 |0=>⟨by simp[bD],λb v h=>(by
   have e:(b,v)=(aZ w,(0,[])):=eh.mp h
   cases e;exact⟨rfl,rfl,rfl⟩),λb v ⟨h1,h2,h3⟩=>(by
   have e:v.2 = []:=Dc h1;rw[e]at h2;cases h2
   exact⟨(0,[]),eh.mpr rfl,lh _⟩)⟩
 |n+1=>by
  obtain⟨_,s0,c0⟩:=KP P w n
  obtain⟨h1,h2,h3⟩:=KQ P w (bD w aV J (0,[]) n) (ps:=[]) (C:=λ_ _=>False) (by simp) (λ_ _ h=>by cases h) (λ_ _ h=>h.elim)
  refine⟨h1,λb u h=>?_,λb u ⟨g1,g2,g3⟩=>?_⟩
  ·rcases h2 b u h with z|⟨a,v,t,hv,ht,rfl⟩
   ·exact z.elim
   ·obtain⟨e1,e2,e3⟩:=s0 a v hv
    refine⟨by show (v.2++[t]).length=_;rw[gq,e1];rfl,?_,?_⟩
    ·show k8 w (v.2++[t]) (aZ w)=_
     rw[K8,e2];exact (KY w t a b).mpr ht
    ·show v.1+one t=cX (v.2++[t])
     rw[K3,e3];unfold cX;simp
  ·have nz:u.2≠[]:=λz=>by rw[z]at g1;cases g1
   have sp:u.2=u.2.dropLast++[u.2.getLast nz]:=(List.dropLast_concat_getLast nz).symm;rw[sp,K8]at g2;cases e:k8 w u.2.dropLast (aZ w) with
   |none=>rw[e]at g2;cases g2
   |some a=>
    rw[e]at g2;have ht:=(KY w _ a b).mp g2
    obtain⟨v,hv,lv⟩:=c0 a (cX u.2.dropLast,u.2.dropLast) ⟨by rw[List.length_dropLast,g1];rfl,e,rfl⟩
    obtain⟨x,hx,lx⟩:=h3 b (aV v (u.2.getLast nz)) (.inr ⟨a,v,_,hv,ht,rfl⟩)
    refine⟨x,hx,iw lx ?_⟩
    have:u.1=cX u.2.dropLast+one (u.2.getLast nz):=by rw[g3,UT nz]
    show v.1+_<=_;rw[this];exact Nat.add_le_add_right lv _
end
def fX {β:Type}(J:β->β->β):Option β->β->Option β
 |none,z=>some z
 |some w,z=>some (J w z)
def eM {β:Type}(J:β->β->β)(ps:List (a9×β)):Option β:=(ps.filter λp=>lit p.1).foldl (λacc p=>fX J acc p.2) none
section
variable {J:PR→PR→PR}
theorem KO (P:k9 J):∀(l:List (a9×PR)) (acc:Option PR),(∀v,l.foldl (λacc p=>fX J acc p.2) acc=some v->acc=some v∨∃b,(b,v)∈l)/\
  (∀u,(acc=some u∨∃b,(b,u)∈l)->∃v,l.foldl (λacc p=>fX J acc p.2) acc=some v/\v.1<=u.1)
 |[],acc=>⟨λv h=>.inl h,λu h=>h.elim (λe=>⟨u,e,da _⟩) λ⟨_,z⟩=>by cases z⟩
 |p::r,acc=>by
  obtain⟨h1,h2⟩:=KO P r (fX J acc p.2)
  refine⟨λv h=>?_,λu h=>?_⟩
  ·rcases h1 v h with e|⟨b,hb⟩
   ·cases acc with
    |none=>
     have e:p.2=v:=ip e;exact .inr ⟨p.1,by rw[<- e];exact dv⟩
    |some w=>
     have e:J w p.2=v:=ip e;rcases P.or w p.2 with q|q
     ·exact .inl (by rw[<- e,q])
     ·exact .inr ⟨p.1,by rw[<- e,q];exact dv⟩
   ·exact .inr ⟨b,gc _ hb⟩
  ·rcases h with e|⟨b,hb⟩
   ·subst e
    obtain⟨v,hv,lv⟩:=h2 (J u p.2) (.inl rfl)
    exact⟨v,hv,iw lv (P.l u p.2)⟩
   ·rcases eg.mp hb with z|z
    ·subst z
     cases acc with
     |none=>exact h2 u (.inl rfl)
     |some w=>
      obtain⟨v,hv,lv⟩:=h2 (J w u) (.inl rfl)
      exact⟨v,hv,iw lv (P.r w u)⟩
    ·exact h2 u (.inr ⟨b,z⟩)
theorem sC (P:k9 J)(w:ag)(n:Nat):(∀v,eM J (bD w aV J (0,[]) n)=some v->v.2.length=n/\row w v.2 (aZ w)=true/\v.1=cX v.2)/\
  ∀l,l.length=n->row w l (aZ w)=true->∃v,eM J (bD w aV J (0,[]) n)=some v/\v.1<=cX l:=by
 obtain⟨_,s,c⟩:=KP P w n
 obtain⟨h1,h2⟩:=KO P ((bD w aV J (0,[]) n).filter λp=>lit p.1) none
 refine⟨λv h=>?_,λl hl hr=>?_⟩
 ·rcases h1 v h with z|⟨b,hb⟩
  ·cases z
  ·obtain⟨hb,lb⟩:=jv.mp hb
   obtain⟨e1,e2,e3⟩:=s b v hb
   exact⟨e1,(K9 w v.2 _).mpr ⟨b,e2,lb⟩,e3⟩
 ·obtain⟨b,e,lb⟩:=(K9 w l _).mp hr
  obtain⟨u,hu,lu⟩:=c b (cX l,l) ⟨hl,e,rfl⟩
  obtain⟨v,hv,lv⟩:=h2 u (.inr ⟨b,jv.mpr ⟨hu,lb⟩⟩)
  exact⟨v,hv,iw lv lu⟩
end
def sD (w:ag)(n:Nat):List Nat:=List.replicate n (2^w.length-1)
theorem KN {x:Nat}:∀{l:List Nat},x∈l->x<=l.sum
 |[],h=>by cases h
 |y::r,h=>by
  rw[ma];rcases eg.mp h with rfl|h
  ·lia
  ·have:=KN h;lia
theorem KL (w:ag):∀(l:List Nat) (a:a9),row w l a=true->1<=bN w l.length a
 |[],a,h=>by show 1<=if lit a then 1 else 0;rw[if_pos (show lit a=true from h)];lia
 |s::r,a,h=>by
  unfold row at h;rw[my,my,kf]at h;show 1<=bN w (r.length+1) a;rw[K2];have q:=KL w r _ h.2;have m:(if kept (next w a s) then bN w r.length (next w a s) else 0)∈(List.range a.length).map λs=>if kept (next w a s) then bN w r.length (next w a s) else 0:=gs.mpr ⟨s,uz.mpr h.1.1,rfl⟩
  rw[if_pos h.1.2]at m;exact iw q (KN m)
theorem KJ:∀(l:List (a9×Nat)) (acc:Option Nat),l.foldl (λacc p=>fX (·+·) acc p.2) acc=if acc=none/\l = [] then none else some (acc.getD 0+(l.map (·.2)).sum)
 |[],none=>rfl
 |[],some v=>by rw[if_neg (by simp)];rfl
 |p::r,acc=>by
  rw[AS,KJ r];cases acc with
  |none=>
   rw[if_neg (by simp[fX]),if_neg (by simp)];rw[gg,ma];show some (p.2+_)=some (0+(p.2+_));rw[qa]
  |some v=>
   rw[if_neg (by simp[fX]),if_neg (by simp)];rw[gg,ma];show some ((v+p.2)+_)=some (v+(p.2+_));rw[Nat.add_assoc]
def aX (w:ag):Prop:=1<=w.length/\w.length<=2
theorem aX.two {w:ag}(o:aX w):(∃a,w = [a])∨∃a b,w = [a,b]:=by
 obtain⟨h1,h2⟩:=o
 match w,h1,h2 with
 |[a],_,_=>exact .inl ⟨a,rfl⟩
 |[a,b],_,_=>exact .inr ⟨a,b,rfl⟩
 |[],h1,_=>exact absurd h1 (by decide)
 |_::_::_::_,_,h2=>exact absurd h2 (by simp)
def dI (w:ag)(a:a9):Prop:=a.length=2^w.length/\∀q∈a,q.1<2^w.length
theorem US {w:ag}(o:aX w)(bh bu ah:Nat):(w.length=1/\∃c:Bool,bJ w bh bu ah=if c then bu ||| 1 else bu) ∨
  (w.length=2/\∃c d:Bool,bJ w bh bu ah=if d then (if c then bu ||| 1 else bu) ||| 2 else if c then bu ||| 1 else bu):=by
 rcases o.two with⟨a,rfl⟩|⟨a,b,rfl⟩
 ·refine .inl ⟨rfl,decide (((has bh 0+has ah 0+(if 0<=1 then has bu (1-0) else 0):Nat):Int) >= a),?_⟩
  unfold bJ lT;simp only[kf];rfl
 ·refine .inr ⟨rfl,decide (((has bh 0+has ah 0+(if 0<=1 then has bu (1-0) else 0):Nat):Int) >= a),decide (((has bh 1+has ah 1+(if 1<=1 then has bu (1-1) else 0):Nat):Int) >= b),?_⟩
  unfold bJ;simp only[lT,kf];rfl
theorem sE {n:Nat}(h:n<2^2):n=0∨n=1∨n=2∨n=3:=by have:n<4:=h;lia
theorem pD {n:Nat}(h:n<2^1):n=0∨n=1:=by have:n<2:=h;lia
theorem pE {w:ag}(o:aX w)(bh ah:Nat){bu:Nat}(h:bu<2^w.length):bJ w bh bu ah<2^w.length/\(bJ w bh bu ah=bu∨one bu+1<=one (bJ w bh bu ah))/\one bu<=w.length:=by
 rcases US o bh bu ah with⟨e,c,z⟩|⟨e,c,d,z⟩
 ·rw[e]at h ⊢
  rw[z];rcases pD h with rfl|rfl<;>cases c<;>decide
 ·rw[e]at h ⊢
  rw[z];rcases sE h with rfl|rfl|rfl|rfl<;>cases c<;>cases d<;>decide
theorem L1 {w:ag}{a:a9}{ah n b:Nat}(hn:0<n)(e:bJ w (a.getD b (0,false)).1 b ah=b):hI w a ah n b=b:=by
 obtain⟨m,rfl⟩:=Nat.exists_eq_succ_of_ne_zero (uv hn)
 show (if bJ w (a.getD b (0,false)).1 b ah=b then b else _)=b;rw[if_pos e]
theorem L3 {w:ag}{a:a9}{ah n b:Nat}(e:bJ w (a.getD b (0,false)).1 b ah≠b):hI w a ah (n+1) b=hI w a ah n (bJ w (a.getD b (0,false)).1 b ah):=by
 show (if bJ w (a.getD b (0,false)).1 b ah=b then b else _)=_;rw[if_neg e]
theorem L4 {w:ag}(o:aX w)(a:a9)(ah:Nat):∀(n:Nat) {b:Nat},b<2^w.length->hI w a ah n b<2^w.length
 |0,_,h=>h
 |n+1,b,h=>by
  by_cases e:bJ w (a.getD b (0,false)).1 b ah=b
  ·rw[L1 (Nat.succ_pos _) e];exact h
  ·rw[L3 e];exact L4 o a ah n (pE o _ _ h).1
theorem lV {w:ag}(o:aX w):dI w (aZ w):=⟨zj,λq h=>by rw[List.eq_of_mem_replicate h];exact xx _⟩
theorem vZ {w:ag}(o:aX w){a:a9}(h:dI w a){s:Nat}(hs:s<2^w.length):dI w (next w a s):=by
 refine⟨by unfold next;rw[dt,zg];exact h.1,λq hq=>?_⟩;unfold next at hq
 obtain⟨ah,_,rfl⟩:=gs.mp hq
 exact L4 o a ah _ hs
theorem w4 {w:ag}{a:a9}{q:Nat×a9}(h:q∈after w a):q.1<a.length/\q.2=next w a q.1/\kept q.2=true:=by
 unfold after at h
 obtain⟨h1,h2⟩:=jv.mp h
 obtain⟨s,hs,rfl⟩:=gs.mp h1
 exact⟨uz.mp hs,rfl,h2⟩
theorem L5 {w:ag}(o:aX w){a:a9}(h:dI w a){q:Nat×a9}(hq:q∈after w a):dI w q.2:=by
 obtain⟨h1,h2,_⟩:=w4 hq
 rw[h2];exact vZ o h (by rw[<- h.1];exact h1)
theorem UR (w:ag)(a:a9):(after w a).length<=a.length:=by
 unfold after;refine iw (Cc ..) ?_;rw[dt,zg];exact da _
theorem nL {w:ag}(o:aX w):2^w.length=2∨2^w.length=4:=by
 rcases o.two with⟨a,rfl⟩|⟨a,b,rfl⟩
 ·exact .inl rfl
 ·exact .inr rfl
theorem w5 {α:Type}[DecidableEq α]:∀{l m:List α},l.Nodup->(∀x∈l,x∈m)->l.length<=m.length
 |[],_,_,_=>lh _
 |x::r,m,n,h=>by
  rw[qu]at n
  have:=w5 (m:=m.erase x) n.2 λy hy=>(List.mem_erase_of_ne (λe:y=x=>n.1 (by rw[<- e];exact hy))).mpr (h y (gc _ hy))
  rw[List.length_erase_of_mem (h x dv)]at this
  have:0<m.length:=List.length_pos_of_mem (h x dv)
  rw[sj];lia
structure Closed (w:ag)(S:List a9):Prop where
 b:aZ w∈S
 go:∀a∈S,∀q∈after w a,q.2∈S
 len:S.length<=5000
structure pF (w:ag)(Ks:List a9):Prop extends Closed w Ks where
 nd:Ks.Nodup
 wf:∀a∈Ks,dI w a
abbrev sub (x y:Nat):Prop:=x ||| y=y
theorem jE {w:ag}(o:aX w){n:Nat}(h:n<2^w.length):n<4:=by rcases nL o with e|e<;>lia
theorem jF {n:Nat}(h:n<4):n=0∨n=1∨n=2∨n=3:=by lia
theorem kW (x:Nat):sub x x:=Nat.or_self x
theorem UQ {x y z:Nat}(h1:sub x y)(h2:sub y z):sub x z:=by
 show x ||| z=z
 rw[<- h2,<- Nat.or_assoc,h1]
theorem L6 {x y:Nat}(h1:sub x y)(h2:sub y x):x=y:=by
 have h2:y ||| x=x:=h2
 have h1:x ||| y=y:=h1
 rw[<- h1,Nat.or_comm,h2]
theorem sub_zero (x:Nat):sub 0 x:=Nat.zero_or x
theorem w6 {x y p:Nat}(hx:x<4)(hy:y<4)(hp:p<2)(h:sub x y):has x p<=has y p:=by
 have FP:p=0∨p=1:=by lia
 rcases FP with rfl|rfl
 ·rcases jF hx with rfl|rfl|rfl|rfl<;>rcases jF hy with rfl|rfl|rfl|rfl<;>first|exact absurd h (by decide)|decide
 ·rcases jF hx with rfl|rfl|rfl|rfl<;>rcases jF hy with rfl|rfl|rfl|rfl<;>first|exact absurd h (by decide)|decide
theorem L7 {w:ag}(o:aX w){x:Nat}(h:x<2^w.length):sub x (2^w.length-1):=by
 rcases o.two with⟨a,rfl⟩|⟨a,b,rfl⟩
 ·rcases pD h with rfl|rfl
  ·show sub 0 1;decide
  ·show sub 1 1;decide
 ·rcases sE h with rfl|rfl|rfl|rfl
  ·show sub 0 3;decide
  ·show sub 1 3;decide
  ·show sub 2 3;decide
  ·show sub 3 3;decide
theorem pG (w:ag):2^w.length-1<2^w.length:=Nat.sub_lt (xx _) (by decide)
theorem w9 {w:ag}(o:aX w){x:Nat}(h:x<2^w.length)(s:sub (2^w.length-1) x):x=2^w.length-1:=L6 (L7 o h) s
theorem KI {c c':Bool}{x y:Nat}(hx:x<4)(hy:y<4)(h:sub x y)(hc:c=true->c'=true):sub (if c then x ||| 1 else x) (if c' then y ||| 1 else y):=by
 rcases jF hx with rfl|rfl|rfl|rfl<;>rcases jF hy with rfl|rfl|rfl|rfl<;>first|exact absurd h (by decide)|(cases c<;>cases c'<;>first|exact absurd (hc rfl) (by decide)|decide)
theorem UP {c c':Bool}{x y:Nat}(hx:x<4)(hy:y<4)(h:sub x y)(hc:c=true->c'=true):sub (if c then x ||| 2 else x) (if c' then y ||| 2 else y):=by
 rcases jF hx with rfl|rfl|rfl|rfl<;>rcases jF hy with rfl|rfl|rfl|rfl<;>first|exact absurd h (by decide)|(cases c<;>cases c'<;>first|exact absurd (hc rfl) (by decide)|decide)
theorem KH {c:Bool}{x:Nat}(hx:x<4):(if c then x ||| 1 else x)<4:=by rcases jF hx with rfl|rfl|rfl|rfl<;>cases c<;>decide
def cA (a:Int)(p bh bu ah:Nat):Bool:=decide (((has bh p+has ah p+has bu (1-p):Nat):Int) >= a)
theorem wA (a:Int)(bh bu ah:Nat):bJ [a] bh bu ah=if cA a 0 bh bu ah then bu ||| 1 else bu:=by
 unfold bJ lT cA;simp only[kf];rfl
theorem wB (a b:Int)(bh bu ah:Nat):bJ [a,b] bh bu ah=if cA b 1 bh bu ah then (if cA a 0 bh bu ah then bu ||| 1 else bu) ||| 2 else if cA a 0 bh bu ah then bu ||| 1 else bu:=by
 unfold bJ cA;simp only[lT,kf];rfl
theorem L8 {a:Int}{p bh BS bu BR ah zk:Nat}(hp:p<2)(h1:bh<4)(Gz:BS<4)(h2:bu<4)(Gw:BR<4)(h3:ah<4)(Gv:zk<4)(s1:sub bh BS)(s2:sub bu BR)(s3:sub ah zk)(h:cA a p bh bu ah=true):cA a p BS BR zk=true:=by
 unfold cA at h ⊢;have h:=zh h;have m1:=w6 h1 Gz hp s1;have m2:=w6 h3 Gv hp s3;have m3:=w6 (p:=1-p) h2 Gw (by lia) s2;exact eu (by lia)
theorem rS {w:ag}(o:aX w){bh BS bu BR ah zk:Nat}(h1:bh<2^w.length)(Gz:BS<2^w.length)(h2:bu<2^w.length)(Gw:BR<2^w.length)(h3:ah<2^w.length)(Gv:zk<2^w.length)(s1:sub bh BS)(s2:sub bu BR)(s3:sub ah zk):sub (bJ w bh bu ah) (bJ w BS BR zk):=by
 have g1:=jE o h1;have GB:=jE o Gz;have g2:=jE o h2;have CF:=jE o Gw;have g3:=jE o h3;have GA:=jE o Gv;rcases o.two with⟨a,rfl⟩|⟨a,b,rfl⟩
 ·rw[wA,wA]
  exact KI g2 CF s2 (L8 (by decide) g1 GB g2 CF g3 GA s1 s2 s3)
 ·rw[wB,wB]
  exact UP (KH g2) (KH CF) (KI g2 CF s2 (L8 (by decide) g1 GB g2 CF g3 GA s1 s2 s3)) (L8 (by decide) g1 GB g2 CF g3 GA s1 s2 s3)
theorem wC {w:ag}(o:aX w)(bh ah:Nat){bu:Nat}(h:bu<2^w.length):sub bu (bJ w bh bu ah):=by
 rcases o.two with⟨a,rfl⟩|⟨a,b,rfl⟩
 ·rw[wA]
  rcases pD h with rfl|rfl<;>cases cA a 0 bh _ ah<;>decide
 ·rw[wB]
  rcases sE h with rfl|rfl|rfl|rfl<;>cases cA a 0 bh _ ah<;>cases cA b 1 bh _ ah<;>decide
theorem KG {w:ag}(o:aX w)(a:a9)(ah:Nat):∀(n:Nat) {b:Nat},b<2^w.length->w.length+1<=n+one b->
  bJ w (a.getD (hI w a ah n b) (0,false)).1 (hI w a ah n b) ah=hI w a ah n b/\sub b (hI w a ah n b)/\
  ∀g,(∀x,x<2^w.length->sub x g->sub (bJ w (a.getD x (0,false)).1 x ah) g)->sub b g->sub (hI w a ah n b) g
 |0,b,hb,hm=>by
  have:=(pE o 0 0 hb).2.2
  lia
 |n+1,b,hb,hm=>by
  by_cases e:bJ w (a.getD b (0,false)).1 b ah=b
  ·rw[L1 (Nat.succ_pos _) e]
   exact⟨e,kW _,λg _ h=>h⟩
  ·rw[L3 e]
   obtain⟨k1,k2,_⟩:=pE o (a.getD b (0,false)).1 ah hb
   have k2:=k2.resolve_left e
   obtain⟨h1,h2,h3⟩:=KG o a ah n k1 (by lia)
   exact⟨h1,UQ (wC o _ _ hb) h2,λg hg h=>h3 g hg (hg b hb h)⟩
def cO (B:Nat->Nat)(k:Nat):Nat:=if k=0 then 0 else B (k-1)
def cT (n ah:Nat)(B:Nat->Nat)(k:Nat):Nat:=if k+1<n then B (k+1) else ah
structure iU (w:ag)(l:List Nat)(ah:Nat)(B:Nat->Nat):Prop where
 lt:∀k,k<l.length->B k<2^w.length
 sd:∀k (h:k<l.length),sub l[k] (B k)
 st:∀k,k<l.length->bJ w (cO B k) (B k) (cT l.length ah B k)=B k
def e8 (w:ag)(l:List Nat):Prop:=∀s∈l,s<2^w.length
def cY (w:ag)(l:List Nat):a9:=l.foldl (next w) (aZ w)
theorem L9 (w:ag)(l:List Nat)(s:Nat):cY w (l++[s])=next w (cY w l) s:=by unfold cY;rw[zx];rfl
theorem M0 {w:ag}(o:aX w){l:List Nat}(h:e8 w l):dI w (cY w l):=by
 have go:∀(n:Nat) {l:List Nat},l.length=n->e8 w l->dI w (cY w l):=by
  intro n
  induction n with
  |zero=>
   intro l e _;rw[Dc e];exact lV o
  |succ n ih=>
   intro l e h;rcases List.eq_nil_or_concat l with rfl|⟨l',s,rfl⟩
   ·cases e
   ·rw[List.concat_eq_append]at h e ⊢
    rw[L9];rw[gq]at e;exact vZ o (ih (by simpa using e) λx hx=>h x (uc _ hx)) (h s (ny _ dv))
 exact go _ rfl h
theorem UO {w:ag}{a:a9}{s ah:Nat}(h:ah<a.length):(next w a s).getD ah (0,false)=lU w a s ah:=by
 unfold next
 rw[kz,ij,CN h];rfl
structure sF (w:ag)(l:List Nat)(ah:Nat)(q:Nat×Bool)(F:Nat->Nat):Prop where
 qi:iU w l ah F
 le:∀G,iU w l ah G->∀k,k<l.length->sub (F k) (G k)
 last:q.1=if l.length=0 then 0 else F (l.length-1)
 full:q.2=true↔∀k,k<l.length->F k=2^w.length-1
theorem iU.less {w:ag}(o:aX w){l:List Nat}{ah zk:Nat}{B:Nat->Nat}(h:iU w l ah B)(h1:ah<2^w.length)(h2:zk<2^w.length)(s:sub zk ah):iU w l zk B:=by
 refine⟨h.lt,h.sd,λk hk=>?_⟩;have b0:cO B k<2^w.length:=by
  unfold cO;split
  ·exact xx _
  ·exact h.lt _ (by lia)
 have e:=h.st k hk;refine L6 ?_ (wC o _ _ (h.lt k hk));by_cases g:k+1<l.length
 ·unfold cT at e ⊢
  rw[if_pos g]at e ⊢;rw[e];exact kW _
 ·unfold cT at e ⊢
  rw[if_neg g]at e ⊢
  have:=rS o b0 b0 (h.lt k hk) (h.lt k hk) h2 h1 (kW _) (kW _) s
  rwa [e]at this
theorem UN {w:ag}(o:aX w){n:Nat}(Fc:∀{l:List Nat}{ah:Nat},l.length<n->e8 w l->ah<2^w.length->∃F,sF w l ah ((cY w l).getD ah (0,false)) F){l:List Nat}(ao:l.length=n)(hm:e8 w l){ah:Nat}(h:ah<2^w.length):∃F,sF w l ah ((cY w l).getD ah (0,false)) F:=by
 rcases List.eq_nil_or_concat l with rfl|⟨l',s,rfl⟩
 ·refine⟨λ_=>0,⟨λk hk=>absurd hk (As _),λk hk=>absurd hk (As _),λk hk=>absurd hk (As _)⟩,λG _ k hk=>absurd hk (As _),?_,?_⟩
  ·show ((aZ w).getD ah (0,false)).1=0
   unfold aZ;rw[kz,List.getElem?_replicate,if_pos h];rfl
  ·show ((aZ w).getD ah (0,false)).2=true↔_
   unfold aZ;rw[kz,List.getElem?_replicate,if_pos h]
   exact⟨λ_ k hk=>absurd hk (As _),λ_=>rfl⟩
 ·rw[List.concat_eq_append]at hm ⊢
  have EE:e8 w l':=λx hx=>hm x (uc _ hx)
  have hs:s<2^w.length:=hm s (ny _ dv);have ih:∀{b:Nat},b<2^w.length->∃F,sF w l' b ((cY w l').getD b (0,false)) F:=λ{b} hb=>Fc (by rw[List.concat_eq_append,gq]at ao;have q:l'.length+1=n:=ao;lia) EE hb
  have wf:=M0 o EE;rw[L9,UO (by rw[wf.1];exact h)]
  obtain⟨p1,p2,p3⟩:=KG o (cY w l') ah (w.length+1) hs (ze _ _)
  have bl:=L4 o (cY w l') ah (w.length+1) hs;generalize eb:hI w (cY w l') ah (w.length+1) s=b at p1 p2 p3 bl;have es:lU w (cY w l') s ah=(b,b==(cY w l').length-1&&((cY w l').getD ((cY w l').length-1) (0,false)).2):=by unfold lU;rw[eb]
  rw[es,wf.1]
  obtain⟨F,hF⟩:=ih bl
  have ln:(l'++[s]).length=l'.length+1:=by rw[gq];rfl
  have cut:∀{G x},iU w (l'++[s]) ah G->x<2^w.length->sub x (G l'.length)->iU w l' x G:=by
   intro G x hG hx sx;have gl:G l'.length<2^w.length:=hG.lt _ (by lia);have sh:iU w l' (G l'.length) G:=by
    refine⟨λk hk=>hG.lt k (by lia),λk hk=>?_,λk hk=>?_⟩
    ·have:=hG.sd k (by lia)
     rwa [List.getElem_append_left hk]at this
    ·have e:=hG.st k (by lia)
     unfold cT at e ⊢;rw[if_pos (by lia)]at e;by_cases g:k+1<l'.length
     ·rw[if_pos g];exact e
     ·rw[if_neg g,show l'.length=k+1 by lia];exact e
   exact sh.less o gl hx sx
  let F':Nat->Nat:=λk=>if k<l'.length then F k else b
  have f1:∀{k},k<l'.length->F' k=F k:=λhk=>if_pos hk
  have f2:F' l'.length=b:=if_neg (qr _);have IJ:∀{k},k<=l'.length->cO F' k=cO F k:=λ{k} hk=>by
   unfold cO;by_cases g:k=0
   ·rw[if_pos g,if_pos g]
   ·rw[if_neg g,if_neg g];exact f1 (by lia)
  have WG:cO F' l'.length=((cY w l').getD b (0,false)).1:=by
   rw[IJ (da _),hF.last];rfl
  refine⟨F',⟨λk hk=>?_,λk hk=>?_,λk hk=>?_⟩,λG hG k hk=>?_,?_,?_⟩
  ·by_cases g:k<l'.length
   ·rw[f1 g];exact hF.qi.lt k g
   ·rw[show k=l'.length by lia,f2];exact bl
  ·by_cases g:k<l'.length
   ·rw[f1 g,List.getElem_append_left g];exact hF.qi.sd k g
   ·have:k=l'.length:=by lia
    subst this;rw[f2];simpa using p2
  ·by_cases g:k<l'.length
   ·rw[IJ (by lia),f1 g]
    have e:=hF.qi.st k g;unfold cT at e ⊢;rw[if_pos (by lia)];by_cases g2:k+1<l'.length
    ·rw[f1 g2];rw[if_pos g2]at e;exact e
    ·rw[if_neg g2]at e
     rw[show k+1=l'.length by lia,f2];exact e
   ·have:k=l'.length:=by lia
    subst this;unfold cT;rw[if_neg (by lia),f2,WG];exact p1
  ·have gl:G l'.length<2^w.length:=hG.lt _ (by lia)
   have bg:sub b (G l'.length):=p3 _ (λx hx sx=>by
    obtain⟨Fx,DC⟩:=ih hx
    have cx:=cut hG hx sx;have el:=DC.last;rw[el];have e:=hG.st l'.length (by lia);unfold cT at e;rw[if_neg (by lia)]at e;have m:sub (bJ w (if l'.length=0 then 0 else Fx (l'.length-1)) x ah) (bJ w (cO G l'.length) (G l'.length) ah):=by
     refine rS o ?_ ?_ hx gl h h ?_ sx (kW _)
     ·split
      ·exact xx _
      ·exact DC.qi.lt _ (by lia)
     ·unfold cO;split
      ·exact xx _
      ·exact hG.lt _ (by lia)
     ·unfold cO
      by_cases z:l'.length=0
      ·rw[if_pos z,if_pos z];exact kW _
      ·rw[if_neg z,if_neg z];exact DC.le G cx _ (by lia)
    rwa [e]at m) (by
     have:=hG.sd l'.length (by lia)
     simpa using this)
   by_cases g:k<l'.length
   ·rw[f1 g];exact hF.le G (cut hG bl bg) k g
   ·rw[show k=l'.length by lia,f2];exact bg
  ·rw[ln,if_neg (by lia)]
   show b=F' (l'.length+1-1);rw[Nat.add_sub_cancel,f2]
  ·show (b==2^w.length-1&&((cY w l').getD (2^w.length-1) (0,false)).2)=true↔_
   rw[my];constructor
   ·rintro⟨h1,h2⟩
    have h1:b=2^w.length-1:=by simpa using h1
    rw[<- h1]at h2;intro k hk;by_cases g:k<l'.length
    ·rw[f1 g];exact hF.full.mp h2 k g
    ·rw[show k=l'.length by lia,f2];exact h1
   ·intro a
    have h1:b=2^w.length-1:=by have:=a l'.length (by lia);rwa [f2]at this
    refine⟨by simpa using h1,?_⟩;rw[<- h1];exact hF.full.mpr λk hk=>by have:=a k (by lia);rwa [f1 hk]at this
theorem KD {w:ag}(o:aX w){l:List Nat}(hm:e8 w l){ah:Nat}(h:ah<2^w.length):∃F,sF w l ah ((cY w l).getD ah (0,false)) F:=by
 have go:∀(n:Nat) {l:List Nat}{ah:Nat},l.length<n->e8 w l->ah<2^w.length->∃F,sF w l ah ((cY w l).getD ah (0,false)) F:=by
  intro n
  induction n with
  |zero=>exact λhl=>absurd hl (As _)
  |succ n ih=>
   intro l ah hl hm h;exact UN o (n:=l.length) (λqe=>ih (iu qe (Nat.le_of_lt_succ hl))) rfl hm h
 exact go _ (Nat.lt_succ_self _) hm h
theorem M3 {w:ag}(o:aX w):∀(r:List Nat) {l:List Nat},e8 w l->(row w r (cY w l)=true↔e8 w r/\(∀m,m<r.length->kept (cY w (l++r.take (m+1)))=true)/\lit (cY w (l++r))=true)
 |[],l,_=>by
  rw[nv]
  exact⟨λh=>⟨(λ_ z=>nomatch z),λm z=>absurd z (As _),h⟩,λh=>h.2.2⟩
 |s::r,l,hl=>by
  have wl:=(M0 o hl).1;show (decide (s<(cY w l).length)&&kept (next w (cY w l) s)&&row w r (next w (cY w l) s))=true↔_;rw[<- L9,my,my,kf,wl];constructor
  ·rintro⟨⟨h1,h2⟩,h3⟩
   have qe:e8 w (l++[s]):=λx hx=>(jk.mp hx).elim (hl x) λz=>by rw[eh.mp z];exact h1
   obtain⟨q1,q2,q3⟩:=(M3 o r qe).mp h3
   refine⟨λx hx=>(eg.mp hx).elim (λe=>by rw[e];exact h1) (q1 x),λm hm=>?_,by rw[me]at q3;exact q3⟩;cases m with
   |zero=>exact h2
   |succ m=>
    have:=q2 m (by rw[sj]at hm;lia)
    rw[me]at this;exact this
  ·rintro⟨q1,q2,q3⟩
   have h1:=q1 s dv;have qe:e8 w (l++[s]):=λx hx=>(jk.mp hx).elim (hl x) λz=>by rw[eh.mp z];exact h1
   refine⟨⟨h1,q2 0 (by rw[sj];lia)⟩,(M3 o r qe).mpr ⟨λx hx=>q1 x (gc _ hx),λm hm=>?_,by rw[me];exact q3⟩⟩
   have:=q2 (m+1) (by rw[sj];lia)
   rw[me];exact this
theorem UM {w:ag}{a:a9}(h:a.length=2^w.length):kept a=(a.getD (2^w.length-1) (0,false)).2:=by unfold kept;rw[h]
theorem KC {w:ag}(o:aX w){l:List Nat}(hm:e8 w l):row w l (aZ w)=true↔∀B,iU w l 0 B->∀k,k<l.length->B k=2^w.length-1:=by
 have z:=M3 o l (l:=[]) (λ_ z=>nomatch z);rw[List.nil_append]at z;refine Iff.trans z ?_
 obtain⟨F,hF⟩:=KD o hm (xx w.length)
 have Du:lit (cY w l)=true↔∀k,k<l.length->F k=2^w.length-1:=hF.full
 constructor
 ·rintro⟨_,_,h⟩ B hB k hk
  have:=hF.le B hB k hk
  rw[Du.mp h k hk]at this;exact w9 o (hB.lt k hk) this
 ·intro h
  have all:=h F hF.qi;refine⟨hm,λm hm2=>?_,Du.mpr all⟩;rw[List.nil_append];have Io:e8 w (l.take (m+1)):=λx hx=>hm x (CP hx)
  obtain⟨G1,h1⟩:=KD o Io (pG w)
  rw[UM (M0 o Io).1];refine h1.full.mpr λk hk=>?_
  have tl:(l.take (m+1)).length=m+1:=by rw[List.length_take];lia
  rw[tl]at hk
  let G:Nat->Nat:=λk=>if k<m+1 then G1 k else 2^w.length-1
  have g1:∀{k},k<m+1->G k=G1 k:=λhk=>if_pos hk
  have g2:∀{k},¬k<m+1->G k=2^w.length-1:=λhk=>if_neg hk
  have gl:∀k,k<l.length->G k<2^w.length:=λk hk=>by
   by_cases g:k<m+1
   ·rw[g1 g];exact h1.qi.lt k (by rw[tl];exact g)
   ·rw[g2 g];exact pG w
  have bl:∀{k},k<=l.length->cO G k<2^w.length:=λ{k} hk=>by
   unfold cO;split
   ·exact xx _
   ·exact gl _ (by lia)
  have hG:iU w l 0 G:=by
   refine⟨gl,λk hk=>?_,λk hk=>?_⟩
   ·by_cases g:k<m+1
    ·rw[g1 g]
     have:=h1.qi.sd k (by rw[tl];exact g)
     rwa [List.getElem_take]at this
    ·rw[g2 g];exact L7 o (hm _ (AW hk))
   ·by_cases g:k<m+1
    ·have e:=h1.qi.st k (by rw[tl];exact g)
     have eb:cO G k=cO G1 k:=by
      unfold cO;by_cases z:k=0
      ·rw[if_pos z,if_pos z]
      ·rw[if_neg z,if_neg z];exact g1 (by lia)
     rw[tl]at e;refine L6 ?_ (wC o _ _ (gl k hk));have e1:bJ w (cO G k) (G k) (cT (m+1) (2^w.length-1) G1 k)=G k:=by rw[eb,g1 g];exact e
     have a1:cT (m+1) (2^w.length-1) G1 k<2^w.length:=by
      unfold cT;by_cases y:k+1<m+1
      ·rw[if_pos y];exact h1.qi.lt _ (by rw[tl];exact y)
      ·rw[if_neg y];exact pG w
     have a2:cT l.length 0 G k<2^w.length:=by
      unfold cT;by_cases y:k+1<l.length
      ·rw[if_pos y];exact gl _ y
      ·rw[if_neg y];exact xx _
     have sa:sub (cT l.length 0 G k) (cT (m+1) (2^w.length-1) G1 k):=by
      unfold cT;by_cases y1:k+1<m+1
      ·rw[if_pos y1,if_pos (by lia),g1 y1];exact kW _
      ·rw[if_neg y1]
       split
       ·exact L7 o (gl _ (by assumption))
       ·exact sub_zero _
     have bk:=bl (uw hk)
     have:=rS o bk bk (gl k hk) (gl k hk) a2 a1 (kW _) (kW _) sa
     rwa [e1]at this
    ·rw[g2 g]
     have:=wC o (cO G k) (cT l.length 0 G k) (pG w)
     exact w9 o (pE o _ _ (pG w)).1 this
  have:=hF.le G hG k (by lia)
  rw[all k (by lia)]at this
  have:=w9 o (gl k (by lia)) this
  rwa [g1 hk]at this
theorem KA (p:Nat):has 0 p=0:=by unfold has;rw[Nat.zero_shiftRight];rfl
theorem Kz {w:ag}(o:aX w){bh bu ah:Nat}(hb:bu<2^w.length):bJ w bh bu ah=bu↔∀p,p<w.length->cA (w.getD p 0) p bh bu ah=true->has bu p=1:=by
 rcases o.two with⟨a,rfl⟩|⟨a,b,rfl⟩
 ·rw[wA]
  have e:∀Q:Nat->Prop,(∀p,p<[a].length->Q p)↔Q 0:=λQ=>⟨λh=>h 0 (by show 0<1;decide),λh p hp=>by have:p<1:=hp;rw[show p=0 by lia];exact h⟩
  rw[e];show _↔(cA a 0 bh bu ah=true->_);rcases pD hb with rfl|rfl<;>cases cA a 0 bh _ ah<;>decide
 ·rw[wB]
  have e:∀Q:Nat->Prop,(∀p,p<[a,b].length->Q p)↔Q 0/\Q 1:=λQ=>⟨λh=>⟨h 0 (by show 0<2;decide),h 1 (by show 1<2;decide)⟩,λh p hp=>by
   have:p<2:=hp
   have:p=0∨p=1:=by lia
   rcases this with rfl|rfl
   ·exact h.1
   ·exact h.2⟩
  rw[e];show _↔(cA a 0 bh bu ah=true->_)/\(cA b 1 bh bu ah=true->_);rcases sE hb with rfl|rfl|rfl|rfl<;>cases cA a 0 bh _ ah<;>cases cA b 1 bh _ ah<;>decide
def iV (a b:Bool):Nat:=(if a then 1 else 0)+if b then 2 else 0
theorem Ky (a b:Bool):has (iV a b) 0=(if a then 1 else 0)/\has (iV a b) 1=if b then 1 else 0:=by cases a<;>cases b<;>decide
theorem Kx {n:Nat}(h:n<4):iV (decide (has n 0=1)) (decide (has n 1=1))=n:=by rcases jF h with rfl|rfl|rfl|rfl<;>decide
theorem UL {a a' b b':Bool}(h1:a=true->a'=true)(h2:b=true->b'=true):sub (iV a b) (iV a' b'):=by
 cases a<;>cases a'<;>cases b<;>cases b'<;>first|exact absurd (h1 rfl) (by decide)|exact absurd (h2 rfl) (by decide)|decide
theorem Kw {n:Nat}(h:n<4){p:Nat}(hp:p<2):has n p=0∨has n p=1:=by
 have:p=0∨p=1:=by lia
 rcases jF h with rfl|rfl|rfl|rfl<;>rcases this with rfl|rfl<;>decide
theorem Kv {w:ag}(o:aX w){n:Nat}(h:n<2^w.length):n=2^w.length-1↔∀p,p<w.length->has n p=1:=by
 rcases o.two with⟨a,rfl⟩|⟨a,b,rfl⟩
 ·constructor
  ·rintro rfl p hp
   have:p<1:=hp
   rw[show p=0 by lia];show has 1 0=1;decide
  ·intro g
   have:=g 0 (by show 0<1;decide)
   show n=1;rcases pD h with rfl|rfl
   ·exact absurd this (by decide)
   ·rfl
 ·constructor
  ·rintro rfl p hp
   have:p<2:=hp
   have:p=0∨p=1:=by lia
   rcases this with rfl|rfl
   ·show has 3 0=1;decide
   ·show has 3 1=1;decide
  ·intro g
   have g0:=g 0 (by show 0<2;decide);have g1:=g 1 (by show 1<2;decide);show n=3;rcases sE h with rfl|rfl|rfl|rfl
   ·exact absurd g0 (by decide)
   ·exact absurd g1 (by decide)
   ·exact absurd g0 (by decide)
   ·rfl
end bf
namespace Core
open PySem L2 PP
open bf (aX sub has bJ iU cO cT e8 iV cA)
def c8 (U:ag)(c k p:Nat):Bool:=decide (p<c)&&decide (((k*c+p:Nat):Int)∈U)
def cE (U:ag)(c k:Nat):Nat:=iV (c8 U c k 0) (c8 U c k 1)
theorem pH {U:ag}{c k p:Nat}(hp:p<2):has (cE U c k) p=if c8 U c k p then 1 else 0:=by
 have:p=0∨p=1:=by lia
 rcases this with rfl|rfl
 ·exact (bf.Ky _ _).1
 ·exact (bf.Ky _ _).2
theorem pI {U:ag}{w:ag}(o:aX w)(k:Nat):cE U w.length k<2^w.length:=by
 rcases o.two with⟨a,rfl⟩|⟨a,b,rfl⟩
 ·have e:c8 U 1 k 1=false:=by unfold c8;rw[dm (by decide)];rfl
  show iV (c8 U 1 k 0) (c8 U 1 k 1)<2;rw[e];cases c8 U 1 k 0<;>decide
 ·show iV (c8 U 2 k 0) (c8 U 2 k 1)<4
  cases c8 U 2 k 0<;>cases c8 U 2 k 1<;>decide
theorem Ku {U V:ag}{c k p:Nat}(h:∀x∈U,x∈V)(b:c8 U c k p=true):c8 V c k p=true:=by
 unfold c8 at b ⊢;rw[my,kf,kf]at b ⊢
 exact⟨b.1,h _ b.2⟩
theorem Kt {A B:ag}(na:A.Nodup)(nb:B.Nodup)(h:∀x,x∈A↔x∈B):A.length=B.length:=Nat.le_antisymm (na.length_le_of_subset λx hx=>(h x).mp hx) (nb.length_le_of_subset λx hx=>(h x).mpr hx)
theorem wD {P:Prop}[Decidable P]{e:Int}{U:ag}:((if P then [e] else []).filter λx=>decide (x∈U)).length=if P then (if e∈U then 1 else 0) else 0:=by
 by_cases h:P
 ·rw[if_pos h,if_pos h]
  by_cases g:e∈U
  ·rw[if_pos g]
   show (match decide (e∈U) with|true=>[e]|false=>[]).length=1;rw[eu g];rfl
  ·rw[if_neg g]
   show (match decide (e∈U) with|true=>[e]|false=>[]).length=0;rw[dm g];rfl
 ·rw[if_neg h,if_neg h];rfl
structure fY (c n:Nat)(ls:aa):Prop where
 hc:c=1∨c=2
 ord:ls.Pairwise fV
 mem:∀l,l∈ls↔l∈nG (c*n) c++nH (((c:Int))*(n:Int)) c
section
variable {c n:Nat}{ls:aa}
theorem fY.iff (s:fY c n ls){x y:Int}:(x,y)∈ls↔0<=x/\y<(c:Int)*(n:Int)/\((y=x+1/\(x+1)%(c:Int)>0)∨y=x+(c:Int)):=by
 rw[s.mem,jk];unfold nG nH;rw[gs,gs];constructor
 ·rintro (⟨h,hh,e⟩|⟨h,hh,e⟩)
  ·cases e
   obtain⟨h1,h2⟩:=jv.mp hh
   have h2:=zh h2;have h1:=cN.mp h1;refine⟨h1.1,?_,.inl ⟨rfl,h2⟩⟩;rw[AQ]at h1;rcases s.hc with rfl|rfl<;>lia
  ·cases e
   have h1:=cN.mp hh
   exact⟨h1.1,by lia,.inr rfl⟩
 ·rintro⟨h1,h2,h3⟩
  rcases h3 with⟨e,h3⟩|e
  ·subst e
   exact .inl ⟨x,jv.mpr ⟨cN.mpr ⟨h1,by rw[AQ];lia⟩,eu h3⟩,rfl⟩
  ·subst e
   exact .inr ⟨x,cN.mpr ⟨h1,by lia⟩,rfl⟩
theorem fY.lt (s:fY c n ls):∀l∈ls,l.1<l.2:=λl hl=>by
 have:=(s.iff (x:=l.1) (y:=l.2)).mp hl
 rcases s.hc with e|e<;>(subst e;lia)
theorem UK {ls:aa}{k x:Int}:x∈bX ls k↔(k,x)∈ls∨(x,k)∈ls:=by
 rw[Mm];constructor
 ·rintro⟨l,hl,⟨h1,h2⟩|⟨h1,h2⟩⟩
  ·left;rw[<- h1,<- h2];exact hl
  ·right;rw[<- h1,<- h2];exact hl
 ·rintro (h|h)
  ·exact⟨_,h,.inl ⟨rfl,rfl⟩⟩
  ·exact⟨_,h,.inr ⟨rfl,rfl⟩⟩
theorem fY.nd (s:fY c n ls)(h:Int):(bX ls h).Nodup:=Ml s.lt s.ord
theorem fY.count (s:fY c n ls)(U:ag){k p:Nat}(hk:k<n)(hp:p<c) :
  ((bX ls ((k*c+p:Nat):Int)).filter λx=>decide (x∈U)).length=has (cO (cE U c) k) p+has (cT n 0 (cE U c) k) p+has (cE U c k) (1-p):=by
 have c2:c<=2:=by rcases s.hc with e|e<;>lia
 let E:ag:=(if 1<=k then [(((k-1)*c+p:Nat):Int)] else [])++(if k+1<n then [(((k+1)*c+p:Nat):Int)] else [])++(if 1-p<c then [((k*c+(1-p):Nat):Int)] else [])
 have mE:∀x,x∈bX ls ((k*c+p:Nat):Int)↔x∈E:=λx=>by
  rw[UK,s.iff,s.iff];show _↔x∈_++_++_;rw[jk,jk];have m1:∀{P:Prop} [Decidable P] {e:Int},(x∈if P then [e] else [])↔P/\x=e:=λ{P} _ {e}=>by
   by_cases h:P
   ·rw[if_pos h];exact⟨λz=>⟨h,eh.mp z⟩,λz=>eh.mpr z.2⟩
   ·rw[if_neg h];exact⟨(λz=>nomatch z),λz=>absurd z.1 h⟩
  rw[m1,m1,m1];rcases s.hc with e|e
  ·subst e
   rw[show p=0 by lia];simp only[Nat.mul_one];lia
  ·subst e
   have:p=0∨p=1:=by lia
   rcases this with e|e<;>(subst e;omega)
 have nE:E.Nodup:=by
  show (_++_++_:ag).Nodup;have c0:1<=c:=by rcases s.hc with e|e<;>lia
  have l1:1<=k->(k-1)*c+p<k*c+p:=λh=>by
   have:=Nat.mul_lt_mul_of_pos_right (show k-1<k by lia) c0;lia
  have l2:k*c+p<(k+1)*c+p:=by
   have:=Nat.mul_lt_mul_of_pos_right (show k<k+1 by lia) c0;lia
  rcases s.hc with e|e
  ·subst e
   rw[show p=0 by lia];simp only[Nat.mul_one];rw[if_neg (show ¬(1-0<1) by decide),nv];by_cases h1:1<=k<;>by_cases h2:k+1<n<;>simp[h1,h2]<;>lia
  ·subst e
   have:p=0∨p=1:=by lia
   rcases this with e|e<;>subst e<;>by_cases h1:1<=k<;>by_cases h2:k+1<n<;>simp[h1,h2]<;>lia
 rw[Kt ((s.nd _).filter _) (nE.filter λx=>decide (x∈U)) λx=>by rw[jv,jv,mE x]];show ((_++_++_:ag).filter _).length=_;rw[tu,tu,gq,gq,wD,wD,wD];have p2:p<2:=by lia
 have b1:has (cO (cE U c) k) p=if 1<=k then (if (((k-1)*c+p:Nat):Int)∈U then 1 else 0) else 0:=by
  unfold cO;by_cases h:1<=k
  ·rw[if_neg (by lia),if_pos h,pH p2]
   unfold c8;rw[eu hp,xc];by_cases g:(((k-1)*c+p:Nat):Int)∈U
   ·rw[if_pos g,if_pos (eu g)]
   ·rw[if_neg g,if_neg (by rw[dm g];exact gu)]
  ·rw[if_pos (by lia),if_neg h,bf.KA]
 have b2:has (cT n 0 (cE U c) k) p=if k+1<n then (if (((k+1)*c+p:Nat):Int)∈U then 1 else 0) else 0:=by
  unfold cT;by_cases h:k+1<n
  ·rw[if_pos h,if_pos h,pH p2]
   unfold c8;rw[eu hp,xc];by_cases g:(((k+1)*c+p:Nat):Int)∈U
   ·rw[if_pos g,if_pos (eu g)]
   ·rw[if_neg g,if_neg (by rw[dm g];exact gu)]
  ·rw[if_neg h,if_neg h,bf.KA]
 have b3:has (cE U c k) (1-p)=if 1-p<c then (if ((k*c+(1-p):Nat):Int)∈U then 1 else 0) else 0:=by
  rw[pH (by lia)];unfold c8;by_cases h:1-p<c
  ·rw[if_pos h,eu h,xc]
   by_cases g:((k*c+(1-p):Nat):Int)∈U
   ·rw[if_pos g,if_pos (eu g)]
   ·rw[if_neg g,if_neg (by rw[dm g];exact gu)]
  ·rw[if_neg h,dm h];rfl
 rw[b1,b2,b3]
end
theorem Kq {ws:ag}:∀{n k p:Nat},k<n->p<ws.length->(List.replicate n ws).flatten.getD (k*ws.length+p) 0=ws.getD p 0
 |0,_,_,h,_=>absurd h (As _)
 |n+1,k,p,hk,hp=>by
  show (ws++(List.replicate n ws).flatten).getD (k*ws.length+p) 0=_;rw[kz,kz];cases k with
  |zero=>rw[Nat.zero_mul,qa,Az hp]
  |succ k=>
   have e:(k+1)*ws.length+p=ws.length+(k*ws.length+p):=by rw[Nat.add_mul,Nat.one_mul];lia
   rw[e,CZ (ze _ _),Nat.add_sub_cancel_left]
   have:=Kq (ws:=ws) (n:=n) (k:=k) (p:=p) (by lia) hp
   rwa [kz,kz]at this
section
variable {ws:ag}{n:Nat}{ls:aa}{ns:ag}
theorem iF (ws:ag)(n:Nat):(cI ws n).length=ws.length*n:=by
 have:=VW ws (L:=(n:Int)) (Cb n)
 rw[<- AQ]at this;exact Int.natCast_inj.mp this
theorem UJ (ws:ag){n k p:Nat}(hk:k<n)(hp:p<ws.length):(cI ws (n:Int)).getD ((((k*ws.length+p:Nat):Int)).toNat) 0=ws.getD p 0:=by
 unfold cI;rw[mz,mz];exact Kq hk hp
theorem wE {k p c n:Nat}(hk:k<n)(hp:p<c):k*c+p<c*n:=by
 have:=Nat.mul_le_mul_right c (show k+1<=n by lia)
 rw[Nat.add_mul,Nat.one_mul,vo n c]at this;lia
theorem sG {c n:Nat}(hc:0<c){x:Int}(h0:0<=x)(h1:x<((c*n:Nat):Int)):∃k p,k<n/\p<c/\x=((k*c+p:Nat):Int):=by
 obtain⟨m,rfl⟩:∃m:Nat,x=m:=⟨x.toNat,by lia⟩
 refine⟨m/c,m%c,?_,Nat.mod_lt _ hc,?_⟩
 ·rw[Nat.div_lt_iff_lt_mul hc,vo];lia
 ·have:=Nat.div_add_mod m c
  rw[vo]at this;lia
def e9 (ns:ag)(c n:Nat):List Nat:=(List.range n).map (cE ns c)
theorem jG (ns:ag)(c n:Nat):(e9 ns c n).length=n:=by unfold e9;rw[dt,zg]
theorem wF {c k:Nat}(h:k<(e9 ns c n).length):(e9 ns c n)[k]=cE ns c k:=(List.getElem_map ..).trans (by rw[List.getElem_range])
theorem Kp (o:aX ws)(ns:ag)(n:Nat):e8 ws (e9 ns ws.length n):=λs hs=>by
 obtain⟨k,_,rfl⟩:=gs.mp hs
 exact pI o k
theorem Ko (s:fY ws.length n ls)(U:ag){k p:Nat}(hk:k<n)(hp:p<ws.length):cA (ws.getD p 0) p (cO (cE U ws.length) k) (cE U ws.length k) (cT n 0 (cE U ws.length) k)=decide ((cI ws (n:Int)).getD ((((k*ws.length+p:Nat):Int)).toNat) 0<=(((bX ls ((k*ws.length+p:Nat):Int)).filter λx=>decide (x∈U)).length:Int)):=by
 rw[UJ ws hk hp,s.count U hk hp];rfl
theorem sH {U:ag}{c k p:Nat}(hp:p<c)(p2:p<2):has (cE U c k) p=1↔((k*c+p:Nat):Int)∈U:=by
 rw[pH p2];unfold c8;rw[eu hp,xc];by_cases g:((k*c+p:Nat):Int)∈U
 ·rw[if_pos (eu g)];exact⟨λ_=>g,λ_=>rfl⟩
 ·rw[if_neg (by rw[dm g];exact gu)];exact⟨(λz=>nomatch z),λz=>absurd z g⟩
theorem M4 (o:aX ws)(s:fY ws.length n ls){U:ag}:iD (cI ws (n:Int)) ls U↔∀k,k<n->bJ ws (cO (cE U ws.length) k) (cE U ws.length k) (cT n 0 (cE U ws.length) k)=cE U ws.length k:=by
 have c2:ws.length<=2:=o.2;constructor
 ·intro sh k hk
  refine (bf.Kz o (pI o k)).mpr λp hp q=>(sH hp (by lia)).mpr ?_
  rw[Ko s U hk hp]at q
  have:=sh ((k*ws.length+p:Nat):Int) (cN.mpr ⟨Cb _,by rw[iF];exact Int.ofNat_lt.mpr (wE hk hp)⟩)
  unfold mq at this;rw[q,Bool.and_true]at this;simpa using this
 ·intro st h hh
  have hh:=cN.mp hh;rw[iF]at hh
  obtain⟨k,p,hk,hp,rfl⟩:=sG o.1 hh.1 hh.2
  have q:=(bf.Kz o (pI o k)).mp (st k hk) p hp;rw[Ko s U hk hp,sH hp (by lia)]at q;unfold mq;by_cases g:((k*ws.length+p:Nat):Int)∈U
  ·rw[eu g];rfl
  ·rw[Av]
   intro z;rw[my]at z;exact g (q z.2)
def d0 (B:Nat->Nat)(c n:Nat):ag:=(de (c*n)).filter λh=>decide (has (B (h.toNat/c)) (h.toNat%c)=1)
theorem wG {B:Nat->Nat}{c k p:Nat}(hk:k<n)(hp:p<c):((k*c+p:Nat):Int)∈d0 B c n↔has (B k) p=1:=by
 unfold d0;rw[jv,kf,mz];have e1:(k*c+p)/c=k:=by rw[vo,Nat.mul_add_div (by lia),Nat.div_eq_of_lt hp,Nat.add_zero]
 have e2:(k*c+p)%c=p:=by rw[vo,Nat.mul_add_mod,Nat.mod_eq_of_lt hp]
 rw[e1,e2]
 exact⟨λz=>z.2,λz=>⟨cN.mpr ⟨Cb _,Int.ofNat_lt.mpr (wE hk hp)⟩,z⟩⟩
theorem Km (o:aX ws){B:Nat->Nat}{k:Nat}(hk:k<n)(hb:B k<2^ws.length):cE (d0 B ws.length n) ws.length k=B k:=by
 have b:∀p,p<ws.length->c8 (d0 B ws.length n) ws.length k p=decide (has (B k) p=1):=λp hp=>by
  unfold c8;rw[eu hp,xc];exact decide_eq_decide.mpr (wG hk hp)
 have h4:=bf.jE o hb;unfold cE;rcases o.two with⟨a,rfl⟩|⟨a,d,rfl⟩
 ·have e1:c8 (d0 B 1 n) 1 k 1=decide (has (B k) 1=1):=by
   unfold c8;rw[dm (by decide)];rcases bf.pD hb with e|e<;>rw[e]<;>rfl
  have e0:=b 0 (by show 0<1;decide);show iV (c8 (d0 B 1 n) 1 k 0) (c8 (d0 B 1 n) 1 k 1)=B k;rw[e1,show c8 (d0 B 1 n) 1 k 0=decide (has (B k) 0=1) from e0];exact bf.Kx h4
 ·rw[b 0 (by show 0<2;decide),b 1 (by show 1<2;decide)]
  exact bf.Kx h4
theorem M5 (o:aX ws)(s:fY ws.length n ls)(ns:ag):hE (cI ws (n:Int)) ls ns=true↔bf.row ws (e9 ns ws.length n) (bf.aZ ws)=true:=by
 have c2:ws.length<=2:=o.2;rw[E1,bf.KC o (Kp o ns n),jG];constructor
 ·intro f B hB k hk
  have lt:∀k,k<n->B k<2^ws.length:=λk hk=>hB.lt k (by rw[jG];exact hk)
  have em:∀k,k<n->cE (d0 B ws.length n) ws.length k=B k:=λk hk=>Km o hk (lt k hk)
  have sh:iD (cI ws (n:Int)) ls (d0 B ws.length n):=(M4 o s).mpr λk hk=>by
   have e:=hB.st k (by rw[jG];exact hk);rw[jG]at e;have e1:cO (cE (d0 B ws.length n) ws.length) k=cO B k:=by
    unfold cO;by_cases z:k=0
    ·rw[if_pos z,if_pos z]
    ·rw[if_neg z,if_neg z];exact em _ (by lia)
   have e2:cT n 0 (cE (d0 B ws.length n) ws.length) k=cT n 0 B k:=by
    unfold cT;by_cases z:k+1<n
    ·rw[if_pos z,if_pos z];exact em _ z
    ·rw[if_neg z,if_neg z]
   rw[e1,e2,em k hk];exact e
  have sb:∀x∈ns,x∈de (cI ws (n:Int)).length->x∈d0 B ws.length n:=λx hx hr=>by
   have hh:=cN.mp hr;rw[iF]at hh
   obtain⟨k,p,hk,hp,rfl⟩:=sG o.1 hh.1 hh.2
   refine (wG hk hp).mpr ?_;have sd:=hB.sd k (by rw[jG];exact hk);rw[wF]at sd;have m:=bf.w6 (p:=p) (bf.jE o (pI o k)) (bf.jE o (lt k hk)) (by lia) sd;rw[(sH hp (by lia)).mpr hx]at m
   have:=bf.Kw (bf.jE o (lt k hk)) (p:=p) (by lia)
   lia
  let U:=d0 B ws.length n++ns.filter λx=>!decide (x∈de (cI ws (n:Int)).length)
  have same:∀k p,k<n->p<ws.length->(((k*ws.length+p:Nat):Int)∈U↔((k*ws.length+p:Nat):Int)∈d0 B ws.length n):=λk p hk hp=>by
   show _∈_++_↔_;rw[jk];refine⟨λz=>z.elim id λz=>?_,.inl⟩
   have:=(jv.mp z).2
   rw[eu (cN.mpr ⟨Cb _,by rw[iF];exact Int.ofNat_lt.mpr (wE hk hp)⟩)]at this;cases this
  have mU:∀k,k<n->cE U ws.length k=B k:=λk hk=>by
   rw[<- em k hk];unfold cE c8;congr 1
   ·by_cases q:0<ws.length
    ·rw[eu q,xc,xc];exact decide_eq_decide.mpr (same k 0 hk q)
    ·rw[dm q];rfl
   ·by_cases q:1<ws.length
    ·rw[eu q,xc,xc];exact decide_eq_decide.mpr (same k 1 hk q)
    ·rw[dm q];rfl
  have PN:iD (cI ws (n:Int)) ls U:=(M4 o s).mpr λk hk=>by
   have e:=hB.st k (by rw[jG];exact hk);rw[jG]at e;have e1:cO (cE U ws.length) k=cO B k:=by
    unfold cO;by_cases z:k=0
    ·rw[if_pos z,if_pos z]
    ·rw[if_neg z,if_neg z];exact mU _ (by lia)
   have e2:cT n 0 (cE U ws.length) k=cT n 0 B k:=by
    unfold cT;by_cases z:k+1<n
    ·rw[if_pos z,if_pos z];exact mU _ z
    ·rw[if_neg z,if_neg z]
   rw[e1,e2,mU k hk];exact e
  have all:=f U PN λx hx=>by
   show x∈_++_;rw[jk];by_cases q:x∈de (cI ws (n:Int)).length
   ·exact .inl (sb x hx q)
   ·exact .inr (jv.mpr ⟨hx,by rw[dm q];rfl⟩)
  refine (bf.Kv o (lt k hk)).mpr λp hp=>(wG hk hp).mp ((same k p hk hp).mp (all _ ?_))
  exact cN.mpr ⟨Cb _,by rw[iF];exact Int.ofNat_lt.mpr (wE hk hp)⟩
 ·intro a U sU hU h hh
  have hh:=cN.mp hh;rw[iF]at hh
  obtain⟨k,p,hk,hp,rfl⟩:=sG o.1 hh.1 hh.2
  have sB:iU ws (e9 ns ws.length n) 0 (cE U ws.length):=by
   refine⟨λk _=>pI o k,λk hk=>?_,λk hk=>?_⟩
   ·rw[wF]
    exact bf.UL (Ku hU) (Ku hU)
   ·rw[jG]at hk ⊢
    exact (M4 o s).mp sU k hk
  have:=a _ sB k hk
  exact (sH hp (by lia)).mp ((bf.Kv o (pI o k)).mp this p hp)
end
end Core
namespace PP
open PySem L2
def iW:aQ:=λxs Q=>∃m p:Nat,xs = [.int m,.int p]/\m<4/\p<2/\Q (.int (bf.has m p))
def Kl:aY:=c9 (q2 (fE λi j=>.int (Builtin.bitAnd i j)) (q2 (RI (λ_ j=>0<=j) λi j=>.int (i/2^j.toNat)) (a5 0) (a5 1)) (qC (.int 1)))
theorem UI {m p:Nat}(hm:m<4)(hp:p<2):Builtin.bitAnd ((m:Int)/2^((p:Int).toNat)) 1=(bf.has m p:Int):=by
 have h1:m=0∨m=1∨m=2∨m=3:=by lia
 have h2:p=0∨p=1:=by lia
 rcases h1 with rfl|rfl|rfl|rfl<;>rcases h2 with rfl|rfl<;>decide +kernel
theorem UH:∀xs Q,iW xs Q->Kl { nx:=λ_=>Q .cq,rt:=Q } (bB ["mask","place"] xs):=by
 rintro _ Q ⟨m,p,rfl,hm,hp,q⟩;refine⟨_,rfl,_,rfl,_,_,rfl,rfl,by show (0:Int)<=(p:Int);lia,_,_,rfl,rfl,?_⟩;have e:PV.int (Builtin.bitAnd ((m:Int)/2^((p:Int).toNat)) 1) = .int (bf.has m p):=by rw[UI hm hp]
 refine⟨trivial,?_⟩;show Q _;exact (congrArg Q e).mpr q
def nM:aQ:=λxs Q=>∃m:Nat,xs = [.int m]/\m<4/\Q (.int (bf.one m))
def Kk:aY:=c9 (q2 (fE λi j=>.int (i+j)) (aG iW (a8 (a5 0) (a8 (qC (.int 0)) aF))) (aG iW (a8 (a5 0) (a8 (qC (.int 1)) aF))))
theorem UG:∀xs Q,nM xs Q->Kk { nx:=λ_=>Q .cq,rt:=Q } (bB ["mask"] xs):=by
 rintro _ Q ⟨m,rfl,hm,q⟩;refine⟨_,rfl,m,0,rfl,hm,by decide,_,rfl,m,1,rfl,hm,by decide,_,_,rfl,rfl,?_⟩;have e:PV.int ((bf.has m 0:Int)+(bf.has m 1:Int)) = .int (bf.one m):=by unfold bf.one;rw[Int.natCast_add]
 refine⟨trivial,?_⟩;show Q _;exact (congrArg Q e).mpr q
end PP
namespace L2
open PySem PySem.Spec PyProof.Rows
section
variable {X:Cx}{ai:List (az×Obj)}{σ:St}{H:Hp}{s:ay}{a:az}{tg l e:Expr}{tl t:TE}
def M6 (t:TE):TE:=λσ H Q=>t σ H λv H1=>∃a bq,v = .ref a/\H1 a=some (.dA bq)/\∀o,Q v (upd H1 a (.dq o (.dA bq)))
theorem Kj (h:PE X e t):PE X e (M6 t):=by
 intro ai s σ H Q I hq;refine aL (h ai s σ H _ I hq) λv s1 h1=>?_
 obtain⟨x,H1,I1,r1,a,bq,ex,ea,q⟩:=h1
 obtain⟨es,ep,ys,⟨o,e1,e2,e3⟩,_⟩:=Wo I1 ea
 exact⟨x,_,I1.BJ ea rfl e1,r1,q _⟩
theorem UE {o:Obj}{bq:List (List (Int×Bool)×V)}(I:a6 X ai σ H s)(h:H a=some (.dq o (.dA bq))):∃es ep ys,o.ExactDict/\o.data = .dict es ep/\s.heap.get? a=some o/\(a==sysModules)=false/\Paired (E7 H) ys (bq.map (·.1))/\aI ys (es.toList.map (·.key)):=by
 obtain⟨e0,z,BO,xs,rel,o',es,ep,e1,e2,e3,e4,nd⟩:=(show bK X.prog X.w H s.heap a (.dq o (.dA bq)) from I.cj a _ h)
 rw[e0]at e1;cases e1;refine⟨es,ep,xs.map λq=>V.ref q.2.1,e2,e3,e0,BO,?_,?_⟩
 ·clear e4 nd h z
  induction rel with
  |nil=>exact .nil
  |cons r rs ih=>exact .cons ⟨_,rfl,r.2.1⟩ ih
 ·rw[e4]
  clear rel e4 nd
  induction xs with
  |nil=>exact .nil
  |cons q qs ih=>exact .cons rfl ih
def Ki (tl:TE):TI:=λσ H R=>tl σ H λx H1=>∃a o bq,x = .ref a/\H1 a=some (.dq o (.dA bq))/\∀ys,Paired (E7 H1) ys (bq.map (·.1))->R (Pc a o ys) H1
theorem UD (hl:PE X l tl):PI X tg l (Ki tl):=by
 intro ai s σ H R I h;refine aL (hl ai s σ H _ I h) λv s1 h1=>?_
 obtain⟨x,H1,I1,r1,a,o,bq,e,ha,q⟩:=h1
 subst e;cases r1
 obtain⟨es,ep,ys,e2,e3,e1,BO,pk,vl⟩:=UE I1 ha
 have hf:H1 s1.heap.objs.size=none:=I1.cj.fresh (da _);refine Raw.aO9 BO ⟨o,e1,e2,e3⟩ ?_;refine⟨s1.heap.objs.size,[s1.heap.objs.size],_,_,H1,rfl,I1.kept (t':=s1.toks) λb o e=>ez _ e,Yh a _ ⟨e2,e3⟩ vl,⟨_,jw _ rfl,rfl,rfl⟩,λb hb=>?_,q ys pk⟩;obtain rfl:b=s1.heap.objs.size:=by simpa using hb
 exact I1.kn (da _) hf
end
end L2
namespace PP
open PySem L2
section
variable {X:Cx}{σ:St}{H:Hp}{D:fN}{Q':VK}{te:aA}{e a b:Expr}{ta tb:aA}{tr:bV}{pos p2 p3:Pos}{R:It→Hp→Prop}
def wH (te:aA):aA:=λρ Q=>te ρ λx g=>∃ps,x = .dA ps/\g = .fr/\cb (ps.map (·.2))=true/\Q (.fA ps) .fr
theorem UC (h:LE X (wH te) σ H Q'):M6 (LE X te) σ H Q':=by
 obtain⟨W,ρ,Q,px,q,k⟩:=h
 refine⟨W,ρ,_,px,q,?_⟩;rintro v H1 x g s r ⟨ps,rfl,rfl,f,q⟩;cases r with
 |@dA a bq _ m e ek r=>
  refine⟨a,bq,rfl,e,λo=>k _ _ _ .fr (λb u hb=>?_) (.fA bE ek ((r.flat (M':=λ_=>False) f).keep (.upd e rfl λb z=>z.elim))) q⟩;have nb:b≠a:=λz=>by have m:H a=none:=m;rw[z,m]at hb;cases hb
  rw[aH nb];exact s b u hb
theorem pJ (h:QE X e te):QE X e (wH te):=cB (Kj h) λ_ _ _=>UC
def sJ (i:Nat)(te:aA):aY:=λD ρ=>te ρ λx g=>g = .fr/\((∃ps,x = .dA ps/\cb (ps.map (·.2))=true)∨∃ps,x = .dB ps/\cb (ps.map (·.2))=true)/\D.nx (ρ.set i (some (.own x)))
theorem UB {i:Nat}(h:LS X (sJ i te) D σ H):jL (LE X te) (dN i) D σ H:=by
 obtain⟨W,ρ,D',px,q,k⟩:=h
 refine⟨W,ρ,_,px,q,?_⟩;rintro v H1 x g s r ⟨rfl,o,q⟩
 obtain⟨a,rfl,m,w⟩:∃a,v = .ref a/\H a=none/\∀M',iO X.K M' H1 a x:=by
  rcases o with⟨ps,rfl,f⟩|⟨ps,rfl,f⟩
  ·cases r with
   |dA m e q r=>exact⟨_,rfl,m,λ_=>⟨_,e,q,r.flat f⟩⟩
  ·cases r with
   |dB m e q r=>exact⟨_,rfl,m,λ_=>⟨_,e,q,r.flat f⟩⟩
 exact k.nx _ _ H1 _ (Ev.own s m) (px.yl s m (w _)) q
theorem nN {i:Nat}{x:Str}(hN:X.N.Nodup)(he:QE X e te)(hi:X.N[i]? = some x:=by rfl)(hx:hZ X.env.scope x:=by first|exact Or.inl rfl|exact Or.inr rfl)(hs:swapsWith e (some (.Name x p2)) pos.line X.env=pure false:=by rfl)(hf:X.fn x=true∨X.env.scope.names.lookup x=some .local:=by first|exact .inl rfl|exact .inr rfl) :
  QS X (.Assign [.Name x p2] e pos) (sJ i te):=dQ (qD hN hi hx he hs hf) λ_ _ _=>UB
def M7 (j i:Nat):aY:=λD ρ=>∃ps,ρ[j]? = some (some (.own (.dA ps)))/\D.nx ((ρ.set j (some (.sh true (.fA ps)))).set i (some (.sh true (.fA ps))))
theorem UA {K:ad}{H0:Hp}{W:az->Prop}{ρ:bM}{i:Nat}{a:az}{o:Obj}{ps:List (List (Int×Bool)×PV)}{bq:List (List (Int×Bool)×V)}(p:PX K H0 W σ ρ H)(hi:ρ[i]? = some (some (.own (.dA ps))))(ha:σ[i]? = some (some (.ref a)))(wa:W a)(e0:H a=some (.dA bq))(r:aE K (Ms H0 (oE W a) true) (upd H a (.dq o (.dA bq))) (.ref a) (.fA ps)):PX K H0 (oE W a) σ (ρ.set i (some (.sh true (.fA ps)))) (upd H a (.dq o (.dA bq))):=by
 obtain⟨w0,_⟩:=p.wm a wa
 have kp:∀g,gH (Ms H0 W g) (Ms H0 (oE W a) g) H (upd H a (.dq o (.dA bq))):=λg=>.upd e0 rfl λb m=>⟨jP wa m,NV m⟩
 refine⟨by rw[xi];exact p.len,λb u e=>by rw[aH (λz=>by rw[z,w0]at e;cases e)];exact p.same _ _ e,λb z=>?_,λj m h=>?_,λj k y' z b h1 h2 h3 h4=>?_⟩
 ·obtain⟨h1,o2,h2,h3⟩:=p.wm b z.1
  exact⟨h1,o2,by rw[aH z.2];exact h2,h3⟩
 ·rcases iA h with⟨rfl,hl,e⟩|⟨oo,h⟩
  ·cases e
   exact⟨_,ha,r⟩
  ·obtain⟨u,e,q⟩:=p.sl j m h
   refine⟨u,e,?_⟩;cases m with
   |sh g y=>exact aE.keep (kp g) q
   |own y=>
    obtain⟨b,e1,e2,q⟩:=q
    have hb:b≠a:=λz=>by
     subst e1;rw[z]at e;exact oo (p.BP j i _ _ a h hi e ha)
    exact⟨b,e1,⟨e2,hb⟩,q.keep (kp true) λo z=>by rw[aH hb];exact z⟩
   |kp g c ks=>exact⟨⟨q.1.1.keep (.upd e0 rfl λb m=>m.elim),q.1.2⟩,q.2.upd e0 rfl⟩
 ·rcases iA h1 with⟨_,_,e⟩|⟨_,h1⟩
  ·cases e
  ·rcases iA h2 with⟨_,_,e⟩|⟨_,h2⟩
   ·cases e
   ·exact p.BP j k _ _ b h1 h2 h3 h4
theorem Uz {i j:Nat}(h:LS X (M7 j i) D σ H):jL (M6 (cZ j)) (dN i) D σ H:=by
 obtain⟨W,ρ,D',px,⟨ps,hj,q⟩,k⟩:=h
 obtain⟨v,ev,a,rfl,wa,bq,e0,ek,r⟩:=px.sl j _ hj
 refine⟨_,ev,a,bq,rfl,e0,λo=>?_⟩;have r1:aE X.K (Ms X.cz (oE W a) true) (upd H a (.dq o (.dA bq))) (.ref a) (.fA ps):=.fA bE ek (r.keep (.upd e0 rfl λb m=>⟨jP (g:=true) wa m,NV (g:=true) m⟩));exact k.nx (oE W a) _ _ _ (λb u e n _=>⟨by rw[aH (λz=>n (by rw[z];exact wa))];exact e,λz=>n z.1⟩) ((UA px hj ev wa e0 r1).nh r1) q
theorem M8 (j:Nat){i:Nat}{x y:Str}(hN:X.N.Nodup)(he:PE X (.Name y p3) (cZ j):=by exact pv _)(hi:X.N[i]? = some x:=by rfl)(hx:hZ X.env.scope x:=by first|exact Or.inl rfl|exact Or.inr rfl)(hs:swapsWith (.Name y p3) (some (.Name x p2)) pos.line X.env=pure false:=by rfl)(hf:X.fn x=true∨X.env.scope.names.lookup x=some .local:=by first|exact .inl rfl|exact .inr rfl) :
  QS X (.Assign [.Name x p2] (.Name y p3) pos) (M7 j i):=dQ (qD hN hi hx (Kj he) hs hf) λ_ _ _=>Uz
def wI (te:aA):gB:=λρ Q=>te ρ λx _=>∃ps:List (List (Int×Bool)×PV),x = .fA ps/\Q (ps.map λp=>.tup (p.1.map λq=>.tup [.int q.1,.bl q.2])) true
theorem Uy (h:LI X (wI te) σ H R):Ki (LE X te) σ H R:=by
 obtain⟨W,ρ,Q,px,q,k⟩:=h
 refine⟨W,ρ,_,px,q,?_⟩;rintro v H1 x g s r ⟨ps,rfl,q⟩;cases r with
 |@fA a o bq _ e ek r=>
  have Ag:=px.mono s;have Dq:∀{b:az}{u:HO},H1 b=some u->eQ u=false->¬W b:=λ{b u} e m z=>by
   obtain⟨_,w,e2,m2⟩:=Ag.wm b z
   rw[e]at e2;cases e2;rw[m]at m2;cases m2
  refine⟨a,o,bq,rfl,e,λys pk=>k _ _ _ _ s ?_ q⟩;have ll:=pk.length;have lk:=oH ek;rw[dt]at ll;refine⟨λW' H' i ev hi=>⟨⟨_,(ev _ _ e (Dq e rfl) rfl).1⟩,by rw[dt]at hi;lia⟩,λW' H' i v H2 ev y hi=>?_,λW' H' ev=>⟨⟨_,(ev _ _ e (Dq e rfl) rfl).1⟩,by rw[dt];lia⟩⟩
  obtain⟨rfl,y⟩:=y
  refine⟨aD.refl _,?_⟩
  obtain⟨key,uo,q2,rfl,Ro⟩:=Mh pk y
  rw[ek,ij]at uo;cases e2:ps[i]? with
  |none=>rw[e2]at uo;cases uo
  |some pp=>
   rw[e2]at uo;have e3:pp.1=key:=ip uo;refine⟨.tup (pp.1.map λq=>.tup [.int q.1,.bl q.2]),by rw[ij,e2];rfl,?_⟩;rw[e3];exact LD (Ro.keeps λb xs e=>(ev _ _ e (Dq e rfl) rfl).1)
theorem pK {tg l:Expr}(hl:QE X l te):QI X tg l (wI te):=rA (UD hl) λ_ _ _=>Uy
abbrev Kh (ta tb:aA):aA:=q2 (fE λi j=>.int (Builtin.bitOr i j)) ta tb
theorem Ux (ha:QE X a ta)(hb:QE X b tb):QE X (.BinOp a .BitOr b pos) (Kh ta tb):=gQ aH8 u9 ha hb
def wJ:List PV->(PV->Prop)->Prop:=λxs Q=>∃(a c:Int) (ns ms:ag),xs = [iR a ns,iR c ms]/\Q (if HT.b9 (c::ms) (a::ns)=true then iR c ms else iR a ns)
theorem Uw:fQ X wJ (λxs H Q=>∃x y a c ns ms,xs = [x,y]/\aE X.K (λ_=>True) H x (iR a ns)/\aE X.K (λ_=>True) H y (iR c ms)/\Q (if HT.b9 (c::ms) (a::ns)=true then y else x) H):=by
 rintro H vs xs Q Q' r ⟨a,c,ns,ms,rfl,q⟩ k
 obtain⟨v,w,rfl,r1,r2⟩:=r.two
 refine⟨v,w,a,c,ns,ms,rfl,r1,r2,k _ _ _ (aD.refl _) ?_ q⟩;split
 ·exact r2.flat (vO _ _)
 ·exact r1.flat (vO _ _)
end
open bf (a9 aX dI)
open Core (bY si)
theorem Uv {b:Bool}{x:PV}{P:Prop}(h:(Slot.sh b x).tag = .rd):P:=by cases b<;>cases h
def ki (a:a9):List (Int×Bool):=a.map λq=>((q.1:Int),q.2)
theorem M9:∀{a b:a9},ki a=ki b->a=b
 |[],[],_=>rfl
 |[],_::_,h=>by cases h
 |_::_,[],h=>by cases h
 |x::r,y::t,h=>by
  injection h with h1 h2
  injection h1 with h3 h4
  rw[M9 h2,show x=y from Prod.ext (Int.ofNat.inj h3) h4]
abbrev bG (a:a9):PV:=kS (ki a)
def gD (p:Nat×a9):PV:=.tup [.int p.1,bG p.2]
def hV (q:Nat×Bool):PV:=.tup [.int q.1,.bl q.2]
theorem sK (a:a9):jR (bG a)=some (a.map hV):=by
 show some ((ki a).map _)=_;unfold ki;rw[pq];rfl
theorem N0 (a:a9):qV (bG a)=some a.length:=by
 show some ((ki a).map _).length=_;unfold ki;rw[dt,dt]
theorem wK {a:a9}{b:Nat}(h:b<a.length):L2.oh (a.map hV) (b:Int)=some (hV (a.getD b (0,false))):=by
 refine xQ ?_;rw[ij,kg h,kz,kg h];rfl
theorem Uu {a:a9}(h:0<a.length):L2.oh (a.map hV) (-1)=some (hV (a.getD (a.length-1) (0,false))):=by
 have ne:a≠[]:=λz=>by rw[z]at h;cases h
 obtain⟨l,x,rfl⟩:∃l x,a=l++[x]:=⟨a.dropLast,a.getLast ne,(List.dropLast_concat_getLast ne).symm⟩
 rw[iz];refine (L2.aL0 (l.map hV) (hV x)).trans ?_;rw[gq];simp
theorem at2 (a:a9):cb (a.map hV)=true:=by
 induction a with
 |nil=>rfl
 |cons x r ih=>show (flat (hV x)&&cb (r.map hV))=true;rw[ih];rfl
theorem sL (a:a9):flat (bG a)=true:=by
 show cb ((ki a).map _)=true;have e:((ki a).map λq=>PV.tup [.int q.1,.bl q.2])=a.map hV:=by unfold ki;rw[pq];rfl
 rw[e];exact at2 a
theorem Kg (p:Nat×a9):flat (gD p)=true:=by
 show (flat (.int p.1)&&(flat (bG p.2)&&true))=true;rw[sL];rfl
theorem N1 (l:List (Nat×a9)):cb (l.map gD)=true:=by
 induction l with
 |nil=>rfl
 |cons x r ih=>show (flat (gD x)&&cb (r.map gD))=true;rw[ih,Kg];rfl
def pL:aQ:=λxs Q=>∃x ws,∃bh bu ah:Nat,xs = [x,.int bh,.int bu,.int ah]/\bY x ws/\aX ws/\bh<2^ws.length/\bu<2^ws.length/\ah<2^ws.length/\Q (.int (bf.bJ ws bh bu ah:Nat))
def Kf:aY:=(aP (bW 4 (a5 2))
 (aP (gC (vI (a5 0)) (lC 5 6)
  (dG (bC (zK (fG (fG (aG iW (a8 (a5 1) (a8 (a5 5) aF))) (aG iW (a8 (a5 3) (a8 (a5 5) aF)))) (aG iW (a8 (a5 2) (a8 (zJ (qC (.int 1)) (a5 5)) aF)))) (a5 6)))
   (bW 4 (Kh (a5 4) (NL (qC (.int 1)) (a5 5)))) dF))
 (oF 4)))
theorem N2 {w:ag}(o:aX w){n:Nat}(h:n<2^w.length):n<4:=by rcases bf.nL o with e|e<;>lia
theorem Ut {l p:Nat}(hl:l<4)(hp:p<2):Builtin.bitOr (l:Int) (1*2^((p:Int)).toNat)=((l ||| (1 <<< p):Nat):Int):=by
 have h1:l=0∨l=1∨l=2∨l=3:=by lia
 have h2:p=0∨p=1:=by lia
 rcases h1 with rfl|rfl|rfl|rfl<;>rcases h2 with rfl|rfl<;>decide +kernel
theorem Us {l p:Nat}(hl:l<4)(hp:p<2):l ||| (1 <<< p)<4:=by
 have h1:l=0∨l=1∨l=2∨l=3:=by lia
 have h2:p=0∨p=1:=by lia
 rcases h1 with rfl|rfl|rfl|rfl<;>rcases h2 with rfl|rfl<;>decide +kernel
theorem Ur:∀xs Q,pL xs Q->Kf { nx:=λ_=>Q .cq,rt:=Q } (bB ["wants","behind","burning","ahead","lit","place","want"] xs):=by
 rintro _ Q ⟨x,ws,bh,bu,ah,rfl,hx,ow,h1,h2,h3,q⟩;have h1:=N2 ow h1;have h2:=N2 ow h2;have h3:=N2 ow h3;refine⟨_,rfl,trivial,_,rfl,bj ws,hx.symm,Uv,λi ρ=>∃lit:Nat,∃y5 y6,ρ = [some (.sh (flat x) x),si bh,si bu,si ah,si lit,y5,y6]/\lit<4/\bf.lT ws bh bu ah i (ws.drop i) lit=bf.bJ ws bh bu ah,⟨bu,none,none,rfl,h2,rfl⟩,?_,?_⟩
 ·rintro i z ρ hz ⟨lit,y5,y6,rfl,hl,e⟩
  have hi:i<(bj ws).length:=by
   have:=(og.mp hz).1
   rwa [oW]at this
  have DK:i<ws.length:=by rwa [dt]at hi
  have hw:(bj ws)[i]? = some (.int ws[i]):=by rw[ij,kg DK];rfl
  rw[vH hw]at hz;cases hz;have p2:i<2:=by have:=ow.2;lia
  refine⟨_,_,rfl,?_⟩;have c1:((1:Int)-(i:Int))=((1-i:Nat):Int):=by lia
  refine⟨_,rfl,_,rfl,bh,i,rfl,h1,p2,_,rfl,_,rfl,ah,i,rfl,h3,p2,_,_,rfl,rfl,_,rfl,_,rfl,_,_,rfl,rfl,bu,1-i,by rw[<- c1];rfl,h2,by lia,_,_,rfl,rfl,_,rfl,_,_,rfl,rfl,_,rfl,?_⟩;have dr:ws.drop i=ws[i]::ws.drop (i+1):=List.drop_eq_getElem_cons DK;rw[dr]at e;unfold bf.lT at e;rw[if_pos (show i<=1 by lia)]at e;have ce:((bf.has bh i:Int)+(bf.has ah i:Int)+(bf.has bu (1-i):Int))=((bf.has bh i+bf.has ah i+bf.has bu (1-i):Nat):Int):=by lia
  show if decide ((bf.has bh i:Int)+(bf.has ah i:Int)+(bf.has bu (1-i):Int) >= ws[i])=true then _ else _
  rw[ce];by_cases g:((bf.has bh i+bf.has ah i+bf.has bu (1-i):Nat):Int) >= ws[i]
  ·rw[if_pos g]at e
   rw[eu g];refine cU ⟨_,rfl,_,rfl,_,_,rfl,rfl,⟨by lia,by lia,by decide⟩,_,_,rfl,rfl,trivial,?_⟩
   exact⟨lit ||| (1 <<< i),_,_,by rw[<- Ut hl p2];rfl,Us hl p2,e⟩
  ·rw[if_neg g]at e
   rw[dm g];exact bA ⟨lit,_,_,rfl,hl,e⟩
 ·rintro ρ ⟨lit,y5,y6,rfl,hl,e⟩
  have e0:ws.drop (lN (bj ws)).length = []:=List.drop_eq_nil_of_le (by rw[oW,dt];exact da _);rw[e0]at e;have e:lit=_:=e;refine⟨_,rfl,trivial,?_⟩;show Q (.int (lit:Int));rw[e];exact q
def sM:aQ:=λxs Q=>∃x ws a,∃s ah:Nat,xs = [x,bG a,.int s,.int ah]/\bY x ws/\aX ws/\dI ws a/\s<2^ws.length/\ah<2^ws.length/\Q (hV (bf.lU ws a s ah))
def Ke:aY:=(aP (bW 4 (a5 2))
 (aP (bW 5 (aG pL (a8 (a5 0) (a8 (cR (cR (a5 1) (a5 4)) (qC (.int 0))) (a8 (a5 4) (a8 (a5 3) aF))))))
 (aP (qT (bC (r6 (a5 5) (a5 4)))
  (aP (bW 4 (a5 5))
  (bW 5 (aG pL (a8 (a5 0) (a8 (cR (cR (a5 1) (a5 4)) (qC (.int 0))) (a8 (a5 4) (a8 (a5 3) aF))))))))
 (aP (bW 6 (zJ (aG d4 (a8 (a5 1) aF)) (qC (.int 1))))
 (c9 (eS (a8 (a5 4) (a8 (uC (qZ (a5 4) (a5 6)) (cR (cR (a5 1) (a5 6)) (qC (.int 1)))) aF))))))))
theorem Kc {w:ag}{a:a9}(h:dI w a){b:Nat}(hb:b<2^w.length):(a.getD b (0,false)).1<2^w.length:=by
 rw[<- h.1]at hb;rw[kz,kg hb];exact h.2 _ (AW hb)
theorem Uq:∀xs Q,sM xs Q->Ke { nx:=λ_=>Q .cq,rt:=Q } (bB ["wants","answer","seeds","ahead","burning","more","whole"] xs):=by
 rintro _ Q ⟨x,ws,a,s,ah,rfl,hx,ow,wf,h1,h2,q⟩;have wl:=wf.1;refine⟨_,rfl,trivial,?_⟩;refine⟨_,rfl,_,rfl,_,rfl,_,_,_,sK a,rfl,wK (by rw[wl];exact h1),_,_,_,rfl,rfl,rfl,_,rfl,_,rfl,x,ws,(a.getD s (0,false)).1,s,ah,rfl,hx,ow,Kc wf h1,h1,h2,trivial,?_⟩;have fa:flat (bG a)=true:=sL a;refine⟨λm ρ=>∃b:Nat,ρ = [some (.sh (flat x) x),some (.sh (flat (bG a)) (bG a)),si s,si ah,si b,si (bf.bJ ws (a.getD b (0,false)).1 b ah),none]/\b<2^ws.length/\ws.length+1<=m+bf.one b/\bf.hI ws a ah m b=bf.hI ws a ah (ws.length+1) s,⟨ws.length+1,s,rfl,h1,by lia,rfl⟩,?_⟩;rintro m ρ ⟨b,rfl,hb,hm,e⟩
 obtain⟨k1,k2,k3⟩:=bf.pE ow (a.getD b (0,false)).1 ah hb
 have mp:0<m:=by lia
 refine⟨_,rfl,_,rfl,.inl ⟨_,_,rfl,rfl,_,rfl,?_⟩⟩;by_cases g:bf.bJ ws (a.getD b (0,false)).1 b ah=b
 ·rw[show (if true=true then !decide (((bf.bJ ws (a.getD b (0,false)).1 b ah:Nat):Int)=(b:Int)) else decide (((bf.bJ ws (a.getD b (0,false)).1 b ah:Nat):Int)=(b:Int)))=false by rw[if_pos rfl,g,eu rfl];rfl]
  rw[bf.L1 mp g]at e;refine bA ?_;have w0:0<a.length:=by rw[wl];exact xx _
  have c1:((a.length:Int)-1)=((a.length-1:Nat):Int):=by lia
  refine⟨_,rfl,_,_,rfl,N0 a,_,_,rfl,rfl,trivial,?_⟩;have es:bf.lU ws a s ah=(b,b==a.length-1&&(a.getD (a.length-1) (0,false)).2):=by unfold bf.lU;rw[<- e]
  rw[es]at q;refine⟨_,rfl,_,rfl,_,rfl,.inl ⟨_,_,rfl,rfl,_,rfl,?_⟩⟩;show if (if false=true then !decide ((b:Int)=(a.length:Int)-1) else decide ((b:Int)=(a.length:Int)-1))=true then _ else _
  rw[if_neg gu,c1];by_cases d:b=a.length-1
  ·rw[eu (show ((b:Nat):Int)=((a.length-1:Nat):Int) by rw[d])]
   refine cU ⟨_,rfl,_,rfl,_,_,_,sK a,by show PV.int ((a.length:Int)-1)=_;rw[c1],wK (by lia),_,_,_,rfl,rfl,rfl,by show 2<=1000;decide,rfl,trivial,?_⟩;rw[show (b==a.length-1&&(a.getD (a.length-1) (0,false)).2)=(a.getD (a.length-1) (0,false)).2 by rw[d];simp]at q;exact q
  ·rw[dm (show ¬((b:Nat):Int)=((a.length-1:Nat):Int) by lia)]
   refine bA ⟨by show 2<=1000;decide,rfl,trivial,?_⟩;rw[show (b==a.length-1&&(a.getD (a.length-1) (0,false)).2)=false by rw[show (b==a.length-1)=false by simpa using d];rfl]at q;exact q
 ·rw[show (if true=true then !decide (((bf.bJ ws (a.getD b (0,false)).1 b ah:Nat):Int)=(b:Int)) else decide (((bf.bJ ws (a.getD b (0,false)).1 b ah:Nat):Int)=(b:Int)))=true by rw[if_pos rfl,dm (λz=>g (Int.natCast_inj.mp z))];rfl]
  obtain⟨m',rfl⟩:=Nat.exists_eq_succ_of_ne_zero (uv mp)
  rw[show m'.succ=m'+1 from rfl,bf.L3 g]at e;have k2:=k2.resolve_left g;refine cU ⟨_,rfl,trivial,?_⟩;refine⟨_,rfl,_,rfl,_,rfl,_,_,_,sK a,rfl,wK (by rw[wl];exact k1),_,_,_,rfl,rfl,rfl,_,rfl,_,rfl,x,ws,(a.getD (bf.bJ ws (a.getD b (0,false)).1 b ah) (0,false)).1,_,ah,rfl,hx,ow,Kc wf k1,k1,h2,trivial,?_⟩
  exact⟨m',Nat.lt_succ_self _,_,rfl,k1,by lia,e⟩
def sN:aQ:=λxs Q=>∃x ws a,∃s:Nat,xs = [x,bG a,.int s]/\bY x ws/\aX ws/\dI ws a/\s<2^ws.length/\Q (bG (bf.next ws a s))
def Kb:aY:=(c9 (aG r9 (a8 (gL (j7 (aG d4 (a8 (a5 1) aF))) [none,some 0,some 1,some 2] (d8 0) gM (aG sM (a8 (a5 1) (a8 (a5 2) (a8 (a5 3) (a8 (a5 0) aF)))))) aF)))
theorem Uo (a:a9):bG a = .tup (a.map hV):=by
 show PV.tup ((ki a).map _)=_;unfold ki;rw[pq];rfl
theorem Um:∀xs Q,sN xs Q->Kb { nx:=λ_=>Q .cq,rt:=Q } (bB ["wants","answer","seeds"] xs):=by
 rintro _ Q ⟨x,ws,a,s,rfl,hx,ow,wf,h1,q⟩;have wl:=wf.1;have al:a.length<=4:=by rcases bf.nL ow with e|e<;>lia
 refine⟨_,rfl,_,_,rfl,N0 a,_,rfl,by lia,by lia,by rw[dP];lia,λi acc=>acc=((List.range i).map (bf.lU ws a s)).map hV,rfl,?_,?_⟩
 ·rintro i z acc hz rfl
  have hi:i<a.length:=by
   have:=(og.mp hz).1
   rw[dP]at this;lia
  rw[qX (by lia)]at hz;cases hz;refine⟨_,rfl,_,rfl,_,rfl,_,rfl,x,ws,a,s,i,by rw[Int.zero_add];rfl,hx,ow,wf,h1,by lia,trivial,?_⟩;dsimp only;rw[AO,iz,iz];rfl
 rintro acc rfl;have e:(iQ 0 ((a.length:Int)).toNat).length=a.length:=by rw[dP];exact mz _
 rw[e];refine⟨⟨_,_,rfl,rfl,at2 _,?_⟩,λns z=>by cases z⟩;refine⟨trivial,?_⟩
 have:=Uo (bf.next ws a s)
 rw[this]at q;exact q
open bf (a9 aX dI Closed pF)
open Core (bY si)
section
variable {β:Type}
def dR (r:β->PV)(ps:List (a9×β)):List (List (Int×Bool)×PV):=ps.map λp=>(ki p.1,r p.2)
theorem Ka (a k:a9):decide (ki a=ki k)=decide (a=k):=decide_eq_decide.mpr ⟨M9,λe=>by rw[e]⟩
theorem kA (r:β->PV)(k:a9):∀ps:List (a9×β),eI (dR r ps) (ki k)=(bf.bQ ps k).map r
 |[]=>rfl
 |p::ps=>by
  have ih:=kA r k ps;unfold eI dR bf.bQ at ih ⊢;rw[gg,qt,qt,Ka];cases decide (p.1=k) with
  |true=>rfl
  |false=>exact ih
theorem Ul (r:β->PV)(k:a9)(ps:List (a9×β)):((dR r ps).any λp=>decide (p.1=ki k))=ps.any λp=>decide (p.1=k):=by
 unfold dR;rw[List.any_map];congr 1
 funext p
 exact Ka p.1 k
theorem N3 (r:β->PV)(k:a9)(x:β)(ps:List (a9×β)):gN (dR r ps) (ki k) (r x)=dR r (bf.eL ps k x):=by
 unfold gN bf.eL;rw[Ul];cases ps.any λp=>decide (p.1=k) with
 |true=>
  rw[if_pos rfl,if_pos rfl];unfold dR;rw[pq,pq];refine va λp _=>?_
  show (if ki p.1=ki k then (ki p.1,r x) else (ki p.1,r p.2))=_;by_cases e:p.1=k
  ·rw[if_pos (by rw[e])]
   show _=(ki (if p.1=k then (p.1,x) else p).1,r (if p.1=k then (p.1,x) else p).2);rw[if_pos e]
  ·rw[if_neg (λz=>e (M9 z))]
   show _=(ki (if p.1=k then (p.1,x) else p).1,r (if p.1=k then (p.1,x) else p).2);rw[if_neg e]
 |false=>
  rw[if_neg gu,if_neg gu];unfold dR;rw[iz];rfl
theorem wL (r:β->PV)(ps:List (a9×β)):(dR r ps).length=ps.length:=dt _
end
def rF (l:List (Nat×a9)):PV:=.fL (l.map gD)
def dJ (ws:ag)(Ks:List a9):List (a9×List (Nat×a9)):=Ks.map λa=>(a,bf.after ws a)
theorem wM {ws:ag}{k:a9}:∀{Ks:List a9},bf.bQ (dJ ws Ks) k=if k∈Ks then some (bf.after ws k) else none
 |[]=>rfl
 |a::r=>by
  have ih:=wM (ws:=ws) (k:=k) (Ks:=r);unfold bf.bQ dJ at ih ⊢;rw[gg,qt];by_cases e:a=k
  ·subst e
   rw[show decide (a=a)=true from eu rfl,if_pos dv];rfl
  ·rw[show decide ((a,bf.after ws a).1=k)=false from dm e]
   refine ih.trans ?_;by_cases m:k∈r
   ·rw[if_pos m,if_pos (gc _ m)]
   ·rw[if_neg m,if_neg (λz=>(eg.mp z).elim (λz=>e z.symm) m)]
theorem Uk {ws:ag}{k:a9}{Ks:List a9}(h:k∉Ks):bf.eL (dJ ws Ks) k (bf.after ws k)=dJ ws (Ks++[k]):=by
 have e:((dJ ws Ks).any λp=>decide (p.1=k))=false:=by
  rw[Av];intro z
  obtain⟨p,hp,z⟩:=BY.mp z
  obtain⟨a,ha,rfl⟩:=gs.mp hp
  exact h ((zh z:a=k)▸ha)
 unfold bf.eL;rw[e,if_neg gu];unfold dJ;rw[iz];rfl
def nO:aQ:=λxs Q=>∃x ws,xs = [x,bG (bf.aZ ws)]/\bY x ws/\aX ws/\(∃S,Closed ws S)/\∀Ks,pF ws Ks->Q (.dA (dR rF (dJ ws Ks)))
def JZ:aY:=(aP (sJ 2 (qC (.dA [])))
 (aP (lA 3 (jO (a8 (a5 1) aF)))
 (aP (qT (kM (a5 3))
  (aP (zA 3 4)
  (dG (bC (p9 true (a5 4) (a5 2))) (aP (bW 5 (gL (j7 (aG d4 (a8 (a5 4) aF))) [none,some 0,some 4] (d8 0) gM (eS (a8 (a5 0) (a8 (aG sN (a8 (a5 1) (a8 (a5 2) (a8 (a5 0) aF)))) aF)))))
   (aP (G7 2 (a5 4) (p6 (gL (jS (a5 5)) [none] (d8 0) (kM (cR (cR (cR (a5 0) (qC (.int 1))) (zH (qC (.int 1)))) (qC (.int 1)))) (a5 0))))
   (uG 3 (gL (jS (jD (a5 2) (a5 4))) [none,none] (lC 0 1) gM (a5 1))))) dF)))
 (oF 2))))
def jH (ws:ag)(a:a9):List (Nat×a9):=(List.range a.length).map λs=>(s,bf.next ws a s)
theorem Uj:∀xs Q,nO xs Q->JZ { nx:=λ_=>Q .cq,rt:=Q } (bB ["wants","begin","following","waiting","answer","pairs"] xs):=by
 rintro _ Q ⟨x,ws,rfl,hx,ow,⟨S,cl⟩,q⟩;have fb:flat (bG (bf.aZ ws))=true:=sL _;refine⟨rfl,.inl ⟨[],rfl,rfl⟩,?_⟩;have f1:cb [bG (bf.aZ ws)]=true:=by show (flat (bG (bf.aZ ws))&&true)=true;rw[fb];rfl
 refine⟨_,rfl,by show 1<=1000;decide,f1,rfl,f1,?_⟩
 refine⟨λm ρ=>∃Ks wl y4 y5,ρ = [some (.sh (flat x) x),some (.sh (flat (bG (bf.aZ ws))) (bG (bf.aZ ws))),some (.own (.dA (dR rF (dJ ws Ks)))),some (.own (.lst (wl.map bG))),y4,y5]/\Ks.Nodup/\(∀a∈Ks,a∈S/\dI ws a)/\(∀a∈wl,a∈S/\dI ws a)/\
  (bf.aZ ws∈Ks∨bf.aZ ws∈wl)/\(∀a∈Ks,∀p∈bf.after ws a,p.2∈Ks∨p.2∈wl)/\m=5*(S.length-Ks.length)+wl.length/\wl.length<=4*Ks.length+1,⟨_,[],[bf.aZ ws],none,none,rfl,xw,λ_ h=>(nomatch h),λa h=>by rw[eh.mp h];exact⟨cl.b,bf.lV ow⟩,.inr dv,λ_ h=>(nomatch h),rfl,by show 1<=1;decide⟩,?_⟩
 rintro m ρ ⟨Ks,wl,y4,y5,rfl,nd,k1,k2,k3,k4,rfl,Hk⟩;have kl:=bf.w5 nd λa h=>(k1 a h).1
 have sl:=cl.len;refine⟨_,rfl,_,rfl,?_⟩;dsimp only;rcases List.eq_nil_or_concat wl with rfl|⟨ye,a,rfl⟩
 ·refine bA ?_
  have g:pF ws Ks:=⟨⟨k3.resolve_right (λz=>by cases z),λa ha p hp=>(k4 a ha p hp).resolve_right (λz=>by cases z),by lia⟩,nd,λa ha=>(k1 a ha).2⟩
  exact⟨_,rfl,trivial,q Ks g⟩
 rw[List.concat_eq_append]at k2 k3 k4 Hk ⊢
 obtain⟨aS,aW⟩:=k2 a (ny _ dv)
 have al:a.length<=4:=by have:=aW.1;rcases bf.nL ow with e|e<;>lia
 have a0:0<a.length:=by rw[aW.1];exact xx _
 have ne:(!((ye++[a]).map bG).isEmpty)=true:=by
  cases ye<;>rfl
 show if (!((ye++[a]).map bG).isEmpty)=true then _ else _
 rw[ne];have Dy:∀b∈ye,b∈S/\dI ws b:=λb hb=>k2 b (uc _ hb)
 have Bq:(ye++[a]).length=ye.length+1:=by rw[gq];rfl
 rw[Bq]at Hk;refine cU ⟨ye.map bG,bG a,by rw[iz];rfl,?_⟩;refine⟨_,rfl,_,rfl,(bf.bQ (dJ ws Ks) a).map rF,.inl ⟨dR rF (dJ ws Ks),ki a,rfl,rfl,(kA rF a _).symm⟩,_,rfl,?_⟩;dsimp only;rw[if_pos rfl,wM];by_cases hk:a∈Ks
 ·rw[if_pos hk]
  refine bA ⟨_,by rw[Bq];lia,Ks,ye,_,_,rfl,nd,k1,Dy,?_,λb hb p hp=>?_,rfl,by lia⟩
  ·rcases k3 with z|z
   ·exact .inl z
   ·rcases jk.mp z with z|z
    ·exact .inr z
    ·rw[eh.mp z];exact .inl hk
  ·rcases k4 b hb p hp with z|z
   ·exact .inl z
   ·rcases jk.mp z with z|z
    ·exact .inr z
    ·rw[eh.mp z];exact .inl hk
 rw[if_neg hk];have HK:(Ks++[a]).Nodup:=List.nodup_append.mpr ⟨nd,qu.mpr ⟨(λz=>by cases z),xw⟩,λb hb c hc e=>hk (by rw[<- eh.mp hc,<- e];exact hb)⟩;have kl2:(Ks++[a]).length<=S.length:=bf.w5 HK λb hb=>by
  rcases jk.mp hb with z|z
  ·exact (k1 b z).1
  ·rw[eh.mp z];exact aS
 have Dv:(Ks++[a]).length=Ks.length+1:=by rw[gq];rfl
 refine cU ⟨_,rfl,_,_,rfl,N0 a,_,rfl,by lia,by lia,by rw[dP];lia,λi acc=>acc=((List.range i).map λs=>(s,bf.next ws a s)).map gD,rfl,?_,?_⟩
 ·rintro i z acc hz rfl
  have hi:i<a.length:=by
   have:=(og.mp hz).1
   rw[dP]at this;lia
  rw[qX (by lia)]at hz;cases hz;refine⟨_,rfl,_,rfl,_,rfl,_,rfl,x,ws,a,i,by rw[Int.zero_add];rfl,hx,ow,aW,by rw[<- aW.1];exact hi,by show 2<=1000;decide,?_,trivial,?_⟩
  ·show (flat (.int _)&&(flat (bG (bf.next ws a i))&&true))=true
   rw[sL];rfl
  ·dsimp only
   rw[AO,iz,iz];congr 1;show [PV.tup [PV.int (0+(i:Int)),bG (bf.next ws a i)]] = [PV.tup [PV.int (i:Int),bG (bf.next ws a i)]];rw[Int.zero_add]
 rintro acc rfl;have e:(iQ 0 ((a.length:Int)).toNat).length=a.length:=by rw[dP];exact mz _
 rw[e];refine⟨trivial,?_⟩;have pl:(jH ws a).length<=4:=by unfold jH;rw[dt,zg];exact al
 refine⟨_,rfl,_,rfl,(λz=>by cases z),by show ((jH ws a).map gD).length<=_;rw[dt];lia,λi acc=>acc=(((jH ws a).take i).filter λp=>bf.kept p.2).map gD,rfl,?_,?_⟩
 ·rintro i z acc hz rfl
  have hz:((jH ws a).map gD)[i]? = some z:=hz;rw[ij]at hz;cases hp:(jH ws a)[i]? with
  |none=>rw[hp]at hz;cases hz
  |some p=>
   rw[hp]at hz;cases hz;have tk:(jH ws a).take (i+1)=(jH ws a).take i++[p]:=by rw[vq,hp];rfl
   obtain⟨s,hs,rfl⟩:=gs.mp (sr hp)
   have hs:=uz.mp hs;have nw:dI ws (bf.next ws a s):=bf.vZ ow aW (by rw[<- aW.1];exact hs);have n0:0<(bf.next ws a s).length:=by rw[nw.1];exact xx _
   refine⟨_,rfl,_,_,_,rfl,rfl,rfl,_,rfl,_,_,_,sK _,rfl,Uu n0,_,_,_,rfl,rfl,rfl,_,rfl,?_⟩;dsimp only;have ek:(bf.next ws a s).getD ((bf.next ws a s).length-1) (0,false)=(bf.next ws a s).getD ((bf.next ws a s).length-1) (0,false):=rfl;show if bf.kept (bf.next ws a s)=true then _ else _
   rw[tk,tu];cases Ip:bf.kept (bf.next ws a s) with
   |true=>
    refine cU ⟨_,rfl,?_,?_⟩
    ·show Nw (Slot.sh (false||flat (gD (s,bf.next ws a s))) _).tag _
     rw[Kg];trivial
    ·have fc:[(s,bf.next ws a s)].filter (λp=>bf.kept p.2) = [(s,bf.next ws a s)]:=by
      show (match bf.kept (bf.next ws a s) with|true=>_|false=>_)=_;rw[Ip];rfl
     rw[iz,fc];rfl
   |false=>
    refine bA ?_;have fc:[(s,bf.next ws a s)].filter (λp=>bf.kept p.2) = []:=by
     show (match bf.kept (bf.next ws a s) with|true=>_|false=>_)=_;rw[Ip];rfl
    rw[fc,nv]
 rintro acc rfl;have ea:((jH ws a).take ((jH ws a).map gD).length).filter (λp=>bf.kept p.2)=bf.after ws a:=by
  rw[dt,xj];rfl
 have ea:((jH ws a).take (((List.range a.length).map λs=>(s,bf.next ws a s)).map gD).length).filter (λp=>bf.kept p.2)=bf.after ws a:=ea;rw[ea];refine⟨_,rfl,rfl,N1 _,_,rfl,_,rfl,ki a,rfl,trivial,by rw[wL];unfold dJ;rw[dt];lia,?_⟩;have ep:gN (dR rF (dJ ws Ks)) (ki a) (.fL ((bf.after ws a).map gD))=dR rF (dJ ws (Ks++[a])):=(N3 rF a (bf.after ws a) _).trans (by rw[Uk hk]);rw[ep];have af:=bf.UR ws a;have hg:eI (dR rF (dJ ws (Ks++[a]))) (ki a)=some (rF (bf.after ws a)):=by rw[kA,wM,if_pos (ny _ dv)];rfl
 refine⟨_,rfl,_,rfl,_,rfl,rF (bf.after ws a),.inl ⟨_,ki a,rfl,rfl,hg.symm⟩,_,rfl,(λz=>N1 _),by rw[dt];lia,λi acc=>acc=((bf.after ws a).take i).map λp=>bG p.2,rfl,?_,?_⟩
 ·rintro i z acc hz rfl
  rw[ij]at hz;cases hp:(bf.after ws a)[i]? with
  |none=>rw[hp]at hz;cases hz
  |some p=>
   rw[hp]at hz;cases hz;refine⟨_,_,rfl,_,rfl,?_,?_⟩
   ·show Nw (Slot.sh (false||flat (bG p.2)) _).tag _
    rw[sL];trivial
   ·dsimp only
    rw[vq,hp,iz];rfl
 rintro acc rfl;have et:(bf.after ws a).take ((bf.after ws a).map gD).length=bf.after ws a:=by rw[dt,xj]
 rw[et];refine⟨_,.inr rfl,.inl trivial,by rw[dt,dt];lia,?_⟩;have ew:ye.map bG++((bf.after ws a).map λp=>bG p.2)=(ye++(bf.after ws a).map λp=>p.2).map bG:=by rw[iz,pq];rfl
 rw[ew];refine⟨_,?_,Ks++[a],ye++(bf.after ws a).map λp=>p.2,_,_,rfl,HK,λb hb=>?_,λb hb=>?_,?_,λb hb p hp=>?_,rfl,?_⟩
 ·rw[Bq,Dv,gq,dt];lia
 ·rcases jk.mp hb with z|z
  ·exact k1 b z
  ·rw[eh.mp z];exact⟨aS,aW⟩
 ·rcases jk.mp hb with z|z
  ·exact Dy b z
  ·obtain⟨p,hp,rfl⟩:=gs.mp z
   exact⟨cl.go a aS p hp,bf.L5 ow aW hp⟩
 ·rcases k3 with z|z
  ·exact .inl (uc _ z)
  ·rcases jk.mp z with z|z
   ·exact .inr (uc _ z)
   ·rw[eh.mp z];exact .inl (ny _ dv)
 ·rcases jk.mp hb with z|z
  ·rcases k4 b z p hp with z|z
   ·exact .inl (uc _ z)
   ·rcases jk.mp z with z|z
    ·exact .inr (uc _ z)
    ·rw[eh.mp z];exact .inl (ny _ dv)
  ·rw[eh.mp z]at hp
   exact .inr (ny _ (gs.mpr ⟨p,hp,rfl⟩))
 ·rw[Dv,gq,dt];lia
open bf (a9 aX dI Closed pF)
open Core (bY si)
section
variable {β:Type}
structure Kd (Ks:List a9)(Bd:β->Prop)(ps:List (a9×β)):Prop where
 nd:(ps.map (·.1)).Nodup
 mem:∀p∈ps,p.1∈Ks/\Bd p.2
theorem JY {ps:List (a9×β)}{k:a9}{b:β}(h:bf.bQ ps k=some b):(k,b)∈ps:=by
 unfold bf.bQ at h;cases e:ps.find? λp=>decide (p.1=k) with
 |none=>rw[e]at h;cases h
 |some p=>
  rw[e]at h;have h1:p.2=b:=ip h;have h2:=List.find?_some e;have h2:p.1=k:=by simpa using h2
  have:=CY e
  rw[<- h1,<- h2];exact this
theorem JX {ps:List (a9×β)}{p:a9×β}(n:(ps.map (·.1)).Nodup)(h:p∈ps):bf.bQ ps p.1=some p.2:=by
 induction ps with
 |nil=>cases h
 |cons q r ih=>
  rw[gg,qu]at n;unfold bf.bQ at ih ⊢;rw[qt];rcases eg.mp h with rfl|h
  ·rw[eu rfl];rfl
  ·rw[dm (λe:q.1=p.1=>n.1 (by rw[e];exact CM h))]
   exact ih n.2 h
variable {Ks:List a9}{Bd:β→Prop}{ps:List (a9×β)}{J:β→β→β}{k:a9}{z:β}
theorem Kd.put (h:Kd Ks Bd ps)(hk:k∈Ks)(hz:Bd z):Kd Ks Bd (bf.eL ps k z):=by
 refine⟨bf.Ld h.nd,λp hp=>?_⟩;unfold bf.eL at hp;split at hp
 ·obtain⟨q,hq,rfl⟩:=gs.mp hp
  by_cases e:q.1=k
  ·rw[if_pos e];exact⟨(h.mem q hq).1,hz⟩
  ·rw[if_neg e];exact h.mem q hq
 ·rcases jk.mp hp with hp|hp
  ·exact h.mem p hp
  ·rw[eh.mp hp];exact⟨hk,hz⟩
theorem Kd.join (hJ:∀a b,Bd a->Bd b->Bd (J a b))(h:Kd Ks Bd ps)(hk:k∈Ks)(hz:Bd z):Kd Ks Bd (bf.cS J ps k z):=by
 unfold bf.cS;refine h.put hk ?_;cases e:bf.bQ ps k with
 |none=>exact hz
 |some w=>exact hJ _ _ (h.mem _ (JY e)).2 hz
theorem Kd.len (h:Kd Ks Bd ps):ps.length<=Ks.length:=by
 rw[<- dt (·.1)];exact bf.w5 h.nd λx hx=>by obtain⟨p,hp,rfl⟩:=gs.mp hx;exact (h.mem p hp).1
open Classical in
noncomputable def iG (r:β->PV)(J:β->β->β)(w z:PV):PV:=if h:(∃a,r a=w)/\∃b,r b=z then r (J h.1.choose h.2.choose) else .cq
theorem wN {r:β->PV}(inj:∀{a b},r a=r b->a=b)(a b:β):iG r J (r a) (r b)=r (J a b):=by
 have h:(∃x,r x=r a)/\∃y,r y=r b:=⟨⟨a,rfl⟩,b,rfl⟩
 unfold iG;rw[dif_pos h,inj h.1.choose_spec,inj h.2.choose_spec]
def fM (r:β->PV)(x:PV):Prop:=∃b,r b=x
theorem Ui {r:β->PV}(inj:∀{a b},r a=r b->a=b):gN (dR r ps) (ki k) (jn (iG r J) (dR r ps) (ki k) (r z))=dR r (bf.cS J ps k z):=by
 unfold jn bf.cS;rw[kA];cases bf.bQ ps k with
 |none=>exact N3 r k z ps
 |some w=>
  show gN (dR r ps) (ki k) (iG r J (r w) (r z))=_;rw[wN inj];exact N3 r k _ ps
def eB (r:β->PV):Option β->List (Int×PV)
 |none=>[]
 |some v=>[(1,r v)]
theorem Uh {r:β->PV}(inj:∀{a b},r a=r b->a=b)(o:Option β):gN (eB r o) 1 (jn (iG r J) (eB r o) 1 (r z))=eB r (bf.fX J o z):=by
 cases o with
 |none=>rfl
 |some w=>
  have e:jn (iG r J) (eB r (some w)) 1 (r z)=iG r J (r w) (r z):=rfl;rw[e,wN inj];rfl
end
abbrev nQ (tab:List (b7×aQ)):aA:=vV 3 tab (a8 (jD (a5 0) (a5 1)) (a8 (a5 2) aF))
theorem JW {β:Type}{r:β->PV}{J:β->β->β}{l:b7}{p:aQ}{tab:List (b7×aQ)}(inj:∀{a b},r a=r b->a=b)(fl:∀b,flat (r b)=true)(hm:(l,p)∈tab)(hp:∀a b (Q:PV->Prop),Q (r (J a b))->p [r a,r b] Q) :
  ∀d y w z,kT d y (some w)->fM r w->fM r z->nQ tab (bB ["values","key","value","joined"] [d,y,z,.lm l]) λv _=>v=iG r J w z/\flat v=true:=by
 rintro d y _ _ ak ⟨a,rfl⟩ ⟨b,rfl⟩;refine⟨_,l,p,rfl,hm,?_⟩;refine⟨_,rfl,_,rfl,r a,ak,_,rfl,?_⟩;refine hp a b _ ⟨(wN inj a b).symm,fl _⟩
def wO {β:Type}(r:β->PV)(first:β)(aV:β->Nat->β)(J:β->β->β)(gP gJ:PV):aQ:=λxs Q=>∃x ws,∃n:Nat,∃v,xs = [x,.int n,r first,gP,gJ]/\bY x ws/\aX ws/\(∃S,Closed ws S)/\n<=300/\bf.eM J (bf.bD ws aV J first n)=some v/\Q (r v)
def sO (tc:aA)(gJ:PV)(Ok:PV->Prop)(JV:PV->PV->PV):aY:=aP (bW 5 (Yb (eS (a8 (eS (a8 (qC (.int 0)) (a8 (qC (.bl true)) aF))) aF)) (NL (qC (.int 1)) (aG d4 (a8 (a5 0) aF)))))
 (aP (bW 6 (wH (aG nO (a8 (a5 0) (a8 (a5 5) aF)))))
 (aP (bW 7 (wH (G8 (a5 5) (a5 2))))
 (aP (gC (j7 (a5 1)) (d8 8)
  (aP (sJ 9 (qC (.dA [])))
  (aP (gC (wI (a5 7)) (d8 10)
   (gC (jS (jD (a5 6) (a5 10))) (lC 11 12)
    (J1 9 gJ Ok JV (a5 12) tc (a5 4))))
  (M7 9 7))))
 (aP (sJ 13 (qC (.dB [])))
 (aP (gC (wI (a5 7)) (d8 10)
  (dG (kM (cR (cR (a5 10) (qC (.int 0))) (qC (.int 1)))) (J2 13 gJ Ok JV (qC (.bl true)) (jD (a5 7) (a5 10)) (a5 4)) dF))
 (c9 (jD (a5 13) (qC (.bl true)))))))))
theorem Ug {ws:ag}(o:aX ws):PV.tup (List.replicate ((1:Int)*2^((ws.length:Int)).toNat).toNat [PV.tup [PV.int 0,PV.bl true]]).flatten=bG (bf.aZ ws):=by
 rcases o.two with⟨a,rfl⟩|⟨a,b,rfl⟩<;>rfl
def JU {β:Type}(r:β->PV)(first:β)(aV:β->Nat->β)(J:β->β->β)(gP gJ:PV)(c:Nat):aQ:=λxs Q=>∃x ws,∃n:Nat,∃v,xs = [x,.int n,r first,gP,gJ]/\bY x ws/\aX ws/\(∃S,Closed ws S)/\ws.length=c/\n<=300/\bf.eM J (bf.bD ws aV J first n)=some v/\Q (r v)
theorem Kd.BN {β:Type}{Ks:List a9}{J:β->β->β}{ws:ag}{aV:β->Nat->β}{De:β->Prop}(hJ:∀a b,De a->De b->De (J a b)){v:β}{a:a9}(hp:∀s,s<a.length->De (aV v s))(go:∀q∈bf.after ws a,q.2∈Ks):∀(m:Nat) {l:List (a9×β)},Kd Ks De l->Kd Ks De (((bf.after ws a).take m).foldl (λl q=>bf.cS J l q.2 (aV v q.1)) l):=by
 intro m l h
 have:∀q∈(bf.after ws a).take m,q∈bf.after ws a:=λq hq=>CP hq
 generalize (bf.after ws a).take m=qs at this
 induction qs generalizing l with
 |nil=>exact h
 |cons q r ih=>
  have hq:=this q dv;exact ih (h.join hJ (go q hq) (hp _ (bf.w4 hq).1)) λx hx=>this x (gc _ hx)
theorem JT {β:Type}{r:β->PV}{first:β}{aV:β->Nat->β}{J:β->β->β}{gP gJ:PV}{tc:aA}{c:Nat}{Ok:PV->Prop}(Bd:Nat->β->Prop)(hO:∀i v,i<=300->Bd i v->Ok (r v))(inj:∀{a b},r a=r b->a=b)(fl:∀b,flat (r b)=true)(h0:Bd 0 first)(hJ:∀i a b,Bd i a->Bd i b->Bd i (J a b))(hP:∀i v s,Bd i v->s<2^c->Bd (i+1) (aV v s))(FN:∀(ρ:bM) (Q:PK) ps k b (s i:Nat),(∃g,ρ[3]? = some (some (.sh g gP)))->(∃g,ρ[7]? = some (some (.sh g (.fA (dR r ps)))))->(∃g,ρ[10]? = some (some (.sh g (bG k))))->(∃g,ρ[11]? = some (some (.sh g (.int s))))->
   bf.bQ ps k=some b->Bd i b->i<=300->s<2^c->Q (r (aV b s)) .fr->tc ρ Q) :
  ∀xs Q,JU r first aV J gP gJ c xs Q->sO tc gJ Ok (iG r J) { nx:=λ_=>Q .cq,rt:=Q } (bB ["wants","length","first","passed","joined","begin","following","values","turn","later","answer","seeds","behind","ends"] xs):=by
 rintro _ Q ⟨x,ws,n,v,rfl,hx,ow,cl,Ir,hn,hv,q⟩;have wl:ws.length=1∨ws.length=2:=by have:=ow.1;have:=ow.2;lia
 have hl:qV x=some ws.length:=hx.len;refine⟨by decide,rfl,by decide,rfl,_,rfl,x,ws.length,rfl,hl,_,_,rfl,rfl,⟨by lia,by lia,by decide⟩,[.tup [.int 0,.bl true]],_,rfl,rfl,rfl,by simp,?_,?_,by decide,trivial,?_⟩
 ·rcases wl with e|e<;>rw[e]<;>decide
 ·rcases wl with e|e<;>rw[e]<;>decide
 rw[Ug ow];refine⟨_,rfl,_,rfl,x,ws,rfl,hx,ow,cl,λKs gd=>?_⟩;have fF:cb ((dR rF (dJ ws Ks)).map (·.2))=true:=by
  unfold dR dJ;rw[pq,pq];generalize Ks=L
  induction L with
  |nil=>rfl
  |cons a t ih=>show (flat (rF (bf.after ws a))&&_)=true;rw[show flat (rF (bf.after ws a))=true from N1 _];exact ih
 refine⟨dR rF (dJ ws Ks),rfl,rfl,fF,trivial,?_⟩;refine⟨_,rfl,_,rfl,fl first,ki (bf.aZ ws),rfl,[(ki (bf.aZ ws),r first)],rfl,rfl,?_,trivial,?_⟩
 ·show (flat (r first)&&true)=true
  rw[fl];rfl
 have kl:Ks.length<=5000:=gd.len
 let vw:Nat->List (a9×β):=λi=>bf.bD ws aV J first i
 have al:∀a∈Ks,a.length<=4:=λa ha=>by have:=(gd.wf a ha).1;rcases bf.nL ow with e|e<;>lia
 have kd:∀i,Kd Ks (Bd i) (vw i):=λi=>by
  induction i with
  |zero=>exact⟨qu.mpr ⟨(λz=>by cases z),xw⟩,λp hp=>by rw[eh.mp hp];exact⟨gd.b,h0⟩⟩
  |succ i ih=>
   show Kd Ks (Bd (i+1)) ((vw i).foldl (bf.eY ws aV J) [])
   have:∀p∈vw i,p.1∈Ks/\Bd i p.2:=ih.mem
   have go:∀{qs:List (a9×β)}{l:List (a9×β)},(∀p∈qs,p.1∈Ks/\Bd i p.2)->Kd Ks (Bd (i+1)) l->Kd Ks (Bd (i+1)) (qs.foldl (bf.eY ws aV J) l):=by
    intro qs
    induction qs with
    |nil=>exact λ_ h=>h
    |cons p t Fv=>
     intro l hq h
     obtain⟨hk,hb⟩:=hq p dv
     refine Fv (λx hx=>hq x (gc _ hx)) ?_
     have:=Kd.BN (ws:=ws) (aV:=aV) (v:=p.2) (hJ (i+1)) (λs hs=>hP i p.2 s hb (by rw[<- Ir,<- (gd.wf _ hk).1];exact hs)) (gd.go p.1 hk) (bf.after ws p.1).length h
     rwa [xj]at this
   exact go this ⟨xw,λ_ z=>by cases z⟩
 refine⟨_,rfl,(n:Int),rfl,by lia,by lia,λi ρ=>∃y8 y9 xo vd vc,ρ = [some (.sh (flat x) x),si n,some (.sh (flat (r first)) (r first)),some (.sh (flat gP) gP),some (.sh (flat gJ) gJ),some (.sh true (bG (bf.aZ ws))),some (.sh true (.fA (dR rF (dJ ws Ks)))),some (.sh true (.fA (dR r (vw i)))),y8,y9,xo,vd,vc,none],⟨_,_,_,_,_,rfl⟩,?_,?_⟩
 ·rintro i z ρ hz ⟨y8,y9,xo,vd,vc,rfl⟩
  have hi:i<n:=by
   have:=(og.mp hz).1
   rw[dP]at this;lia
  refine⟨rfl,.inl ⟨[],rfl,rfl⟩,?_⟩;refine⟨_,rfl,dR r (vw i),rfl,λj ρ=>∃y8 xo vd vc,ρ = [some (.sh (flat x) x),si n,some (.sh (flat (r first)) (r first)),some (.sh (flat gP) gP),some (.sh (flat gJ) gJ),some (.sh true (bG (bf.aZ ws))),some (.sh true (.fA (dR rF (dJ ws Ks)))),some (.sh true (.fA (dR r (vw i)))),y8,some (.own (.dA (dR r (((vw i).take j).foldl (bf.eY ws aV J) [])))),xo,vd,vc,none]/\Kd Ks (Bd (i+1)) (((vw i).take j).foldl (bf.eY ws aV J) []),⟨_,_,_,_,rfl,⟨xw,λ_ z=>by cases z⟩⟩,?_,?_⟩
  ·rintro j z2 ρ wj ⟨y8,xo,vd,vc,rfl,hk⟩
   unfold dR at wj;rw[pq,ij]at wj;cases hp:(vw i)[j]? with
   |none=>rw[hp]at wj;cases wj
   |some p=>
    rw[hp]at wj;cases wj;have pm:p∈vw i:=sr hp
    obtain⟨pk,pb⟩:=(kd i).mem p pm
    have tk:(vw i).take (j+1)=(vw i).take j++[p]:=by rw[vq,hp];rfl
    have Fd:=JX (kd i).nd pm;have fv:eI (dR rF (dJ ws Ks)) (ki p.1)=some (rF (bf.after ws p.1)):=by rw[kA,wM,if_pos pk];rfl
    refine⟨_,rfl,_,rfl,rF (bf.after ws p.1),.inl ⟨_,ki p.1,rfl,rfl,fv.symm⟩,_,rfl,(λz=>by cases z),λm ρ=>∃vd vc,ρ = [some (.sh (flat x) x),si n,some (.sh (flat (r first)) (r first)),some (.sh (flat gP) gP),some (.sh (flat gJ) gJ),some (.sh true (bG (bf.aZ ws))),some (.sh true (.fA (dR rF (dJ ws Ks)))),some (.sh true (.fA (dR r (vw i)))),y8,some (.own (.dA (dR r (((bf.after ws p.1).take m).foldl (λl q=>bf.cS J l q.2 (aV p.2 q.1)) (((vw i).take j).foldl (bf.eY ws aV J) []))))),some (.sh true (bG p.1)),vd,vc,none]/\Kd Ks (Bd (i+1)) (((bf.after ws p.1).take m).foldl (λl q=>bf.cS J l q.2 (aV p.2 q.1)) (((vw i).take j).foldl (bf.eY ws aV J) [])),⟨_,_,rfl,hk⟩,?_,?_⟩
    ·rintro m z3 ρ Bu ⟨vd,vc,rfl,CB⟩
     have Bu:((bf.after ws p.1).map gD)[m]? = some z3:=Bu;rw[ij]at Bu;cases hq:(bf.after ws p.1)[m]? with
     |none=>rw[hq]at Bu;cases Bu
     |some u=>
      rw[hq]at Bu;cases Bu;have um:=sr hq;have us:=(bf.w4 um).1;have u2:u.1<2^c:=by rw[<- Ir,<- (gd.wf _ pk).1];exact us
      have Hq:(bf.after ws p.1).take (m+1)=(bf.after ws p.1).take m++[u]:=by rw[vq,hq];rfl
      refine⟨_,_,rfl,_,rfl,_,rfl,?_⟩;refine FN _ _ (vw i) p.1 p.2 u.1 i ⟨_,rfl⟩ ⟨_,rfl⟩ ⟨_,rfl⟩ ⟨_,rfl⟩ Fd pb (by lia) u2 ?_;refine⟨_,rfl,ki u.2,rfl,rfl,fl _,hO (i+1) _ (by lia) (hP i p.2 u.1 pb u2),λw hw=>?_,by rw[wL];have:=CB.len;lia,?_⟩
      ·rw[kA]at hw
       cases e:bf.bQ _ u.2 with
       |none=>rw[e]at hw;cases hw
       |some b=>rw[e]at hw;cases hw;exact hO (i+1) b (by lia) (CB.mem _ (JY e)).2
      ·refine⟨some (.sh true (.int u.1)),some (.sh true (bG u.2)),?_,?_⟩
       rotate_left
       ·rw[Hq,zx]
        exact CB.join (hJ (i+1)) (gd.go p.1 pk u um) (hP i p.2 u.1 pb u2)
       ·rw[Ui inj,Hq,zx];rfl
    ·rintro ρ ⟨vd,vc,rfl,CB⟩
     have e:((bf.after ws p.1).take ((bf.after ws p.1).map gD).length)=bf.after ws p.1:=by rw[dt,xj]
     rw[e]at CB ⊢;refine⟨y8,some (.sh true (bG p.1)),vd,vc,?_,?_⟩
     rotate_left
     ·rw[tk,zx];exact CB
     ·rw[tk,zx];rfl
  ·rintro ρ ⟨y8,xo,vd,vc,rfl,hk⟩
   have e:(vw i).take ((dR r (vw i)).map λp=>PV.tup (p.1.map λq=>.tup [.int q.1,.bl q.2])).length=vw i:=by rw[dt,wL,xj]
   rw[e]
   exact⟨_,rfl,y8,_,xo,vd,vc,rfl⟩
 rintro ρ ⟨y8,y9,xo,vd,vc,rfl⟩;have e:(iQ 0 ((n:Int)).toNat).length=n:=by rw[dP];exact mz _
 rw[e];refine⟨rfl,.inr ⟨[],rfl,rfl⟩,?_⟩;refine⟨_,rfl,dR r (vw n),rfl,λj ρ=>∃xo,ρ = [some (.sh (flat x) x),si n,some (.sh (flat (r first)) (r first)),some (.sh (flat gP) gP),some (.sh (flat gJ) gJ),some (.sh true (bG (bf.aZ ws))),some (.sh true (.fA (dR rF (dJ ws Ks)))),some (.sh true (.fA (dR r (vw n)))),y8,y9,xo,vd,vc,some (.own (.dB (eB r ((((vw n).take j).filter λp=>bf.lit p.1).foldl (λacc p=>bf.fX J acc p.2) none))))]/\∀b,(((vw n).take j).filter λp=>bf.lit p.1).foldl (λacc p=>bf.fX J acc p.2) none=some b->Bd n b,⟨_,rfl,λb z=>nomatch z⟩,?_,?_⟩
 ·rintro j z2 ρ wj ⟨xo,rfl,ab⟩
  unfold dR at wj;rw[pq,ij]at wj;cases hp:(vw n)[j]? with
  |none=>rw[hp]at wj;cases wj
  |some p=>
   rw[hp]at wj;cases wj;have pm:p∈vw n:=sr hp
   obtain⟨pk,pb⟩:=(kd n).mem p pm
   have tk:(vw n).take (j+1)=(vw n).take j++[p]:=by rw[vq,hp];rfl
   have Fd:=JX (kd n).nd pm;have a0:0<p.1.length:=by rw[(gd.wf _ pk).1];exact xx _
   refine⟨_,rfl,_,_,_,sK _,rfl,wK (b:=0) a0,_,_,_,rfl,rfl,rfl,_,rfl,?_⟩;show if bf.lit p.1=true then _ else _
   cases qe:bf.lit p.1 with
   |true=>
    refine cU ⟨_,rfl,_,rfl,_,rfl,r p.2,.inl ⟨_,ki p.1,rfl,rfl,by rw[kA,Fd];rfl⟩,_,rfl,1,.inr ⟨true,rfl,rfl⟩,rfl,fl _,hO n p.2 hn pb,λw hw=>?_,?_,some (.sh true (bG p.1)),?_,?_⟩
    ·generalize ((((vw n).take j).filter λp=>bf.lit p.1).foldl (λacc p=>bf.fX J acc p.2) none)=o at hw ab
     cases o with
     |none=>cases hw
     |some b=>cases hw;exact hO n b hn (ab b rfl)
    ·generalize ((((vw n).take j).filter λp=>bf.lit p.1).foldl (λacc p=>bf.fX J acc p.2) none)=o
     cases o with
     |none=>show 0<16000000;decide
     |some b=>show 1<16000000;decide
    ·have fc:[p].filter (λp=>bf.lit p.1) = [p]:=by
      show (match bf.lit p.1 with|true=>_|false=>_)=_;rw[qe];rfl
     rw[tk,tu,zx,fc,Uh inj];rfl
    ·intro b hb
     have fc:[p].filter (λp=>bf.lit p.1) = [p]:=by
      show (match bf.lit p.1 with|true=>_|false=>_)=_;rw[qe];rfl
     rw[tk,tu,zx,fc]at hb;generalize ((((vw n).take j).filter λp=>bf.lit p.1).foldl (λacc p=>bf.fX J acc p.2) none)=o at hb ab;cases o with
     |none=>cases hb;exact pb
     |some w=>cases hb;exact hJ n _ _ (ab w rfl) pb
   |false=>
    refine bA ⟨some (.sh true (bG p.1)),?_,?_⟩
    rotate_left
    ·intro b hb
     have fc:[p].filter (λp=>bf.lit p.1) = []:=by
      show (match bf.lit p.1 with|true=>_|false=>_)=_;rw[qe];rfl
     rw[tk,tu,zx,fc]at hb;exact ab b hb
    have fc:[p].filter (λp=>bf.lit p.1) = []:=by
     show (match bf.lit p.1 with|true=>_|false=>_)=_;rw[qe];rfl
    rw[tk,tu,zx,fc];rfl
 rintro ρ ⟨xo,rfl,_⟩;have e:(vw n).take ((dR r (vw n)).map λp=>PV.tup (p.1.map λq=>.tup [.int q.1,.bl q.2])).length=vw n:=by rw[dt,wL,xj]
 rw[e];have ee:((vw n).filter λp=>bf.lit p.1).foldl (λacc p=>bf.fX J acc p.2) none=some v:=hv;rw[ee]
 exact⟨_,rfl,r v,.inr ⟨_,1,rfl,.inr ⟨true,rfl,rfl⟩,rfl⟩,fl v,q⟩
theorem JS {β:Type}{r:β->PV}{first:β}{aV:β->Nat->β}{J:β->β->β}{gP gJ:PV}{tc:aA}(Bd:Nat->β->Prop)(inj:∀{a b},r a=r b->a=b)(fl:∀b,flat (r b)=true)(h0:Bd 0 first)(hJ:∀i a b,Bd i a->Bd i b->Bd i (J a b))(hP:∀i v s,Bd i v->s<4->Bd (i+1) (aV v s))(FN:∀(ρ:bM) (Q:PK) ps k b (s i:Nat),(∃g,ρ[3]? = some (some (.sh g gP)))->(∃g,ρ[7]? = some (some (.sh g (.fA (dR r ps)))))->(∃g,ρ[10]? = some (some (.sh g (bG k))))->(∃g,ρ[11]? = some (some (.sh g (.int s))))->
   bf.bQ ps k=some b->Bd i b->i<=300->s<4->Q (r (aV b s)) .fr->tc ρ Q) :
  ∀xs Q,wO r first aV J gP gJ xs Q->sO tc gJ (fM r) (iG r J) { nx:=λ_=>Q .cq,rt:=Q } (bB ["wants","length","first","passed","joined","begin","following","values","turn","later","answer","seeds","behind","ends"] xs):=by
 rintro xs Q ⟨x,ws,n,v,e,hx,ow,cl,hn,hv,q⟩;have l4:∀s:Nat,s<2^ws.length->s<4:=λs hs=>by rcases bf.nL ow with z|z<;>lia
 exact JT (c:=ws.length) (Ok:=fM r) Bd (λi v _ _=>⟨v,rfl⟩) inj fl h0 hJ (λi v s hb hs=>hP i v s hb (l4 s hs)) (λρ Q ps k b s i h3 h7 Gy Gx hv hb hi hs q=>FN ρ Q ps k b s i h3 h7 Gy Gx hv hb hi (l4 s hs) q) xs Q ⟨x,ws,n,v,e,hx,ow,cl,rfl,hn,hv,q⟩
end PP
namespace L2
open PySem PyProof.Rows
theorem JR {a c:Int}{ns ms:ag}:(HT.b9 (c::ms) (a::ns)=true->c<=a)/\(HT.b9 (c::ms) (a::ns)=false->a<=c):=by
 rw[HT.jN];by_cases e:c=a
 ·rw[if_pos e,e];exact⟨λ_=>xu _,λ_=>xu _⟩
 ·rw[if_neg e]
  exact⟨λh=>Int.le_of_lt (zh h),λh=>Int.not_lt.mp (Ca h)⟩
end L2
namespace PP
open PySem L2 PyProof.Rows PySem.Spec
section
variable {P:ba}{w:bd}{K:ad}{mg:Str→Option ax}{base:Heap}{T:List (az×Str)}
theorem Ue {k:Nat}{x:Str}{ps N:List Str}{p:aQ}{st:Stmt}{f:az}{fd:FuncData}(F:bF K x x st f fd)(S:bx N ps (aJ st))(len:∀xs Q,p xs Q->xs.length=ps.length)(body:∀(cm:ax) (A:bc) (outer:List Env) (s:ay) (H:Hp) (E:XK),bL k (A.deeper (envOfC x (aJ st) s.heap.objs.size f cm))->gU T H->
   ∃t,gO (eF c7 P w K mg base N x (aJ st) f cm A outer s H E).sv (cF st) t/\∀xs Q,p xs Q->t { nx:=λ_=>Q .cq,rt:=Q } (bB N xs)):d7 P w K mg base c7 (k+1) f fd ps (lS K T p):=by
 refine F.ok S (λvs H Q E h=>?_) (λcm A outer s H vs Q E hr h=>?_)
 ·obtain⟨_,xs,Qp,r,q,_⟩:=h
  rw[r.length];exact len xs Qp q
 ·obtain⟨hT,xs,Qp,r,q,k⟩:=h
  obtain⟨t,ht,hq⟩:=body cm A outer s H E hr hT
  refine⟨_,ht,λ_=>False,bB N xs,_,lI r,hq xs Qp q,?_,?_,?_,?_⟩
  ·exact λW' cn H' fk e px q=>k _ _ _ px.same .cq q
  ·exact λv H' x s r q=>k _ _ _ s r q
  ·exact λW' cn H' fk e px q=>q
  ·exact λW' cn H' fk e px q=>q
theorem cW.Fg {k:Nat}{x:Str}{ps N:List Str}{p:aQ}{st:Stmt}{f c0:az}{oc:ax}{od an:Option az}{qd:Array (Option ax)}{kV doc pm ct:ax}(l:K.lookup f=some ⟨oc,od,.func (PySem.W.fnOf x x (dE st) (cF st) (aJ st) .none kV doc pm an (.ref c0) ct),qd⟩)(c:PySem.W.codeIn K (.ref c0) x=true)(kp:PySem.W.keepIn K (.ref f)=true)(m:mg x=some (.ref f))(S:bx N ps (aJ st))(hb:∀(kV doc pm:ax) (an:Option az) (cm ct:ax) (us:List ax),us.length=ps.length->bindArgs (PySem.W.fnOf x x (dE st) (cF st) (aJ st) .none kV doc pm an cm ct) ⟨us,[]⟩=pure (ps.zip us))(len:∀xs Q,p xs Q->xs.length=ps.length)(body:∀(A:bc) (outer:List Env) (s:ay) (H:Hp) (E:XK),bL k (A.deeper (envOfC x (aJ st) s.heap.objs.size f (.ref c0)))->gU T H->
   ∃t,gO (eF c7 P w K mg base N x (aJ st) f (.ref c0) A outer s H E).sv (cF st) t/\∀xs Q,p xs Q->t { nx:=λ_=>Q .cq,rt:=Q } (bB N xs)):cW P w K mg base T (k+1) x ps p:=by
 refine⟨f,_,W6 l c S (λvs H Q E h=>?_) (λA outer s H vs Q E hr h=>?_),(yF l c kp).binds hb,kp,m⟩
 ·obtain⟨_,xs,Qp,r,q,_⟩:=h
  rw[r.length];exact len xs Qp q
 ·obtain⟨hT,xs,Qp,r,q,k⟩:=h
  obtain⟨t,ht,hq⟩:=body A outer s H E hr hT
  refine⟨_,eN.sv ht,λ_=>False,bB N xs,_,lI r,hq xs Qp q,?_,?_,?_,?_⟩
  ·exact λW' cn H' fk e px q=>k _ _ _ px.same .cq q
  ·exact λv H' x s r q=>k _ _ _ s r q
  ·exact λW' cn H' fk e px q=>q
  ·exact λW' cn H' fk e px q=>q
def wP (K:ad)(T:List (az×Str)):Sp:=λvs H Q E=>gU T H/\XH K vs H Q E
theorem Ud {k:Nat}{f:az}{fd:FuncData}(F:d7 P w K mg base c7 k f fd ["script"] (lS K T Core.vF)):d7 P w K mg base c7 k f fd ["script"] (wP K T):=
 F.imp λvs H Q E h=>by
  obtain⟨hT,a,ns,rfl,hs,hl,q⟩:=h
  refine⟨hT,[.mn ns],λz=>z = .bl true,.cons (.mn hs) .nil,⟨ns,rfl,hl,rfl⟩,?_⟩;rintro v H' x _ r rfl;cases r;exact q H'
theorem N4 {f c:az}{x:Str}{st:Stmt}{oc kV doc pm ct:ax}{od an:Option az}{qd:Array (Option ax)}(l:K.lookup f=some ⟨oc,od,.func (PySem.W.fnOf x x (dE st) (cF st) (aJ st) .none kV doc pm an (.ref c) ct),qd⟩) :
  ∃oc od kV doc pm an ct qd,K.lookup f=some ⟨oc,od,.func (PySem.W.fnOf x x (dE st) (cF st) (aJ st) .none kV doc pm an (.ref c) ct),qd⟩:=⟨_,_,_,_,_,_,_,_,l⟩
theorem Uc {a b:az}(h:(a==b)=false):a≠b:=λe=>by rw[e]at h;simp at h
end
def Ub:Expr->Arguments
 |.Lambda a _ _ _=>a
 |_=>{ posonlyargs:=[],args:=[],vararg:=none,kwonlyargs:=[],kw_defaults:=[],kwarg:=none,defaults:=[] }
def Ua:Expr->Expr
 |.Lambda _ b _ _=>b
 |e=>e
def JQ:Expr->Scope
 |.Lambda _ _ s _=>s
 |_=>{ kind:=.function,names:=[],isGenerator:=false,isCoroutine:=false }
def JO (q:Str)(e:Expr)(cl:List (Str×az)):b7:=⟨q,Ub e,Ua e,JQ e,cl⟩
abbrev N5 (q:Str)(e:Expr):b7:=JO q e []
def sP (st:Stmt)(j:Nat):Expr:=match (cF st).getLast? with
 |some (.Return (some (.Call _ es _ _)) _)=>es.getD j (.Name "" ⟨0,0,0,0⟩)
 |_=>.Name "" ⟨0,0,0,0⟩
open bf (a9 aX dI Closed pF)
open Core (bY si dH)
def sQ:aQ:=λxs Q=>∃x y,xs = [x,y]/\flat x=true/\Q x
def pM:aQ:=λxs Q=>∃a b:Int,xs = [.int a,.int b]/\Q (.int (a+b))
def pN:aQ:=wJ
theorem TZ:∀xs Q,sQ xs Q->a5 0 (bB ["many","seeds"] xs) λx _=>flat x=true/\Q x:=by
 rintro _ Q ⟨x,y,rfl,f,q⟩
 exact⟨_,rfl,f,q⟩
theorem TY:∀xs Q,pM xs Q->fG (a5 0) (a5 1) (bB ["one","other"] xs) λx _=>flat x=true/\Q x:=by
 rintro _ Q ⟨a,b,rfl,q⟩
 exact⟨_,rfl,_,rfl,_,_,rfl,rfl,rfl,q⟩
theorem TX:∀xs Q,pN xs Q->aG wJ (a8 (a5 0) (a8 (a5 1) aF)) (bB ["one","other"] xs) λx _=>flat x=true/\Q x:=by
 rintro _ Q ⟨a,c,ns,ms,rfl,q⟩;refine⟨_,rfl,_,rfl,a,c,ns,ms,rfl,?_,q⟩;split<;>exact vO _ _
theorem JM {β:Type}{r:β->PV}{first:β}{aV:β->Nat->β}{J:β->β->β}{gP gJ:PV}:∀xs Q,wO r first aV J gP gJ xs Q->xs.length=5:=by rintro _ Q ⟨_,_,_,_,rfl,_⟩;rfl
theorem TV:∀xs Q,sQ xs Q->xs.length=2:=by rintro _ Q ⟨x,y,rfl,_⟩;rfl
theorem TU:∀xs Q,pM xs Q->xs.length=2:=by rintro _ Q ⟨x,y,rfl,_⟩;rfl
theorem TR:∀xs Q,pN xs Q->xs.length=2:=by rintro _ Q ⟨a,c,ns,ms,rfl,_⟩;rfl
abbrev rN (v:Nat):PV:=.int v
theorem JK:∀{a b:Nat},rN a=rN b->a=b:=λh=>Int.ofNat.inj (PV.int.inj h)
abbrev wQ (l1 l2:b7):aQ:=wO rN 1 (λv _=>v) (λa b=>a+b) (.lm l1) (.lm l2)
abbrev TQ (l1:b7):List (b7×aQ):=[(l1,sQ)]
abbrev N6 (l2:b7):List (b7×aQ):=[(l2,pM)]
abbrev PH (l1:b7):aA:=vV 3 (TQ l1) (a8 (jD (a5 7) (a5 10)) (a8 (a5 11) aF))
noncomputable abbrev JN:PV->PV->PV:=iG rN λa b=>a+b
noncomputable abbrev JJ (l1 l2:b7):aY:=sO (PH l1) (.lm l2) (fM rN) JN
theorem JI (l2:b7):∀d y w z,kT d y (some w)->fM rN w->fM rN z->nQ (N6 l2) (bB ["values","key","value","joined"] [d,y,z,.lm l2]) λv _=>v=JN w z/\flat v=true:=
 JW JK (λ_=>rfl) dv λa b Q q=>⟨a,b,rfl,by rw[<- Int.natCast_add];exact q⟩
theorem TN (l1 l2:b7):∀xs Q,wQ l1 l2 xs Q->JJ l1 l2 { nx:=λ_=>Q .cq,rt:=Q } (bB ["wants","length","first","passed","joined","begin","following","values","turn","later","answer","seeds","behind","ends"] xs):=
 JS (λ_ _=>True) JK (λ_=>rfl) trivial (λ_ _ _ _ _=>trivial) (λ_ _ _ _ _=>trivial) λρ Q ps k b s i ⟨_,e3⟩ ⟨_,e7⟩ ⟨_,DY⟩ ⟨_,DX⟩ hv _ _ _ q=>
  ⟨_,l1,_,e3,dv,_,e7,_,DY,rN b,.inl ⟨_,ki k,rfl,rfl,by rw[kA,hv];rfl⟩,_,DX,_,_,rfl,rfl,q⟩
def pO:aQ:=λxs Q=>∃x ws,∃n v:Nat,xs = [x,.int n]/\bY x ws/\dH ws/\(∃S,Closed ws S)/\n<=300/\bf.eM (λa b=>a+b) (bf.bD ws (λv _=>v) (λa b=>a+b) 1 n)=some v/\Q (.int v)
def JH (l1 l2:b7):aY:=(aP (jQ (aG (Core.vP λ_=>False) (a8 (a5 0) (a8 (a5 1) aF))))
 (aP (jQ (aG (Core.vQ λ_=>False) (a8 (a5 1) (a8 (qC (.int 300)) aF))))
 (c9 (aG (wQ l1 l2) (a8 (a5 0) (a8 (a5 1) (a8 (qC (.int 1)) (a8 (pB l1) (a8 (pB l2) aF)))))))))
theorem lW {ws:ag}(h:dH ws):aX ws:=⟨List.length_pos_iff.mpr h.1,h.2.1⟩
theorem TM (l1 l2:b7):∀xs Q,pO xs Q->JH l1 l2 { nx:=λ_=>Q .cq,rt:=Q } (bB ["wants","length"] xs):=by
 rintro _ Q ⟨x,ws,n,v,rfl,hx,ok,cl,hn,hv,q⟩;refine⟨_,rfl,_,rfl,x,ws,n,rfl,hx,λ_ _=>?_,λz=>z ⟨ok,by lia⟩⟩;refine⟨_,rfl,n,300,rfl,λ_=>?_,λz=>by lia⟩
 exact⟨_,rfl,_,rfl,x,ws,n,v,rfl,hx,lW ok,cl,hn,hv,trivial,q⟩
def rP (v:bf.PR):PV:=iR v.1 (v.2.map Int.ofNat)
theorem JG:∀{a b:bf.PR},rP a=rP b->a=b:=by
 rintro⟨a,l⟩ ⟨b,m⟩ h
 injection h with h
 injection h with h1 h2
 injection h2 with h2 _
 injection h2 with h2
 have e1:a=b:=Int.ofNat.inj (PV.int.inj h1);subst e1;have e2:∀{l m:List Nat},bj (l.map Int.ofNat)=bj (m.map Int.ofNat)->l=m:=by
  intro l
  induction l with
  |nil=>intro m h;cases m with
   |nil=>rfl
   |cons=>cases h
  |cons x r ih=>intro m h;cases m with
   |nil=>cases h
   |cons y t=>
    injection h with h1 h2
    rw[ih h2,show x=y from Int.ofNat.inj (PV.int.inj h1)]
 have h3:l=m:=e2 h2;rw[h3]
theorem N7 (v:bf.PR):flat (rP v)=true:=vO _ _
def JP (x y:bf.PR):bf.PR:=if HT.b9 ((y.1:Int)::y.2.map Int.ofNat) ((x.1:Int)::x.2.map Int.ofNat)=true then y else x
theorem sR:bf.k9 JP:=by
 refine⟨λx y=>?_,λx y=>?_,λx y=>?_⟩
 ·unfold JP;split
  ·exact .inr rfl
  ·exact .inl rfl
 ·unfold JP;split
  ·rename_i h;have:=JR.1 h;lia
  ·exact da _
 ·unfold JP;split
  ·exact da _
  ·rename_i h;have:=JR.2 (Av.mpr h);lia
abbrev wR (l:b7):aQ:=wO rP (0,[]) bf.aV JP (.fn "with_slice") (.lm l)
def sS:aQ:=λxs Q=>∃v:bf.PR,∃s:Nat,xs = [rP v,.int s]/\v.2.length<=300/\s<4/\Q (rP (bf.aV v s))
def JF:aY:=(c9 (eS (a8 (fG (cR (a5 0) (qC (.int 0))) (aG nM (a8 (a5 1) aF))) (a8 (C4 (cR (a5 0) (qC (.int 1))) (eS (a8 (a5 1) aF))) aF))))
theorem TL:∀xs Q,sS xs Q->JF { nx:=λ_=>Q .cq,rt:=Q } (bB ["pair","seeds"] xs):=by
 rintro _ Q ⟨v,s,rfl,hl,hs,q⟩;have fi:cb (bj (v.2.map Int.ofNat))=true:=gI _;have e:PV.tup [.int ((v.1:Int)+(bf.one s:Int)),.tup (bj (v.2.map Int.ofNat)++[.int (s:Int)])]=rP (bf.aV v s):=by
  show _=PV.tup [.int ((v.1+bf.one s:Nat):Int),.tup (bj ((v.2++[s]).map Int.ofNat))];rw[Int.natCast_add,iz,show bj (v.2.map Int.ofNat++[s].map Int.ofNat)=bj (v.2.map Int.ofNat)++bj ([s].map Int.ofNat) from iz ..];rfl
 have ll:(bj (v.2.map Int.ofNat)).length=v.2.length:=by rw[Core.cL,dt]
 refine⟨_,rfl,_,_,_,rfl,rfl,rfl,_,rfl,s,rfl,hs,_,_,rfl,rfl,_,rfl,_,_,_,rfl,rfl,rfl,_,rfl,by show 1<=1000;decide,rfl,_,_,rfl,rfl,fi,rfl,by rw[ll];show v.2.length+1<=16000000;lia,by show 2<=1000;decide,?_,trivial,?_⟩
 ·have:=N7 (bf.aV v s)
  rw[<- e]at this;exact this
 ·exact (congrArg Q e).mpr q
abbrev TJ:List (Str×aQ):=[("with_slice",sS)]
abbrev N8 (l:b7):List (b7×aQ):=[(l,pN)]
abbrev PF:aA:=J5 3 TJ (a8 (jD (a5 7) (a5 10)) (a8 (a5 11) aF))
noncomputable abbrev pP:PV->PV->PV:=iG rP JP
noncomputable abbrev JE (l:b7):aY:=sO PF (.lm l) (fM rP) pP
theorem JD (l:b7):∀d y w z,kT d y (some w)->fM rP w->fM rP z->nQ (N8 l) (bB ["values","key","value","joined"] [d,y,z,.lm l]) λv _=>v=pP w z/\flat v=true:=
 JW JG N7 dv λa b Q q=>⟨a.1,b.1,a.2.map Int.ofNat,b.2.map Int.ofNat,rfl,by
  unfold JP at q;split
  ·rename_i h;rw[if_pos h]at q;exact q
  ·rename_i h;rw[if_neg h]at q;exact q⟩
theorem TH (l:b7):∀xs Q,wR l xs Q->JE l { nx:=λ_=>Q .cq,rt:=Q } (bB ["wants","length","first","passed","joined","begin","following","values","turn","later","answer","seeds","behind","ends"] xs):=
 JS (λi v=>v.2.length=i) JG N7 rfl (λi a b ha hb=>by rcases sR.or a b with e|e<;>rw[e]<;>assumption) (λi v s h _=>by show (v.2++[s]).length=_;rw[gq,h];rfl) λρ Q ps k b s i ⟨_,e3⟩ ⟨_,e7⟩ ⟨_,DY⟩ ⟨_,DX⟩ hv hb hi hs q=>
  ⟨_,_,_,e3,dv,_,e7,_,DY,rP b,.inl ⟨_,ki k,rfl,rfl,by rw[kA,hv];rfl⟩,_,DX,b,s,rfl,by lia,hs,q⟩
def nR:aQ:=λxs Q=>∃x ws,∃n:Nat,∃v,xs = [x,.int n]/\bY x ws/\aX ws/\(∃S,Closed ws S)/\n<=300/\bf.eM JP (bf.bD ws bf.aV JP (0,[]) n)=some v/\Q (rP v)
def JC (l:b7):aY:=(c9 (aG (wR l) (a8 (a5 0) (a8 (a5 1) (a8 (eS (a8 (qC (.int 0)) (a8 (eS aF) aF))) (a8 (qC (.fn "with_slice")) (a8 (pB l) aF)))))))
theorem TF (l:b7):∀xs Q,nR xs Q->JC l { nx:=λ_=>Q .cq,rt:=Q } (bB ["wants","length"] xs):=by
 rintro _ Q ⟨x,ws,n,v,rfl,hx,ok,cl,hn,hv,q⟩
 exact⟨_,rfl,_,rfl,lh _,rfl,by show 2<=1000;decide,rfl,x,ws,n,v,rfl,hx,ok,cl,hn,hv,trivial,q⟩
def sT:aQ:=λxs Q=>∃x ws,∃n:Nat,∃v:bf.PR,xs = [x,.int n]/\bY x ws/\dH ws/\(∃S,Closed ws S)/\n<=300/\bf.eM JP (bf.bD ws bf.aV JP (0,[]) n)=some v/\Q (.int v.1)
def JB:aY:=(aP (jQ (aG (Core.vP λ_=>False) (a8 (a5 0) (a8 (a5 1) aF))))
 (aP (jQ (aG (Core.vQ λ_=>False) (a8 (a5 1) (a8 (qC (.int 300)) aF))))
 (c9 (cR (aG nR (a8 (a5 0) (a8 (a5 1) aF))) (qC (.int 0))))))
theorem TC:∀xs Q,sT xs Q->JB { nx:=λ_=>Q .cq,rt:=Q } (bB ["wants","length"] xs):=by
 rintro _ Q ⟨x,ws,n,v,rfl,hx,ok,cl,hn,hv,q⟩;refine⟨_,rfl,_,rfl,x,ws,n,rfl,hx,λ_ _=>?_,λz=>z ⟨ok,by lia⟩⟩;refine⟨_,rfl,n,300,rfl,λ_=>?_,λz=>by lia⟩
 exact⟨_,rfl,_,rfl,x,ws,n,v,rfl,hx,lW ok,cl,hn,hv,_,_,_,rfl,rfl,rfl,trivial,q⟩
end PP
namespace bf
def nT (M:Nat):List (Nat×Bool):=(List.range M).flatMap λb=>[(b,false),(b,true)]
theorem TB (M:Nat):(nT M).length=2*M:=by
 unfold nT
 induction M with
 |zero=>rfl
 |succ M ih=>rw[AO,List.flatMap_append,gq,ih];show 2*M+2=_;lia
theorem Tz {M:Nat}{q:Nat×Bool}(h:q.1<M):q∈nT M:=by
 unfold nT;refine AU.mpr ⟨q.1,uz.mpr h,?_⟩
 obtain⟨b,t⟩:=q
 cases t
 ·exact dv
 ·exact gc _ dv
def nU (M:Nat):Nat->List a9
 |0=>[[]]
 |m+1=>(nT M).flatMap λq=>(nU M m).map λr=>q::r
theorem JA (M:Nat):∀m,(nU M m).length=(2*M)^m
 |0=>rfl
 |m+1=>by
  have ih:=JA M m;show ((nT M).flatMap λq=>(nU M m).map λr=>q::r).length=_;have go:∀l:List (Nat×Bool),(l.flatMap λq=>(nU M m).map λr=>q::r).length=l.length*(2*M)^m:=λl=>by
   induction l with
   |nil=>rw[List.length_nil,Nat.zero_mul];rfl
   |cons x r Fu=>rw[List.flatMap_cons,gq,Fu,dt,ih,sj,Nat.add_mul,Nat.one_mul,Nat.add_comm]
  rw[go,TB,Nat.pow_succ,vo]
theorem N9 {M:Nat}:∀{m:Nat}{a:a9},a.length=m->(∀q∈a,q.1<M)->a∈nU M m
 |0,a,h,_=>by rw[Dc h];exact dv
 |m+1,[],h,_=>by cases h
 |m+1,q::r,h,g=>AU.mpr ⟨q,Tz (g q dv),gs.mpr ⟨r,N9 (by simpa using h) λx hx=>g x (gc _ hx),rfl⟩⟩
theorem Jz {M:Nat}:∀{m:Nat}{a:a9},a∈nU M m->a.length=m/\∀q∈a,q.1<M
 |0,a,h=>by rw[eh.mp h];exact⟨rfl,λq z=>nomatch z⟩
 |m+1,a,h=>by
  obtain⟨q,hq,h⟩:=AU.mp h
  obtain⟨r,hr,rfl⟩:=gs.mp h
  obtain⟨h1,h2⟩:=Jz hr
  refine⟨by rw[sj,h1],λx hx=>(eg.mp hx).elim (λe=>?_) (h2 x)⟩;subst e;unfold nT at hq
  obtain⟨b,hb,hq⟩:=AU.mp hq
  have hb:=uz.mp hb;rcases eg.mp hq with rfl|hq
  ·exact hb
  ·rw[eh.mp hq];exact hb
theorem wS {w:ag}(o:aX w):∃S,Closed w S:=by
 refine⟨nU (2^w.length) (2^w.length),N9 (lV o).1 (lV o).2,λa ha q hq=>?_,?_⟩
 ·obtain⟨h1,h2⟩:=Jz ha
  have:=L5 o (a:=a) ⟨h1,h2⟩ hq
  exact N9 this.1 this.2
 ·rw[JA]
  rcases nL o with e|e<;>rw[e]<;>decide
theorem Tx (w:ag)(n:Nat):e8 w (sD w n):=λs hs=>by rw[List.eq_of_mem_replicate hs];exact pG w
theorem O0 (w:ag)(n:Nat):(sD w n).length=n:=zj
theorem O1 {w:ag}(o:aX w)(n:Nat):row w (sD w n) (aZ w)=true:=
 (KC o (Tx w n)).mpr λB hB k hk=>by
  have:=hB.sd k hk
  rw[show (sD w n)[k]=2^w.length-1 from List.getElem_replicate ..]at this;exact w9 o (hB.lt k hk) this
theorem Jy {w:ag}(o:aX w)(n:Nat):eM (·+·) (bD w (λv _=>v) (·+·) 1 n)=some (bN w n (aZ w)):=by
 have c:=UX w n;have p:1<=bN w n (aZ w):=by
  have q:=KL w _ _ (O1 o n);rw[O0]at q;exact q
 unfold eM;rw[KJ,if_neg]
 ·rw[c];show some (0+_)=_;rw[qa]
 ·rintro⟨_,e⟩
  rw[e]at c;rw[<- c]at p;exact absurd p (by decide)
theorem Tw {J:PR->PR->PR}(P:k9 J){w:ag}(o:aX w)(n:Nat):∃v,eM J (bD w aV J (0,[]) n)=some v:=by
 obtain⟨v,hv,_⟩:=(sC P w n).2 (sD w n) (O0 w n) (O1 o n)
 exact⟨v,hv⟩
end bf
namespace Core
open PySem L2 PP
open bf (aX iV one cX bN row aZ)
theorem Tv {U:ag}{c k:Nat}:one (cE U c k)=(if c8 U c k 0 then 1 else 0)+if c8 U c k 1 then 1 else 0:=by
 unfold one;rw[pH (by decide),pH (by decide)]
theorem O2 {U:ag}{c k p:Nat}(hp:p<c):(if c8 U c k p=true then 1 else 0)=if ((k*c+p:Nat):Int)∈U then 1 else 0:=by
 unfold c8;rw[eu hp,xc];by_cases g:((k*c+p:Nat):Int)∈U
 ·rw[if_pos (eu g),if_pos g]
 ·rw[if_neg (by rw[dm g];exact gu),if_neg g]
theorem O3 {e:Int}{U:ag}:([e].filter λx=>decide (x∈U)).length=if e∈U then 1 else 0:=by
 have:=wD (P:=True) (e:=e) (U:=U)
 rwa [if_pos trivial,if_pos trivial]at this
theorem Jx (c:Nat)(hc:c=1∨c=2)(U:ag):∀n,cX (e9 U c n)=((de (c*n)).filter λx=>decide (x∈U)).length
 |0=>by rcases hc with rfl|rfl<;>rfl
 |n+1=>by
  have ih:=Jx c hc U n;have e:e9 U c (n+1)=e9 U c n++[cE U c n]:=by unfold e9;rw[AO,iz];rfl
  rw[e,bf.K3,ih];show _+(one (cE U c n)+0)=_;rw[Nat.add_zero,Tv];have rs:∀m,de (m+1)=de m++[(m:Int)]:=λm=>by unfold de;rw[AO,iz];rfl
  rcases hc with rfl|rfl
  ·rw[show 1*(n+1)=1*n+1 by lia,rs,tu,gq,O3,O2 (by decide),show c8 U 1 n 1=false by unfold c8;rw[dm (by decide)];rfl]
   rw[show n*1+0=1*n by lia];rfl
  ·rw[show 2*(n+1)=2*n+1+1 by lia,rs,rs,tu,tu,gq,gq,O3,O3,O2 (by decide),O2 (by decide),show n*2+0=2*n by lia,show n*2+1=2*n+1 by lia]
   lia
theorem O4 {c n:Nat}(hc:c=1∨c=2){ns:ag}(hs:dC (c*n) ns=true):cX (e9 ns c n)=ns.length:=by
 rw[Jx c hc];refine Kt ((Mo _).filter _) ((nB (fU hs).1).imp λh=>Int.ne_of_lt h) λx=>?_
 rw[jv,kf]
 exact⟨λz=>z.2,λz=>⟨cN.mpr ((fU hs).2 x z),z⟩⟩
theorem pQ {ws:ag}(o:aX ws):ws.length=1∨ws.length=2:=by have:=o.1;have:=o.2;lia
end Core
namespace bf
def cM (w:ag):Nat->a9->Nat->Nat
 |0,a,J=>if lit a=true/\J=0 then 1 else 0
 |n+1,a,J=>((List.range a.length).map λs=>if kept (next w a s)=true/\one s<=J then cM w n (next w a s) (J-one s) else 0).sum
def conv:List Nat->(Nat->Nat)->Nat->Nat
 |[],_,_=>0
 |x::_,g,0=>x*g 0
 |x::r,g,J+1=>x*g (J+1)+conv r g J
def b8 (u v:List Nat):List Nat:=List.zipWith (λa b=>a+b) u v
def lX (p:Nat)(g:Nat->Nat)(t:Nat):Nat:=if p<=t then g (t-p) else 0
theorem O5:∀{u v:List Nat} (g:Nat->Nat) (J:Nat),u.length=v.length->conv (b8 u v) g J=conv u g J+conv v g J
 |[],[],_,_,_=>rfl
 |[],_::_,_,_,h=>by cases h
 |_::_,[],_,_,h=>by cases h
 |x::u,y::v,g,0,_=>by
  show (x+y)*g 0=x*g 0+y*g 0;rw[Nat.add_mul]
 |x::u,y::v,g,J+1,h=>by
  have ih:=O5 (u:=u) (v:=v) g J (by simpa using h);show (x+y)*g (J+1)+conv (b8 u v) g J=x*g (J+1)+conv u g J+(y*g (J+1)+conv v g J);rw[ih,Nat.add_mul];lia
theorem Jw (g:Nat->Nat):∀(p J:Nat),conv (List.replicate p 0) g J=0
 |0,_=>rfl
 |p+1,0=>by show 0*g 0=0;rw[Nat.zero_mul]
 |p+1,J+1=>by show 0*g (J+1)+conv (List.replicate p 0) g J=0;rw[Jw g p J,Nat.zero_mul]
theorem Jv (g:Nat->Nat)(p:Nat):∀(v:List Nat) (J:Nat),conv (v++List.replicate p 0) g J=conv v g J
 |[],J=>Jw g p J
 |x::r,0=>rfl
 |x::r,J+1=>by show x*g (J+1)+conv (r++List.replicate p 0) g J=_;rw[Jv g p r J];rfl
theorem Ju (g:Nat->Nat)(v:List Nat):∀(p J:Nat),conv (List.replicate p 0++v) g J=if p<=J then conv v g (J-p) else 0
 |0,J=>by rw[if_pos (lh _)];rfl
 |p+1,0=>by rw[if_neg (by lia)];show 0*g 0=0;rw[Nat.zero_mul]
 |p+1,J+1=>by
  show 0*g (J+1)+conv (List.replicate p 0++v) g J=_;rw[Ju g v p J,Nat.zero_mul,qa];by_cases h:p<=J
  ·rw[if_pos h,if_pos (by lia),show J+1-(p+1)=J-p by lia]
  ·rw[if_neg h,if_neg (by lia)]
theorem Jt (g:Nat->Nat)(p:Nat):∀(v:List Nat) (J:Nat),conv v (lX p g) J=if p<=J then conv v g (J-p) else 0
 |[],J=>by split<;>rfl
 |x::r,0=>by
  show x*lX p g 0=_;unfold lX;by_cases h:p<=0
  ·rw[if_pos h,if_pos h,show 0-p=0 by lia];rfl
  ·rw[if_neg h,if_neg h,Nat.mul_zero]
 |x::r,J+1=>by
  show x*lX p g (J+1)+conv r (lX p g) J=_;rw[Jt g p r J];unfold lX;by_cases h:p<=J
  ·rw[if_pos h,if_pos (by lia),if_pos (by lia),show J+1-p=J-p+1 by lia];rfl
  ·rw[if_neg h]
   by_cases h2:p<=J+1
   ·rw[if_pos h2,if_pos h2,show J+1-p=0 by lia];rfl
   ·rw[if_neg h2,if_neg h2,Nat.mul_zero]
theorem wT:∀(v:List Nat) (J:Nat),conv v (λ_=>0) J=0
 |[],_=>rfl
 |x::r,0=>by show x*0=0;rw[Nat.mul_zero]
 |x::r,J+1=>by show x*0+conv r _ J=0;rw[wT r J,Nat.mul_zero]
theorem Js (f g:Nat->Nat):∀(v:List Nat) (J:Nat),conv v (λt=>f t+g t) J=conv v f J+conv v g J
 |[],_=>rfl
 |x::r,0=>by show x*(f 0+g 0)=x*f 0+x*g 0;rw[Nat.mul_add]
 |x::r,J+1=>by
  show x*(f (J+1)+g (J+1))+conv r _ J=x*f (J+1)+conv r f J+(x*g (J+1)+conv r g J);rw[Js f g r J,Nat.mul_add];lia
theorem Jr (f:Nat->Nat->Nat)(v:List Nat)(J:Nat):∀l:List Nat,conv v (λt=>(l.map λs=>f s t).sum) J=(l.map λs=>conv v (f s) J).sum
 |[]=>wT v J
 |s::r=>by
  rw[gg,ma,<- Jr f v J r,<- Js];congr 1
theorem sV:∀(v:List Nat) (J:Nat),conv v (λt=>if t=0 then 1 else 0) J=v.getD J 0
 |[],_=>rfl
 |x::r,0=>by show x*1=x;rw[Nat.mul_one]
 |x::r,J+1=>by show x*0+conv r _ J=r.getD J 0;rw[sV r J,Nat.mul_zero,qa]
theorem Tu (g:Nat->Nat)(J:Nat):conv [1] g J=g J:=by
 cases J with
 |zero=>show 1*g 0=g 0;rw[Nat.one_mul]
 |succ J=>show 1*g (J+1)+0=_;rw[Nat.one_mul];rfl
section
variable {β:Type}
def dD (φ:a9->β->Nat)(ps:List (a9×β)):Nat:=(ps.map λp=>φ p.1 p.2).sum
theorem Jq (φ:a9->β->Nat){k:a9}{x:β}:∀{ps:List (a9×β)}{v:β},(ps.map (·.1)).Nodup->bQ ps k=some v->dD φ (ps.map λp=>if p.1=k then (p.1,x) else p)+φ k v=dD φ ps+φ k x
 |[],v,_,e=>by simp[bQ]at e
 |p::r,v,n,e=>by
  rw[gg,qu]at n;unfold dD;rw[gg,gg,ma,gg,ma];by_cases h:p.1=k
  ·have ev:p.2=v:=by simpa[bQ,qt,h] using e
   have rest:(r.map λq=>if q.1=k then (q.1,x) else q)=r:=by
    refine (va λq hq=>?_).trans (List.map_id' r);rw[if_neg (λz=>n.1 (by rw[h,<- z];exact CM hq))]
   rw[if_pos h,rest,<- ev,h];show φ k x+_+φ k p.2=φ k p.2+_+φ k x;lia
  ·have ev:bQ r k=some v:=by simpa[bQ,qt,h] using e
   have ih:=Jq φ (x:=x) n.2 ev;unfold dD at ih;rw[if_neg h];lia
theorem Tt {ps:List (a9×β)}{k:a9}{x:β}{p:a9×β}(h:p∈eL ps k x):p=(k,x)∨p∈ps:=by
 unfold eL at h;split at h
 ·obtain⟨q,hq,rfl⟩:=gs.mp h
  by_cases e:q.1=k
  ·rw[if_pos e,e];exact .inl rfl
  ·rw[if_neg e];exact .inr hq
 ·rcases jk.mp h with h|h
  ·exact .inr h
  ·rw[eh.mp h];exact .inl rfl
variable {φ:a9→β→Nat}{G:a9×β→Prop}{J:β→β→β}
theorem O6 {ps:List (a9×β)}{k:a9}{v:β}(h:bQ ps k=some v):(k,v)∈ps:=by
 unfold bQ at h;cases e:ps.find? λp=>decide (p.1=k) with
 |none=>rw[e]at h;cases h
 |some p=>
  rw[e]at h;have h1:p.2=v:=ip h;have h2:=List.find?_some e;have h2:p.1=k:=by simpa using h2
  have:=CY e
  rw[<- h1,<- h2];exact this
theorem Ts (hJ:∀k a b,G (k,a)->G (k,b)->G (k,J a b)){ps:List (a9×β)}{k:a9}{z:β}(hb:∀p∈ps,G p)(hz:G (k,z)):∀p∈cS J ps k z,G p:=λp hp=>by
 unfold cS at hp;rcases Tt hp with e|h
 ·rw[e]
  cases q:bQ ps k with
  |none=>exact hz
  |some v=>exact hJ _ _ _ (hb _ (O6 q)) hz
 ·exact hb p h
theorem Tr (add:∀k a b,G (k,a)->G (k,b)->φ k (J a b)=φ k a+φ k b){ps:List (a9×β)}{k:a9}{z:β}(n:(ps.map (·.1)).Nodup)(hb:∀p∈ps,G p)(hz:G (k,z)):dD φ (cS J ps k z)=dD φ ps+φ k z:=by
 unfold cS eL;cases e:bQ ps k with
 |none=>
  have fn:(ps.find? λp=>decide (p.1=k))=none:=by simpa[bQ] using e
  have:(ps.any λp=>decide (p.1=k))=false:=by
   rw[Av];intro h
   obtain⟨p,hp,q⟩:=BY.mp h
   exact List.find?_eq_none.mp fn p hp q
  rw[this,if_neg gu];unfold dD;rw[iz,BV];show _+(φ k z+0)=_;rw[Nat.add_zero]
 |some v=>
  have h:(ps.any λp=>decide (p.1=k))=true:=BY.mpr ⟨(k,v),O6 e,by simp⟩;rw[h,if_pos rfl]
  have:=Jq φ (x:=J v z) n e
  rw[add k v z (hb _ (O6 e)) hz]at this;show dD φ (ps.map λp=>if p.1=k then (p.1,J v z) else p)=_;lia
theorem Jp (add:∀k a b,G (k,a)->G (k,b)->φ k (J a b)=φ k a+φ k b)(hJ:∀k a b,G (k,a)->G (k,b)->G (k,J a b))(g:Nat->β):∀(qs:List (Nat×a9)) {l:List (a9×β)},(∀q∈qs,G (q.2,g q.1))->(l.map (·.1)).Nodup->(∀p∈l,G p)->
  (((qs.foldl (λl q=>cS J l q.2 (g q.1)) l).map (·.1)).Nodup/\(∀p∈qs.foldl (λl q=>cS J l q.2 (g q.1)) l,G p)/\dD φ (qs.foldl (λl q=>cS J l q.2 (g q.1)) l)=dD φ l+(qs.map λq=>φ q.2 (g q.1)).sum)
 |[],l,_,n,hb=>⟨n,hb,by simp⟩
 |q::r,l,hg,n,hb=>by
  have h0:=hg q dv
  obtain⟨h1,h2,h3⟩:=Jp add hJ g r (λx hx=>hg x (gc _ hx)) (K5 (J:=J) (k:=q.2) (z:=g q.1) n) (Ts hJ hb h0)
  refine⟨h1,h2,?_⟩;rw[AS,h3,Tr add n hb h0,gg,ma];lia
theorem O7 (w:ag){aV:β->Nat->β}(add:∀k a b,G (k,a)->G (k,b)->φ k (J a b)=φ k a+φ k b)(hJ:∀k a b,G (k,a)->G (k,b)->G (k,J a b)):∀(ps:List (a9×β)) {l:List (a9×β)},(∀p∈ps,∀q∈after w p.1,G (q.2,aV p.2 q.1))->(l.map (·.1)).Nodup->(∀p∈l,G p)->
  (((ps.foldl (eY w aV J) l).map (·.1)).Nodup/\(∀p∈ps.foldl (eY w aV J) l,G p)/\dD φ (ps.foldl (eY w aV J) l)=dD φ l+(ps.map λp=>((after w p.1).map λq=>φ q.2 (aV p.2 q.1)).sum).sum)
 |[],l,_,n,hb=>⟨n,hb,by simp⟩
 |p::r,l,h0,n,hb=>by
  obtain⟨h1,h2,h3⟩:=Jp add hJ (λs=>aV p.2 s) (after w p.1) (h0 p dv) n hb
  obtain⟨g1,g2,g3⟩:=O7 w add hJ r (l:=eY w aV J l p) (λx hx=>h0 x (gc _ hx)) h1 h2
  refine⟨g1,g2,?_⟩;rw[AS,g3,gg,ma];show dD φ ((after w p.1).foldl (λl q=>cS J l q.2 (aV p.2 q.1)) l)+_=_;rw[h3];lia
end
theorem wU {α:Type}(p:α->Bool)(f:α->Nat):∀l:List α,((l.filter p).map f).sum=(l.map λx=>if p x=true then f x else 0).sum
 |[]=>rfl
 |x::r=>by
  have ih:=wU p f r;rw[gg,ma,<- ih];cases h:p x with
  |true=>rw[List.filter_cons_of_pos h,gg,ma,if_pos rfl]
  |false=>rw[List.filter_cons_of_neg (by rw[h];exact gu),if_neg gu,qa]
theorem Jo (w:ag)(a:a9)(f:Nat->a9->Nat):((after w a).map λq=>f q.1 q.2).sum=((List.range a.length).map λs=>if kept (next w a s)=true then f s (next w a s) else 0).sum:=by
 unfold after;rw[wU,pq];rfl
def bH (c:Nat)(v:List Nat)(s:Nat):List Nat:=List.replicate (one s) 0++v++List.replicate (c-one s) 0
theorem Tq (c:Nat)(v:List Nat)(s:Nat)(g:Nat->Nat)(J:Nat):conv (bH c v s) g J=if one s<=J then conv v g (J-one s) else 0:=by
 unfold bH;rw[Jv,Ju]
theorem Tp (w:ag)(c m:Nat)(a:a9)(v:List Nat)(J:Nat):((after w a).map λq=>conv (bH c v q.1) (cM w m q.2) J).sum=conv v (cM w (m+1) a) J:=by
 rw[Jo w a λs b=>conv (bH c v s) (cM w m b) J];have e:cM w (m+1) a=λt=>((List.range a.length).map λs=>(if kept (next w a s)=true then lX (one s) (cM w m (next w a s)) else λ_=>0) t).sum:=by
  funext t
  show ((List.range a.length).map λs=>if kept (next w a s)=true/\one s<=t then cM w m (next w a s) (t-one s) else 0).sum=_;congr 1;refine va λs _=>?_
  by_cases h:kept (next w a s)=true
  ·rw[if_pos h]
   unfold lX;by_cases g:one s<=t
   ·rw[if_pos ⟨h,g⟩,if_pos g]
   ·rw[if_neg (λz=>g z.2),if_neg g]
  ·rw[if_neg (λz=>h z.1),if_neg h]
 rw[e,Jr];congr 1;refine va λs _=>?_
 by_cases h:kept (next w a s)=true
 ·rw[if_pos h,if_pos h,Tq,Jt]
 ·rw[if_neg h,if_neg h,wT]
theorem O8 {u v:List Nat}(h:u.length=v.length):(b8 u v).length=u.length:=by unfold b8;rw[List.length_zipWith,h,Nat.min_self]
theorem Jn {w:ag}(o:aX w){s:Nat}(h:s<2^w.length):one s<=w.length:=(pE o 0 0 h).2.2
theorem Jm {w:ag}(o:aX w){v:List Nat}{s:Nat}(h:s<2^w.length):(bH w.length v s).length=v.length+w.length:=by
 have:=Jn o h
 unfold bH;rw[gq,gq,zj,zj];lia
def GR (w:ag)(n:Nat)(p:a9×List Nat):Prop:=dI w p.1/\p.2.length=w.length*n+1
theorem Jl {w:ag}{n:Nat}(k:a9)(a b:List Nat)(ha:GR w n (k,a))(hb:GR w n (k,b)):GR w n (k,b8 a b):=⟨ha.1,by
 have h1:a.length=_:=ha.2;have h2:b.length=_:=hb.2;show (b8 a b).length=_
 rw[O8 (h1.trans h2.symm),h1]⟩
theorem Jk {w:ag}(o:aX w){n:Nat}{ps:List (a9×List Nat)}(h:∀p∈ps,GR w n p):∀p∈ps,∀q∈after w p.1,GR w (n+1) (q.2,bH w.length p.2 q.1):=λp hp q hq=>by
 obtain⟨h1,h2⟩:=h p hp
 refine⟨L5 o h1 hq,?_⟩
 have:=(w4 hq).1
 rw[h1.1]at this;show (bH w.length p.2 q.1).length=_;rw[Jm o this,h2,Nat.mul_succ];lia
theorem O9 {w:ag}(o:aX w):∀n,((bD w (bH w.length) b8 [1] n).map (·.1)).Nodup/\(∀p∈bD w (bH w.length) b8 [1] n,GR w n p)/\∀m J,dD (λa v=>conv v (cM w m a) J) (bD w (bH w.length) b8 [1] n)=cM w (n+m) (aZ w) J
 |0=>by
  refine⟨by simp[bD],λp hp=>?_,λm J=>?_⟩
  ·have e:p=(aZ w,[1]):=eh.mp hp
   rw[e];exact⟨lV o,rfl⟩
  ·show conv [1] (cM w m (aZ w)) J+0=_
   rw[Tu,qa];rfl
 |n+1=>by
  obtain⟨h1,h2,h3⟩:=O9 o n
  have t:∀m J,_:=λm J=>O7 (φ:=λa v=>conv v (cM w m a) J) w (aV:=bH w.length) (J:=b8) (G:=GR w (n+1)) (λk a b ha hb=>O5 _ _ (by have x1:a.length=_:=ha.2;have x2:b.length=_:=hb.2;rw[x1,x2])) Jl (bD w (bH w.length) b8 [1] n) (l:=[]) (Jk o h2) xw (λ_ z=>nomatch z)
  refine⟨(t 0 0).1,(t 0 0).2.1,λm J=>?_⟩
  have:=(t m J).2.2
  show dD _ ((bD w (bH w.length) b8 [1] n).foldl (eY w (bH w.length) b8) [])=_;rw[this];have e:((bD w (bH w.length) b8 [1] n).map λp=>((after w p.1).map λq=>conv (bH w.length p.2 q.1) (cM w m q.2) J).sum).sum=dD (λa v=>conv v (cM w (m+1) a) J) (bD w (bH w.length) b8 [1] n):=by
   unfold dD;congr 1;refine va λp _=>?_
   exact Tp w w.length m p.1 p.2 J
  show 0+_=_;rw[qa,e,h3,show n+(m+1)=n+1+m by lia]
section
variable {a b:Int}{x:a9}
theorem wV {w:ag}(o:aX w):∀(l:List Nat) {x:a9},dI w x->row w l x=true->e8 w l
 |[],_,_,_=>λs h=>nomatch h
 |s::r,x,wf,h=>by
  unfold row at h;simp only[my,kf]at h;have hs:s<2^w.length:=by rw[<- wf.1];exact h.1.1
  exact λy hy=>(eg.mp hy).elim (λe=>by rw[e];exact hs) (wV o r (vZ o wf hs) h.2 y)
end
end bf
namespace Core
open PySem L2 PP
open bf (aX has cX bN aZ iV e8)
def eC (l:List Nat)(c:Nat):ag:=d0 (λk=>l.getD k 0) c l.length
theorem To {B:Nat->Nat}{c i:Nat}(hc:c=1∨c=2):d0 B c (i+1)=d0 B c i++((List.range c).filter λp=>decide (has (B i) p=1)).map λp=>((i*c+p:Nat):Int):=by
 have rs:∀m,de (m+1)=de m++[(m:Int)]:=λm=>by unfold de;rw[AO,iz];rfl
 unfold d0;rcases hc with rfl|rfl
 ·rw[show 1*(i+1)=1*i+1 by lia,rs,tu]
  congr 1;show (match decide (has (B ((((1*i:Nat):Int)).toNat/1)) ((((1*i:Nat):Int)).toNat%1)=1) with|true=>[((1*i:Nat):Int)]|false=>[])=List.map _ (match decide (has (B i) 0=1) with|true=>[0]|false=>[]);rw[mz,show 1*i/1=i by lia,show 1*i%1=0 by lia];cases decide (has (B i) 0=1)
  ·rfl
  ·show [((1*i:Nat):Int)] = [((i*1+0:Nat):Int)]
   rw[show 1*i=i*1+0 by lia]
 ·rw[show 2*(i+1)=2*i+1+1 by lia,rs,rs,me,tu]
  congr 1;have e1:(((2*i:Nat):Int)).toNat=2*i:=mz _;have e2:(((2*i+1:Nat):Int)).toNat=2*i+1:=mz _;have f:∀(p q:Bool) (x y:Int),(match p with|true=>x::(match q with|true=>[y]|false=>[])|false=>(match q with|true=>[y]|false=>[]))=(if p then [x] else [])++if q then [y] else []:=λp q x y=>by cases p<;>cases q<;>rfl
  show (match decide (has (B ((((2*i:Nat):Int)).toNat/2)) ((((2*i:Nat):Int)).toNat%2)=1) with|true=>((2*i:Nat):Int)::(match decide (has (B ((((2*i+1:Nat):Int)).toNat/2)) ((((2*i+1:Nat):Int)).toNat%2)=1) with|true=>[((2*i+1:Nat):Int)]|false=>[])|false=>(match decide (has (B ((((2*i+1:Nat):Int)).toNat/2)) ((((2*i+1:Nat):Int)).toNat%2)=1) with|true=>[((2*i+1:Nat):Int)]|false=>[]))=_;rw[e1,e2,show 2*i/2=i by lia,show 2*i%2=0 by lia,show (2*i+1)/2=i by lia,show (2*i+1)%2=1 by lia,f];show _=List.map _ (match decide (has (B i) 0=1) with|true=>0::(match decide (has (B i) 1=1) with|true=>[1]|false=>[])|false=>(match decide (has (B i) 1=1) with|true=>[1]|false=>[]));cases decide (has (B i) 0=1)<;>cases decide (has (B i) 1=1)
  ·rfl
  ·show [((2*i+1:Nat):Int)] = [((i*2+1:Nat):Int)]
   rw[vo]
  ·show [((2*i:Nat):Int)] = [((i*2+0:Nat):Int)]
   rw[vo];rfl
  ·show [((2*i:Nat):Int),((2*i+1:Nat):Int)] = [((i*2+0:Nat):Int),((i*2+1:Nat):Int)]
   rw[vo];rfl
theorem Jj {ws:ag}(o:aX ws){l:List Nat}(h:e8 ws l):e9 (eC l ws.length) ws.length l.length=l:=by
 refine List.ext_getElem (jG _ _ _) λk h1 h2=>?_
 rw[wF];have g:l.getD k 0=l[k]:=by rw[kz,kg h2];rfl
 unfold eC;rw[Km o (B:=λk=>l.getD k 0) h2 (by show l.getD k 0<_;rw[g];exact h _ (AW h2))];exact g
theorem P4 (l:List Nat)(c:Nat):dC (c*l.length) (eC l c)=true:=Xa _ _
theorem Ji {J:bf.PR->bf.PR->bf.PR}(P:bf.k9 J){ws:ag}{n:Nat}{ls:aa}(o:aX ws)(s:fY ws.length n ls){v:bf.PR}(hv:bf.eM J (bf.bD ws bf.aV J (0,[]) n)=some v) :
  v.2.length=n/\e8 ws v.2/\dC (ws.length*n) (eC v.2 ws.length)=true/\(eC v.2 ws.length).length=v.1/\hE (cI ws (n:Int)) ls (eC v.2 ws.length)=true:=by
 obtain⟨h1,h2,h3⟩:=(bf.sC P ws n).1 v hv
 have m:=bf.wV o v.2 (bf.lV o) h2;have e:=Jj o m;have hs:=P4 v.2 ws.length;rw[h1]at e hs;refine⟨h1,m,hs,?_,?_⟩
 ·rw[<- O4 (pQ o) hs,e,h3]
 ·rw[M5 o s,e];exact h2
end Core
namespace bf
theorem Tn {u v:List Nat}(h:u.length=v.length)(J:Nat):(b8 u v).getD J 0=u.getD J 0+v.getD J 0:=by
 rw[<- sV,<- sV,<- sV,O5 _ _ h]
theorem P5:∀{u v:List Nat},u.length=v.length->(b8 u v).sum=u.sum+v.sum
 |[],[],_=>rfl
 |[],_::_,h=>by cases h
 |_::_,[],h=>by cases h
 |x::u,y::v,h=>by
  have ih:=P5 (u:=u) (v:=v) (by simpa using h);show (x+y)+(b8 u v).sum=(x::u).sum+(y::v).sum;rw[ih,ma,ma];lia
theorem P6:∀p,(List.replicate p 0).sum=0
 |0=>rfl
 |p+1=>by rw[xm,ma,P6 p]
theorem Tj (c:Nat)(v:List Nat)(s:Nat):(bH c v s).sum=v.sum:=by
 unfold bH;rw[BV,BV,P6,P6];lia
theorem Jh {w:ag}(o:aX w):∀n m,dD (λa (v:List Nat)=>v.sum*bN w m a) (bD w (bH w.length) b8 [1] n)=bN w (n+m) (aZ w)
 |0,m=>by
  show 1*bN w m (aZ w)+0=_;rw[qa];lia
 |n+1,m=>by
  obtain⟨h1,h2,_⟩:=O9 o n
  have t:=O7 (φ:=λa (v:List Nat)=>v.sum*bN w m a) w (aV:=bH w.length) (J:=b8) (G:=GR w (n+1)) (λk a b ha hb=>by
   have x1:a.length=_:=ha.2;have x2:b.length=_:=hb.2;show (b8 a b).sum*_=_
   rw[P5 (x1.trans x2.symm),Nat.add_mul]) Jl (bD w (bH w.length) b8 [1] n) (l:=[]) (Jk o h2) xw (λ_ z=>nomatch z)
  show dD _ ((bD w (bH w.length) b8 [1] n).foldl (eY w (bH w.length) b8) [])=_;rw[t.2.2];have e:((bD w (bH w.length) b8 [1] n).map λp=>((after w p.1).map λq=>(bH w.length p.2 q.1).sum*bN w m q.2).sum).sum=dD (λa (v:List Nat)=>v.sum*bN w (m+1) a) (bD w (bH w.length) b8 [1] n):=by
   unfold dD;congr 1;refine va λp _=>?_
   dsimp only;rw[Jo w p.1 λs b=>(bH w.length p.2 s).sum*bN w m b,K2,vo,Le];congr 1;refine va λs _=>?_
   rw[Tj];by_cases h:kept (next w p.1 s)=true
   ·rw[if_pos h,if_pos h,vo]
   ·rw[if_neg h,if_neg h,Nat.zero_mul]
  show 0+_=_;rw[qa,e,Jh o n (m+1),show n+(m+1)=n+1+m by lia]
theorem P7 {m:Nat}:∀(l:List (a9×List Nat)) (acc:Option (List Nat)),(∀p∈l,p.2.length=m)->(∀v,acc=some v->v.length=m)->∀v,l.foldl (λacc p=>fX b8 acc p.2) acc=some v->
  v.length=m/\(∀J,v.getD J 0=((acc.map λu=>u.getD J 0).getD 0)+(l.map λp=>p.2.getD J 0).sum)/\v.sum=((acc.map λu=>u.sum).getD 0)+(l.map λp=>p.2.sum).sum
 |[],acc,_,ha,v,h=>by
  have h:acc=some v:=h;subst h
  exact⟨ha v rfl,λJ=>rfl,rfl⟩
 |p::r,acc,hl,ha,v,h=>by
  have hp:=hl p dv;cases acc with
  |none=>
   obtain⟨h1,h2,h3⟩:=P7 r (some p.2) (λx hx=>hl x (gc _ hx)) (λv e=>by cases e;exact hp) v h
   refine⟨h1,λJ=>?_,?_⟩
   ·rw[h2 J,gg,ma];show _=0+_;rw[qa];rfl
   ·rw[h3,gg,ma];show _=0+_;rw[qa];rfl
  |some u=>
   have hu:=ha u rfl
   obtain⟨h1,h2,h3⟩:=P7 r (some (b8 u p.2)) (λx hx=>hl x (gc _ hx)) (λv e=>by cases e;rw[O8 (hu.trans hp.symm)];exact hu) v h
   refine⟨h1,λJ=>?_,?_⟩
   ·rw[h2 J,gg,ma]
    show (b8 u p.2).getD J 0+_=u.getD J 0+_;rw[Tn (hu.trans hp.symm)];lia
   ·rw[h3,gg,ma]
    show (b8 u p.2).sum+_=u.sum+_;rw[P5 (hu.trans hp.symm)];lia
def jI (M:Nat):Nat->List (List Nat)
 |0=>[[]]
 |n+1=>(List.range M).flatMap λs=>(jI M n).map λr=>s::r
theorem pR {M:Nat}:∀{n:Nat}{l:List Nat},l∈jI M n↔l.length=n/\∀s∈l,s<M
 |0,l=>by
  constructor
  ·intro h;rw[eh.mp h];exact⟨rfl,λs z=>nomatch z⟩
  ·rintro⟨h,_⟩;rw[Dc h];exact dv
 |n+1,l=>by
  unfold jI;rw[AU];constructor
  ·rintro⟨s,hs,h⟩
   obtain⟨r,hr,rfl⟩:=gs.mp h
   obtain⟨h1,h2⟩:=pR.mp hr
   exact⟨by rw[sj,h1],λx hx=>(eg.mp hx).elim (λe=>by rw[e];exact uz.mp hs) (h2 x)⟩
  ·rintro⟨h1,h2⟩
   cases l with
   |nil=>cases h1
   |cons s r=>exact⟨s,uz.mpr (h2 s dv),gs.mpr ⟨r,pR.mpr ⟨by simpa using h1,λx hx=>h2 x (gc _ hx)⟩,rfl⟩⟩
theorem Jg {α β:Type}(p:β->Bool)(f:α->List β):∀l:List α,((l.flatMap f).filter p).length=(l.map λx=>((f x).filter p).length).sum
 |[]=>rfl
 |x::r=>by rw[List.flatMap_cons,tu,gq,Jg p f r,gg,ma]
theorem Ti {α β:Type}(p:β->Bool)(f:α->β)(l:List α):((l.map f).filter p).length=(l.filter λx=>p (f x)).length:=by
 rw[List.filter_map,dt];rfl
theorem Th (w:ag)(a:a9)(s:Nat):(next w a s).length=a.length:=by unfold next;rw[dt,zg]
theorem wW (w:ag){M:Nat}:∀(n:Nat) {a:a9} (J:Nat),a.length=M->cM w n a J=((jI M n).filter λl=>row w l a&&decide (cX l=J)).length
 |0,a,J,_=>by
  show (if lit a=true/\J=0 then 1 else 0)=(match lit a&&decide (0=J) with|true=>[[]]|false=>([]:List (List Nat))).length;by_cases h:lit a=true
  ·by_cases g:J=0
   ·rw[if_pos ⟨h,g⟩,h,g];rfl
   ·rw[if_neg (λz=>g z.2),dm (λe:0=J=>g e.symm),Bool.and_false];rfl
  ·rw[if_neg (λz=>h z.1),Av.mpr h];rfl
 |n+1,a,J,hM=>by
  show ((List.range a.length).map λs=>if kept (next w a s)=true/\one s<=J then cM w n (next w a s) (J-one s) else 0).sum=(((List.range M).flatMap λs=>(jI M n).map λr=>s::r).filter _).length;rw[Jg,hM];congr 1;refine va λs hs=>?_
  have hs:=uz.mp hs;rw[Ti];by_cases h:kept (next w a s)=true/\one s<=J
  ·rw[if_pos h,wW w n (J-one s) (by rw[Th,hM])]
   congr 1;refine List.filter_congr λr _=>?_
   show _=(decide (s<a.length)&&kept (next w a s)&&row w r (next w a s)&&decide (one s+cX r=J));rw[eu (show s<a.length by rw[hM];exact hs),h.1,xc,xc];congr 1;exact decide_eq_decide.mpr ⟨λe=>by lia,λe=>by lia⟩
  ·rw[if_neg h]
   have:((jI M n).filter λr=>row w (s::r) a&&decide (cX (s::r)=J)) = []:=by
    refine List.filter_eq_nil_iff.mpr λr _=>?_
    show ¬(decide (s<a.length)&&kept (next w a s)&&row w r (next w a s)&&decide (one s+cX r=J))=true;intro z;simp only[my,kf]at z;exact h ⟨z.1.1.2,by lia⟩
   rw[this];rfl
theorem Jf {M:Nat}:∀n,(jI M n).Nodup
 |0=>qu.mpr ⟨(λz=>nomatch z),xw⟩
 |n+1=>by
  unfold jI;have ih:=Jf (M:=M) n;rw[List.flatMap_def];have go:∀l:List Nat,l.Nodup->(l.map λs=>(jI M n).map λr=>s::r).flatten.Nodup:=λl=>by
   induction l with
   |nil=>exact λ_=>xw
   |cons s t Fu=>
    intro nd;rw[qu]at nd;rw[gg,zy];refine List.nodup_append.mpr ⟨?_,Fu nd.2,λx hx y hy e=>?_⟩
    ·exact AY.mpr (ih.imp λh e=>h (by injection e))
    ·subst e
     obtain⟨r,_,rfl⟩:=gs.mp hx
     obtain⟨L,hL,hy⟩:=List.mem_flatten.mp hy
     obtain⟨s',DE,rfl⟩:=gs.mp hL
     obtain⟨r',_,e⟩:=gs.mp hy
     injection e with e1 _
     exact nd.1 (by rw[<- e1];exact DE)
  exact go _ List.nodup_range
theorem P8 (w:ag):(aZ w).length=2^w.length:=zj
theorem Je {w:ag}(o:aX w){l:List Nat}(h:row w l (aZ w)=true):1<=cM w l.length (aZ w) (cX l):=by
 rw[wW w _ _ (P8 w)];refine List.length_pos_of_mem (a:=l) (jv.mpr ⟨pR.mpr ⟨rfl,wV o l (lV o) h⟩,?_⟩);rw[h,eu rfl];rfl
theorem Jd {β:Type}{J:β->β->β}:∀(l:List (a9×β)) (acc:Option β),(l≠[]∨acc≠none)->∃v,l.foldl (λacc p=>fX J acc p.2) acc=some v
 |[],none,h=>by rcases h with h|h<;>exact absurd rfl h
 |[],some v,_=>⟨v,rfl⟩
 |p::r,acc,_=>Jd r (fX J acc p.2) (.inr (by cases acc<;>exact λz=>nomatch z))
theorem Tf {α:Type}{f:α->Nat}:∀{l:List α},l = []->(l.map f).sum=0:=λe=>by rw[e];rfl
theorem Jc {w:ag}(o:aX w)(n:Nat):∃v,eM b8 (bD w (bH w.length) b8 [1] n)=some v/\v.length=w.length*n+1/\(∀J,v.getD J 0=cM w n (aZ w) J)/\v.sum=bN w n (aZ w):=by
 obtain⟨h1,h2,h3⟩:=O9 o n
 generalize eR:bD w (bH w.length) b8 [1] n=R at h1 h2 h3;have lw:∀J,((R.filter λp=>lit p.1).map λp=>p.2.getD J 0).sum=cM w n (aZ w) J:=λJ=>by
  have:=h3 0 J
  rw[Nat.add_zero]at this;rw[<- this,wU];unfold dD;congr 1;refine va λp _=>?_
  dsimp only;by_cases g:lit p.1=true
  ·rw[if_pos g,show cM w 0 p.1=λt=>if t=0 then 1 else 0 from funext λt=>by show (if lit p.1=true/\t=0 then 1 else 0)=_;by_cases z:t=0<;>simp[g,z],sV]
  ·rw[if_neg g,show cM w 0 p.1=λ_=>0 from funext λt=>by show (if lit p.1=true/\t=0 then 1 else 0)=_;rw[if_neg (λz=>g z.1)],wT]
 have ls:((R.filter λp=>lit p.1).map λp=>p.2.sum).sum=bN w n (aZ w):=by
  have:=Jh o n 0
  rw[Nat.add_zero,eR]at this;rw[<- this,wU];unfold dD;congr 1;refine va λp _=>?_
  show _=p.2.sum*(if lit p.1 then 1 else 0);by_cases g:lit p.1=true
  ·rw[if_pos g,if_pos g,Nat.mul_one]
  ·rw[if_neg g,if_neg g,Nat.mul_zero]
 have ne:(R.filter λp=>lit p.1)≠[]:=λe=>by
  have q:=Je o (O1 o n);rw[O0,<- lw,Tf e]at q;exact absurd q (by decide)
 obtain⟨v,hv⟩:=Jd (J:=b8) (R.filter λp=>lit p.1) none (.inl ne)
 obtain⟨g1,g2,g3⟩:=P7 (m:=w.length*n+1) (R.filter λp=>lit p.1) none (λp hp=>(h2 p (jv.mp hp).1).2) (λ_ z=>nomatch z) v hv
 refine⟨v,hv,g1,λJ=>?_,?_⟩
 ·rw[g2 J,lw J];exact qa _
 ·rw[g3,ls];exact qa _
theorem Te {w:ag}{n J:Nat}(h:1<=cM w n (aZ w) J):∃l,l.length=n/\row w l (aZ w)=true/\cX l=J:=by
 rw[wW w _ _ (P8 w)]at h
 obtain⟨l,hl⟩:=List.exists_mem_of_length_pos h
 obtain⟨h1,h2⟩:=jv.mp hl
 rw[my,kf]at h2
 exact⟨l,(pR.mp h1).1,h2.1,h2.2⟩
theorem Td {J:PR->PR->PR}(P:k9 J){w:ag}(o:aX w){n:Nat}{u:PR}(hu:eM J (bD w aV J (0,[]) n)=some u):1<=cM w n (aZ w) u.1/\∀j,j<u.1->cM w n (aZ w) j=0:=by
 obtain⟨h1,h2,h3⟩:=(sC P w n).1 u hu
 constructor
 ·have:=Je o h2
  rwa [h1,<- h3]at this
 ·intro j hj
  refine Nat.eq_zero_of_not_pos λz=>?_
  obtain⟨l,e1,e2,e3⟩:=Te z
  obtain⟨u',Cz,le⟩:=(sC P w n).2 l e1 e2
  rw[hu]at Cz;cases Cz;lia
end bf
namespace Core
open PySem L2 PP
open bf (aX bN aZ)
theorem P9 {ws:ag}{n:Nat}{ls:aa}(o:aX ws)(ord:ls.Pairwise fV)(mem:∀l,l∈ls↔l∈nG ((ws.length:Int)*(n:Int)).toNat ws.length++nH ((ws.length:Int)*(n:Int)) ws.length):fY ws.length n ls:=
 ⟨pQ o,ord,λl=>by rw[mem,show ((ws.length:Int)*(n:Int)).toNat=ws.length*n by rw[<- AQ];rfl]⟩
theorem fY.wb {ws:ag}{n:Nat}{ls:aa}(s:fY ws.length n ls)(h:ws.length*n<=40):Wb (cI ws (n:Int)) ls:=by
 have yt:∀l∈ls,(0<=l.1/\l.1<((ws.length*n:Nat):Int))/\0<=l.2/\l.2<((ws.length*n:Nat):Int):=λl hl=>by
  have q:=(s.iff (x:=l.1) (y:=l.2)).mp hl
  have:=s.lt l hl
  rw[AQ];rcases s.hc with e|e<;>rw[e]at q ⊢<;>lia
 refine⟨by rw[iF];exact h,?_,λl hl=>by rw[iF];exact yt l hl⟩;have nd:ls.Nodup:=s.ord.imp λh e=>by
  subst e;unfold fV at h;lia
 have sub:∀l∈ls,l∈(de (ws.length*n)).flatMap λx=>[(x,x+1),(x,x+(ws.length:Int))]:=λl hl=>by
  have q:=(s.iff (x:=l.1) (y:=l.2)).mp hl;refine AU.mpr ⟨l.1,cN.mpr (yt l hl).1,?_⟩;rcases q.2.2 with⟨e,_⟩|e
  ·rw[show l=(l.1,l.1+1) from Prod.ext rfl e];exact dv
  ·rw[show l=(l.1,l.1+(ws.length:Int)) from Prod.ext rfl e];exact gc _ dv
 have:=nd.length_le_of_subset sub
 have fl:∀k:ag,(k.flatMap λx=>[(x,x+1),(x,x+(ws.length:Int))]).length=2*k.length:=λk=>by
  induction k with
  |nil=>rfl
  |cons x r ih=>simp only[List.flatMap_cons,gq,ih,sj,List.length_nil];lia
 rw[fl,jW]at this;lia
end Core
namespace PP
open PySem L2
open bf (aX bN aZ)
open Core
def pS:aQ:=λxs Q=>∃x ws,∃n:Nat,∃v:bf.PR,xs = [x,.int n]/\bY x ws/\dH ws/\ws.length*n<=40/\bf.eM JP (bf.bD ws bf.aV JP (0,[]) n)=some v/\Q (.tup (bj (eC v.2 ws.length)))
def Jb:aY:=(aP (jQ (aG (vP λ_=>False) (a8 (a5 0) (a8 (a5 1) aF))))
 (aP (bW 2 (aG d4 (a8 (a5 0) aF)))
 (aP (jQ (aG (vQ λ_=>False) (a8 (a5 1) (a8 (mQ (qC (.int 40)) (a5 2)) aF))))
 (aP (lA 3 (jO aF))
 (aP (gC (vI (cR (aG nR (a8 (a5 0) (a8 (a5 1) aF))) (qC (.int 1)))) (lC 4 5)
  (uG 3 (gL (j7 (a5 2)) [none,some 5,some 4,some 2] (d8 0) (kM (aG iW (a8 (a5 1) (a8 (a5 0) aF)))) (fG (NM (a5 2) (a5 3)) (a5 0)))))
 (c9 (aG r9 (a8 (a5 3) aF))))))))
theorem Tc:∀xs Q,pS xs Q->Jb { nx:=λ_=>Q .cq,rt:=Q } (bB ["wants","length","width","hearths","turn","seeds"] xs):=by
 rintro _ Q ⟨x,ws,n,v,rfl,hx,ok,IE,hv,q⟩;have o:=lW ok;have hc:=pQ o;have cl:=bf.wS o
 obtain⟨a1,a2,a3⟩:=(bf.sC sR ws n).1 v hv
 have m:=bf.wV o v.2 (bf.lV o) a2;have n40:n<=40:=iw (Ef n o.1) IE;have mb:∀i,i<n->v.2.getD i 0<4:=λi hi=>by
  rw[<- a1]at hi;rw[kz,kg hi];exact bf.jE o (m _ (AW hi))
 refine⟨_,rfl,_,rfl,x,ws,n,rfl,hx,λ_ _=>?_,λz=>z ⟨ok,by lia⟩⟩;refine⟨_,rfl,_,_,rfl,hx.len,trivial,?_⟩;refine⟨_,rfl,_,rfl,_,_,rfl,rfl,⟨by lia,by lia⟩,n,40/(ws.length:Int),rfl,λ_=>?_,λz=>?_⟩
 rotate_left
 ·exfalso
  rcases hc with e|e<;>rw[e]at z IE<;>lia
 refine⟨by show 0<=1000;decide,rfl,rfl,rfl,?_⟩;have hg:(bj (v.2.map Int.ofNat)).length=n:=by rw[cL,dt,a1]
 refine⟨_,rfl,_,rfl,x,ws,n,v,rfl,hx,o,cl,by lia,hv,_,_,_,rfl,rfl,rfl,bj (v.2.map Int.ofNat),.inr rfl,(λz=>by cases z),λi ρ=>∃y4 y5,ρ = [some (.sh (flat x) x),si n,si (ws.length:Nat),some (.own (.lst (bj (d0 (λk=>v.2.getD k 0) ws.length i)))),y4,y5]/\i<=n,⟨none,none,by rcases hc with e|e<;>rw[e]<;>rfl,lh _⟩,?_,?_⟩
 ·rintro i z ρ hz ⟨y4,y5,rfl,_⟩
  have hi:i<n:=by
   have:=(og.mp hz).1
   rwa [oW,hg]at this
  have DK:i<v.2.length:=by rw[a1];exact hi
  have hw:(bj (v.2.map Int.ofNat))[i]? = some (.int ((v.2.getD i 0:Nat):Int)):=by
   show ((v.2.map Int.ofNat).map PV.int)[i]? = _;rw[ij,ij,kg DK,kz,kg DK];rfl
  rw[vH hw]at hz;cases hz;have bi:=mb i hi;generalize eb:v.2.getD i 0=b at bi;refine⟨_,_,rfl,?_⟩;have cl2:(d0 (λk=>v.2.getD k 0) ws.length i).length<=100:=by
   unfold d0;refine iw (Cc ..) ?_;rw[jW];exact iw (Nat.mul_le_mul_left _ (uw hi)) (by lia)
  refine⟨_,rfl,_,rfl,(ws.length:Int),rfl,by lia,by lia,by rw[dP];lia,λj acc=>acc=bj (((List.range j).filter λp=>decide (bf.has b p=1)).map λp=>((i*ws.length+p:Nat):Int)),rfl,?_,?_⟩
  ·rintro j z acc hz rfl
   have hj:j<ws.length:=by
    have:=(og.mp hz).1
    rw[dP]at this;lia
   rw[qX (by lia)]at hz;cases hz;have j2:j<2:=by have:=o.2;lia
   have ej:(0:Int)+(j:Int)=(j:Int):=Int.zero_add _;refine⟨_,rfl,_,rfl,b,j,by rw[ej];rfl,bi,j2,_,rfl,?_⟩;dsimp only;rw[AO,tu,iz];rcases bf.Kw bi j2 with e|e
   ·rw[e]
    refine bA ?_;rw[show [j].filter (λp=>decide (bf.has b p=1)) = [] by show (match decide (bf.has b j=1) with|true=>[j]|false=>[]) = [];rw[e];rfl];rw[List.map_nil,nv]
   ·rw[e]
    refine cU ⟨_,rfl,_,rfl,_,_,rfl,rfl,.inl ⟨by lia,by lia⟩,_,rfl,_,_,rfl,rfl,trivial,?_⟩;rw[show [j].filter (λp=>decide (bf.has b p=1)) = [j] by show (match decide (bf.has b j=1) with|true=>[j]|false=>[]) = [j];rw[e];rfl];show _=((_++[((i*ws.length+j:Nat):Int)]).map PV.int);rw[iz,ej,Int.natCast_add,AQ];rfl
  rintro acc rfl;have e:(iQ 0 ((ws.length:Int)).toNat).length=ws.length:=by rw[dP];exact mz _
  rw[e];refine⟨_,.inr rfl,.inl trivial,?_,some (.sh true (.int (i:Int))),some (.sh true (.int (b:Int))),?_,hi⟩
  ·rw[cL,cL,dt]
   have:((List.range ws.length).filter λp=>decide (bf.has b p=1)).length<=ws.length:=iw (Cc ..) (by rw[zg];exact da _)
   have:=o.2
   lia
  ·show _ = [_,_,_,some (Slot.own (.lst (bj (d0 (λk=>v.2.getD k 0) ws.length (i+1))))),_,_]
   rw[To hc,eb];show _ = [_,_,_,some (Slot.own (.lst ((d0 (λk=>v.2.getD k 0) ws.length i++_).map PV.int))),_,_];rw[iz];rfl
 rintro ρ ⟨y4,y5,rfl,_⟩;rw[oW,hg];refine⟨_,rfl,⟨_,_,rfl,rfl,gI _,trivial,?_⟩,λns z=>by cases z⟩;have ec:eC v.2 ws.length=d0 (λk=>v.2.getD k 0) ws.length n:=by unfold eC;rw[a1]
 rw[ec]at q;exact q
end PP
namespace PP
open PySem L2 PyProof.Rows PySem.Spec
open bf (a9 aX dI Closed pF bH b8)
open Core (bY si dH)
abbrev nz (v:List Nat):List PV:=bj (v.map Int.ofNat)
def rL (v:List Nat):PV:=.fL (nz v)
theorem kX (v:List Nat):(nz v).length=v.length:=by unfold nz;rw[Core.cL,dt]
theorem gV (v:List Nat):cb (nz v)=true:=gI _
theorem Tb:∀{l m:List Nat},nz l=nz m->l=m:=by
 intro l
 induction l with
 |nil=>intro m h;cases m with
  |nil=>rfl
  |cons=>cases h
 |cons x r ih=>intro m h;cases m with
  |nil=>cases h
  |cons y t=>
   injection h with h1 h2
   rw[ih h2,show x=y from Int.ofNat.inj (PV.int.inj h1)]
theorem Ja:∀{a b:List Nat},rL a=rL b->a=b:=λh=>Tb (PV.fL.inj h)
theorem Q0 (a b:List Nat):nz (a++b)=nz a++nz b:=by unfold nz;rw[iz];exact iz ..
theorem Q2 (p:Nat):(List.replicate p [PV.int 0]).flatten=nz (List.replicate p 0):=by
 induction p with
 |zero=>rfl
 |succ p ih=>rw[xm,xm,zy,ih];rfl
theorem Ta (v:List Nat):flat (rL v)=true:=by
 show cb (nz v)=true;exact gV v
def sW:aQ:=λxs Q=>∃v:List Nat,∃p c:Nat,xs = [rL v,.int p,.int c]/\v.length<=1000/\p<=c/\c<=2/\Q (.lst (nz (List.replicate p 0++v++List.replicate (c-p) 0)))
def IZ:aY:=c9 (B7 (Lf (vJ (jO (a8 (qC (.int 0)) aF)) (a5 1)) (a5 0)) (vJ (jO (a8 (qC (.int 0)) aF)) (zJ (a5 2) (a5 1))))
theorem SY:∀xs Q,sW xs Q->IZ { nx:=λ_=>Q .cq,rt:=Q } (bB ["row","places","width"] xs):=by
 rintro _ Q ⟨v,p,c,rfl,hl,hp,hc,q⟩;have e1:(List.replicate ((p:Nat):Int).toNat [PV.int 0]).flatten=nz (List.replicate p 0):=by rw[mz,Q2]
 have e2:(List.replicate ((c:Int)-(p:Int)).toNat [PV.int 0]).flatten=nz (List.replicate (c-p) 0):=by rw[show ((c:Int)-(p:Int)).toNat=c-p by lia,Q2]
 refine⟨by show 1<=1000;decide,rfl,_,rfl,[.int 0],(p:Int),rfl,rfl,rfl,by lia,by lia,by decide,?_⟩;rw[e1];refine⟨_,rfl,_,_,rfl,rfl,gV _,gV _,by rw[kX,kX,zj];lia,?_⟩;refine⟨by show 1<=1000;decide,rfl,_,rfl,_,rfl,_,_,rfl,rfl,[.int 0],(c:Int)-(p:Int),rfl,rfl,rfl,by lia,by lia,by decide,?_⟩;rw[e2,<- Q0];refine⟨_,_,rfl,rfl,gV _,gV _,by rw[kX,kX,gq,zj,zj];lia,?_⟩;rw[<- Q0]
 exact⟨trivial,q⟩
def pT:aQ:=λxs Q=>∃a b:List Nat,xs = [rL a,rL b]/\a.length<=1000/\b.length<=1000/\Q (.lst (nz (b8 a b)))
def IY:aY:=c9 (gL (K1 (a5 0) (a5 1)) [none,none] (lC 0 1) gM (fG (a5 0) (a5 1)))
theorem SX {a b:List Nat}{i:Nat}{x y:PV}(h1:(nz a)[i]? = some x)(h2:(nz b)[i]? = some y):∃m n:Nat,x = .int m/\y = .int n/\(b8 a b)[i]? = some (m+n):=by
 unfold nz bj at h1 h2;rw[pq,ij]at h1 h2;cases ea:a[i]? with
 |none=>rw[ea]at h1;cases h1
 |some m=>
  cases eb:b[i]? with
  |none=>rw[eb]at h2;cases h2
  |some n=>
   rw[ea]at h1;rw[eb]at h2;cases h1;cases h2;refine⟨m,n,rfl,rfl,?_⟩;unfold b8;rw[List.getElem?_zipWith,ea,eb]
theorem SW:∀xs Q,pT xs Q->IY { nx:=λ_=>Q .cq,rt:=Q } (bB ["row","other"] xs):=by
 rintro _ Q ⟨a,b,rfl,ha,hb,q⟩;have ll:(kQ (nz a) (nz b)).length=(b8 a b).length:=by
  rw[C6,kX,kX];unfold b8;rw[List.length_zipWith]
 refine⟨_,rfl,_,rfl,nz a,nz b,rfl,rfl,gV _,gV _,by rw[C6,kX,kX];lia,λi acc=>acc=nz ((b8 a b).take i),rfl,?_,?_⟩
 ·rintro i z acc hz rfl
  obtain⟨x,y,h1,h2,rfl⟩:=Xd hz
  obtain⟨m,n,rfl,rfl,e⟩:=SX h1 h2
  refine⟨_,_,rfl,?_⟩;show gM _ _;refine⟨_,rfl,_,rfl,_,_,rfl,rfl,trivial,?_⟩;show nz ((b8 a b).take i)++[PV.int ((m:Int)+(n:Int))]=nz ((b8 a b).take (i+1));rw[vq,e,Q0,<- Int.natCast_add];rfl
 ·rintro acc rfl
  rw[ll,xj]
  exact⟨trivial,q⟩
def sX (w:Int):aQ:=λxs Q=>∃v:List Nat,∃s c:Nat,xs = [rL v,.int s]/\(c:Int)=w/\v.length<=1000/\s<4/\bf.one s<=c/\c<=2/\Q (rL (bH c v s))
def by4:aA:=p6 (aG sW (a8 (a5 0) (a8 (aG nM (a8 (a5 1) aF)) (a8 (a5 2) aF))))
theorem SV (w:Int):∀xs Q,sX w xs Q->by4 (bB ["row","seeds","width"] (xs++[.int w])) λx _=>flat x=true/\Q x:=by
 rintro _ Q ⟨v,s,c,rfl,rfl,hl,hs,h1,hc,q⟩
 exact⟨_,rfl,_,rfl,s,rfl,hs,_,rfl,v,bf.one s,c,rfl,hl,h1,hc,_,rfl,rfl,gV _,gV _,q⟩
theorem SU (w:Int):∀xs Q,sX w xs Q->xs.length=2:=by rintro _ Q ⟨v,s,c,rfl,_⟩;rfl
def pU (l:b7)(w:Int):aQ:=λxs Q=>((w.toNat:Nat):Int)=w/\JU rL [1] (bH w.toNat) b8 (.lm l) (.fn "sums_of") w.toNat xs Q
abbrev SS (l:b7)(w:Int):List (b7×aQ):=[(l,sX w)]
abbrev SR:List (Str×aQ):=[("sums_of",pT)]
abbrev PD (l:b7)(w:Int):aA:=vV 3 (SS l w) (a8 (jD (a5 7) (a5 10)) (a8 (a5 11) aF))
def kY (x:PV):Prop:=∃v:List Nat,x=rL v/\v.length<=1000
noncomputable abbrev JL:PV->PV->PV:=iG rL b8
abbrev Q3:aA:=p6 (J5 3 SR (a8 (jD (a5 0) (a5 1)) (a8 (a5 2) aF)))
theorem IX:∀d y w z,kT d y (some w)->kY w->kY z->Q3 (bB ["values","key","value","joined"] [d,y,z,.fn "sums_of"]) λv _=>v=JL w z/\flat v=true:=by
 rintro d y _ _ ak ⟨a,rfl,ha⟩ ⟨b,rfl,hb⟩;refine⟨_,"sums_of",_,rfl,dv,_,rfl,_,rfl,rL a,ak,_,rfl,a,b,rfl,ha,hb,_,rfl,rfl,gV _,?_,gV _⟩;exact (wN Ja a b).symm
theorem SQ {l:b7}{w:Int}:∀xs Q,pU l w xs Q->xs.length=5:=by rintro _ Q ⟨_,_,_,_,_,rfl,_⟩;rfl
noncomputable abbrev IW (l:b7)(w:Int):aY:=sO (PD l w) (.fn "sums_of") kY JL
theorem SN (l:b7)(w:Int):∀xs Q,pU l w xs Q->IW l w { nx:=λ_=>Q .cq,rt:=Q } (bB ["wants","length","first","passed","joined","begin","following","values","turn","later","answer","seeds","behind","ends"] xs):=by
 rintro xs Q ⟨hw,h⟩;have h0:=h
 obtain⟨_,ws,_,_,_,_,o,_,hc,_⟩:=h0
 have o1:=o.1;have o2:=o.2;have c2:w.toNat=1∨w.toNat=2:=by lia
 have p4:2^w.toNat<=4:=by rcases c2 with e|e<;>rw[e]<;>decide
 have hO:∀(i:Nat) (v:List Nat),i<=300->v.length=w.toNat*i+1->kY (rL v):=λi v hi hv=>⟨v,rfl,by rcases c2 with e|e<;>rw[e]at hv<;>lia⟩
 have hJ:∀(i:Nat) (a b:List Nat),a.length=w.toNat*i+1->b.length=w.toNat*i+1->(b8 a b).length=w.toNat*i+1:=λi a b ha hb=>by
  rw[bf.O8 (ha.trans hb.symm)];exact ha
 have hP:∀(i:Nat) (v:List Nat) (s:Nat),v.length=w.toNat*i+1->s<2^w.toNat->(bH w.toNat v s).length=w.toNat*(i+1)+1:=λi v s hv hs=>by
  have:=bf.Jm o (v:=v) (s:=s) (by rw[hc];exact hs)
  rw[hc]at this;rw[this,hv,Nat.mul_succ];lia
 refine JT (c:=w.toNat) (Ok:=kY) (λi v=>v.length=w.toNat*i+1) hO Ja Ta rfl hJ hP (λρ Q ps k b s i h3 h7 Gy Gx hv hb hi hs q=>?_) xs Q h
 obtain⟨_,e3⟩:=h3
 obtain⟨_,e7⟩:=h7
 obtain⟨_,DY⟩:=Gy
 obtain⟨_,DX⟩:=Gx
 refine⟨_,l,_,e3,dv,_,e7,_,DY,rL b,.inl ⟨_,ki k,rfl,rfl,by rw[kA,hv];rfl⟩,_,DX,b,s,w.toNat,rfl,hw,?_,by lia,?_,by lia,q⟩
 ·rcases c2 with e|e<;>rw[e]at hb<;>lia
 ·rw[<- hc];exact bf.Jn o (by rw[hc];exact hs)
def IV (l:b7):aY:=(aP (jQ (aG (Core.vP λ_=>False) (a8 (a5 0) (a8 (a5 1) aF))))
 (aP (jQ (aG (Core.vQ λ_=>False) (a8 (a5 1) (a8 (qC (.int 60)) aF))))
 (aP (bW 2 (aG d4 (a8 (a5 0) aF)))
 (c9 (K0 2 (pU l) (a8 (a5 0) (a8 (a5 1) (a8 (p6 (jO (a8 (qC (.int 1)) aF))) (a8 (pB l) (a8 (qC (.fn "sums_of")) aF))))))))))
open bf (aX bN aZ cM bH b8)
open Core (bY si dH Lz G2 nI lM vF j9)
theorem IU {v:List Nat}{i:Nat}(h:i<v.length):oh (nz v) (i:Int)=some (.int (v.getD i 0:Nat)):=by
 refine xQ ?_;unfold nz bj;rw[pq,ij,kg h,kz,kg h];rfl
theorem IT (v:List Nat):(v.map Int.ofNat).sum=((v.sum:Nat):Int):=by
 induction v with
 |nil=>rfl
 |cons a r ih=>rw[gg,ma,ma,ih,Int.natCast_add];rfl
theorem SM {v:List Nat}:∀{m:Nat},(∀j,j<m->v.getD j 0=0)->(v.take m).sum=0:=by
 intro m h
 induction m with
 |zero=>rw[List.take_zero];rfl
 |succ m ih=>
  rw[vq,BV,ih λj hj=>h j (by lia)]
  have:=h m (by lia)
  rw[kz]at this;cases e:v[m]? with
  |none=>rfl
  |some a=>rw[e]at this;have:a=0:=this;subst this;rfl
end PP
namespace Core
open PySem L2 PP
open bf (aX bN aZ cM jI cX row has one e8)
theorem SK:∀n<8,(dY (de n)).Nodup:=by decide +kernel
theorem IS {ws:ag}{n:Nat}{ls:aa}(o:aX ws)(s:fY ws.length n ls)(h7:ws.length*n<=7){Z:ae}(pz:Z.Perm (dY (de (ws.length*n))))(J:Nat) :
  (Z.filter λS=>hE (cI ws (n:Int)) ls S&&decide (S.length=J)).length=cM ws n (aZ ws) J:=by
 have hc:=pQ o;rw[bf.wW ws (M:=2^ws.length) n J (bf.P8 ws)];have zm:∀S,S∈Z↔dC (ws.length*n) S=true:=λS=>by rw[pz.mem_iff,vM,vN]
 have zn:Z.Nodup:=pz.nodup_iff.mpr (SK _ (by lia));have back:∀S,dC (ws.length*n) S=true->eC (e9 S ws.length n) ws.length=S:=λS hS=>by
  have l0:(e9 S ws.length n).length=n:=jG _ _ _;have h1:dC (ws.length*n) (eC (e9 S ws.length n) ws.length)=true:=by
   have:=P4 (e9 S ws.length n) ws.length
   rwa [l0]at this
  refine Mn h1 hS λx=>?_
  have go:∀{k p:Nat},k<n->p<ws.length->((((k*ws.length+p:Nat):Int))∈eC (e9 S ws.length n) ws.length↔(((k*ws.length+p:Nat):Int))∈S):=λ{k p} hk hp=>by
   unfold eC;rw[l0,wG hk hp]
   have:(e9 S ws.length n).getD k 0=cE S ws.length k:=by
    rw[kz,kg (by rw[l0];exact hk)];exact wF _
   rw[this];exact sH hp (by have:=o.2;lia)
  constructor
  ·intro hx
   obtain⟨k,p,hk,hp,rfl⟩:=sG o.1 ((fU h1).2 x hx).1 ((fU h1).2 x hx).2
   exact (go hk hp).mp hx
  ·intro hx
   obtain⟨k,p,hk,hp,rfl⟩:=sG o.1 ((fU hS).2 x hx).1 ((fU hS).2 x hx).2
   exact (go hk hp).mpr hx
 refine Nat.le_antisymm ?_ ?_
 ·rw[<- dt (f:=λl=>eC l ws.length) (as:=(jI (2^ws.length) n).filter _)]
  refine List.Nodup.length_le_of_subset (zn.filter _) λS hS=>?_
  obtain⟨h1,h2⟩:=jv.mp hS
  simp only[my,kf]at h2;have IC:=(zm S).mp h1;refine gs.mpr ⟨e9 S ws.length n,jv.mpr ⟨bf.pR.mpr ⟨jG _ _ _,Kp o S n⟩,?_⟩,back S IC⟩;rw[(M5 o s S).mp h2.1,O4 hc IC,h2.2];simp
 ·rw[<- dt (f:=λS=>e9 S ws.length n) (as:=Z.filter _)]
  refine List.Nodup.length_le_of_subset ((bf.Jf n).filter _) λl hl=>?_
  obtain⟨h1,h2⟩:=jv.mp hl
  simp only[my,kf]at h2
  obtain⟨l1,l2⟩:=bf.pR.mp h1
  have e:=Jj o (l:=l) l2;rw[l1]at e;have hS:dC (ws.length*n) (eC l ws.length)=true:=by have:=P4 l ws.length;rwa [l1]at this
  refine gs.mpr ⟨eC l ws.length,jv.mpr ⟨(zm _).mpr hS,?_⟩,e⟩;rw[(M5 o s _).mpr (by rw[e];exact h2.1),<- O4 hc hS,e,h2.2];simp
end Core
namespace PP
open PySem L2 PyProof.Rows PySem.Spec
open bf (aX bN aZ cM bH b8)
open Core (bY si dH de dY cI hE fq fY P9 dC vN vM fU IS p5 lP lO lM nI j9 oY vF eC Ji iF cL cN A9 oT vE)
def wX:aQ:=λxs Q=>∃x ws,∃n:Nat,∃v,xs = [x,.int n]/\bY x ws/\dH ws/\n<=60/\bf.eM b8 (bf.bD ws (bH ws.length) b8 [1] n)=some v/\Q (rL v)
def sY:aQ:=λxs Q=>∃x ws,∃n:Nat,∃v,xs = [x,.int n]/\bY x ws/\dH ws/\n<=60/\bf.eM b8 (bf.bD ws (bH ws.length) b8 [1] n)=some v/\Q (.lst (nz v))
theorem SJ (l:b7):∀xs Q,wX xs Q->IV l { nx:=λ_=>Q .cq,rt:=Q } (bB ["wants","length","width"] xs):=by
 rintro _ Q ⟨x,ws,n,v,rfl,hx,ok,hn,hv,q⟩;have o:=lW ok;have cl:=bf.wS o;refine⟨_,rfl,_,rfl,x,ws,n,rfl,hx,λ_ _=>?_,λz=>z ⟨ok,by lia⟩⟩;refine⟨_,rfl,n,60,rfl,λ_=>?_,λz=>by lia⟩;refine⟨_,rfl,x,ws.length,rfl,hx.len,trivial,?_⟩;refine⟨_,rfl,_,rfl,by show 1<=1000;decide,rfl,_,rfl,rfl,rfl,_,((ws.length:Nat):Int),rfl,?_⟩;refine⟨by rw[mz],x,ws,n,v,?_,hx,o,cl,by rw[mz],by lia,?_,trivial,q⟩
 ·rfl
 ·rw[mz];exact hv
theorem aE.Sz {K:ad}{M:az->Prop}{H:Hp}{v:V}{x:PV}{ws:ag}(hx:bY x ws)(r:aE K M H v x):aE K M (dZ H) v x:=by
 have fq:∀(a:az) us,H a=some (.tup us)->dZ H a=some (.tup us):=λa us e=>jC e λ_ _ z=>by cases z
 rcases hx with rfl|rfl
 ·exact r.pl fq (show zr (bj ws)=true from vR ws)
 ·cases r with
  |lst m e r=>exact .lst m (jC e λ_ _ z=>by cases z) (r.pl fq (vR ws))
theorem cW.BL {T:List (az×Str)}{P:ba}{w:bd}{K:ad}{mg:Str->Option ax}{base:Heap}{k:Nat}{x:Str}{ps:List Str}{p p':aQ}(d:cW P w K mg base T k x ps p)(h:∀xs Q,p' xs Q->(∀(K:ad) (M:az->Prop) (H:Hp) (vs:List V),bp K M H vs xs->bp K M (dZ H) vs xs)/\p xs (λz=>∃ys,z = .fL ys/\zr ys=true/\Q (.lst ys))):cW P w K mg base T k x ps p':=by
 obtain⟨f,fd,F,rest⟩:=d.ex
 have fq:∀{H:Hp} (a us),H a=some (.tup us)->dZ H a=some (.tup us):=λa us e=>jC e λ_ _ z=>by cases z
 have DQ:∀(vs:List V) (H:Hp) (Q:VK),lS K T p' vs H Q (λ_ _ _=>False)->lS K T p vs (dZ H) (λv H'=>aD (dZ H) H'/\∃f o us ys,v = .ref f/\H' f=some (.dq o (.lst us))/\bp K (λ_=>True) H' us ys/\zr ys=true/\
   ∀H2,aD H H2->H f=none->H2 f=some (.lst us)->bp K (λa=>H a=none) H2 us ys->Q v H2) (λ_ _ _=>False):=by
  rintro vs H Q ⟨hT,xs,Qp,r,hp,q⟩
  obtain⟨h1,h2⟩:=h xs Qp hp
  refine⟨λz hz=>let ⟨t,e⟩:=hT z hz;⟨t,jC e λ_ _ z=>by cases z⟩,xs,_,h1 _ _ _ _ r,h2,?_⟩;rintro v H' z sm rz ⟨ys,rfl,py,qy⟩;cases rz with
  |@fL f o us _ hf rs=>exact⟨sm,f,o,us,ys,rfl,hf,rs.pl (λ_ _ z=>z) py,py,λH2 s2 nf e2 r2=>q _ H2 _ s2 (.lst nf e2 r2) qy⟩
 refine⟨f,fd,⟨λvs H Q E hs=>?_,λA outer s H args us vs Q E hr e0 hb hv hs=>?_⟩,rest⟩
 ·obtain⟨hT,xs,Qp,r,hp,q⟩:=hs
  exact F.len vs (dZ H) _ _ (DQ vs H Q ⟨hT,xs,Qp,r,hp,q⟩)
 ·have none_of:∀{b},H b=none->dZ H b=none:=λe=>jC e λ_ _ z=>by cases z
  have e1:l7 P w K mg base A outer s (dZ H):=⟨e0.frames,e0.mod,λb o e=>⟨(e0.bs b o e).1,none_of (e0.bs b o e).2⟩,e0.xt,e0.kj,λb hb=>none_of (e0.AJ b hb),VJ e0.cj,e0.bare⟩;have DE:lS K T p' vs H Q (λ_ _ _=>False):=hs;refine codeAny_mono (F.run A outer s (dZ H) args us vs _ E hr e1 hb hv (DQ vs H Q DE)) λr s' hc=>?_
  cases r with
  |error e=>exact hc
  |ok fl=>
   cases fl with
   |ret u=>
    obtain⟨v,H',os,bare,un,cj,rv,sm,f,o,jo,ys,rfl,hf,rs,py,q⟩:=hc
    have Fn:dZ H f=none:=by
     cases z:dZ H f with
     |none=>rfl
     |some o1=>
      have:=sm f o1 z
      rw[hf]at this;exact absurd (z.trans this.symm) VL
    have nf:H f=none:=by
     rcases Lv H f with⟨ob,us,eb⟩|eb
     ·rw[G5 eb]at Fn;cases Fn
     ·rw[<- eb];exact Fn
    have ext:∀{b ob us},H b=some (.dq ob (.lst us))->H' b=some (.ext λh=>h.get? b=some ob):=λ{b ob us} eb=>sm b _ (G5 eb)
    have QB:∀{b o1},H b=some o1->(∀ob us,o1≠.dq ob (.lst us))->H' b=some o1:=λ{b o1} eb n=>sm b _ (jC eb λob us z=>n ob us (ip z))
    generalize BH:(λb=>match H b with|some (.dq ob (.lst us))=>some (HO.dq ob (.lst us))|_=>if b=f then some (HO.lst jo) else H' b:Hp)=H2;have IG:∀{b ob us},H b=some (.dq ob (.lst us))->H2 b=some (.dq ob (.lst us)):=λ{b ob us} eb=>by rw[<- BH];dsimp only;rw[eb]
    have EK:∀{b},(∀ob us,H b≠some (.dq ob (.lst us)))->b≠f->H2 b=H' b:=λ{b} n nb=>by
     rw[<- BH];dsimp only;split
     ·rename_i ob us z;exact absurd z (n ob us)
     ·rw[if_neg nb]
    have IF:H2 f=some (.lst jo):=by
     rw[<- BH];dsimp only;rw[nf];dsimp only;rw[if_pos rfl]
    have HH:∀{b o1},H b=some o1->b≠f:=λ{b o1} e z=>by rw[z,nf]at e;cases e
    have same:aD H H2:=λb o1 e=>by
     by_cases c:∃ob us,o1 = .dq ob (.lst us)
     ·obtain⟨ob,us,rfl⟩:=c;exact IG e
     ·have n:∀ob us,o1≠.dq ob (.lst us):=λob us z=>c ⟨ob,us,z⟩
      rw[EK (λob us z=>n ob us (by rw[e]at z;exact ip z)) (HH e)];exact QB e n
    have back:∀{b o1},H' b=some o1->(∀φ,o1≠.ext φ)->b≠f->H2 b=some o1:=λ{b o1} e n nb=>by
     rw[EK (λob us z=>?_) nb]
     ·exact e
     ·rw[ext z]at e;cases e;exact n _ rfl
    refine⟨.ref f,H2,os,bare,⟨λb o1 e n=>un.keep b o1 e (none_of n),λb o1 e n=>un.slot b o1 e (none_of n),λb o1 e n hx=>?_,un.there,λb xs e=>?_,λb o1 u e=>same b _ e,λb ps e=>?_⟩,λb o1 e=>?_,rv,q H2 same nf IF ?_⟩
    ·have hb:=un.free b o1 e (none_of n) hx
     rw[EK (λob us z=>by rw[n]at z;cases z) (λz=>by rw[z,hf]at hb;cases hb)];exact hb
    ·exact same b _ e
    ·obtain⟨more,hm⟩:=un.nc b ps (jC e λ_ _ z=>by cases z)
     exact⟨more,back hm (λφ z=>by cases z) (HH e)⟩
    ·by_cases c:∃ob us,H b=some (.dq ob (.lst us))
     ·obtain⟨ob,us,eb⟩:=c
      rw[IG eb]at e;cases e
      obtain⟨g,_⟩:=cj b _ (ext eb)
      obtain⟨g0,z,bo,n,r,e3⟩:=e0.cj b _ eb
      rw[g0]at e3;cases e3
      exact⟨g,z,bo,n,r,g⟩
     ·by_cases nb:b=f
      ·subst nb
       rw[IF]at e;cases e
       obtain⟨_,z,bo,n,r,e3⟩:=cj _ _ hf
       exact⟨z,bo,n,r,e3⟩
      ·rw[EK (λob us z=>c ⟨ob,us,z⟩) nb]at e
       refine (cj b o1 e).fw (λ_ _ _ q=>q) (λc q=>back q (λφ z=>by cases z) λz=>?_) (λc xs q=>back q (λφ z=>by cases z) λz=>?_) (λc r q=>back q (λφ z=>by cases z) λz=>?_)
       ·rw[z,hf]at q;cases q
       ·rw[z,hf]at q;cases q
       ·rw[z,hf]at q;cases q
    ·exact rs.pl (λa us e=>back e (λφ z=>by cases z) λz=>by rw[z,hf]at e;cases e) py
   |_=>exact hc
theorem SI:∀xs Q,sY xs Q->(∀(K:ad) (M:az->Prop) (H:Hp) (vs:List V),bp K M H vs xs->bp K M (dZ H) vs xs)/\wX xs (λz=>∃ys,z = .fL ys/\zr ys=true/\Q (.lst ys)):=by
 rintro _ Q ⟨x,ws,n,v,rfl,hx,ok,hn,hv,q⟩;refine⟨λK M H vs r=>?_,x,ws,n,v,rfl,hx,ok,hn,hv,nz v,rfl,vR _,q⟩;cases r with
 |cons r t=>
  cases t with
  |cons r2 t2=>
   cases t2;cases r2;exact .cons (r.Sz hx) (.cons (.int _) .nil)
end PP
namespace PP
open PySem L2
section
variable {X:Cx}{a b:Expr}{ta tb:aA}{pos:Pos}
def Q4 (K:ad)(neg:Bool):R2:=λv w H Q=>∃(p p2:az) (xs ys:ag),v = .ref p/\w = .ref p2/\aN K H p (xs.map V.int)/\aN K H p2 (ys.map V.int)/\Q (.bl (if neg=true then !decide (xs=ys) else decide (xs=ys))) H
theorem Q5:∀{xs ys:ag},xs.length=ys.length->((List.range xs.length).all λj=>xs.getD j 0==ys.getD j 0)=decide (xs=ys):=by
 intro xs ys h;by_cases e:xs=ys
 ·subst e;simp
 ·rw[dm e]
  refine Av.mpr λz=>e (List.ext_getElem h λj h1 h2=>?_)
  have:=AX.mp z j (uz.mpr h1)
  rw[kz,kz,kg h1,kg h2]at this;simpa using this
theorem items_int {A:bc}{s:ay}{xs ys:ag}{us ws:List ax}(v1:aI (xs.map V.int) us)(v2:aI (ys.map V.int) ws)(j:Nat)(h1:j<us.toArray.size)(h2:j<ws.toArray.size):SeqAt.EqAt A s us.toArray[j] ws.toArray[j] (xs.getD j 0==ys.getD j 0):=by
 have l1:=v1.length;have l2:=v2.length;rw[dt]at l1 l2;rw[fu]at h1 h2;have g:∀{xs:ag}{us:List ax},aI (xs.map V.int) us->∀(h:j<us.length) (k:j<xs.length),∃t,us[j] = .int (xs.getD j 0) t:=λ{xs us} v h k=>by
  obtain⟨u,e,r⟩:=v.get (i:=j) (x:=.int (xs.getD j 0)) (by rw[ij,kz,kg k];rfl)
  rw[kg h]at e
  obtain⟨t,rfl⟩:=r
  exact⟨t,ip e⟩
 obtain⟨t,e1⟩:=g v1 h1 (by lia)
 obtain⟨t2,e2⟩:=g v2 h2 (by lia)
 show SeqAt.EqAt A s us[j] ws[j] _;rw[e1,e2];exact SeqAt.EqAt.int_int _ _ _ _
theorem SH (hu:X.A.units<cLine):bT X (compareOp .Eq) (Q4 X.K false):=by
 rintro ai s σ H v w a b Q I ra rb ⟨p,p2,xs,ys,rfl,rfl,h1,h2,q⟩;cases ra;cases rb
 obtain⟨us,v1,p1,_⟩:=I.list h1
 obtain⟨ws,v2,Dl,_⟩:=I.list h2
 have l1:=v1.length;have l2:=v2.length;rw[dt]at l1 l2;have q:Q (.bl (decide (xs=ys))) H:=q;by_cases hl:xs.length=ys.length
 ·have:=SeqAt.RcAt.lists p1.isList Dl.isList (by rw[fu,fu];lia) hu (items_int v1 v2)
  rw[fu,<- l1,Q5 hl]at this;exact this _ _ _ _ ⟨.bl _,H,I,rfl,q⟩
 ·have:=SeqAt.RcAt.lists_lengths (A:=X.A) p1.isList Dl.isList (by rw[fu,fu];simp;lia) hu
  rw[dm λz=>hl (by rw[z])]at q;exact this _ _ _ _ ⟨.bl _,H,I,rfl,q⟩
theorem SG (hu:X.A.units<cLine):bT X (compareOp .NotEq) (Q4 X.K true):=by
 rintro ai s σ H v w a b Q I ra rb ⟨p,p2,xs,ys,rfl,rfl,h1,h2,q⟩;cases ra;cases rb
 obtain⟨us,v1,p1,_⟩:=I.list h1
 obtain⟨ws,v2,Dl,_⟩:=I.list h2
 have l1:=v1.length;have l2:=v2.length;rw[dt]at l1 l2;have q:Q (.bl (!decide (xs=ys))) H:=q;by_cases hl:xs.length=ys.length
 ·have:=SeqAt.RcNeAt.lists p1.isList Dl.isList (by rw[fu,fu];lia) hu (items_int v1 v2)
  rw[fu,<- l1,Q5 hl]at this;exact this _ _ _ _ ⟨.bl _,H,I,rfl,q⟩
 ·have:=SeqAt.RcNeAt.lists_lengths (A:=X.A) p1.isList Dl.isList (by rw[fu,fu];simp;lia) hu
  rw[dm λz=>hl (by rw[z])]at q;exact this _ _ _ _ ⟨.bl _,H,I,rfl,q⟩
def sZ (neg:Bool):PV->Tg->PV->Tg->PK->Prop:=λx _ y _ Q=>∃xs ys:ag,x = .lst (bj xs)/\y = .lst (bj ys)/\Q (.bl (if neg=true then !decide (xs=ys) else decide (xs=ys))) .fr
theorem IQ {neg:Bool}:fD X (sZ neg) (Q4 X.K neg):=by
 rintro W Hs H u v x y g g' Q Q' s n r1 r2 ⟨xs,ys,rfl,rfl,q⟩ k
 obtain⟨a,us,rfl,_,h1,q1⟩:=r1.rh
 obtain⟨b,ws,rfl,_,h2,q2⟩:=r2.rh
 obtain rfl:=q1.ofInts;obtain rfl:=q2.ofInts
 exact⟨a,b,xs,ys,rfl,rfl,aN.of h1,aN.of h2,k _ _ _ .fr (aD.refl _) (.bl _) q⟩
theorem SF (hu:X.A.units+3<cLine)(ha:QE X a ta)(hb:QE X b tb):QE X (.Compare a [.Eq] [b] pos) (q2 (sZ false) ta tb):=zM (SH (by lia)) IQ ha hb (kC _)
theorem SE (hu:X.A.units+3<cLine)(ha:QE X a ta)(hb:QE X b tb):QT X (.Compare a [.NotEq] [b] pos) (bC (q2 (sZ true) ta tb)):=mT (SG (by lia)) IQ ha hb (kC _)
def IP (te:aA)(tl th:oI):aA:=λρ Q=>te ρ λx _=>tl ρ λlo=>th ρ λhi=>∃xs,x = .lst xs/\cb xs=true/\Q (.lst (oJ xs lo hi)) .fr
theorem SD {e:Expr}{te:aA}{lo hi:Option Expr}{tl th:oI}{sp:Pos}(he:QE X e te)(hl:QO X lo tl)(hh:QO X hi th):QE X (.Subscript e (.Slice lo hi none sp) pos) (IP te tl th):=cB (aK6 aL8 he hl hh) λσ H Q' h=>by
 obtain⟨W,ρ,Q,px,q,k⟩:=h
 refine⟨W,ρ,_,px,q,λv H1 x g s1 r1 q1=>⟨W,ρ,_,px.mono s1,q1,λlo H2 s2 q2=>⟨W,ρ,_,px.mono (s1.trans s2),q2,?_⟩⟩⟩;rintro hi H3 s3 ⟨xs,rfl,f,q3⟩;have S:=(s1.trans s2).trans s3;have r3:=r1.same (M':=Mg X.cz W H g) (s2.trans s3) λ_ z=>z
 cases r3 with
 |lst m h r=>exact⟨_,_,rfl,aN.of h,λp hp=>k _ _ _ .fr (S.trans (bU hp _)) (.lst (S.free hp) bE (((r.flat f).cut lo hi).same (bU hp _) λ_ z=>z)) q3⟩
end
end PP
namespace PP
open PySem L2 PyProof.Rows PySem.Spec
open bf (aX bN aZ cM bH b8)
open Core
def t5:aQ:=λxs Q=>∃ws,∃n:Nat,∃v,xs = [.tup (bj ws),.int n]/\dH ws/\ws.length*n<=7/\bf.eM b8 (bf.bD ws (bH ws.length) b8 [1] n)=some v/\Q (.lst (nz v))
def IM:aY:=(aP (bW 2 (aG lP (a8 (a5 0) (a8 (a5 1) aF))))
 (aP (lA 3 (vJ (jO (a8 (qC (.int 0)) aF)) (fG (aG d4 (a8 (cR (a5 2) (qC (.int 0))) aF)) (qC (.int 1)))))
 (aP (gC (jS (aG p5 (a8 (aG d4 (a8 (cR (a5 2) (qC (.int 0))) aF)) aF))) (d8 4)
  (dG (bC (aG lO (a8 (a5 2) (a8 (a5 4) aF)))) (uH 3 (aG d4 (a8 (a5 4) aF)) (fG (cR (a5 3) (aG d4 (a8 (a5 4) aF))) (qC (.int 1)))) dF))
 (oF 3))))
def eZ (F:ag->Bool)(m:Nat)(Z:ae):List Nat:=(List.range (m+1)).map λJ=>(Z.filter λS=>F S&&decide (S.length=J)).length
theorem pV (F:ag->Bool)(m:Nat)(Z:ae):(eZ F m Z).length=m+1:=by unfold eZ;rw[dt,zg]
theorem IL {F:ag->Bool}{m J:Nat}{Z:ae}(h:J<m+1):(eZ F m Z).getD J 0=(Z.filter λS=>F S&&decide (S.length=J)).length:=by
 unfold eZ;rw[kz,ij,CN h];rfl
theorem Zy (F:ag->Bool)(m:Nat):eZ F m []=List.replicate (m+1) 0:=by
 unfold eZ;refine List.eq_replicate_iff.mpr ⟨by rw[dt,zg],λx hx=>?_⟩
 obtain⟨_,_,rfl⟩:=gs.mp hx
 rfl
theorem IK {F:ag->Bool}{m:Nat}{Z:ae}{S:ag}(h:S.length<m+1):eZ F m (Z++[S])=if F S=true then (eZ F m Z).set S.length ((eZ F m Z).getD S.length 0+1) else eZ F m Z:=by
 refine List.ext_getElem (by split<;>simp[pV]) λk h1 h2=>?_
 have hk:k<m+1:=by rwa [pV]at h1
 have AA:∀Z,(eZ F m Z)[k]? = some ((Z.filter λS=>F S&&decide (S.length=k)).length):=λZ=>by
  unfold eZ;rw[ij,CN hk];rfl
 have go:(eZ F m (Z++[S]))[k]? = (if F S=true then (eZ F m Z).set S.length ((eZ F m Z).getD S.length 0+1) else eZ F m Z)[k]?:=by
  rw[AA,tu,gq];by_cases f:F S=true
  ·rw[if_pos f,List.getElem?_set]
   by_cases e:S.length=k
   ·subst e
    rw[if_pos rfl,if_pos (by rw[pV];exact h),IL h];simp[f]
   ·rw[if_neg e,AA]
    simp[f,e]
  ·rw[if_neg f,AA]
   simp[f]
 rw[kg h1,kg h2]at go;exact ip go
theorem Zx {v:List Nat}{k a:Nat}:(nz v).set k (.int (a:Nat))=nz (v.set k a):=by
 unfold nz bj;rw[pq,pq,List.map_set];rfl
theorem Zw:∀xs Q,t5 xs Q->IM { nx:=λ_=>Q .cq,rt:=Q } (bB ["wants","length","web","counts","some"] xs):=by
 rintro _ Q ⟨ws,n,v,rfl,ok,h7,hv,q⟩;have o:=lW ok;have w1:=o.1;have n7:n<=7:=iw (Ef n w1) h7;refine⟨_,rfl,_,rfl,ws,(n:Int),rfl,ok,by lia,by lia,λls ord mem=>?_⟩;have s:=P9 o ord mem;have wb:=s.wb (by lia);have em:(bj (cI ws (n:Int))).length=ws.length*n:=by rw[cL,iF]
 obtain⟨v2,Ii,hl,hg,_⟩:=bf.Jc o n
 rw[hv]at Ii;cases Ii;refine⟨trivial,?_⟩;refine⟨by show 1<=1000;decide,rfl,_,rfl,_,_,_,rfl,rfl,rfl,_,_,rfl,rfl,_,_,rfl,rfl,[.int 0],_,rfl,rfl,rfl,by rw[em];lia,by rw[em];lia,by decide,?_⟩;rw[em,show (((ws.length*n:Nat):Int)+1).toNat=ws.length*n+1 by lia,Q2,<- Zy (hE (cI ws (n:Int)) ls)];refine⟨rfl,gV _,?_⟩;refine⟨_,rfl,_,_,_,rfl,rfl,rfl,_,_,rfl,rfl,ws.length*n,by rw[em];rfl,by lia,λZ pz _=>?_⟩;have zs:∀S∈Z,dC (ws.length*n) S=true:=λS hS=>vN.mp ((vM _ S).mp (pz.mem_iff.mp hS))
 refine⟨_,rfl,(λz=>by cases z),λi ρ=>∃y4,ρ = [some (.sh (flat (.tup (bj ws))) (.tup (bj ws))),si n,some (.sh true (gS (cI ws (n:Int)) ls)),some (.own (.lst (nz (eZ (hE (cI ws (n:Int)) ls) (ws.length*n) (Z.take i))))),y4],⟨none,by rw[List.take_zero];rfl⟩,?_,?_⟩
 ·rintro i z ρ hz ⟨y4,rfl⟩
  obtain⟨S,rfl,hS⟩:=A9 hz
  have hs:=zs S (sr hS);have sl:S.length<ws.length*n+1:=Nat.lt_succ_of_le (B0 hs);have yt:∀x∈S,x∈de (cI ws (n:Int)).length:=λx hx=>cN.mpr (by rw[iF];exact (fU hs).2 x hx)
  refine⟨_,rfl,_,rfl,cI ws (n:Int),ls,.tup (bj S),S,rfl,wb,.inl rfl,yt,_,rfl,?_⟩;have tk:Z.take (i+1)=Z.take i++[S]:=by rw[vq,hS];rfl
  have el:(bj S).length=S.length:=cL S;have cl:(eZ (hE (cI ws (n:Int)) ls) (ws.length*n) (Z.take i)).length=ws.length*n+1:=pV _ _ _;by_cases f:hE (cI ws (n:Int)) ls S=true
  ·rw[f]
   refine cU ⟨_,rfl,_,rfl,_,_,rfl,rfl,_,_,_,rfl,rfl,IU (by rw[cl,el];exact sl),_,_,rfl,rfl,_,rfl,_,rfl,_,_,rfl,rfl,((bj S).length:Nat),(bj S).length,rfl,?_,trivial,some (.sh true (.tup (bj S))),?_⟩
   ·exact WB (by show _<(nz _).length;rw[kX,cl,el];exact sl)
   ·rw[tk,IK sl,if_pos f,<- Zx,el]
    rfl
  ·rw[Av.mpr f]
   refine bA ⟨some (.sh true (.tup (bj S))),?_⟩;rw[tk,IK sl,if_neg f];rfl
 ·rintro ρ ⟨y4,rfl⟩
  refine⟨_,rfl,trivial,?_⟩;have lz:(fq Z).length=Z.length:=oT Z;have e:eZ (hE (cI ws (n:Int)) ls) (ws.length*n) Z=v:=by
   refine List.ext_getElem (by rw[pV,hl]) λk h1 h2=>?_
   have hk:k<ws.length*n+1:=by rwa [pV]at h1
   have a1:=IL (F:=hE (cI ws (n:Int)) ls) (Z:=Z) hk;rw[IS o s h7 pz k,<- hg k]at a1;rw[kz,kz,kg h1,kg h2]at a1;exact a1
  rw[lz,xj,e];exact q
def OZ:aY:=(aP (bW 8 (aG pS (a8 (a5 1) (a8 (a5 2) aF))))
 (aP (bW 9 (aG lP (a8 (a5 1) (a8 (a5 2) aF))))
 (aP (dG (gK (iP (bC (aG oY (a8 (a5 8) (a8 (aG d4 (a8 (cR (a5 9) (qC (.int 0))) aF)) aF))))) (gK (bC (r6 (aG d4 (a8 (a5 8) aF)) (a5 7))) (iP (bC (aG lO (a8 (a5 9) (a8 (a5 8) aF))))))) (c9 (qC (.bl false))) dF)
 (aP (dG (gK (bC (r6 (aG d4 (a8 (aG pS (a8 (aG qW (a8 (a5 1) aF)) (a8 (a5 2) aF))) aF)) (a5 7))) (bC (r6 (aG pO (a8 (aG qW (a8 (a5 1) aF)) (a8 (a5 2) aF))) (a5 6)))) (c9 (qC (.bl false))) dF)
 (c9 (q2 (sZ false) (aG sY (a8 (aG qW (a8 (a5 1) aF)) (a8 (a5 2) aF))) (a5 3)))))))
def Q6:aY:=(aP (E5 4)
 (aP (bW 6 (aG pO (a8 (a5 1) (a8 (a5 2) aF))))
 (aP (bW 7 (aG sT (a8 (a5 1) (a8 (a5 2) aF))))
 (aP (dG (gK (iP (bC (aG j9 (a8 (a5 6) aF)))) (gK (bC (r6 (a5 6) (aG vK (a8 (a5 3) aF)))) (gK (iP (bC (aG j9 (a8 (a5 7) aF)))) (gK (bC (qZ (cR (a5 3) (a5 7)) (qC (.int 0)))) (bC (uL (aG vK (a8 (IP (a5 3) HA (Hz (a5 7))) aF)) (qC (.int 0)))))))) (c9 (qC (.bl false))) dF)
 OZ))))
def OY (K:ad):aY:=(aP (bW 1 (aG nI (a8 (aG lM (a8 (a5 0) (a8 (qC (.int 0)) aF))) aF)))
 (aP (bW 2 (lD (aG lM (a8 (a5 0) (a8 (qC (.int 1)) aF))) (fG (mQ (qC (.int 7)) (aG d4 (a8 (a5 1) aF))) (qC (.int 1)))))
 (aP (bW 3 (aG t5 (a8 (a5 1) (a8 (a5 2) aF))))
 (aP (lA 4 (aG sY (a8 (a5 1) (a8 (a5 2) aF))))
 (aP (dG (gK (iP (bC (kN K "list" (a5 4)))) (bC (q2 (sZ true) (a5 4) (a5 3)))) (c9 (qC (.bl false))) dF)
 (aP (E6 4 5 (iP (bC (aG j9 (a8 (a5 5) aF)))) (qC (.bl false)))
 Q6))))))
def Q7:aQ:=vF
abbrev OX (s:PV)(ws:ag)(n:Nat)(v:List Nat)(y4 y5 y6 y7:Option Slot):bM:=[some (.sh true s),some (.sh true (.tup (bj ws))),si n,some (.sh true (.lst (nz v))),y4,y5,y6,y7,none,none]
theorem Zv {s:PV}{ws:ag}{n:Nat}{v:List Nat}{u:bf.PR}{y4 y5:Option Slot}{Q:PV->Prop}(ok:dH ws)(h7:ws.length*n<=7)(hv:bf.eM b8 (bf.bD ws (bH ws.length) b8 [1] n)=some v)(hu:bf.eM JP (bf.bD ws bf.aV JP (0,[]) n)=some u)(q:Q (.bl true)) :
  OZ { nx:=λ_=>Q .cq,rt:=Q } (OX s ws n v y4 y5 (si (bN ws n (aZ ws):Nat)) (si (u.1:Nat))):=by
 have o:=lW ok;have w1:=o.1;have n7:n<=7:=iw (Ef n w1) h7;have cl:=bf.wS o;have hx:bY (.tup (bj ws)) ws:=.inl rfl;have hy:bY (.lst (bj ws)) ws:=.inr rfl;refine⟨_,rfl,_,rfl,.tup (bj ws),ws,n,u,rfl,hx,ok,by lia,hu,trivial,?_⟩;refine⟨_,rfl,_,rfl,ws,(n:Int),rfl,ok,by lia,by lia,λls ord mem=>?_⟩;have sl:=P9 o ord mem;have wb:=sl.wb (by lia)
 obtain⟨g1,g2,g3,g4,g5⟩:=Ji sR o sl hu
 have em:(bj (cI ws (n:Int))).length=ws.length*n:=by rw[cL,iF]
 have yt:∀x∈eC u.2 ws.length,x∈de (cI ws (n:Int)).length:=λx hx=>cN.mpr (by rw[iF];exact (fU g3).2 x hx)
 refine⟨trivial,?_⟩;refine⟨_,rfl,_,rfl,_,_,_,rfl,rfl,rfl,_,_,rfl,rfl,eC u.2 ws.length,ws.length*n,by rw[em];rfl,g3,_,rfl,bA ⟨_,rfl,_,_,rfl,rfl,_,rfl,.inl ⟨_,_,rfl,rfl,_,rfl,?_⟩⟩⟩;rw[cL,g4];rw[show ∀a:Int,(if true=true then !decide (a=a) else decide (a=a))=false from λa=>by simp];refine bA ⟨_,rfl,_,rfl,cI ws (n:Int),ls,.tup (bj (eC u.2 ws.length)),eC u.2 ws.length,rfl,wb,.inl rfl,yt,_,rfl,?_⟩;rw[g5];refine bA ?_;refine⟨_,rfl,.tup (bj ws),bj ws,rfl,rfl,gI ws,_,rfl,.lst (bj ws),ws,n,u,rfl,hy,ok,by lia,hu,_,_,rfl,rfl,_,rfl,.inl ⟨_,_,rfl,rfl,_,rfl,?_⟩⟩;rw[cL,g4];rw[show ∀a:Int,(if true=true then !decide (a=a) else decide (a=a))=false from λa=>by simp];refine bA ⟨_,rfl,.tup (bj ws),bj ws,rfl,rfl,gI ws,_,rfl,.lst (bj ws),ws,n,_,rfl,hy,ok,cl,by lia,bf.Jy o n,_,rfl,.inl ⟨_,_,rfl,rfl,_,rfl,?_⟩⟩;rw[show ∀a:Int,(if true=true then !decide (a=a) else decide (a=a))=false from λa=>by simp];refine bA ?_;refine⟨_,rfl,.tup (bj ws),bj ws,rfl,rfl,gI ws,_,rfl,.lst (bj ws),ws,n,v,rfl,hy,ok,by lia,hv,_,rfl,v.map Int.ofNat,v.map Int.ofNat,rfl,rfl,trivial,?_⟩;show Q (.bl (if false=true then _ else decide (v.map Int.ofNat=v.map Int.ofNat)));rw[if_neg (by decide),eu rfl];exact q
theorem Zu {s:PV}{ws:ag}{n:Nat}{v:List Nat}{y5:Option Slot}{Q:PV->Prop}(ok:dH ws)(h7:ws.length*n<=7)(hv:bf.eM b8 (bf.bD ws (bH ws.length) b8 [1] n)=some v)(hg:∀J,v.getD J 0=cM ws n (aZ ws) J)(hs:v.sum=bN ws n (aZ ws))(q:Q (.bl true)) :
  Q6 { nx:=λ_=>Q .cq,rt:=Q } (OX s ws n v (some (.own (.lst (nz v)))) y5 none none):=by
 have o:=lW ok;have w1:=o.1;have n7:n<=7:=iw (Ef n w1) h7;have cl:=bf.wS o;have hx:bY (.tup (bj ws)) ws:=.inl rfl
 obtain⟨u,hu⟩:=bf.Tw sR o n
 obtain⟨u1,u2⟩:=bf.Td sR o hu
 have ul:u.1<v.length:=by
  by_cases h:u.1<v.length
  ·exact h
  ·have:=hg u.1
   rw[kz,List.getElem?_eq_none (by lia)]at this
   have:0=cM ws n (aZ ws) u.1:=this
   lia
 refine⟨_,rfl,?_⟩;refine⟨_,rfl,_,rfl,.tup (bj ws),ws,n,_,rfl,hx,ok,cl,by lia,bf.Jy o n,trivial,?_⟩;refine⟨_,rfl,_,rfl,.tup (bj ws),ws,n,u,rfl,hx,ok,cl,by lia,hu,trivial,?_⟩;refine⟨_,rfl,_,rfl,_,rfl,bA ⟨_,rfl,_,rfl,_,_,rfl,rfl,.inl ⟨_,_,rfl,rfl,_,rfl,?_⟩⟩⟩;rw[IT,hs];rw[show ∀a:Int,(if true=true then !decide (a=a) else decide (a=a))=false from λa=>by simp];refine bA ⟨_,rfl,_,rfl,_,rfl,bA ⟨_,rfl,_,rfl,nz v,(u.1:Nat),.int (v.getD u.1 0:Nat),rfl,rfl,IU ul,.inl ⟨_,_,rfl,rfl,_,rfl,?_⟩⟩⟩;rw[hg,dm (by lia)];have c0:=Xc (ns:=v.map Int.ofNat) (w:=((u.1:Nat):Int)) (Cb _);rw[mz,<- List.map_take]at c0;refine bA ⟨_,rfl,_,rfl,_,rfl,nz v,rfl,gV _,_,(v.take u.1).map Int.ofNat,rfl,congrArg some c0,_,_,rfl,rfl,_,rfl,?_⟩;rw[IT,SM λj hj=>by rw[hg];exact u2 j hj];refine bA ?_;exact Zv ok h7 hv hu q
theorem Zt {K:ad}:∀xs Q,Q7 xs Q->OY K { nx:=λ_=>Q .cq,rt:=Q } (bB ["script","wants","length","due","found","number","many","least","seeds","web"] xs):=by
 have kk:=vG K;rintro _ Q ⟨ns,rfl,hl,q⟩;refine⟨_,rfl,.mn ns,ns,0,rfl,.inl rfl,by decide,_,rfl,λws ok=>⟨trivial,?_⟩⟩;have o:=lW ok;have el:(bj ws).length=ws.length:=cL ws
 obtain⟨n,en,h7⟩:∃n:Nat,ns.getD 1 0%(7/(ws.length:Int)+1)=n/\ws.length*n<=7:=by
  rcases pQ o with e|e<;>rw[e]
  ·exact⟨(ns.getD 1 0%(7/((1:Nat):Int)+1)).toNat,by lia,by lia⟩
  ·exact⟨(ns.getD 1 0%(7/((2:Nat):Int)+1)).toNat,by lia,by lia⟩
 have w1:=o.1;have w2:=o.2;have n7:n<=7:=iw (Ef n w1) h7
 obtain⟨v,hv,hlv,hg,hs⟩:=bf.Jc o n
 refine⟨_,rfl,.mn ns,ns,1,rfl,.inl rfl,by decide,_,rfl,_,_,rfl,rfl,_,_,rfl,rfl,⟨by rw[el];lia,by rw[el];lia⟩,_,_,rfl,rfl,_,_,rfl,rfl,?_,trivial,?_⟩
 ·show (0:Int)<7/((bj ws).length:Int)+1
  rw[el];rcases pQ o with e|e<;>rw[e]<;>decide
 refine⟨_,rfl,_,rfl,ws,n,v,?_,ok,h7,hv,trivial,?_⟩
 ·rw[<- en,el];rfl
 refine⟨_,rfl,_,rfl,.tup (bj ws),ws,n,v,?_,.inl rfl,ok,by lia,hv,rfl,gV _,?_⟩
 ·rw[<- en,el];rfl
 refine⟨_,rfl,_,_,rfl,kk.ll,_,rfl,bA ⟨_,rfl,_,rfl,v.map Int.ofNat,v.map Int.ofNat,rfl,rfl,_,rfl,?_⟩⟩;show if (if true=true then !decide (v.map Int.ofNat=v.map Int.ofNat) else _)=true then _ else _
 rw[if_pos rfl,eu rfl];refine bA ?_;have fin:∀y5,Q6 { nx:=λ_=>Q .cq,rt:=Q } [some (.sh true (.mn ns)),some (.sh true (.tup (bj ws))),some (.sh true (.int (ns.getD 1 0%(7/((bj ws).length:Int)+1)))),some (.sh true (.lst (nz v))),some (.own (.lst (nz v))),y5,none,none,none,none]:=λy5=>by
  rw[el,en];exact Zu ok h7 hv hg hs q
 refine⟨nz v,rfl,by decide,gV _,λx hx=>?_,fin none,λy=>fin y⟩
 obtain⟨m,_,rfl⟩:=gs.mp hx
 exact⟨_,rfl,_,rfl,_,rfl,trivial⟩
end PP
namespace Core
open PySem L2 PP
def nV:aQ:=λxs Q=>∃x ws L,xs = [x,.int L]/\bY x ws/\(dH ws->0<=L->Q .cq)/\(¬(dH ws/\0<=L)->False)
def OW:aY:=(aP (dG (gK (bC (mR (aG d4 (a8 (a5 0) aF)) (qC (.int 1)))) (gK (bC (uL (aG d4 (a8 (a5 0) aF)) (qC (.int 2)))) (gK (bC (mR (aG E9 (a8 (a5 0) aF)) (qC (.int 0)))) (bC (uL (aG G0 (a8 (a5 0) aF)) (qC (.int 6))))))) uM dF)
 (dG (bC (mR (a5 1) (qC (.int 0)))) uM dF))
theorem Zs:jX OW ["wants","length"] nV:=by
 rintro xs Q ⟨x,ws,L,rfl,hx,q,ex⟩;have hk:dH ws/\0<=L:=Classical.byContradiction ex
 obtain⟨⟨ne,l2,h6⟩,h0⟩:=hk
 have l1:=List.length_pos_iff.mpr ne;refine⟨_,rfl,_,_,rfl,hx.len,_,_,rfl,rfl,_,rfl,?_⟩;rw[dm (by lia)];refine bA ⟨_,rfl,_,_,rfl,hx.len,_,_,rfl,rfl,_,rfl,?_⟩;rw[dm (by lia)];refine bA ⟨_,rfl,VZ hx ne λm m1 _=>⟨_,_,rfl,rfl,_,rfl,?_⟩⟩;rw[dm (by have:=h6 m m1;lia)];refine bA ⟨_,rfl,VY hx ne λM M1 _=>⟨_,_,rfl,rfl,_,rfl,?_⟩⟩;rw[dm (by have:=h6 M M1;lia)];refine bA ⟨_,rfl,_,_,rfl,rfl,_,rfl,?_⟩;rw[dm (by lia)];exact bA (q ⟨ne,l2,h6⟩ h0)
def nW:aQ:=λxs Q=>∃L m:Int,xs = [.int L,.int m]/\(L<=m->Q .cq)/\(m<L->False)
def OV:aY:=(dG (bC (uL (a5 0) (a5 1))) uM dF)
theorem Zr:jX OV ["length","most"] nW:=by
 rintro xs Q ⟨L,m,rfl,q,ex⟩;refine⟨_,rfl,_,rfl,_,_,rfl,rfl,_,rfl,?_⟩;rw[dm (show ¬L>m from ex)];exact bA (q (Int.not_lt.mp ex))
end Core
namespace PP
open PySem L2
def Kn (K:ad)(x:Str)(st:Stmt)(f:az):Prop:=PySem.W.nsIn K mainGlobals x=some (some (.ref f))/\(∃oc od kV dc pm an cd ct sl,K.lookup f=some ⟨oc,od,.func (PySem.W.fnOf x x (dE st) (cF st) (aJ st) .none kV dc pm an cd ct),sl⟩/\PySem.W.codeIn K cd x=true)/\PySem.W.keepIn K (.ref f)=true
theorem bA8 {K:ad}{x:Str}{st:Stmt}{f:az}{oc kV dc pm cd ct:ax}{od an:Option az}{sl:Array (Option ax)}(a:PySem.W.nsIn K mainGlobals x=some (some (.ref f)))(l:K.lookup f=some ⟨oc,od,.func (PySem.W.fnOf x x (dE st) (cF st) (aJ st) .none kV dc pm an cd ct),sl⟩)(c:PySem.W.codeIn K cd x=true)(k:PySem.W.keepIn K (.ref f)=true):Kn K x st f:=
 ⟨a,⟨_,_,_,_,_,_,_,_,_,l,c⟩,k⟩
theorem Kn.go {K:ad}{x:Str}{st:Stmt}{f:az}{h:Heap}{mg:Str->Option ax}(q:Kn K x st f)(X:K.In h)(G:h.Ns mainGlobals mg):mg x=some (.ref f)/\∃fd,bF K x x st f fd:=by
 obtain⟨a,⟨_,_,_,_,_,_,_,_,_,l,c⟩,k⟩:=q
 exact⟨PySem.W.mg_of X G a,_,yF (st:=st) l c k⟩
def lY (K:ad)(x:Str)(st:Stmt)(f c0 P0:az):Prop:=PySem.W.nsIn K mainGlobals x=some (some (.ref f))/\(∃oc od kV dc pm an ct sl,K.lookup f=some ⟨oc,od,.func (PySem.W.fnOf x x (dE st) (cF st) (aJ st) .none kV dc pm an (.ref c0) ct),sl⟩)/\PySem.W.codeIn K (.ref c0) x=true/\PySem.W.keepIn K (.ref f)=true/\PySem.W.codeHdIn K c0 P0=true/\(mainGlobals==P0)=false
theorem Q8 {K:ad}{x:Str}{st:Stmt}{f c0 P0:az}{oc kV dc pm ct:ax}{od an:Option az}{sl:Array (Option ax)}(a:PySem.W.nsIn K mainGlobals x=some (some (.ref f)))(l:K.lookup f=some ⟨oc,od,.func (PySem.W.fnOf x x (dE st) (cF st) (aJ st) .none kV dc pm an (.ref c0) ct),sl⟩)(c:PySem.W.codeIn K (.ref c0) x=true)(k:PySem.W.keepIn K (.ref f)=true)(h:PySem.W.codeHdIn K c0 P0=true)(n:(mainGlobals==P0)=false):lY K x st f c0 P0:=
 ⟨a,⟨_,_,_,_,_,_,_,_,l⟩,c,k,h,n⟩
theorem cW.Ff {P:ba}{w:bd}{K:ad}{mg:Str->Option ax}{base:Heap}{T:List (az×Str)}{k:Nat}{x:Str}{ps N:List Str}{p:aQ}{st:Stmt}{f c0 P0:az}(q:lY K x st f c0 P0)(m:mg x=some (.ref f))(S:bx N ps (aJ st))(hb:∀(kV doc pm:ax) (an:Option az) (cm ct:ax) (us:List ax),us.length=ps.length->bindArgs (PySem.W.fnOf x x (dE st) (cF st) (aJ st) .none kV doc pm an cm ct) ⟨us,[]⟩=pure (ps.zip us))(len:∀xs Q,p xs Q->xs.length=ps.length)(body:PySem.W.codeHdIn K c0 P0=true->mainGlobals≠P0->∀(A:bc) (outer:List Env) (s:ay) (H:Hp) (E:XK),bL k (A.deeper (PyProof.Rows.envOfC x (aJ st) s.heap.objs.size f (.ref c0)))->gU T H->
   ∃t,gO (eF c7 P w K mg base N x (aJ st) f (.ref c0) A outer s H E).sv (cF st) t/\∀xs Q,p xs Q->t { nx:=λ_=>Q .cq,rt:=Q } (bB N xs)):cW P w K mg base T (k+1) x ps p:=by
 obtain⟨_,⟨_,_,_,_,_,_,_,_,l⟩,c,kp,h,n⟩:=q
 exact cW.Fg l c kp m S hb len (body h (Uc n))
def wY:List Str:=["len","range","tuple","list","sorted","all","any","zip","min","max","sum","isinstance","int","bool","enumerate"]
theorem Zq {K:ad}{h:Heap}{mg:Str->Option ax}(X:K.In h)(G:h.Ns mainGlobals mg)(zs:∀x∈wY,PySem.W.nsIn K mainGlobals x=some none):Bt mg:=by
 have q:∀x,x∈wY->mg x=none:=λx hx=>PySem.W.mg_none_of X G (zs x hx)
 exact⟨q _ (by decide),q _ (by decide),q _ (by decide),q _ (by decide),q _ (by decide),q _ (by decide),q _ (by decide),q _ (by decide),q _ (by decide),q _ (by decide),q _ (by decide),q _ (by decide),q _ (by decide),q _ (by decide),q _ (by decide)⟩
end PP
namespace L2
open PySem PySem.Spec PyProof.Rows SO
def OU (K:ad):List V->Hp->VK->Prop:=λxs H Q=>∃(a:az) (ys:List V) (key:V->ag),xs = [.ref a]/\aN K H a ys/\ys.length<=4096/\(∀y∈ys,∃b,y = .ref b/\aM K H b ((key y).map V.int))/\((∀y∈ys,key y≠[])∨∀y,ys.head? = some y->key y = [])/\
 ∀l (zs:List V),H l=none->zs.Perm ys->zs.Pairwise (λu v=>HT.b9 (key v) (key u)=false)->Q (.ref l) (upd H l (.lst zs))
theorem OT {X:Cx}(hu:X.A.units+3<cLine):dO X (.builtin "sorted") (OU X.K):=by
 intro ai s σ H xs us Q I r h
 obtain⟨a,ys,key,rfl,hs,hz4,hk,h0,q⟩:=h
 obtain⟨u,rfl,ru⟩:=jM r
 cases ru
 obtain⟨bo,rv,p,hz⟩:=I.list hs
 have hl:=rv.length;have hn:s.heap.objs.size<=s.heap.objs.size+1:=Nat.le_succ _;by_cases h2:bo.length<2
 ·refine aO8 p.isList h2 ?_
  obtain⟨e,he⟩:=sortedAll_at s.heap bo bo.toArray
  refine⟨.ref (s.heap.objs.size+1),upd H (s.heap.objs.size+1) (.lst ys),I.laid (t':=s.toks) (λ_ _=>sortedAll_old) hn ⟨hz,bo,e,rv,he⟩,rfl,q _ ys (I.cj.fresh hn) (List.Perm.refl _) ?_⟩
  match ys,hl with
  |[],_=>exact List.Pairwise.nil
  |[_],_=>exact CT _ _
  |_::_::_,hl=>simp at hl;lia
 ·have pv:∀{y:V}{v:ax},aO y v->y∈ys->gT (eU (fJ s.heap bo) (s.heap.objs.size+1) bo) v (key y):=λ{y v} ry hy=>by
   obtain⟨b,rfl,sq⟩:=hk y hy
   cases ry
   obtain⟨us,ru,⟨ob,e1,c1,n1,d1⟩,_⟩:=I.tuple sq
   exact⟨b,ob,us,n1,rfl,Yk (lj (Nat.lt_succ_of_lt (fm e1))) (Yl e1),c1,d1,mG ru⟩
  have Qw:∀{xs:List V}{vs:List ax},aI xs vs->(∀y∈xs,y∈ys)->∀v∈vs,∃y∈ys,gT (eU (fJ s.heap bo) (s.heap.objs.size+1) bo) v (key y):=by
   intro xs vs r
   induction r with
   |nil=>intro _ v hv;cases hv
   |cons rx rt ih=>
    intro hh v hv;rcases eg.mp hv with z|z
    ·subst z
     exact⟨_,hh _ dv,pv rx (hh _ dv)⟩
    ·exact ih (λy hy=>hh y (gc _ hy)) v z
  have Eh:=Qw rv λ_ h=>h
  have fin:∀out:List ax,out.Perm bo->out.Pairwise (λu v=>nF (eU (fJ s.heap bo) (s.heap.objs.size+1) bo) (ys.map key) (u,u)<=nF (eU (fJ s.heap bo) (s.heap.objs.size+1) bo) (ys.map key) (v,v))->EP X ai σ Q (.ref (s.heap.objs.size+1)) { s with heap:=sortedAll s.heap bo out.toArray }:=λout pm so=>by
   obtain⟨zs,pz,rz⟩:=Yi pm.symm rv
   obtain⟨e,he⟩:=sortedAll_at s.heap bo out.toArray
   refine⟨.ref (s.heap.objs.size+1),upd H (s.heap.objs.size+1) (.lst zs),I.laid (t':=s.toks) (λ_ _=>sortedAll_old) hn ⟨by rw[pz.length_eq];exact hz,out,e,rz,he⟩,rfl,q _ zs (I.cj.fresh hn) pz ?_⟩;have lz:=rz.length;rw[Bb];intro i j hi hj ik;have s1:=Bb.mp so i j (by lia) (by lia) ik;have gi:=yS i hi rz;have gj:=yS j hj rz;simp only[kz,kg hi,kg hj,kg (show i<out.length by lia),kg (show j<out.length by lia),Option.getD_some]at gi gj;have mi:=pz.mem_iff.mp (AW hi);have mj:=pz.mem_iff.mp (AW hj);have vi:=pv gi mi;have vj:=pv gj mj;unfold nF at s1;rw[gT.ints vi,gT.ints vj]at s1;rw[E3 (gs.mpr ⟨_,mj,rfl⟩) (gs.mpr ⟨_,mi,rfl⟩)];exact dm (by lia)
  have big:bo.length<=sizeLine:=by rw[<- hl];exact hz
  rcases h0 with h0|h0
  ·have all2:∀v∈bo,rW (eU (fJ s.heap bo) (s.heap.objs.size+1) bo) (ys.map key) v:=λv hv=>by
    obtain⟨y,hy,z⟩:=Eh v hv
    exact⟨_,gs.mpr ⟨y,hy,rfl⟩,h0 y hy,z⟩
   exact LW (κ:=tuples' true) (Ok:=λx=>rW (eU (fJ s.heap bo) (s.heap.objs.size+1) bo) (ys.map key) x.1) p.isList (by lia) big
    (λA E Q hQ=>VR (s:={ s with heap:=eU (fJ s.heap bo) (s.heap.objs.size+1) bo }) all2 (by lia) hQ) hu (λA E _=>VT (s:={ s with heap:=eU (fJ s.heap bo) (s.heap.objs.size+1) bo }) (ys.map key)) all2 fin
  ·have all2:∀v∈bo,∃ns∈ys.map key,gT (eU (fJ s.heap bo) (s.heap.objs.size+1) bo) v ns:=λv hv=>by
    obtain⟨y,hy,z⟩:=Eh v hv
    exact⟨_,gs.mpr ⟨y,hy,rfl⟩,z⟩
   refine LW (κ:=oneType') (Ok:=λx=>∃ns∈ys.map key,gT (eU (fJ s.heap bo) (s.heap.objs.size+1) bo) x.1 ns) p.isList (by lia) big
    (λA E Q hQ=>?_) hu (λA E hA=>WO (s:={ s with heap:=eU (fJ s.heap bo) (s.heap.objs.size+1) bo }) (ys.map key) hA) all2 fin
   cases rv with
   |nil=>simp at h2
   |cons rx rt=>
    have t0:=pv rx dv;rw[h0 _ rfl]at t0;exact WN (M:=model X.prog X.w) (A:=A) (E:=E) (λy hy=>(all2 y hy).imp λ_ z=>z.2) t0 hQ
end L2
namespace PP
open PySem L2
section
variable {X:Cx}{e:Expr}{tr:bV}{pos p2:Pos}
theorem OS {R:List PV->(PV->Prop)->Prop}(hR:∀xs Q,R xs Q->∃ys:ae,xs = [.lst (ys.map λr=>PV.tup (bj r))]/\ys.length<=4096/\((∀y∈ys,y≠[])∨∀y,ys.head? = some y->y = [])/\∀zs:ae,zs.Perm ys->zs.Pairwise (λu v=>HT.b9 v u=false)->Q (.lst (zs.map λr=>PV.tup (bj r)))):fQ X R (OU X.K):=by
 rintro H vs xs Q Q' r h k
 obtain⟨ys,rfl,hl,oo,q⟩:=hR _ _ h
 obtain⟨v,rfl,r1⟩:=r.one
 obtain⟨a,us,rfl,_,h,r2⟩:=r1.rh
 obtain⟨h1,h2⟩:=MG r2
 have lr:=r2.length;rw[dt]at lr;have FV:(∀y∈us,kP H y≠[])∨∀y,us.head? = some y->kP H y = []:=by
  rcases oo with g|g
  ·exact .inl λy hy=>g _ (by rw[<- h1];exact gs.mpr ⟨_,hy,rfl⟩)
  ·exact .inr λy hy=>g _ (by rw[<- h1,List.head?_map,hy];rfl)
 refine⟨a,us,kP H,rfl,aN.of h,by lia,λy hy=>?_,FV,λl zs DI pm so=>?_⟩
 ·obtain⟨b,rfl,hb⟩:=h2 y hy
  exact⟨b,rfl,aM.of hb⟩
 ·have hz:∀u∈zs,∃b,u = .ref b/\H b=some (.tup ((kP H u).map V.int)):=λu hu=>h2 u (pm.mem_iff.mp hu)
  refine k _ _ _ (bU DI _) (.lst DI bE ((MF hz).same (bU DI _) λ_ z=>z)) (q _ ?_ ?_)
  ·rw[<- h1];exact pm.map _
  ·rw[AY];exact so
theorem Zo (B:Bt X.mg)(hu:X.A.units+3<cLine)(ha:QA X [e] tr)(hg:Gl X "sorted":=by rfl)(he:starEach [e] X.env=(false,eval e X.env)::starEach [] X.env:=by rfl)(hpl:(backTo pos (starEach [] X.env)).any (·.1)=false:=by rfl):QE X (.Call (.Name "sorted" p2) [e] [] pos) (aG LV tr):=
 mW (OT hu) (OS λ_ _ ⟨ys,a,b,c,d⟩=>⟨ys,a,b,.inr c,d⟩) hg B.sorted PyProof.Rows.boot_sorted ha (he:=he) (hpl:=hpl)
theorem Zn (B:Bt X.mg)(hu:X.A.units+3<cLine)(ha:QA X [e] tr)(hg:Gl X "sorted":=by rfl)(he:starEach [e] X.env=(false,eval e X.env)::starEach [] X.env:=by rfl)(hpl:(backTo pos (starEach [] X.env)).any (·.1)=false:=by rfl):QE X (.Call (.Name "sorted" p2) [e] [] pos) (aG Mf tr):=
 mW (OT hu) (OS λ_ _ ⟨ys,a,b,c,d⟩=>⟨ys,a,b,.inl λy hy z=>(by have:=c y hy;rw[z]at this;cases this),d⟩) hg B.sorted PyProof.Rows.boot_sorted ha (he:=he) (hpl:=hpl)
end
section
variable {X:Cx}{ai:List (az×Obj)}{s:ay}{σ:St}{H:Hp}
theorem Zm {A:bc}(hu:A.units<cLine)(I:a6 X ai σ H s){p q:az}{ns ms:ag}(h1:H p=some (.tup (ns.map V.int)))(h2:H q=some (.tup (ms.map V.int))):SeqAt.EqAt A s (.ref p) (.ref q) (decide (ns=ms)):=by
 by_cases e:p=q
 ·subst e
  rw[h1]at h2;have e2:ns.map V.int=ms.map V.int:=HO.tup.inj (ip h2)
  have:ns=ms:=(List.map_inj_right λa b z=>V.int.inj z).mp e2
  rw[eu this];exact SeqAt.EqAt.same _
 ·obtain⟨us,v1,t1,_⟩:=I.tuple (aM.of (K:=X.K) h1)
  obtain⟨ws,v2,t2,_⟩:=I.tuple (aM.of (K:=X.K) h2)
  have l1:=v1.length;have l2:=v2.length;rw[dt]at l1 l2;refine .of_refs e ?_
  have:=SeqAt.RcAt.tuples t1 t2 hu (items_int v1 v2)
  rw[fu,fu,<- l1,<- l2]at this;have eb:((List.range (min ns.length ms.length)).all (λj=>ns.getD j 0==ms.getD j 0)&&ns.length==ms.length)=decide (ns=ms):=by
   by_cases hl:ns.length=ms.length
   ·rw[show (ns.length==ms.length)=true by simpa using hl,Bool.and_true,hl,Nat.min_self,<- hl,Q5 hl]
   ·rw[show (ns.length==ms.length)=false by simpa using hl,Bool.and_false,dm λz=>hl (by rw[z])]
  rw[eb]at this;exact this
end
end PP
namespace L2
open PySem PySem.Spec PyProof.Rows PP
section
variable {X:Cx}{ai:List (az×Obj)}{s:ay}{σ:St}{H:Hp}{M M':az→Prop}
theorem Zl {A:bc}(hu:A.units+4<cLine)(I:a6 X ai σ H s){x y:V}{v u:ax}{a c:Int}{ns ms:ag}(r1:PP.aE X.K M H x (iR a ns))(r2:PP.aE X.K M' H y (iR c ms))(e1:aO x v)(e2:aO y u){prog:ba}{w:bd}{E Q:ax->ay->Prop}(h:Q (.bool (HT.b9 (a::ns) (c::ms))) s):wpAny (model prog w) A (richCompare .Lt v u) Q E s:=by
 obtain⟨l,us,rfl,h1,q1⟩:=r1.qh
 obtain⟨b,ws,rfl,h2,q2⟩:=r2.qh
 cases e1;cases e2
 obtain⟨x1,x2,rfl,p1,p2⟩:=q1.two
 obtain⟨y1,y2,rfl,p3,p4⟩:=q2.two
 cases p1;cases p3
 obtain⟨bo,v1,t1,_⟩:=I.tuple (aM.of (K:=X.K) h1)
 obtain⟨av,v2,t2,_⟩:=I.tuple (aM.of (K:=X.K) h2)
 obtain⟨_,_,rfl,k1,k2⟩:=v1.two
 obtain⟨_,_,rfl,k3,k4⟩:=v2.two
 obtain⟨t,rfl⟩:=k1
 obtain⟨t',rfl⟩:=k3
 obtain⟨p,us,rfl,h3,q3⟩:=p2.qh
 obtain⟨q,ws,rfl,h4,q4⟩:=p4.qh
 obtain rfl:=q3.ofInts;obtain rfl:=q4.ofInts;have eq:=Zm (A:=A.in1) (by show A.units+1<cLine;lia) I h3 h4;cases k2;cases k4
 obtain⟨bo,v3,t3,_⟩:=I.tuple (aM.of (K:=X.K) h3)
 obtain⟨av,v4,t4,_⟩:=I.tuple (aM.of (K:=X.K) h4)
 have i3:IntsAre bo.toArray.toList ns:=mG v3;have i4:IntsAre av.toArray.toList ms:=mG v4
 obtain⟨⟨cls,dd,data,sl⟩,ho,hc,n,hd⟩:=t1
 obtain⟨⟨Aq,tf,data2,su⟩,ui,hc2,n2,hd2⟩:=t2
 simp only at hc hd hc2 hd2;subst hc hd hc2 hd2;refine richCompare_meets_room (op:=.Lt) ⟨_,ho,rfl⟩ ⟨_,ui,rfl⟩ PySem.F.slot_tuple_lt PySem.F.entry_tuple_lt (PySem.F.args_tuple_lt_2 _ _) (HT.WA l b n n2 dd tf sl su a c t t' _ _ (decide (ns=ms)) (HT.b9 ns ms))
  ⟨ho,ui,eq,λprog w E Q hq=>(HT.aJ9 t3 t4 i3 i4 (by show A.units+1<cLine;lia) hq:wpAny (model prog w) A.in1 (compareOp .Lt _ _) Q E s),?_⟩ (by lia)
 have e:(if a=c then (if (decide (ns=ms))=true then false else HT.b9 ns ms) else decide (a<c))=HT.b9 (a::ns) (c::ms):=by
  rw[HT.jN];by_cases ac:a=c
  ·rw[if_pos ac,if_pos ac]
   by_cases nm:ns=ms
   ·rw[if_pos (eu nm),nm,LM]
   ·rw[if_neg (by rw[kf];exact nm)]
  ·rw[if_neg ac,if_neg ac]
 rw[e]
 exact⟨(λx=>nomatch x),h⟩
end
section
variable {X:Cx}
theorem Zk (hc:X.calm=true)(hu:X.A.units+6<cLine):dO X (.builtin "min") (λxs H Q=>∃x y a c ns ms,xs = [x,y]/\PP.aE X.K (λ_=>True) H x (iR a ns)/\PP.aE X.K (λ_=>True) H y (iR c ms)/\Q (if HT.b9 (c::ms) (a::ns)=true then y else x) H):=by
 intro ai s σ H xs us Q I r h
 obtain⟨x,y,a,c,ns,ms,rfl,q1,q2,q⟩:=h
 obtain⟨u,w',rfl,r1,r2⟩:=xL r
 refine VP (lt:=HT.b9 (c::ms) (a::ns)) (I.ok.hd hc) (λh k Q E old hq=>?_) λh k old=>⟨_,H,I.kept (t':=k) old,?_,q⟩
 ·exact Zl (A:=X.A.in1) (by show X.A.units+1+4<cLine;lia) (I.kept (t':=k) old) q2 q1 r2 r1 hq
 ·split
  ·exact r2
  ·exact r1
end
end L2
namespace PP
open PySem L2
section
variable {X:Cx}{a b:Expr}{tr:bV}{pos p2:Pos}
theorem Zj (B:Bt X.mg)(hc:X.calm=true)(hu:X.A.units+6<cLine)(ha:QA X [a,b] tr)(hg:Gl X "min":=by rfl)(he:starEach [a,b] X.env=(false,eval a X.env)::starEach [b] X.env:=by rfl)(hpl:(backTo pos (starEach [b] X.env)).any (·.1)=false:=by rfl):QE X (.Call (.Name "min" p2) [a,b] [] pos) (aG wJ tr):=
 mW (Zk hc hu) Uw hg B.min PyProof.Rows.boot_min ha (he:=he) (hpl:=hpl)
end
end PP
namespace K_k82
open PySem PySem.W L2 PP Core
theorem _root_.L2.bx.au {N P:List Str}{s:Scope}(a:s.kind=.function:=by rfl)(b:s.isCoroutine=false:=by rfl)(c:s.isGenerator=false:=by rfl)(d:N.Nodup:=by decide +kernel)(e:N.take P.length=P:=by rfl)(f:∀x∈P,s.names.lookup x=some .local∨s.names.lookup x=some .cell:=by decide +kernel)(g:∀y∈s.names,y.2≠.free:=by decide +kernel):bx N P s:=⟨a,b,c,d,e,f,g⟩
def aC (i:Nat):Stmt:=PySem.Challenge.pw_kindleweb_k82_seeds_of_strips_counted.main.body.getD i (.Pass ⟨0,0,0,0⟩)
section
variable {P:ba}{w:bd}{K:Frag}{mg:Str→Option ax}{base:Heap}{f:az}{fd:FuncData}{T:List (az×Str)}
def lZ:b7:=N5 "strip_count.<locals>.<lambda>" (sP (aC 12) 3)
theorem Zi:eW P w K mg base 1 lZ sQ:=
 eW.of (N:=["many","seeds"]) (ps:=["many","seeds"]) rfl .au (λ_ _ _ us hl=>by obtain⟨_,_,rfl⟩:=jo hl;rfl) TV (λf cv A outer s H E hr=>⟨_,(qv 0),TZ⟩)
def fZ:b7:=N5 "strip_count.<locals>.<lambda>" (sP (aC 12) 4)
theorem OR:eW P w K mg base 1 fZ pM:=
 eW.of (N:=["one","other"]) (ps:=["one","other"]) rfl .au (λ_ _ _ us hl=>by obtain⟨_,_,rfl⟩:=jo hl;rfl) TU (λf cv A outer s H E hr=>⟨_,(fR (qv 0) (qv 1)),TY⟩)
def lF:b7:=N5 "fewest.<locals>.<lambda>" (sP (aC 18) 4)
theorem OQ (B:Bt mg):eW P w K mg base 1 lF pN:=
 eW.of (N:=["one","other"]) (ps:=["one","other"]) rfl .au (λ_ _ _ us hl=>by obtain⟨_,_,rfl⟩:=jo hl;rfl) TR (λf cv A outer s H E hr=>⟨_,(Zj B rfl (by show (A.deeper (PyProof.Rows.envOfC lF.qual lF.scope s.heap.objs.size f cv)).units+6<cLine;have:=hr.units;lia) (a7 (qv 0) (a7 (qv 1) aB))),TX⟩)
def lR (c0:az):b7:=JO "strip_counts.<locals>.<lambda>" (sP (aC 13) 3) [("width",c0)]
theorem Zh:vX ["row","seeds","width"] ["row","seeds"] "width" (JQ (sP (aC 13) 3)):=⟨rfl,rfl,rfl,by decide +kernel,rfl,by decide +kernel,by decide +kernel,by decide +kernel,by decide +kernel⟩
theorem Zg {c0:az}{w0:Int}{u0:ax}(iq:base.IsCell c0 (some u0))(rv:aO (.int w0) u0)(se:Df P w K mg base 1 "moved_row" ["row","places","width"] sW)(ka:Df P w K mg base 2 "count_in" ["mask"] nM):eW P w K mg base 3 (lR c0) (sX w0):=
 eW.Fg (N:=["row","seeds","width"]) (ps:=["row","seeds"]) (y:="width") rfl iq rv Zh (λ_ _ _ us hl=>by obtain⟨_,_,rfl⟩:=jo hl;rfl) (SU w0) (λf cv A outer s H E hr=>⟨_,rX (bI se hr (a7 (qv 0) (a7 (bI ka hr (a7 (qv 1) aB)) (a7 (qv 2) aB)))),SV w0⟩)
abbrev OP:Stmt:=aC 31
theorem wZ:bx ["web","beside","one","other"] ["web"] (aJ OP):=.au
theorem Zf (F:bF K "_law_beside" "_law_beside" OP f fd):d7 P w K mg base c7 1 f fd ["web"] ME:=by
 refine F.ok wZ (λvs H Q E h=>?_) (λcm A outer s H vs Q E hr h=>?_)
 ·obtain⟨v,ws,ls,rfl,_⟩:=h
  rfl
 obtain⟨v,ws,ls,rfl,W,hn,hm,EG,q⟩:=h
 refine⟨_,t9 (aO3 (i:=1) (N:=["hearth"]) (fr:=[none]) rfl (fC.of rfl rfl) (U1 (qJ xS (pv 0) x8 (λ_ _=>rfl)))
   ⟨λ_ _ _ _=>jK (i:=0) (CT _ _) rfl (Or.inl rfl) (.inr rfl),λ_ _ _ _=>Z6,λ_ _ _ _=>V4 iJ⟩ wZ.nd rfl rfl rfl)
  (t9 (xF BW rfl (U1 (qJ xS (pv 0) x8 (λ_ _=>rfl))) (xC (n:=2) rfl (nY (jK (i:=2) wZ.nd rfl (Or.inl rfl) (.inr rfl)) (nY (jK (i:=3) wZ.nd rfl (Or.inl rfl) (.inr rfl)) xB)) )
   (t9 (kZ (tP CV PySem.F.slot_list_append PySem.F.type_list_append tQ (qJ xR (pv 1) (pv 2) (λ_ _=>rfl)) (eO (pv 3) iJ)))
   (d6 (kZ (tP CV PySem.F.slot_list_append PySem.F.type_list_append tQ (qJ xR (pv 1) (pv 3) (λ_ _=>rfl)) (eO (pv 2) iJ))))))
  (d6 (tE (pv 1)))),?_⟩
 obtain⟨a,p,q',ys,rfl,ha,hp,hq,hL⟩:=W.at_
 have lw:(ws.map V.int).length=ws.length:=dt _
 refine⟨_,rfl,a,_,_,_,rfl,rfl,aM.of ha,rfl,p,rfl,⟨_,aM.of hp⟩,aO6 (aO5 (aM.of hp)) (λi acc H'=>∃bs:List az,acc=bs.map V.ref/\bs.length=i/\bs.Nodup/\∀b∈bs,H b=none/\H' b=some (.lst [])) (by rw[lw];exact uw (Z4 hn))
  (λD hD=>⟨[],rfl,rfl,xw,λ_ z=>nomatch z⟩) (λi x acc D H' hx c Gr=>?_) (λD acc H' hD sm CD ao Gr=>?_)⟩
 ·obtain⟨bs,rfl,EI,nd,hb⟩:=Gr
  refine⟨Pt (n:=none),aP3 ⟨lh _,λr Bx=>?_⟩⟩;have Rm:r≠D:=λz=>by rw[z,c.acc]at Bx;cases Bx
  have Rl:H r=none:=c.same.free Bx;refine c.yes (bU Bx _) ⟨bs++[r],by simp,by simp[EI],?_,λb hm=>?_⟩
  ·refine List.nodup_append.mpr ⟨nd,CT _ _,λb Iu b' RU e=>?_⟩
   rw[eh.mp RU]at e;rw[e]at Iu;rw[(hb r Iu).2]at Bx;cases Bx
  ·rcases jk.mp hm with hm|hm
   ·have RR:b≠D:=λz=>by
     rw[z]at hm
     have:=(hb D hm).2
     rw[c.acc]at this
     have:bs.map V.ref = []:=by injection this with e1;injection e1
     have:bs = []:=List.map_eq_nil_iff.mp this
     rw[this]at hm;simp at hm
    refine⟨(hb b hm).1,?_⟩;rw[aH RR,aH (dL (hb b hm).2 Bx)];exact (hb b hm).2
   ·rw[eh.mp hm]
    exact⟨Rl,by rw[aH Rm,bE]⟩
 ·obtain⟨bs,rfl,EI,nd,hb⟩:=Gr
  rw[lw]at EI;have R0:kI H H' D bs (λk=>bX (ls.take 0) k):=by
   refine⟨hD,λb hm=>⟨(hb b hm).1,λz=>?_⟩,nd,CD,λk b hk=>(hb b (sr hk)).2,sm⟩;rw[z]at hm
   have:=(hb D hm).2
   rw[CD]at this
   have:bs.map V.ref = []:=by injection this with e1;injection e1
   have:bs = []:=List.map_eq_nil_iff.mp this
   rw[this]at hm;simp at hm
  have lL:=hL.length
  refine⟨_,rfl,a,_,_,_,rfl,rfl,aM.of (sm _ _ ha),rfl,q',rfl,⟨_,aM.of (sm _ _ hq)⟩,aG5 (K:=K) (a:=q') (xs:=ys) (λi σ H2=>∃x y:Option V,σ = [some (.ref a),some (.ref D),x,y]/\kI H H2 D bs (λk=>bX (ls.take i) k))
   ⟨none,none,rfl,R0⟩ (λi σ H2 _ ⟨_,_,_,R⟩=>aM.of (R.same _ _ hq)) ?_ ?_⟩
  ·rintro i y σ H2 hi ⟨x1,x2,rfl,R⟩
   obtain⟨l,b,hl,rfl,RP⟩:=hL.get hi
   have Rz:l∈ls:=sr hl
   obtain⟨⟨h1,h2⟩,h3,h4⟩:=EG l Rz
   have k1:l.1.toNat<bs.length:=by lia
   have k2:l.2.toNat<bs.length:=by lia
   have e1:bs[l.1.toNat]? = some (bs[l.1.toNat]):=kg k1;have e2:bs[l.2.toNat]? = some (bs[l.2.toNat]):=kg k2;refine⟨b,_,rfl,aM.of (R.same _ _ RP),rfl,_,_,rfl,_,_,rfl,rfl,?_⟩;refine⟨_,rfl,_,rfl,D,_,_,.ref bs[l.1.toNat],rfl,rfl,aN.of R.row,qO h1 (by rw[ij,e1];rfl),o8 (aN.of (R.rows _ _ e1)),_,rfl,_,_,_,rfl,rfl,R.rows _ _ e1,?_,?_⟩
   ·rw[dt]
    have:=yV (ls.take i) (l.1.toNat:Nat)
    rw[List.length_take]at this;exact j5 (by lia)
   ·have R1:=R.app e1 l.2
    refine⟨_,rfl,_,rfl,D,_,_,.ref bs[l.2.toNat],rfl,rfl,aN.of R1.row,qO h3 (by rw[ij,e2];rfl),o8 (aN.of (R1.rows _ _ e2)),_,rfl,_,_,_,rfl,rfl,R1.rows _ _ e2,?_,?_⟩
    ·rw[dt]
     have:=yV (ls.take i) (l.2.toNat:Nat)
     rw[List.length_take]at this;split
     ·rw[gq,List.length_singleton];exact j5 (by lia)
     ·exact j5 (by lia)
    ·have R2:=R1.app e2 l.1
     refine⟨_,_,rfl,R2.congr λk hk=>?_⟩;rw[aP2 hl];have c1:(k=l.1.toNat)↔l.1=(k:Int):=by lia
     have c2:(k=l.2.toNat)↔l.2=(k:Int):=by lia
     by_cases d1:k=l.1.toNat
     ·by_cases d2:k=l.2.toNat
      ·rw[if_pos d2,if_pos d1,if_pos (c1.mp d1),if_pos (c2.mp d2)];simp
      ·rw[if_neg d2,if_pos d1,if_pos (c1.mp d1),if_neg (λz=>d2 (c2.mpr z))];simp
     ·by_cases d2:k=l.2.toNat
      ·rw[if_pos d2,if_neg d1,if_neg (λz=>d1 (c1.mpr z)),if_pos (c2.mp d2)];simp
      ·rw[if_neg d2,if_neg d1,if_neg (λz=>d1 (c1.mpr z)),if_neg (λz=>d2 (c2.mpr z))];simp
  ·
   rintro σ H2 ⟨x1,x2,rfl,R⟩;refine⟨_,rfl,q D bs H2 EI ?_⟩;rw[lL,xj]at R;exact R
theorem Ze:bx ["wants","length"] ["wants","length"] (aJ (aC 10)):=.au
theorem Zd (B:Bt mg)(F:bF K "looked_through" "looked_through" (aC 10) f fd)(m:mg "looked_through" = some (.ref f)){jb:Nat}(jc:mg "MOST_WIDE" = some (.int 2 jb)){df:Nat}(dh:mg "MOST_WANTED_ON_STRIPS" = some (.int 6 df)):Df P w K mg base 1 "looked_through" ["wants","length"] nV:=
 Df.of F m Ze (λ_ _ _ _ _ _ us hl=>by obtain⟨_,_,rfl⟩:=jo hl;rfl) (λxs Q h=>by unfold nV at h;repeat (first|(obtain⟨rfl,_⟩:=h;rfl)|(obtain⟨_,h⟩:=h))) (λcm A outer s H E hr=>by
  exact⟨(OW),(aK (dW (mV (iB (oM (d5 B (a7 (qv 0) aB)) aR) (iB (uO (d5 B (a7 (qv 0) aB)) (oX rfl jc)) (iB (oM (Wc B rfl (a7 (qv 0) aB)) aR) (oN (uO (Wa B rfl (a7 (qv 0) aB)) (oX rfl dh))))))) (aU zP) dU)
   (aU (dW (oM (qv 1) aR) (aU zP) dU))),Zs⟩)
theorem Zc:bx ["length","most"] ["length","most"] (aJ (aC 11)):=.au
theorem Zb (B:Bt mg)(F:bF K "held_to" "held_to" (aC 11) f fd)(m:mg "held_to" = some (.ref f)) :Df P w K mg base 1 "held_to" ["length","most"] nW:=
 Df.of F m Zc (λ_ _ _ _ _ _ us hl=>by obtain⟨_,_,rfl⟩:=jo hl;rfl) (λxs Q h=>by unfold nW at h;repeat (first|(obtain⟨rfl,_⟩:=h;rfl)|(obtain⟨_,h⟩:=h))) (λcm A outer s H E hr=>by
  exact⟨(OV),(aU (dW (uO (qv 0) (qv 1)) (aU zP) dU)),Zr⟩)
theorem Za:bx ["row","places","width"] ["row","places","width"] (aJ (aC 14)):=.au
theorem OO (B:Bt mg)(F:bF K "moved_row" "moved_row" (aC 14) f fd)(m:mg "moved_row" = some (.ref f)) :Df P w K mg base 1 "moved_row" ["row","places","width"] sW:=
 Df.of F m Za (λ_ _ _ _ _ _ us hl=>by obtain⟨_,_,_,rfl⟩:=C7 hl;rfl) (λxs Q h=>by unfold sW at h;repeat (first|(obtain⟨rfl,_⟩:=h;rfl)|(obtain⟨_,h⟩:=h))) (λcm A outer s H E hr=>by
  exact⟨(IZ),(aU (cD (My (Vf (C3 (lG (a7 aR aB)) (qv 1)) (qv 0)) (C3 (lG (a7 aR aB)) (zL (qv 2) (qv 1)))))),SY⟩)
theorem YZ:bx ["row","other"] ["row","other"] (aJ (aC 15)):=.au
theorem Q9 (B:Bt mg)(F:bF K "sums_of" "sums_of" (aC 15) f fd)(m:mg "sums_of" = some (.ref f)) :Df P w K mg base 1 "sums_of" ["row","other"] pT:=
 Df.of F m YZ (λ_ _ _ _ _ _ us hl=>by obtain⟨_,_,rfl⟩:=jo hl;rfl) (λxs Q h=>by unfold pT at h;repeat (first|(obtain⟨rfl,_⟩:=h;rfl)|(obtain⟨_,h⟩:=h))) (λcm A outer s H E hr=>by
  exact⟨(IY),(aU (cD (Mt (N:=["one","more"]) (fr:=[none,none]) (Vd B (qv 0) (qv 1)) (λ_ _ _ _=>(fR (qv 0) (qv 1)))))),SW⟩)
theorem YY:bx ["mask","place"] ["mask","place"] (aJ (aC 20)):=.au
theorem R3 (B:Bt mg)(F:bF K "has" "has" (aC 20) f fd)(m:mg "has" = some (.ref f)) :Df P w K mg base 1 "has" ["mask","place"] iW:=
 Df.of F m YY (λ_ _ _ _ _ _ us hl=>by obtain⟨_,_,rfl⟩:=jo hl;rfl) (λxs Q h=>by unfold iW at h;repeat (first|(obtain⟨rfl,_⟩:=h;rfl)|(obtain⟨_,h⟩:=h))) (λcm A outer s H E hr=>by
  exact⟨(Kl),(aU (cD (WX (aW5 (qv 0) (qv 1)) aR))),UH⟩)
theorem YX:bx ["script","k"] ["script","k"] (aJ (aC 29)):=.au
theorem YW (B:Bt mg)(F:bF K "_law_cell_at" "_law_cell_at" (aC 29) f fd)(m:mg "_law_cell_at" = some (.ref f)) :Df P w K mg base 1 "_law_cell_at" ["script","k"] lM:=
 Df.of F m YX (λ_ _ _ _ _ _ us hl=>by obtain⟨_,_,rfl⟩:=jo hl;rfl) (λxs Q h=>by unfold lM at h;repeat (first|(obtain⟨rfl,_⟩:=h;rfl)|(obtain⟨_,h⟩:=h))) (λcm A outer s H E hr=>by
  exact⟨(MN),(aK (dW (oM (qv 1) (d5 B (a7 (qv 0) aB))) (aU (cD (cC (qv 0) (qv 1)))) dU)
   (aU (cD aR))),XZ⟩)
theorem YV:bx ["found"] ["found"] (aJ (aC 30)):=.au
theorem YU (B:Bt mg)(F:bF K "_law_whole" "_law_whole" (aC 30) f fd)(m:mg "_law_whole" = some (.ref f)) :Df P w K mg base 1 "_law_whole" ["found"] j9:=
 Df.of F m YV (λ_ _ _ _ _ _ us hl=>by obtain⟨_,rfl⟩:=ve hl;rfl) (λxs Q h=>by unfold j9 at h;repeat (first|(obtain⟨rfl,_⟩:=h;rfl)|(obtain⟨_,h⟩:=h))) (λcm A outer s H E hr=>by
  exact⟨(ML K),(aU (cD (NG (ZZ B (qv 0)) (NH (aW9 (ZY B (qv 0))))))),XY (vG K).ii (vG K).ib⟩)
theorem ON:bx ["many","sets","hearth"] ["many"] (aJ (aC 34)):=.au
theorem YT (B:Bt mg)(F:bF K "_law_sets" "_law_sets" (aC 34) f fd)(m:mg "_law_sets" = some (.ref f)) :Df P w K mg base 1 "_law_sets" ["many"] p5:=
 Df.of F m ON (λ_ _ _ _ _ _ us hl=>by obtain⟨_,rfl⟩:=ve hl;rfl) (λxs Q h=>by unfold p5 at h;repeat (first|(obtain⟨rfl,_⟩:=h;rfl)|(obtain⟨_,h⟩:=h))) (λcm A outer s H E hr=>by
  have nd:=ON.nd;have Cy:(A.deeper (PyProof.Rows.envOfC "_law_sets" (aJ (aC 34)) s.heap.objs.size f cm)).units+3<cLine:=by have:=hr.units;lia
  exact⟨(LQ),(aK (bO (i:=1) nd (lG (a7 (eJ aB) aB)))
   (aK (gR 2 nd (j8 rfl B.range (qv 0))
    (aU (bO (i:=1) nd (My (qv 1) (zU (N:=["some","hearth"]) (fr:=[none,some 2]) (jV (qv 1)) (λ_ _ _ _=>(Mp (qv 0) (eJ (a7 (qv 1) aB)))))))))
   (aU (cD (Zo B Cy (a7 (qv 1) aB)))))),WK⟩)
theorem YS:bx ["cell"] ["cell"] (aJ (aC 36)):=.au
theorem YR (B:Bt mg)(F:bF K "_law_wants" "_law_wants" (aC 36) f fd)(m:mg "_law_wants" = some (.ref f)) :Df P w K mg base 1 "_law_wants" ["cell"] nI:=
 Df.of F m YS (λ_ _ _ _ _ _ us hl=>by obtain⟨_,rfl⟩:=ve hl;rfl) (λxs Q h=>by unfold nI at h;repeat (first|(obtain⟨rfl,_⟩:=h;rfl)|(obtain⟨_,h⟩:=h))) (λcm A outer s H E hr=>by
  exact⟨(LB),(aK (dW (zO (lE (qv 0) aR) aR) (aU (cD (eJ (a7 (lE (mS (qv 0) aR) aR) aB)))) dU)
   (aK (dW (zO (lE (qv 0) aR) aR) (aU (cD (eJ (a7 (lE (mS (qv 0) aR) aR) (a7 (lE (mS (qv 0) aR) aR) aB))))) dU)
   (aU (cD (eJ (a7 (fR aR (lE (mS (qv 0) aR) aR)) (a7 (fR aR (lE (mS (qv 0) aR) aR)) aB))))))),VV⟩)
theorem OM:bx ["wants","length","width","links","slice_number","place","hearth"] ["wants","length"] (aJ (aC 37)):=.au
theorem YQ (B:Bt mg)(F:bF K "_law_strip" "_law_strip" (aC 37) f fd)(m:mg "_law_strip" = some (.ref f)) :Df P w K mg base 1 "_law_strip" ["wants","length"] lP:=
 Df.of F m OM (λ_ _ _ _ _ _ us hl=>by obtain⟨_,_,rfl⟩:=jo hl;rfl) (λxs Q h=>by unfold lP at h;repeat (first|(obtain⟨rfl,_⟩:=h;rfl)|(obtain⟨_,h⟩:=h))) (λcm A outer s H E hr=>by
  have nd:=OM.nd;have Cy:(A.deeper (PyProof.Rows.envOfC "_law_strip" (aJ (aC 37)) s.heap.objs.size f cm)).units+3<cLine:=by have:=hr.units;lia
  exact⟨(Lx),(aK (bO (i:=2) nd (d5 B (a7 (qv 0) aB)))
   (aK (oO (i:=3) nd (lG aB))
   (aK (gR 4 nd (j8 rfl B.range (qv 1))
    (aU (gR 5 nd (j8 rfl B.range (qv 2))
     (aK (bO (i:=6) nd (fR (NJ (qv 4) (qv 2)) (qv 5)))
     (aK (dW (oM (fR (qv 5) aR) (qv 2)) (aU (ND 3 (eJ (a7 (qv 6) (a7 (fR (qv 6) aR) aB))))) dU)
     (aU (dW (oM (fR (qv 4) aR) (qv 1)) (aU (ND 3 (eJ (a7 (qv 6) (a7 (fR (qv 6) (qv 2)) aB))))) dU)))))))
   (aU (cD (eJ (a7 (Wd (uQ B (a7 (qv 0) aB)) (qv 1)) (a7 (uQ B (a7 (Zn B Cy (a7 (qv 3) aB)) aB)) aB)))))))),VU⟩)
theorem YO:bx ["mask"] ["mask"] (aJ (aC 21)):=.au
theorem OL (B:Bt mg)(F:bF K "count_in" "count_in" (aC 21) f fd)(m:mg "count_in" = some (.ref f))(lg:Df P w K mg base 1 "has" ["mask","place"] iW):Df P w K mg base 2 "count_in" ["mask"] nM:=
 Df.of F m YO (λ_ _ _ _ _ _ us hl=>by obtain⟨_,rfl⟩:=ve hl;rfl) (λxs Q h=>by unfold nM at h;repeat (first|(obtain⟨rfl,_⟩:=h;rfl)|(obtain⟨_,h⟩:=h))) (λcm A outer s H E hr=>by
  exact⟨(Kk),(aU (cD (fR (bI lg hr (a7 (qv 0) (a7 aR aB))) (bI lg hr (a7 (qv 0) (a7 aR aB)))))),UG⟩)
theorem pW:bx ["values","key","value","joined"] ["values","key","value","joined"] (aJ (aC 23)):=.au
theorem YN (F:bF K "join_in" "join_in" (aC 23) f fd)(m:mg "join_in" = some (.ref f))(lm:eW P w K mg base 1 fZ pM):iS P w K mg base 2 "join_in" ["values","key","value","joined"] (.lm fZ) (fM rN) JN:=
 iS.of F m pW (λ_ _ _ _ _ _ us hl=>by obtain⟨_,_,_,_,rfl⟩:=kR hl;rfl) (λcm A outer s H E hr=>by
  have cu:(A.deeper (PyProof.Rows.envOfC "join_in" (aJ (aC 23)) s.heap.objs.size f cm)).units+16<cLine:=by have:=hr.units;lia
  exact⟨nQ (N6 fZ),d6 (l5 (pA cu (qv 1) (qv 0)) (d6 (i8 cu (pv 0) (pv 1) (pC 3 (λz hz=>by obtain rfl:=eh.mp hz;exact lm) hr (a7 (eV cu (qv 0) (qv 1)) (a7 (qv 2) aB))) rfl)) (d6 (i8 cu (pv 0) (pv 1) (pv 2) rfl))),JI fZ⟩)
theorem YM (F:bF K "join_in" "join_in" (aC 23) f fd)(m:mg "join_in" = some (.ref f))(lm:eW P w K mg base 1 fZ pM):iT P w K mg base 2 "join_in" ["values","key","value","joined"] (.lm fZ) (fM rN) JN:=
 iT.of F m pW (λ_ _ _ _ _ _ us hl=>by obtain⟨_,_,_,_,rfl⟩:=kR hl;rfl) (λcm A outer s H E hr=>by
  have cu:(A.deeper (PyProof.Rows.envOfC "join_in" (aJ (aC 23)) s.heap.objs.size f cm)).units+16<cLine:=by have:=hr.units;lia
  exact⟨nQ (N6 fZ),d6 (l5 (pA cu (qv 1) (qv 0)) (d6 (i8 cu (pv 0) (pv 1) (pC 3 (λz hz=>by obtain rfl:=eh.mp hz;exact lm) hr (a7 (eV cu (qv 0) (qv 1)) (a7 (qv 2) aB))) rfl)) (d6 (i8 cu (pv 0) (pv 1) (pv 2) rfl))),JI fZ⟩)
theorem YL (F:bF K "join_in" "join_in" (aC 23) f fd)(m:mg "join_in" = some (.ref f))(lm:eW P w K mg base 1 lF pN):iS P w K mg base 2 "join_in" ["values","key","value","joined"] (.lm lF) (fM rP) pP:=
 iS.of F m pW (λ_ _ _ _ _ _ us hl=>by obtain⟨_,_,_,_,rfl⟩:=kR hl;rfl) (λcm A outer s H E hr=>by
  have cu:(A.deeper (PyProof.Rows.envOfC "join_in" (aJ (aC 23)) s.heap.objs.size f cm)).units+16<cLine:=by have:=hr.units;lia
  exact⟨nQ (N8 lF),d6 (l5 (pA cu (qv 1) (qv 0)) (d6 (i8 cu (pv 0) (pv 1) (pC 3 (λz hz=>by obtain rfl:=eh.mp hz;exact lm) hr (a7 (eV cu (qv 0) (qv 1)) (a7 (qv 2) aB))) rfl)) (d6 (i8 cu (pv 0) (pv 1) (pv 2) rfl))),JD lF⟩)
theorem YK (F:bF K "join_in" "join_in" (aC 23) f fd)(m:mg "join_in" = some (.ref f))(lm:eW P w K mg base 1 lF pN):iT P w K mg base 2 "join_in" ["values","key","value","joined"] (.lm lF) (fM rP) pP:=
 iT.of F m pW (λ_ _ _ _ _ _ us hl=>by obtain⟨_,_,_,_,rfl⟩:=kR hl;rfl) (λcm A outer s H E hr=>by
  have cu:(A.deeper (PyProof.Rows.envOfC "join_in" (aJ (aC 23)) s.heap.objs.size f cm)).units+16<cLine:=by have:=hr.units;lia
  exact⟨nQ (N8 lF),d6 (l5 (pA cu (qv 1) (qv 0)) (d6 (i8 cu (pv 0) (pv 1) (pC 3 (λz hz=>by obtain rfl:=eh.mp hz;exact lm) hr (a7 (eV cu (qv 0) (qv 1)) (a7 (qv 2) aB))) rfl)) (d6 (i8 cu (pv 0) (pv 1) (pv 2) rfl))),JD lF⟩)
theorem YJ (F:bF K "join_in" "join_in" (aC 23) f fd)(m:mg "join_in" = some (.ref f))(fv:lQ K mg "sums_of")(ku:Df P w K mg base 1 "sums_of" ["row","other"] pT):iS P w K mg base 2 "join_in" ["values","key","value","joined"] (.fn "sums_of") kY JL:=
 iS.of F m pW (λ_ _ _ _ _ _ us hl=>by obtain⟨_,_,_,_,rfl⟩:=kR hl;rfl) (λcm A outer s H E hr=>by
  have cu:(A.deeper (PyProof.Rows.envOfC "join_in" (aJ (aC 23)) s.heap.objs.size f cm)).units+16<cLine:=by have:=hr.units;lia
  exact⟨Q3,d6 (l5 (pA cu (qv 1) (qv 0)) (d6 (i8 cu (pv 0) (pv 1) (rX (J6 3 (λz hz=>by obtain rfl:=eh.mp hz;exact⟨fv.ex,_,ku⟩) hr (a7 (eV cu (qv 0) (qv 1)) (a7 (qv 2) aB)))) rfl)) (d6 (i8 cu (pv 0) (pv 1) (pv 2) rfl))),IX⟩)
theorem YI (F:bF K "join_in" "join_in" (aC 23) f fd)(m:mg "join_in" = some (.ref f))(fv:lQ K mg "sums_of")(ku:Df P w K mg base 1 "sums_of" ["row","other"] pT):iT P w K mg base 2 "join_in" ["values","key","value","joined"] (.fn "sums_of") kY JL:=
 iT.of F m pW (λ_ _ _ _ _ _ us hl=>by obtain⟨_,_,_,_,rfl⟩:=kR hl;rfl) (λcm A outer s H E hr=>by
  have cu:(A.deeper (PyProof.Rows.envOfC "join_in" (aJ (aC 23)) s.heap.objs.size f cm)).units+16<cLine:=by have:=hr.units;lia
  exact⟨Q3,d6 (l5 (pA cu (qv 1) (qv 0)) (d6 (i8 cu (pv 0) (pv 1) (rX (J6 3 (λz hz=>by obtain rfl:=eh.mp hz;exact⟨fv.ex,_,ku⟩) hr (a7 (eV cu (qv 0) (qv 1)) (a7 (qv 2) aB)))) rfl)) (d6 (i8 cu (pv 0) (pv 1) (pv 2) rfl))),IX⟩)
theorem OK:bx ["wants","behind","burning","ahead","lit","place","want"] ["wants","behind","burning","ahead"] (aJ (aC 27)):=.au
theorem OJ (B:Bt mg)(F:bF K "with_kindled" "with_kindled" (aC 27) f fd)(m:mg "with_kindled" = some (.ref f))(lg:Df P w K mg base 1 "has" ["mask","place"] iW):Df P w K mg base 2 "with_kindled" ["wants","behind","burning","ahead"] pL:=
 Df.of F m OK (λ_ _ _ _ _ _ us hl=>by obtain⟨_,_,_,_,rfl⟩:=kR hl;rfl) (λxs Q h=>by unfold pL at h;repeat (first|(obtain⟨rfl,_⟩:=h;rfl)|(obtain⟨_,h⟩:=h))) (λcm A outer s H E hr=>by
  have nd:=OK.nd
  exact⟨(Kf),(aK (bO (i:=4) nd (qv 2))
   (aK (rC 5 6 nd (Mu rfl B.enum (qv 0))
    (aU (dW (zN (fR (fR (bI lg hr (a7 (qv 1) (a7 (qv 5) aB))) (bI lg hr (a7 (qv 3) (a7 (qv 5) aB)))) (bI lg hr (a7 (qv 2) (a7 (zL aR (qv 5)) aB)))) (qv 6)) (aU (bO (i:=4) nd (Ux (qv 4) (uN aR (qv 5))))) dU)))
   (aU (uP 4)))),Ur⟩)
theorem OI:bx ["web","seeds","beside","burning","left","hearth","count"] ["web","seeds"] (aJ (aC 32)):=.au
theorem YH (B:Bt mg)(F:bF K "_law_burning" "_law_burning" (aC 32) f fd)(m:mg "_law_burning" = some (.ref f))(pj:Df P w K mg base 1 "_law_beside" ["web"] Md):Df P w K mg base 2 "_law_burning" ["web","seeds"] rV:=
 Df.of F m OI (λ_ _ _ _ _ _ us hl=>by obtain⟨_,_,rfl⟩:=jo hl;rfl) (λxs Q h=>by unfold rV at h;repeat (first|(obtain⟨rfl,_⟩:=h;rfl)|(obtain⟨_,h⟩:=h))) (λcm A outer s H E hr=>by
  have nd:=OI.nd
  exact⟨(Mc),(aK (bO (i:=2) nd (bI pj hr (a7 (qv 0) aB)))
   (aK (oO (i:=3) nd (zU (N:=["hearth","seeds"]) (fr:=[none,some 1]) (j8 rfl B.range (d5 B (a7 (cC (qv 0) aR) aB))) (λ_ _ _ _=>(aX1 (qv 0) (qv 1)))))
   (aK (bO (i:=4) nd dS)
   (aK (zQ BW (jT (qv 4))
    (aK (bO (i:=4) nd dS)
    (aU (gR 5 nd (j8 rfl B.range (d5 B (a7 (cC (qv 0) aR) aB)))
     (aK (bO (i:=6) nd (d5 B (a7 (uS (N:=["other","burning"]) (fr:=[none,some 3]) (jV (cC (qv 2) (qv 5))) (λ_ _ _ _=>(kO (cC (qv 1) (qv 0)))) (λ_ _ _ _=>(qv 0))) aB)))
     (aU (dW (mV (aW8 (jU (kO (cC (qv 3) (qv 5)))) (aW7 (zN (qv 6) (cC (cC (qv 0) aR) (qv 5)))))) (aK (Nu (i:=3) (qv 5) dS)
      (aU (bO (i:=4) nd dS))) dU)))))))
   (aU (uP 3)))))),WU⟩)
theorem OH:bx ["found","many","last","hearth"] ["found","many"] (aJ (aC 35)):=.au
theorem YG (B:Bt mg)(F:bF K "_law_is_set" "_law_is_set" (aC 35) f fd)(m:mg "_law_is_set" = some (.ref f))(fg:Df P w K mg base 1 "_law_whole" ["found"] j9):Df P w K mg base 2 "_law_is_set" ["found","many"] oY:=
 Df.of F m OH (λ_ _ _ _ _ _ us hl=>by obtain⟨_,_,rfl⟩:=jo hl;rfl) (λxs Q h=>by unfold oY at h;repeat (first|(obtain⟨rfl,_⟩:=h;rfl)|(obtain⟨_,h⟩:=h))) (λcm A outer s H E hr=>by
  have nd:=OH.nd
  exact⟨(Ma K),(aK (dW (jU (jT (ZX B (qv 0)))) (aU (cD dS)) dU)
   (aK (bO (i:=2) nd (NA aR))
   (aK (gR 3 nd (jV (qv 0))
    (aK (dW (mV (iB (jU (jT (bI fg hr (a7 (qv 3) aB)))) (iB (aW6 (qv 3) (qv 2)) (oN (zN (qv 3) (qv 1)))))) (aU (cD dS)) dU)
    (aU (bO (i:=2) nd (qv 3)))))
   (aU (cD dS))))),WS (vG K).tt⟩)
theorem YF:bx ["pair","seeds"] ["pair","seeds"] (aJ (aC 19)):=.au
theorem YE (B:Bt mg)(F:bF K "with_slice" "with_slice" (aC 19) f fd)(m:mg "with_slice" = some (.ref f))(ka:Df P w K mg base 2 "count_in" ["mask"] nM):Df P w K mg base 3 "with_slice" ["pair","seeds"] sS:=
 Df.of F m YF (λ_ _ _ _ _ _ us hl=>by obtain⟨_,_,rfl⟩:=jo hl;rfl) (λxs Q h=>by unfold sS at h;repeat (first|(obtain⟨rfl,_⟩:=h;rfl)|(obtain⟨_,h⟩:=h))) (λcm A outer s H E hr=>by
  exact⟨(JF),(aU (cD (eJ (a7 (fR (cC (qv 0) aR) (bI ka hr (a7 (qv 1) aB))) (a7 (Mp (cC (qv 0) aR) (eJ (a7 (qv 1) aB))) aB))))),TL⟩)
theorem OG:bx ["wants","answer","seeds","ahead","burning","more","whole"] ["wants","answer","seeds","ahead"] (aJ (aC 26)):=.au
theorem OF (B:Bt mg)(F:bF K "settled" "settled" (aC 26) f fd)(m:mg "settled" = some (.ref f))(jh:Df P w K mg base 2 "with_kindled" ["wants","behind","burning","ahead"] pL):Df P w K mg base 3 "settled" ["wants","answer","seeds","ahead"] sM:=
 Df.of F m OG (λ_ _ _ _ _ _ us hl=>by obtain⟨_,_,_,_,rfl⟩:=kR hl;rfl) (λxs Q h=>by unfold sM at h;repeat (first|(obtain⟨rfl,_⟩:=h;rfl)|(obtain⟨_,h⟩:=h))) (λcm A outer s H E hr=>by
  have nd:=OG.nd
  exact⟨(Ke),(aK (bO (i:=4) nd (qv 2))
   (aK (bO (i:=5) nd (bI jh hr (a7 (qv 0) (a7 (cC (cC (qv 1) (qv 4)) aR) (a7 (qv 4) (a7 (qv 3) aB))))))
   (aK (zQ BW (rB (qv 5) (qv 4))
    (aK (bO (i:=4) nd (qv 5))
    (aU (bO (i:=5) nd (bI jh hr (a7 (qv 0) (a7 (cC (cC (qv 1) (qv 4)) aR) (a7 (qv 4) (a7 (qv 3) aB)))))))))
   (aK (bO (i:=6) nd (zL (d5 B (a7 (qv 1) aB)) aR))
   (aU (cD (eJ (a7 (qv 4) (a7 (NG (NI (qv 4) (qv 6)) (NH (cC (cC (qv 1) (qv 6)) aR))) aB))))))))),Uq⟩)
theorem YD:bx ["web","seeds"] ["web","seeds"] (aJ (aC 33)):=.au
theorem YC (B:Bt mg)(F:bF K "_law_lights" "_law_lights" (aC 33) f fd)(m:mg "_law_lights" = some (.ref f))(nu:Df P w K mg base 2 "_law_burning" ["web","seeds"] rV):Df P w K mg base 3 "_law_lights" ["web","seeds"] lO:=
 Df.of F m YD (λ_ _ _ _ _ _ us hl=>by obtain⟨_,_,rfl⟩:=jo hl;rfl) (λxs Q h=>by unfold lO at h;repeat (first|(obtain⟨rfl,_⟩:=h;rfl)|(obtain⟨_,h⟩:=h))) (λcm A outer s H E hr=>by
  exact⟨(Mb),(aU (cD (NI (d5 B (a7 (uS (N:=["fire"]) (fr:=[none]) (jV (bI nu hr (a7 (qv 0) (a7 (qv 1) aB)))) (λ_ _ _ _=>(jU (kO (qv 0)))) (λ_ _ _ _=>(qv 0))) aB)) aR))),WT⟩)
theorem YB:bx ["wants","answer","seeds"] ["wants","answer","seeds"] (aJ (aC 25)):=.au
theorem OE (B:Bt mg)(F:bF K "next_answer" "next_answer" (aC 25) f fd)(m:mg "next_answer" = some (.ref f))(xa:Df P w K mg base 3 "settled" ["wants","answer","seeds","ahead"] sM):Df P w K mg base 4 "next_answer" ["wants","answer","seeds"] sN:=
 Df.of F m YB (λ_ _ _ _ _ _ us hl=>by obtain⟨_,_,_,rfl⟩:=C7 hl;rfl) (λxs Q h=>by unfold sN at h;repeat (first|(obtain⟨rfl,_⟩:=h;rfl)|(obtain⟨_,h⟩:=h))) (λcm A outer s H E hr=>by
  exact⟨(Kb),(aU (cD (uQ B (a7 (zU (N:=["ahead","wants","answer","seeds"]) (fr:=[none,some 0,some 1,some 2]) (j8 rfl B.range (d5 B (a7 (qv 1) aB))) (λ_ _ _ _=>(bI xa hr (a7 (qv 1) (a7 (qv 2) (a7 (qv 3) (a7 (qv 0) aB))))))) aB)))),Um⟩)
theorem OD:bx ["wants","length","web","counts","some"] ["wants","length"] (aJ (aC 38)):=.au
theorem YA (B:Bt mg)(F:bF K "_law_counts" "_law_counts" (aC 38) f fd)(m:mg "_law_counts" = some (.ref f))(il:Df P w K mg base 1 "_law_strip" ["wants","length"] lP)(sg:Df P w K mg base 1 "_law_sets" ["many"] p5)(gv:Df P w K mg base 3 "_law_lights" ["web","seeds"] lO):Df P w K mg base 4 "_law_counts" ["wants","length"] t5:=
 Df.of F m OD (λ_ _ _ _ _ _ us hl=>by obtain⟨_,_,rfl⟩:=jo hl;rfl) (λxs Q h=>by unfold t5 at h;repeat (first|(obtain⟨rfl,_⟩:=h;rfl)|(obtain⟨_,h⟩:=h))) (λcm A outer s H E hr=>by
  have nd:=OD.nd
  exact⟨(IM),(aK (bO (i:=2) nd (bI il hr (a7 (qv 0) (a7 (qv 1) aB))))
   (aK (oO (i:=3) nd (C3 (lG (a7 aR aB)) (fR (d5 B (a7 (cC (qv 2) aR) aB)) aR)))
   (aK (gR 4 nd (jV (bI sg hr (a7 (d5 B (a7 (cC (qv 2) aR) aB)) aB)))
    (aU (dW (jT (bI gv hr (a7 (qv 2) (a7 (qv 4) aB)))) (aU (Nu (i:=3) (d5 B (a7 (qv 4) aB)) (fR (cC (qv 3) (d5 B (a7 (qv 4) aB))) aR))) dU)))
   (aU (uP 3))))),Zw⟩)
theorem OC:bx ["wants","begin","following","waiting","answer","pairs"] ["wants","begin"] (aJ (aC 24)):=.au
theorem OB (B:Bt mg)(F:bF K "answers_behind" "answers_behind" (aC 24) f fd)(m:mg "answers_behind" = some (.ref f))(pe:Df P w K mg base 4 "next_answer" ["wants","answer","seeds"] sN):Df P w K mg base 5 "answers_behind" ["wants","begin"] nO:=
 Df.of F m OC (λ_ _ _ _ _ _ us hl=>by obtain⟨_,_,rfl⟩:=jo hl;rfl) (λxs Q h=>by unfold nO at h;repeat (first|(obtain⟨rfl,_⟩:=h;rfl)|(obtain⟨_,h⟩:=h))) (λcm A outer s H E hr=>by
  have nd:=OC.nd;have cu:(A.deeper (PyProof.Rows.envOfC "answers_behind" (aJ (aC 24)) s.heap.objs.size f cm)).units+16<cLine:=by have:=hr.units;lia
  exact⟨JZ,(aK (nN (i:=2) nd vT)
   (aK (oO (i:=3) nd (lG (a7 (qv 1) aB)))
   (aK (zQ BW (kO (qv 3))
    (aK (WZ nd 3 4)
    (aU (dW (VA cu (qv 4) (qv 2)) (aK (ZT (N:=["seeds","wants","answer"]) (fr:=[none,some 0,some 4]) (i:=5) nd (j8 rfl B.range (d5 B (a7 (qv 4) aB))) (λ_ _ _ _=>(eJ (a7 (qv 0) (a7 (bI pe hr (a7 (qv 1) (a7 (qv 2) (a7 (qv 0) aB)))) aB)))))
     (aK (Vz (i:=2) cu (qv 4) (rX (uS (N:=["pair"]) (fr:=[none]) (jV (qv 5)) (λ_ _ _ _=>(kO (cC (cC (cC (qv 0) aR) (NA aR)) aR))) (λ_ _ _ _=>(qv 0)))))
     (aU (Nv 3 (Mt (N:=["seeds","behind"]) (fr:=[none,none]) (jV (eV cu (qv 2) (qv 4))) (λ_ _ _ _=>(qv 1))))))) dU))))
   (aU (uP 2))))),Uj⟩)
theorem pX:bx ["wants","length","first","passed","joined","begin","following","values","turn","later","answer","seeds","behind","ends"] ["wants","length","first","passed","joined"] (aJ (aC 22)):=.au
theorem Yz (B:Bt mg)(F:bF K "gone_through" "gone_through" (aC 22) f fd)(m:mg "gone_through" = some (.ref f))(di:Df P w K mg base 5 "answers_behind" ["wants","begin"] nO)(jA:iS P w K mg base 2 "join_in" ["values","key","value","joined"] (.lm fZ) (fM rN) JN)(jB:iT P w K mg base 2 "join_in" ["values","key","value","joined"] (.lm fZ) (fM rN) JN)(lp:eW P w K mg base 1 lZ sQ):Df P w K mg base 6 "gone_through" ["wants","length","first","passed","joined"] (wQ lZ fZ):=
 Df.of F m pX (λ_ _ _ _ _ _ us hl=>by obtain⟨_,_,_,_,_,rfl⟩:=C8 hl;rfl) JM (λcm A outer s H E hr=>by
  have nd:=pX.nd;have cu:(A.deeper (PyProof.Rows.envOfC "gone_through" (aJ (aC 22)) s.heap.objs.size f cm)).units+16<cLine:=by have:=hr.units;lia
  exact⟨(JJ lZ fZ),(aK (bO (i:=5) nd (B5 (eJ (a7 (eJ (a7 aR (a7 dS aB))) aB)) (uN aR (d5 B (a7 (qv 0) aB)))))
   (aK (bO (i:=6) nd (pJ (bI di hr (a7 (qv 0) (a7 (qv 5) aB)))))
   (aK (bO (i:=7) nd (pJ (J0 cu (qv 5) (qv 2))))
   (aK (gR 8 nd (j8 rfl B.range (qv 1))
    (aK (nN (i:=9) nd vT)
    (aK (gR 10 nd (pK (qv 7))
     (aU (rC 11 12 nd (jV (eV cu (qv 6) (qv 10)))
      (aU (J3 jA hr 9 (qv 12) (pC 3 (λz hz=>by obtain rfl:=eh.mp hz;exact lp) hr (a7 (eV cu (qv 7) (qv 10)) (a7 (qv 11) aB))) (qv 4))))))
    (aU (M8 9 (i:=7) nd)))))
   (aK (nN (i:=13) nd G9)
   (aK (gR 10 nd (pK (qv 7))
    (aU (dW (kO (cC (cC (qv 10) aR) aR)) (aU (J4 jB hr 13 dS (eV cu (qv 7) (qv 10)) (qv 4))) dU)))
   (aU (cD (eV cu (qv 13) dS))))))))),(TN lZ fZ)⟩)
theorem Yy (B:Bt mg)(F:bF K "gone_through" "gone_through" (aC 22) f fd)(m:mg "gone_through" = some (.ref f))(di:Df P w K mg base 5 "answers_behind" ["wants","begin"] nO)(jA:iS P w K mg base 2 "join_in" ["values","key","value","joined"] (.lm lF) (fM rP) pP)(jB:iT P w K mg base 2 "join_in" ["values","key","value","joined"] (.lm lF) (fM rP) pP)(fv:lQ K mg "with_slice")(lp:Df P w K mg base 3 "with_slice" ["pair","seeds"] sS):Df P w K mg base 6 "gone_through" ["wants","length","first","passed","joined"] (wR lF):=
 Df.of F m pX (λ_ _ _ _ _ _ us hl=>by obtain⟨_,_,_,_,_,rfl⟩:=C8 hl;rfl) JM (λcm A outer s H E hr=>by
  have nd:=pX.nd;have cu:(A.deeper (PyProof.Rows.envOfC "gone_through" (aJ (aC 22)) s.heap.objs.size f cm)).units+16<cLine:=by have:=hr.units;lia
  exact⟨(JE lF),(aK (bO (i:=5) nd (B5 (eJ (a7 (eJ (a7 aR (a7 dS aB))) aB)) (uN aR (d5 B (a7 (qv 0) aB)))))
   (aK (bO (i:=6) nd (pJ (bI di hr (a7 (qv 0) (a7 (qv 5) aB)))))
   (aK (bO (i:=7) nd (pJ (J0 cu (qv 5) (qv 2))))
   (aK (gR 8 nd (j8 rfl B.range (qv 1))
    (aK (nN (i:=9) nd vT)
    (aK (gR 10 nd (pK (qv 7))
     (aU (rC 11 12 nd (jV (eV cu (qv 6) (qv 10)))
      (aU (J3 jA hr 9 (qv 12) (J6 3 (λz hz=>by obtain rfl:=eh.mp hz;exact⟨fv.ex,_,lp⟩) hr (a7 (eV cu (qv 7) (qv 10)) (a7 (qv 11) aB))) (qv 4))))))
    (aU (M8 9 (i:=7) nd)))))
   (aK (nN (i:=13) nd G9)
   (aK (gR 10 nd (pK (qv 7))
    (aU (dW (kO (cC (cC (qv 10) aR) aR)) (aU (J4 jB hr 13 dS (eV cu (qv 7) (qv 10)) (qv 4))) dU)))
   (aU (cD (eV cu (qv 13) dS))))))))),(TH lF)⟩)
theorem Yx (B:Bt mg)(F:bF K "gone_through" "gone_through" (aC 22) f fd)(m:mg "gone_through" = some (.ref f))(di:Df P w K mg base 5 "answers_behind" ["wants","begin"] nO)(jA:iS P w K mg base 2 "join_in" ["values","key","value","joined"] (.fn "sums_of") kY JL)(jB:iT P w K mg base 2 "join_in" ["values","key","value","joined"] (.fn "sums_of") kY JL){c0:az}{w0:Int}(lp:eW P w K mg base 3 (lR c0) (sX w0)):Df P w K mg base 6 "gone_through" ["wants","length","first","passed","joined"] (pU (lR c0) w0):=
 Df.of F m pX (λ_ _ _ _ _ _ us hl=>by obtain⟨_,_,_,_,_,rfl⟩:=C8 hl;rfl) SQ (λcm A outer s H E hr=>by
  have nd:=pX.nd;have cu:(A.deeper (PyProof.Rows.envOfC "gone_through" (aJ (aC 22)) s.heap.objs.size f cm)).units+16<cLine:=by have:=hr.units;lia
  exact⟨(IW (lR c0) w0),(aK (bO (i:=5) nd (B5 (eJ (a7 (eJ (a7 aR (a7 dS aB))) aB)) (uN aR (d5 B (a7 (qv 0) aB)))))
   (aK (bO (i:=6) nd (pJ (bI di hr (a7 (qv 0) (a7 (qv 5) aB)))))
   (aK (bO (i:=7) nd (pJ (J0 cu (qv 5) (qv 2))))
   (aK (gR 8 nd (j8 rfl B.range (qv 1))
    (aK (nN (i:=9) nd vT)
    (aK (gR 10 nd (pK (qv 7))
     (aU (rC 11 12 nd (jV (eV cu (qv 6) (qv 10)))
      (aU (J3 jA hr 9 (qv 12) (pC 3 (λz hz=>by obtain rfl:=eh.mp hz;exact lp) hr (a7 (eV cu (qv 7) (qv 10)) (a7 (qv 11) aB))) (qv 4))))))
    (aU (M8 9 (i:=7) nd)))))
   (aK (nN (i:=13) nd G9)
   (aK (gR 10 nd (pK (qv 7))
    (aU (dW (kO (cC (cC (qv 10) aR) aR)) (aU (J4 jB hr 13 dS (eV cu (qv 7) (qv 10)) (qv 4))) dU)))
   (aU (cD (eV cu (qv 13) dS))))))))),(SN (lR c0) w0)⟩)
theorem Yw:bx ["wants","length"] ["wants","length"] (aJ (aC 12)):=.au
theorem Yv {c0 P0:az}(q:lY K "strip_count" (aC 12) f c0 P0)(m:mg "strip_count" = some (.ref f))(BK:iN base mg P0)(wq:((P0,"strip_count.<locals>.<lambda>"):az×Str)∈T)(ck:Df P w K mg base 1 "looked_through" ["wants","length"] nV)(fj:Df P w K mg base 1 "held_to" ["length","most"] nW)(nr:Df P w K mg base 6 "gone_through" ["wants","length","first","passed","joined"] (wQ lZ fZ)){u_:Nat}(m_:mg "MOST_COUNTED" = some (.int 300 u_)):cW P w K mg base T 7 "strip_count" ["wants","length"] pO:=
 cW.Ff q m Yw (λ_ _ _ _ _ _ us hl=>by obtain⟨_,_,rfl⟩:=jo hl;rfl) (λxs Q h=>by unfold pO at h;repeat (first|(obtain⟨rfl,_⟩:=h;rfl)|(obtain⟨_,h⟩:=h))) (λhK zu A outer s H E hr hT=>⟨(JH lZ fZ),(aK (lH (bI ck hr (a7 (qv 0) (a7 (qv 1) aB))))
   (aK (lH (bI fj hr (a7 (qv 1) (a7 (oX rfl m_) aB))))
   (aU (cD (bI nr hr (a7 (qv 0) (a7 (qv 1) (a7 aR (a7 (vU (hT _ wq) rfl rfl hK BK zu) (a7 (vU (hT _ wq) rfl rfl hK BK zu) aB)))))))))) , (TM lZ fZ)⟩)
theorem OA:bx ["wants","length","width"] ["wants","length"] (aJ (aC 13)):=.au
theorem Yu {c0 P0:az}(q:lY K "strip_counts" (aC 13) f c0 P0)(m:mg "strip_counts" = some (.ref f))(BK:iN base mg P0)(wq:((P0,"strip_counts.<locals>.<lambda>"):az×Str)∈T)(ck:Df P w K mg base 1 "looked_through" ["wants","length"] nV)(fj:Df P w K mg base 1 "held_to" ["length","most"] nW){g:az}(Dt:mg "gone_through" = some (.ref g))(Dw:keepIn K (.ref g)=true)(nr:∀(dz:Heap) (c1:az) (w0:Int) (u:ax),dz.IsCell c1 (some u)->aO (.int w0) u->Df P w K mg dz 6 "gone_through" ["wants","length","first","passed","joined"] (pU (lR c1) w0))(fv:lQ K mg "sums_of")(B:Bt mg){u_:Nat}(m_:mg "MOST_COUNTED_BY_SEEDS" = some (.int 60 u_)):cW P w K mg base T 7 "strip_counts" ["wants","length"] sY:=
 (cW.Ff (p:=wX) q m OA (λ_ _ _ _ _ _ us hl=>by obtain⟨_,_,rfl⟩:=jo hl;rfl) (λxs Q h=>by unfold wX at h;repeat (first|(obtain⟨rfl,_⟩:=h;rfl)|(obtain⟨_,h⟩:=h))) (λhK zu A outer s H E hr hT=>⟨IV (lR (s.heap.objs.size+1)),(aK (lH (bI ck hr (a7 (qv 0) (a7 (qv 1) aB))))
   (aK (lH (bI fj hr (a7 (qv 1) (a7 (oX rfl m_) aB))))
   (aK (bO (i:=2) OA.nd (d5 B (a7 (qv 0) aB)))
   (aU (cD (Vh 2 (y:="width") rfl (λdz w0 u _ _ ic rv=>nr dz _ w0 u ic rv) Dt Dw hr (a7 (qv 0) (a7 (qv 1) (a7 (rX (lG (a7 aR aB))) (a7 (vU (hT _ wq) rfl rfl hK BK zu) (a7 (Lu fv) aB))))))))))) , SJ _⟩)).BL SI
theorem Yt:bx ["wants","length"] ["wants","length"] (aJ (aC 18)):=.au
theorem Ys {c0 P0:az}(q:lY K "fewest" (aC 18) f c0 P0)(m:mg "fewest" = some (.ref f))(BK:iN base mg P0)(wq:((P0,"fewest.<locals>.<lambda>"):az×Str)∈T)(nr:Df P w K mg base 6 "gone_through" ["wants","length","first","passed","joined"] (wR lF))(fv:lQ K mg "with_slice"):cW P w K mg base T 7 "fewest" ["wants","length"] nR:=
 cW.Ff q m Yt (λ_ _ _ _ _ _ us hl=>by obtain⟨_,_,rfl⟩:=jo hl;rfl) (λxs Q h=>by unfold nR at h;repeat (first|(obtain⟨rfl,_⟩:=h;rfl)|(obtain⟨_,h⟩:=h))) (λhK zu A outer s H E hr hT=>⟨(JC lF),(aU (cD (bI nr hr (a7 (qv 0) (a7 (qv 1) (a7 (eJ (a7 aR (a7 (eJ aB) aB))) (a7 (Lu fv) (a7 (vU (hT _ wq) rfl rfl hK BK zu) aB)))))))),(TF lF)⟩)
theorem Yr:bx ["wants","length"] ["wants","length"] (aJ (aC 16)):=.au
theorem Yq (B:Bt mg)(F:bF K "strip_least" "strip_least" (aC 16) f fd)(m:mg "strip_least" = some (.ref f))(ck:Df P w K mg base 1 "looked_through" ["wants","length"] nV)(fj:Df P w K mg base 1 "held_to" ["length","most"] nW)(nt:cW P w K mg base T 7 "fewest" ["wants","length"] nR){gm:Nat}(ff:mg "MOST_COUNTED" = some (.int 300 gm)):cW P w K mg base T 8 "strip_least" ["wants","length"] sT:=
 cW.of F m Yr (λ_ _ _ _ _ _ us hl=>by obtain⟨_,_,rfl⟩:=jo hl;rfl) (λxs Q h=>by unfold sT at h;repeat (first|(obtain⟨rfl,_⟩:=h;rfl)|(obtain⟨_,h⟩:=h))) (λcm A outer s H E hr hT=>by
  exact⟨(JB),(aK (lH (bI ck hr (a7 (qv 0) (a7 (qv 1) aB))))
   (aK (lH (bI fj hr (a7 (qv 1) (a7 (oX rfl ff) aB))))
   (aU (cD (cC (kU hT nt hr (a7 (qv 0) (a7 (qv 1) aB))) aR))))),TC⟩)
theorem Oz:bx ["wants","length","width","hearths","turn","seeds"] ["wants","length"] (aJ (aC 17)):=.au
theorem Yp (B:Bt mg)(F:bF K "strip_seeds" "strip_seeds" (aC 17) f fd)(m:mg "strip_seeds" = some (.ref f))(ck:Df P w K mg base 1 "looked_through" ["wants","length"] nV)(fj:Df P w K mg base 1 "held_to" ["length","most"] nW)(nt:cW P w K mg base T 7 "fewest" ["wants","length"] nR)(lg:Df P w K mg base 1 "has" ["mask","place"] iW){gk:Nat}(gn:mg "MOST_HEARTHS" = some (.int 40 gk)):cW P w K mg base T 8 "strip_seeds" ["wants","length"] pS:=
 cW.of F m Oz (λ_ _ _ _ _ _ us hl=>by obtain⟨_,_,rfl⟩:=jo hl;rfl) (λxs Q h=>by unfold pS at h;repeat (first|(obtain⟨rfl,_⟩:=h;rfl)|(obtain⟨_,h⟩:=h))) (λcm A outer s H E hr hT=>by
  have nd:=Oz.nd
  exact⟨(Jb),(aK (lH (bI ck hr (a7 (qv 0) (a7 (qv 1) aB))))
   (aK (bO (i:=2) nd (d5 B (a7 (qv 0) aB)))
   (aK (lH (bI fj hr (a7 (qv 1) (a7 (mS (oX rfl gn) (qv 2)) aB))))
   (aK (oO (i:=3) nd (lG aB))
   (aK (rC 4 5 nd (Mu rfl B.enum (cC (kU hT nt hr (a7 (qv 0) (a7 (qv 1) aB))) aR))
    (aU (Nv 3 (uS (N:=["place","seeds","turn","width"]) (fr:=[none,some 5,some 4,some 2]) (j8 rfl B.range (qv 2)) (λ_ _ _ _=>(kO (bI lg hr (a7 (qv 1) (a7 (qv 0) aB))))) (λ_ _ _ _=>(fR (NJ (qv 2) (qv 3)) (qv 0)))))))
   (aU (cD (uQ B (a7 (qv 3) aB))))))))),Tc⟩)
theorem Oy:bx ["script","wants","length","due","found","number","many","least","seeds","web"] ["script"] (aJ (aC 39)):=.au
theorem Yo (B:Bt mg)(F:bF K "law" "law" (aC 39) f fd)(qm:Df P w K mg base 1 "_law_wants" ["cell"] nI)(jj:Df P w K mg base 1 "_law_cell_at" ["script","k"] lM)(ph:Df P w K mg base 4 "_law_counts" ["wants","length"] t5)(ji:cW P w K mg base T 7 "strip_counts" ["wants","length"] sY)(fg:Df P w K mg base 1 "_law_whole" ["found"] j9)(jt:cW P w K mg base T 7 "strip_count" ["wants","length"] pO)(ou:cW P w K mg base T 8 "strip_least" ["wants","length"] sT)(js:cW P w K mg base T 8 "strip_seeds" ["wants","length"] pS)(il:Df P w K mg base 1 "_law_strip" ["wants","length"] lP)(pf:Df P w K mg base 2 "_law_is_set" ["found","many"] oY)(gv:Df P w K mg base 3 "_law_lights" ["web","seeds"] lO):d7 P w K mg base c7 9 f fd ["script"] (lS K T Q7):=
 Ue F Oy (λxs Q h=>by unfold Q7 at h;repeat (first|(obtain⟨rfl,_⟩:=h;rfl)|(obtain⟨_,h⟩:=h))) (λcm A outer s H E hr hT=>by
  have nd:=Oy.nd;have Cy:(A.deeper (PyProof.Rows.envOfC "law" (aJ (aC 39)) s.heap.objs.size f cm)).units+3<cLine:=by have:=hr.units;lia
  exact⟨(OY K),(aK (bO (i:=1) nd (bI qm hr (a7 (bI jj hr (a7 (qv 0) (a7 aR aB))) aB)))
   (aK (bO (i:=2) nd (lE (bI jj hr (a7 (qv 0) (a7 aR aB))) (fR (mS aR (d5 B (a7 (qv 1) aB))) aR)))
   (aK (bO (i:=3) nd (bI ph hr (a7 (qv 1) (a7 (qv 2) aB))))
   (aK (oO (i:=4) nd (kU hT ji hr (a7 (qv 1) (a7 (qv 2) aB))))
   (aK (dW (mV (iB (jU (jT (ZW B (qv 4)))) (oN (SE Cy (qv 4) (qv 3))))) (aU (cD dS)) dU)
   (aK (WE 4 5 nd (jU (jT (bI fg hr (a7 (qv 5) aB)))) dS)
   (aK (WI 4)
   (aK (bO (i:=6) nd (kU hT jt hr (a7 (qv 1) (a7 (qv 2) aB))))
   (aK (bO (i:=7) nd (kU hT ou hr (a7 (qv 1) (a7 (qv 2) aB))))
   (aK (dW (mV (iB (jU (jT (bI fg hr (a7 (qv 6) aB)))) (iB (rB (qv 6) (Mj B rfl (a7 (qv 3) aB))) (iB (jU (jT (bI fg hr (a7 (qv 7) aB)))) (iB (zO (cC (qv 3) (qv 7)) aR) (oN (uO (Mj B rfl (a7 (SD (qv 3) ZV (ZU (qv 7))) aB)) aR))))))) (aU (cD dS)) dU)
   (aK (bO (i:=8) nd (kU hT js hr (a7 (qv 1) (a7 (qv 2) aB))))
   (aK (bO (i:=9) nd (bI il hr (a7 (qv 1) (a7 (qv 2) aB))))
   (aK (dW (mV (iB (jU (jT (bI pf hr (a7 (qv 8) (a7 (d5 B (a7 (cC (qv 9) aR) aB)) aB))))) (iB (rB (d5 B (a7 (qv 8) aB)) (qv 7)) (oN (jU (jT (bI gv hr (a7 (qv 9) (a7 (qv 8) aB))))))))) (aU (cD dS)) dU)
   (aK (dW (mV (iB (rB (d5 B (a7 (kU hT js hr (a7 (zR B (a7 (qv 1) aB)) (a7 (qv 2) aB))) aB)) (qv 7)) (oN (rB (kU hT jt hr (a7 (zR B (a7 (qv 1) aB)) (a7 (qv 2) aB))) (qv 6))))) (aU (cD dS)) dU)
   (aU (cD (SF Cy (kU hT ji hr (a7 (zR B (a7 (qv 1) aB)) (a7 (qv 2) aB))) (qv 3)))))))))))))))))),Zt⟩)
end
theorem bG2 {l:OpenLaw}{w:bd}{K:Frag}{h:Heap}{mg:Str->Option ax}{fa f0 f1 f2 f3 f4 f5 f6 f7 f8 f9 Sx Sw Sv Su Ss Sr So Sn Sm Sl Sk Sj Si Sh Sg Sf Se Sb GJ:az}(X:K.In h)(G:h.Ns mainGlobals mg)(RK:mg "law" = some (.ref fa)){Fh Eg:Option az}{EV:Array (Option ax)}{Fi Dx DZ Dk BQ Ea:ax}(q0:Kn K "looked_through" (aC 10) f0)(q1:Kn K "held_to" (aC 11) f1)(q2:Kn K "moved_row" (aC 14) f2)(q3:Kn K "sums_of" (aC 15) f3)(q4:Kn K "has" (aC 20) f4)(q5:Kn K "_law_cell_at" (aC 29) f5)(q6:Kn K "_law_whole" (aC 30) f6)(q7:Kn K "_law_beside" (aC 31) f7)(q8:Kn K "_law_sets" (aC 34) f8)(q9:Kn K "_law_wants" (aC 36) f9)(Qs:Kn K "_law_strip" (aC 37) Sx)(Qr:Kn K "count_in" (aC 21) Sw)(Qq:Kn K "join_in" (aC 23) Sv)(Qo:Kn K "with_kindled" (aC 27) Su)(Qn:Kn K "_law_burning" (aC 32) Ss)(Qm:Kn K "_law_is_set" (aC 35) Sr)(HD:Kn K "with_slice" (aC 19) So)(Ql:Kn K "settled" (aC 26) Sn)(Qk:Kn K "_law_lights" (aC 33) Sm)(Qj:Kn K "next_answer" (aC 25) Sl)(Qi:Kn K "_law_counts" (aC 38) Sk)(Qh:Kn K "answers_behind" (aC 24) Sj)(HC:Kn K "gone_through" (aC 22) Si){GY uf:az}(q23:lY K "strip_count" (aC 12) Sh GY uf){GX ue:az}(q24:lY K "strip_counts" (aC 13) Sg GX ue){GW ud:az}(q25:lY K "fewest" (aC 18) Sf GW ud)(Qg:Kn K "strip_least" (aC 16) Se)(Qf:Kn K "strip_seeds" (aC 17) Sb)(a28:nsIn K mainGlobals "law" = some (some (.ref GJ)))(l28:K.lookup GJ=some ⟨Fi,Fh,.func (fnOf "law" "law" (dE (aC 39)) (cF (aC 39)) (aJ (aC 39)) .none Dx DZ Dk Eg BQ Ea),EV⟩)(c28:codeIn K BQ "law" = true)(k28:keepIn K (.ref GJ)=true)(zs:∀x∈wY,nsIn K mainGlobals x=some none){gm:Nat}(z_MOST_COUNTEDx:nsIn K mainGlobals "MOST_COUNTED" = some (some (.int 300 gm))){gw:Nat}(z_MOST_COUNTED_BY_SEEDSx:nsIn K mainGlobals "MOST_COUNTED_BY_SEEDS" = some (some (.int 60 gw))){gk:Nat}(z_MOST_HEARTHSx:nsIn K mainGlobals "MOST_HEARTHS" = some (some (.int 40 gk))){df:Nat}(z_MOST_WANTED_ON_STRIPSx:nsIn K mainGlobals "MOST_WANTED_ON_STRIPS" = some (some (.int 6 df))){jb:Nat}(z_MOST_WIDEx:nsIn K mainGlobals "MOST_WIDE" = some (some (.int 2 jb)))
 :∃fd:FuncData,(∀(s:ay) (v:ax),BindsTo s fd ⟨[v],[]⟩ [("script",v)])/\∀base:Heap,K.In base->base.Ns mainGlobals mg->(∀z∈([(ud,"fewest.<locals>.<lambda>"),(ue,"strip_counts.<locals>.<lambda>"),(uf,"strip_count.<locals>.<lambda>")]:List (az×Str)),iN base mg z.1)->d7 l.prog w K mg base c7 9 fa fd ["script"] (wP K [(ud,"fewest.<locals>.<lambda>"),(ue,"strip_counts.<locals>.<lambda>"),(uf,"strip_count.<locals>.<lambda>")]):=by
 have e:=RK.symm.trans (mg_of X G a28);cases e
 obtain⟨m0,_,F0⟩:=q0.go X G
 obtain⟨m1,_,F1⟩:=q1.go X G
 obtain⟨m2,_,F2⟩:=q2.go X G
 obtain⟨m3,_,F3⟩:=q3.go X G
 obtain⟨m4,_,F4⟩:=q4.go X G
 obtain⟨m5,_,F5⟩:=q5.go X G
 obtain⟨m6,_,F6⟩:=q6.go X G
 obtain⟨m7,_,F7⟩:=q7.go X G
 obtain⟨m8,_,F8⟩:=q8.go X G
 obtain⟨m9,_,F9⟩:=q9.go X G
 obtain⟨QU,_,F10⟩:=Qs.go X G
 obtain⟨HX,_,Pk⟩:=Qr.go X G
 obtain⟨Cu,_,Dd⟩:=Qq.go X G
 obtain⟨HW,_,Pj⟩:=Qo.go X G
 obtain⟨QR,_,F14⟩:=Qn.go X G
 obtain⟨QQ,_,F15⟩:=Qm.go X G
 obtain⟨HV,_,F16⟩:=HD.go X G
 obtain⟨HU,_,Ph⟩:=Ql.go X G
 obtain⟨QP,_,F18⟩:=Qk.go X G
 obtain⟨HS,_,Pg⟩:=Qj.go X G
 obtain⟨QN,_,F20⟩:=Qi.go X G
 obtain⟨HP,_,Pf⟩:=Qh.go X G
 obtain⟨EA,_,Hd⟩:=HC.go X G
 have QM:=mg_of X G q23.1;have QL:=mg_of X G q24.1;have QK:=mg_of X G q25.1
 obtain⟨QJ,_,F26⟩:=Qg.go X G
 obtain⟨QH,_,F27⟩:=Qf.go X G
 have F28:=yF (st:=aC 39) l28 c28 k28;have m28:=mg_of X G a28;have B:=Zq X G zs;have jz:lQ K mg "sums_of":=⟨_,m3,q3.1⟩;have jr:lQ K mg "with_slice":=⟨_,HV,HD.1⟩;have ff:=mg_of X G z_MOST_COUNTEDx;have gx:=mg_of X G z_MOST_COUNTED_BY_SEEDSx;have gn:=mg_of X G z_MOST_HEARTHSx;have dh:=mg_of X G z_MOST_WANTED_ON_STRIPSx;have jc:=mg_of X G z_MOST_WIDEx;refine⟨fnOf "law" "law" (dE (aC 39)) (cF (aC 39)) (aJ (aC 39)) .none Dx DZ Dk Eg BQ Ea,λs v=>.of_eq rfl,λbase KB _ Ha=>?_⟩;have D0:=Zd (P:=l.prog) (w:=w) (base:=base) B F0 m0  jc dh;have D1:=Zb (P:=l.prog) (w:=w) (base:=base) B F1 m1;have D2:=OO (P:=l.prog) (w:=w) (base:=base) B F2 m2;have D3:=Q9 (P:=l.prog) (w:=w) (base:=base) B F3 m3;have D4:=R3 (P:=l.prog) (w:=w) (base:=base) B F4 m4;have D5:=YW (P:=l.prog) (w:=w) (base:=base) B F5 m5;have D6:=YU (P:=l.prog) (w:=w) (base:=base) B F6 m6;have D7:=WW (Zf (P:=l.prog) (w:=w) (mg:=mg) (base:=base) F7) (F7.binds (ps:=["web"]) λ_ _ _ _ _ _ us hl=>by obtain⟨_,rfl⟩:=ve hl;rfl) F7.kp m7;have D8:=YT (P:=l.prog) (w:=w) (base:=base) B F8 m8;have D9:=YR (P:=l.prog) (w:=w) (base:=base) B F9 m9;have Po:=YQ (P:=l.prog) (w:=w) (base:=base) B F10 QU;have D11:=OL (P:=l.prog) (w:=w) (base:=base) B Pk HX D4;have El:=YN (P:=l.prog) (w:=w) (base:=base) Dd Cu (OR);have Ej:=YM (P:=l.prog) (w:=w) (base:=base) Dd Cu (OR);have Ek:=YL (P:=l.prog) (w:=w) (base:=base) Dd Cu (OQ B);have Ei:=YK (P:=l.prog) (w:=w) (base:=base) Dd Cu (OQ B);have D13:=OJ (P:=l.prog) (w:=w) (base:=base) B Pj HW D4;have D14:=YH (P:=l.prog) (w:=w) (base:=base) B F14 QR D7;have D15:=YG (P:=l.prog) (w:=w) (base:=base) B F15 QQ D6;have D16:=YE (P:=l.prog) (w:=w) (base:=base) B F16 HV D11;have D17:=OF (P:=l.prog) (w:=w) (base:=base) B Ph HU D13;have Pn:=YC (P:=l.prog) (w:=w) (base:=base) B F18 QP D14;have D19:=OE (P:=l.prog) (w:=w) (base:=base) B Pg HS D17
 have D20:=YA (P:=l.prog) (w:=w) (base:=base) B F20 QN Po D8 Pn;have Pm:=OB (P:=l.prog) (w:=w) (base:=base) B Pf HP D19;have Hg:=Yz (P:=l.prog) (w:=w) (base:=base) B Hd EA Pm El Ej Zi;have Hf:=Yy (P:=l.prog) (w:=w) (base:=base) B Hd EA Pm Ek Ei jr D16;have He:∀(dz:Heap) (c1:az) (w0:Int) (u:ax),dz.IsCell c1 (some u)->aO (.int w0) u->Df l.prog w K mg dz 6 "gone_through" ["wants","length","first","passed","joined"] (pU (lR c1) w0):=λdz c1 w0 u ic rv=>Yx (P:=l.prog) (w:=w) (base:=dz) B Hd EA (OB (P:=l.prog) (w:=w) (base:=dz) B Pf HP (OE (P:=l.prog) (w:=w) (base:=dz) B Pg HS (OF (P:=l.prog) (w:=w) (base:=dz) B Ph HU (OJ (P:=l.prog) (w:=w) (base:=dz) B Pj HW (R3 (P:=l.prog) (w:=w) (base:=dz) B F4 m4 ))))) (YJ (P:=l.prog) (w:=w) (base:=dz) Dd Cu jz (Q9 (P:=l.prog) (w:=w) (base:=dz) B F3 m3 )) (YI (P:=l.prog) (w:=w) (base:=dz) Dd Cu jz (Q9 (P:=l.prog) (w:=w) (base:=dz) B F3 m3 )) (Zg ic rv (OO (P:=l.prog) (w:=w) (base:=dz) B F2 m2 ) (OL (P:=l.prog) (w:=w) (base:=dz) B Pk HX (R3 (P:=l.prog) (w:=w) (base:=dz) B F4 m4 )))
 have D23:=Yv (P:=l.prog) (w:=w) (base:=base) (T:=[(ud,"fewest.<locals>.<lambda>"),(ue,"strip_counts.<locals>.<lambda>"),(uf,"strip_count.<locals>.<lambda>")]) q23 QM (Ha _ (gc _ (gc _ dv))) (gc _ (gc _ dv)) D0 D1 Hg ff;have D24:=Yu (P:=l.prog) (w:=w) (base:=base) (T:=[(ud,"fewest.<locals>.<lambda>"),(ue,"strip_counts.<locals>.<lambda>"),(uf,"strip_count.<locals>.<lambda>")]) q24 QL (Ha _ (gc _ dv)) (gc _ dv) D0 D1 EA HC.2.2 He jz B gx;have Pl:=Ys (P:=l.prog) (w:=w) (base:=base) (T:=[(ud,"fewest.<locals>.<lambda>"),(ue,"strip_counts.<locals>.<lambda>"),(uf,"strip_count.<locals>.<lambda>")]) q25 QK (Ha _ dv) dv Hf jr;have D26:=Yq (P:=l.prog) (w:=w) (base:=base) B F26 QJ D0 D1 Pl ff;have D27:=Yp (P:=l.prog) (w:=w) (base:=base) B F27 QH D0 D1 Pl D4 gn;exact Ud (Yo (T:=[(ud,"fewest.<locals>.<lambda>"),(ue,"strip_counts.<locals>.<lambda>"),(uf,"strip_count.<locals>.<lambda>")]) B F28 D9 D5 D20 D24 D6 D23 D26 D27 Po D15 Pn)
theorem bG3 {l:OpenLaw}{q:ba}{loose:List Str}{XP:(Str->Option ax)->Heap->Prop}{d:DefRec}{K:Params->Frag}{as:List az}{e:∀P,as=(K P).map (·.1)}{P1 P2 P3:az}(hn:l.most=some 63)(BC:d.params.defaults = [])(hN:∀p,(K p).lookup P1=none/\(K p).lookup P2=none/\(K p).lookup P3=none){f1 c1:az}(hA1:∀p,nsIn (K p) mainGlobals "fewest" = some (some (.ref f1)))(hL1:∀p,∃oc od kV doc pm an ct qd,(K p).lookup f1=some ⟨oc,od,.func (fnOf "fewest" "fewest" (dE (aC 18)) (cF (aC 18)) (aJ (aC 18)) .none kV doc pm an (.ref c1) ct),qd⟩)(hC1:∀p,codeHdIn (K p) c1 P1=true){f2 c2:az}(hA2:∀p,nsIn (K p) mainGlobals "strip_counts" = some (some (.ref f2)))(hL2:∀p,∃oc od kV doc pm an ct qd,(K p).lookup f2=some ⟨oc,od,.func (fnOf "strip_counts" "strip_counts" (dE (aC 13)) (cF (aC 13)) (aJ (aC 13)) .none kV doc pm an (.ref c2) ct),qd⟩)(hC2:∀p,codeHdIn (K p) c2 P2=true){f3 c3:az}(hA3:∀p,nsIn (K p) mainGlobals "strip_count" = some (some (.ref f3)))(hL3:∀p,∃oc od kV doc pm an ct qd,(K p).lookup f3=some ⟨oc,od,.func (fnOf "strip_count" "strip_count" (dE (aC 12)) (cF (aC 12)) (aJ (aC 12)) .none kV doc pm an (.ref c3) ct),qd⟩)(hC3:∀p,codeHdIn (K p) c3 P3=true)(h12:¬(P1=P2∨P1=P3))(h23:¬P2=P3)(F:∀(w:bd) (mg:Str->Option ax) (fa:az) (h:Heap),(K w.params).In h->h.Ns mainGlobals mg->mg d.name=some (.ref fa)->
   ∃fd:FuncData,(∀(s:ay) (u:ax),BindsTo s fd ⟨[u],[]⟩ [("script",u)])/\∀base:Heap,(K w.params).In base->base.Ns mainGlobals mg->(∀z∈([(P1,"fewest.<locals>.<lambda>"),(P2,"strip_counts.<locals>.<lambda>"),(P3,"strip_count.<locals>.<lambda>")]:List (az×Str)),iN base mg z.1)->d7 l.prog w (K w.params) mg base c7 9 fa fd ["script"] (wP (K w.params) [(P1,"fewest.<locals>.<lambda>"),(P2,"strip_counts.<locals>.<lambda>"),(P3,"strip_count.<locals>.<lambda>")])) :
  WalkO q loose XP (kmHook K as e [P1,P2,P3]).says l.row.toRowW d [] (λf vs=>PySem.call f vs):=
 L2.Vn (n:=63) (k:=9) (x:="script") (CX:=λ_=>c7) (T:=[(P1,"fewest.<locals>.<lambda>"),(P2,"strip_counts.<locals>.<lambda>"),(P3,"strip_count.<locals>.<lambda>")]) (sp:=λw=>wP (K w.params) [(P1,"fewest.<locals>.<lambda>"),(P2,"strip_counts.<locals>.<lambda>"),(P3,"strip_count.<locals>.<lambda>")]) hn (by decide) BC ⟨rfl,by decide,by decide⟩ (λw h Y=>km_in_of Y) (λw h Y=>⟨λz hz=>by
  simp only[eg,ky,kx]at hz;rcases hz with rfl|rfl|rfl
  ·exact⟨km_tabs_of Y _ dv,(hN w.params).1,J8 (km_in_of Y) (hC1 w.params)⟩
  ·exact⟨km_tabs_of Y _ (gc _ dv),(hN w.params).2.1,J8 (km_in_of Y) (hC2 w.params)⟩
  ·exact⟨km_tabs_of Y _ (gc _ (gc _ dv)),(hN w.params).2.2,J8 (km_in_of Y) (hC3 w.params)⟩,by simp only[gg,List.map_nil,qu,eg,ky,kx,not_false_eq_true,xw,and_true];exact⟨h12,h23⟩⟩) F (λ_ _ a ns hl hO hT hS=>⟨hT,a,ns,rfl,Vo hO hS,hl,λ_=>rfl⟩) λ_ _ _ _ _ z=>z
end K_k82
open PySem PySem.W PyProof.Rows
theorem PySem.W.Fast.te13052408679150730464 : True := trivial
theorem PySem.W.Fast.te16555476440528808052 : True := trivial
theorem PySem.W.Fast.te5369427470323729400 : True := trivial
set_option maxRecDepth 100000 in
set_option maxHeartbeats 0 in
theorem PySem.Challenge.cw_kindleweb_k82_seeds_of_strips_counted_holds : PySem.Challenge.rw_kindleweb_k82_seeds_of_strips_counted.Holds := by
 w_on;o_law;k_head;(case hw => w_witness2)
 k_fill
 refine' K_k82.bG3 (l := PySem.Challenge.rw_kindleweb_k82_seeds_of_strips_counted) rfl rfl ?hN ?hA1 ?hL1 ?hC1 ?hA2 ?hL2 ?hC2 ?hA3 ?hL3 ?hC3 ?h12 ?h23 ?F
 (case hA1 => intro p;k_is)
 (case hL1 => intro p;apply PP.N4;k_is)
 (case hC1 => intro p;kernel_rfl)
 (case hA2 => intro p;k_is)
 (case hL2 => intro p;apply PP.N4;k_is)
 (case hC2 => intro p;kernel_rfl)
 (case hA3 => intro p;k_is)
 (case hL3 => intro p;apply PP.N4;k_is)
 (case hC3 => intro p;kernel_rfl)
 (case hN => intro p;exact⟨by kernel_rfl, by kernel_rfl, by kernel_rfl⟩)
 (case h12 => decide)
 (case h23 => decide)
 case F =>
  intro w mg fa h KX G hmg
  refine' K_k82.bG2 KX G hmg _ _ _ _ _ _ _ _ _ _ _ _ _ _ _ _ _ _ _ _ _ _ _ ?q23 ?q24 ?q25 _ _ ?a28 ?l28 ?c28 ?k28 ?zs ?z_MOST_COUNTEDx ?z_MOST_COUNTED_BY_SEEDSx ?z_MOST_HEARTHSx ?z_MOST_WANTED_ON_STRIPSx ?z_MOST_WIDEx
  any_goals (apply PP.bA8<;>k_is)
  (case q23 => apply PP.Q8<;>first|k_is|kernel_rfl|decide)
  (case q24 => apply PP.Q8<;>first|k_is|kernel_rfl|decide)
  (case q25 => apply PP.Q8<;>first|k_is|kernel_rfl|decide)
  (case a28|l28|c28|k28 => k_is)
  (case zs => intro x hx;simp only[PP.wY, List.mem_cons, List.not_mem_nil, or_false]at hx;rcases hx with rfl|rfl|rfl|rfl|rfl|rfl|rfl|rfl|rfl|rfl|rfl|rfl|rfl|rfl|rfl<;>k_is)
  (case z_MOST_COUNTEDx|z_MOST_COUNTED_BY_SEEDSx|z_MOST_HEARTHSx|z_MOST_WANTED_ON_STRIPSx|z_MOST_WIDEx => k_is)


