import PyProof.Rows.All
import Wide.All
import OpenK.AllK
import Wide.FinOn
import Lean
import PyProof.EqAt
import PyProof.EqKinds
import PyProof.TupleCall
import PyProof.NeKinds
import PyProof.Draws
import PyProof.ZipIter
import PyProof.DictUpdate
import PyProof.AutoSeq1
import PyProof.ListRange
import PyProof.ListMulRoad
import PyProof.FactsAll.tuple_2
import PyProof.Rows.SortShell
import PyProof.EnumFor
import PyProof.EnumMake
import PyProof.EnumStmt
import PyProof.Rows.SortWalk
import KE.KDictList
import PyProof.SumAny
import PyProof.ConsumeWalk
import PyProof.WalksMore
import PyProof.Rows.TupAssign
import PyProof.ExcArgsOwn
import Wide.Seal
import PyProof.TupleKey
import KE.KLam
import PySem.Challenge.RW_kindleweb_k85_whole_seeds_told_light
set_option Elab.async false
set_option linter.all false
set_option maxRecDepth 100000
set_option maxHeartbeats 4000000
section
open PySem PySem.Spec PyProof.Rows
noncomputable def bp7:=@wpAny_bind
noncomputable def bp9:=@decide_eq_false
noncomputable def bq0:=@Heap.get?_push_of_some
noncomputable def bq1:=@List.mem_singleton
noncomputable def bq2:=@decide_eq_true
noncomputable def bq3:=@List.mem_cons_self
noncomputable def bq4:=@Nat.le_refl
noncomputable def bq5:=@wpAny_pure
noncomputable def bq6:=@List.length_map
noncomputable def bq7:=@Bool.false_ne_true
noncomputable def bq8:=@List.mem_cons_of_mem
noncomputable def bq9:=@List.size_toArray
noncomputable def br0:=@List.mem_cons
noncomputable def br1:=@wpS_bind
noncomputable def br2:=@List.getElem?_eq_getElem
noncomputable def br3:=@Nat.lt_of_lt_of_le
noncomputable def br4:=@List.length_append
noncomputable def br5:=@List.getElem?_map
noncomputable def br6:=@List.getD_eq_getElem?_getD
noncomputable def br7:=@Heap.get?_push_size
noncomputable def br9:=@Heap.lt_size
noncomputable def bs0:=@wpS_pure
noncomputable def bs1:=@List.getElem?_eq_some_iff
noncomputable def bs2:=@List.mem_append_right
noncomputable def bs3:=@List.mem_append
noncomputable def bs4:=@decide_eq_true_eq
noncomputable def bs6:=@List.append_assoc
noncomputable def bs8:=@Bool.false_eq_true
noncomputable def bs9:=@List.map_append
noncomputable def bt2:=@Option.some.inj
noncomputable def bt3:=@List.map_cons
noncomputable def bt4:=@Bool.and_eq_true
noncomputable def bt5:=@List.mem_append_left
noncomputable def bt6:=@Nat.le_trans
noncomputable def bt7:=@List.mem_map
noncomputable def bt8:=@List.mem_filter
noncomputable def bt9:=@List.getElem?_set_ne
noncomputable def bu0:=@List.append_nil
noncomputable def bu1:=@Int.toNat_natCast
noncomputable def bu2:=@List.not_mem_nil
noncomputable def bu3:=@Nat.ne_of_lt
noncomputable def bu7:=@List.take_append_drop
noncomputable def bu8:=@Nat.zero_le
noncomputable def bu9:=@List.length_cons
noncomputable def bv1:=@List.mem_of_getElem?
noncomputable def bv2:=@List.pairwise_append
noncomputable def bv3:=@Array.getElem_mem
noncomputable def bv4:=@List.find?_cons
noncomputable def bv6:=@PySem.mem_of_lookup
noncomputable def bv7:=@Array.toList_append
noncomputable def bv9:=@wpAny_newObj_type
noncomputable def bw0:=@wpAny_mono
noncomputable def bw1:=@List.filter_append
noncomputable def bw2:=@Nat.lt_or_ge
noncomputable def bw3:=@Nat.lt_irrefl
noncomputable def bw4:=@List.pairwise_iff_getElem
noncomputable def bw6:=@wpAny_call_entry
noncomputable def bw7:=@List.lookup_cons
noncomputable def bw9:=@Heap.get?_update_self
noncomputable def bx0:=@List.replicate_succ
noncomputable def bx1:=@List.nodup_cons
noncomputable def bx2:=@List.length_set
noncomputable def bx3:=@if_false
noncomputable def bx4:=@List.eq_nil_of_length_eq_zero
noncomputable def bx6:=@List.getElem?_set_self
noncomputable def bx8:=@Heap.get?_update_other
noncomputable def bx9:=@wpS_forRange
noncomputable def by0:=@List.map_map
noncomputable def by1:=@PySem.W.kia_one
noncomputable def by2:=@Nat.two_pow_pos
noncomputable def by3:=@wpAny_holding
noncomputable def by6:=@List.getElem_mem
noncomputable def by7:=@wpAny_field
noncomputable def by8:=@Array.getElem?_toList
noncomputable def by9:=@Nat.le_of_lt
noncomputable def bz1:=@of_decide_eq_true
noncomputable def bz2:=@wpAny_callSpecial?_slot
noncomputable def bz3:=@List.getElem?_cons_succ
noncomputable def bz5:=@List.mem_range
noncomputable def bz6:=@Bool.true_and
noncomputable def bz7:=@beq_self_eq_true
noncomputable def bz8:=@PySem.F.plain_min_loop
noncomputable def bz9:=@List.getElem?_append_left
noncomputable def bA3:=@Nat.ne_of_gt
noncomputable def bA4:=@Bool.eq_iff_iff
noncomputable def bA6:=@Obj.data_mapFields
noncomputable def bA8:=@decide_eq_false_iff_not
noncomputable def bA9:=@List.pairwise_singleton
noncomputable def bB0:=@PyProof.Rows.callWith_type1
noncomputable def bB1:=@wpAny_truthy_bool
noncomputable def bB2:=@List.getElem?_append_right
noncomputable def bB3:=@List.flatten_cons
noncomputable def bB4:=@Heap.size_push
noncomputable def bB5:=@List.take_add_one
noncomputable def bB6:=@List.length_range
noncomputable def bB7:=@List.take_of_length_le
noncomputable def bB8:=@beq_eq_false_iff_ne
noncomputable def bB9:=@Array.length_toList
noncomputable def bC0:=@List.map_congr_left
noncomputable def bC1:=@Nat.not_lt_zero
noncomputable def bC2:=@List.mem_of_find?_eq_some
noncomputable def bC3:=@builtinLookup_eq_fast
noncomputable def bC4:=@List.zip_cons_cons
noncomputable def bC6:=@wpAny_Call_Name_kw
noncomputable def bC7:=@List.all_eq_true
noncomputable def bC8:=@List.take_length
noncomputable def bC9:=@Array.eq_empty_of_size_eq_zero
noncomputable def bD1:=@Nat.mul_comm
noncomputable def bD3:=@wpAny_of_eq
noncomputable def bD4:=@Int.le_refl
noncomputable def bD5:=@List.mem_of_mem_take
noncomputable def bD6:=@or_false
noncomputable def bD7:=@PySem.F.plainAttrs_list
noncomputable def bD8:=@List.foldl_append
noncomputable def bD9:=@wpAny_specialOf
noncomputable def bE0:=@Int.natCast_mul
noncomputable def bE2:=@List.getElem?_range
noncomputable def bE4:=@Nat.zero_add
noncomputable def bE5:=@wpAny_isInstance
noncomputable def bE6:=@List.mem_flatMap
noncomputable def bE7:=@wpAny_rule
noncomputable def bE8:=@wpAny_pyIter_tuple
noncomputable def bE9:=@Int.natCast_nonneg
noncomputable def bF0:=@List.nodup_nil
noncomputable def bF1:=@Nat.eq_or_lt_of_le
noncomputable def bF4:=@List.getElem?_eq_none
noncomputable def bF5:=@wpAny_passesOwn
noncomputable def bF6:=@List.range_succ
noncomputable def bF9:=@wpS_mono
noncomputable def bG0:=@Around.under_plainId
noncomputable def bG2:=@wpAny_attempt
noncomputable def bG3:=@wpAny_seqItems
noncomputable def bG4:=@wpAny_setField
noncomputable def bG6:=@List.drop_take
noncomputable def bG8:=@True.intro
noncomputable def bG9:=@call_meets
end
noncomputable abbrev aw:=PySem.Value
noncomputable abbrev ax:=PySem.Shared
noncomputable abbrev ay:=PySem.Addr
noncomputable abbrev az:=PySem.Program
noncomputable abbrev ba:=PySem.Around
noncomputable abbrev bc:=PySem.World
noncomputable abbrev aa:=List (Int×Int)
noncomputable abbrev ad:=PySem.W.Frag
noncomputable abbrev ae:=List (List Int)
noncomputable abbrev ag:=List Int
namespace L2
open PySem PySem.Spec PyProof.Rows
noncomputable def lH (k:Int):aw->Bool
 |.int i _=>i==k
 |.bool b=>(if b then 1 else 0)==k
 |_=>false
theorem oS {k:Int}{v:aw}(h:lH k v=true):(∃t,v = .int k t)∨∃b:Bool,v = .bool b/\k=if b then 1 else 0:=by
 cases v with
 |int i t=>exact .inl ⟨t,by rw[show i=k from eq_of_beq h]⟩
 |bool b=>exact .inr ⟨b,rfl,(eq_of_beq h).symm⟩
 |_=>cases h
theorem ap4 (b:Bool):reduceHash (if b then 1 else 0)=hashInt (if b then 1 else 0):=by cases b<;>decide +kernel
theorem ap5 {prog:az}{w:bc}{A:ba}{E:aw->ax->Prop}{s:ax}{b:Bool}{Q:Int->ax->Prop}(h:Q (hashInt (if b then 1 else 0)) { s with toks:=s.toks+1 }) :
  wpAny (model prog w) A (PySem.pyHash (.bool b)) Q E s:=by
 refine PySem.W.pyHash_slot (T:="bool") rfl F.slot_bool_hash entry_int_hash (args_int_hash _) (beq_builtin_none _) (.inl rfl) ?_;rw[<- ap4]at h;cases b
 ·exact (show wpAny _ _ (do ret (<- mkInt 0)) _ _ s from bp7 (wpAny_mkInt (bq5 ⟨_,_,rfl,h⟩)))
 ·exact (show wpAny _ _ (do ret (<- mkInt 1)) _ _ s from bp7 (wpAny_mkInt (bq5 ⟨_,_,rfl,h⟩)))
noncomputable def iX (prog:az)(w:bc):KeyKind prog w Int where
 is:=lH
 hash:=hashInt
 inj:=λv a b h1 h2=>by
  rcases oS h1 with⟨t,rfl⟩|⟨x,rfl,e⟩
  ·exact eq_of_beq h2
  ·rw[e];exact eq_of_beq h2
 byValue:=λk v h=>by
  rcases oS h with⟨t,rfl⟩|⟨x,rfl,e⟩<;>rfl
 pyHash:=λhv h=>by
  rcases oS hv with⟨t,rfl⟩|⟨x,rfl,e⟩
  ·exact wpAny_pyHash_int h
  ·exact ap5 (by rw[<- e];exact h)
 eqBool:=λ{A E s a b u v Q} hu hv h=>by
  rcases oS hu with⟨t,rfl⟩|⟨x,rfl,e⟩<;>rcases oS hv with⟨t',rfl⟩|⟨y,rfl,e'⟩
  ·exact SeqAt.EqAt.int_int a t b t' prog w E Q h
  ·exact SeqAt.EqAt.int_bool a t y prog w E Q (by rw[<- e'];exact h)
  ·exact SeqAt.EqAt.bool_int x b t' prog w E Q (by rw[<- e];exact h)
  ·refine SeqAt.EqAt.bool_bool x y prog w E Q ?_
   have:(x==y)=decide (a=b):=by rw[e,e'];cases x<;>cases y<;>rfl
   rw[this];exact h
 «strs»:=λk x t v h=>by cases h
theorem vA {α β:Type}{F G:α->β->Prop}:∀{l₁:List α}{l₂:List β},Paired F l₁ l₂->(∀a b,F a b->G a b)->Paired G l₁ l₂
 |_,_,.nil,_=>.nil
 |_,_,.cons r t,f=>.cons (f _ _ r) (vA t f)
section
variable {prog:az}{w:bc}{K:Type}[DecidableEq K]{knd:KeyKind prog w K}
noncomputable def fO (knd:KeyKind prog w K)(h:Heap)(ks:List (List K))(a:ay):Prop:=∃o items n,h.get? a=some o/\o.cls = .type "tuple"/\o.data = .seq items n/\Paired (λk v=>∃b,v=Value.ref b/\IsTupleKey knd h k b) ks items.toList
noncomputable def B9 (knd:KeyKind prog w K)(ks:List (List K)):Int:=reduceHash (Builtin.Tuple.tupleHashOf (ks.map (tupleKeyHash knd)))
noncomputable def C0 (ks:List (List K)):Nat:=(ks.map λk=>k.length+1).sum+1
theorem fO.typeIs {s:ax}{ks:List (List K)}{a:ay}(x:fO knd s.heap ks a):s.TypeIs (.ref a) "tuple":=let ⟨o,_,_,ho,hc,_⟩:=x;⟨o,ho,hc⟩
theorem C1 {h:Heap}:∀{x y:List (List K)}{vs:List aw},Paired (λk v=>∃b,v=Value.ref b/\IsTupleKey knd h k b) x vs->Paired (λk v=>∃b,v=Value.ref b/\IsTupleKey knd h k b) y vs->x=y
 |_,_,_,.nil,.nil=>rfl
 |_,_,_,.cons ⟨b,e,r⟩ t,.cons ⟨b',e',r'⟩ t'=>by
  rw[e]at e';cases e';rw[r.inj r',C1 t t']
theorem fO.inj {h:Heap}{a:ay}{x y:List (List K)}(hx:fO knd h x a)(hy:fO knd h y a):x=y:=by
 obtain⟨o,items,n,ho,_,hd,hi⟩:=hx
 obtain⟨o',items',n',ho',_,hd',hi'⟩:=hy
 obtain rfl:o=o':=bt2 (ho.symm.trans ho');rw[hd]at hd';injection hd' with h1 _
 subst h1;exact C1 hi hi'
theorem fO.keeps {h h':Heap}{ks:List (List K)}{a d:ay}{o:Obj}{es ep}(x:fO knd h ks a)(ho:h.get? d=some o)(hd:o.data = .dict es ep)(hs:Heap.SameBut d h h'):fO knd h' ks a:=by
 obtain⟨o',items,n,ho',hc,hd',hi⟩:=x
 have hne:a≠d:=by
  rintro rfl;obtain rfl:o'=o:=bt2 (ho'.symm.trans ho);rw[hd]at hd';exact nomatch hd'
 exact⟨o',items,n,(hs.2 a hne).trans ho',hc,hd',vA hi λk v ⟨b,e,r⟩=>⟨b,e,r.keeps ho hd hs⟩⟩
variable {A:ba}{E:aw→ax→Prop}{s:ax}
theorem C2:∀{ks:List (List K)}{vs:List aw}{A:ba}{s:ax}{b:Array Int}{Q:Array Int->ax->Prop},A.units<cLine->Paired (λk v=>∃b,v=Value.ref b/\IsTupleKey knd s.heap k b) ks vs->
  (∀b':Array Int,b'.toList=b.toList++ks.map (tupleKeyHash knd)->Q b' { s with toks:=s.toks+(ks.map λk=>k.length+1).sum })->
  wpAny (model prog w) A (forIn vs b λx r=>do let h <- pyHash x;pure PUnit.unit;pure (ForInStep.yield (r.push h))) Q E s
 |[],_,A,s,b,Q,_,.nil,h=>bq5 (h b (by simp))
 |k::ks,_,A,s,b,Q,hu,.cons ⟨p,e,r⟩ t,h=>by
  subst e;rw[List.forIn_cons];refine bp7 (bp7 (wpAny_pyHash_tuple hu r ?_));refine bp7 (bq5 (bq5 ?_));exact C2 (s:={ s with toks:=s.toks+(k.length+1) }) hu t λb' hb=>by
   have:=h b' (by rw[hb];simp)
   simpa[Nat.add_assoc] using this
theorem ap6 {ks:List (List K)}{a:ay}{Q:Int->ax->Prop}(hu:A.units+1<cLine)(hk:fO knd s.heap ks a)(h:Q (B9 knd ks) { s with toks:=s.toks+C0 ks }) :
  wpAny (model prog w) A (pyHash (.ref a)) Q E s:=by
 have hT:=hk.typeIs
 obtain⟨o,items,n,ho,_,hd,hi⟩:=hk
 refine PySem.W.pyHash_slot (T:="tuple") hT F.slot_tuple_hash F.entry_tuple_hash (F.args_tuple_hash_1 _) (beq_builtin_none _) (.inr (by omega)) ?_;show wpAny _ _ (Builtin.Tuple.tupleItemsOf (.ref a) >>= _) _ _ s;refine bp7 (wpAny_tupleItemsOf ho hd ?_);refine bp7 ?_;rw[<- Array.forIn_toList];refine C2 (by show A.units+1<cLine;exact hu) hi λb hb=>?_
 show wpAny _ _ (retInt (Builtin.Tuple.tupleHashOf b.toList)) _ _ _;rw[hb];exact bp7 (wpAny_mkInt (bq5 ⟨_,_,rfl,h⟩))
theorem ap7 {x y:List (List K)}{a b:ay}{P:Fin->ax->Prop}(hu:A.units<cLine)(hx:fO knd s.heap x a)(hy:fO knd s.heap y b)(h:P (.done (.ret (.bool (decide (x=y))))) s) :
  wpAny (model prog w) A (Builtin.«tuple.__eq__» ⟨[.ref a,.ref b],[]⟩) P E s:=by
 have hTb:=hy.typeIs
 obtain⟨oa,xs,na,hoa,_,hda,hia⟩:=hx
 obtain⟨ob,ys,nb,hob,_,hdb,hib⟩:=hy
 show wpAny _ _ (isInstance (.ref b) (.type "tuple") >>= _) _ _ s;refine bp7 (bE5 hTb isSubtype_tuple_tuple ?_);simp only[Bool.not_true,bs8,bx3];refine bp7 (wpAny_tupleItemsOf hoa hda ?_);refine bp7 (wpAny_tupleItemsOf hob hdb ?_);refine bp7 ?_;refine wpAny_forIn_list _
  (λrest r s'=>r.1=none/\s'=s/\∃x' y' xs' ys',rest=List.zip xs' ys'/\Paired (λk v=>∃b,v=Value.ref b/\IsTupleKey knd s.heap k b) x' xs'/\Paired (λk v=>∃b,v=Value.ref b/\IsTupleKey knd s.heap k b) y' ys'/\decide (x'=y')=decide (x=y)/\(xs'.length==ys'.length)=(xs.size==ys.size))
  _ ?_ ?_ _ _ ⟨rfl,rfl,x,y,xs.toList,ys.toList,rfl,hia,hib,rfl,by simp⟩
 ·rintro⟨u,v⟩ rest r s' ⟨hr,rfl,x',y',xs',ys',hz,hx',hy',hdec,ao⟩
  cases hx' with
  |nil=>simp at hz
  |@cons k1 u' x'' xs'' h1 hx''=>
   cases hy' with
   |nil=>simp at hz
   |@cons k2 v' y'' ys'' h2 hy''=>
    simp only[bC4,List.cons.injEq,Prod.mk.injEq]at hz
    obtain⟨⟨rfl,rfl⟩,rfl⟩:=hz
    obtain⟨b1,rfl,q1⟩:=h1
    obtain⟨b2,rfl,q2⟩:=h2
    refine bp7 (wpAny_eqBool_tuple (x:=k1) (y:=k2) hu q1 q2 ?_);by_cases hk:k1=k2
    ·subst hk
     rw[bq2 rfl];simp only[Bool.not_true,bs8,bx3];refine bq5 ⟨rfl,rfl,x'',y'',xs'',ys'',rfl,hx'',hy'',?_,by simpa using ao⟩;rw[<- hdec];by_cases hxy:x''=y''
     ·simp[hxy]
     ·simp[hxy]
    ·rw[bp9 hk]
     simp only[Bool.not_false,if_true];have hf:decide (x=y)=false:=by rw[<- hdec];simp[hk]
     rw[hf]at h;exact bp7 (bq5 (bq5 (bq5 h)))
 ·rintro⟨r1,r2⟩ s' ⟨hr,rfl,x',y',xs',ys',hz,hx',hy',hdec,ao⟩
  simp only at hr;subst hr;refine bq5 ?_;have hfin:(xs.size==ys.size)=decide (x=y):=by
   rw[<- hdec,<- ao];cases hx' with
   |nil=>
    cases hy' with
    |nil=>simp
    |cons _ _=>simp
   |cons _ _=>
    cases hy' with
    |nil=>simp
    |cons _ _=>simp at hz
  show P (.done (.ret (.bool (xs.size==ys.size)))) s';rw[hfin];exact h
theorem ap8 {x y:List (List K)}{a b:ay}{Q:Bool->ax->Prop}(hu:A.units+8<cLine)(hx:fO knd s.heap x a)(hy:fO knd s.heap y b)(h:Q (decide (x=y)) s) :
  wpAny (model prog w) A (eqBool (.ref a) (.ref b)) Q E s:=by
 unfold eqBool
 try with_reducible refine by3 ?_
 show wpAny _ _ (if (Value.ref a==Value.ref b)=true then _ else _) Q E s;by_cases hab:(Value.ref a==Value.ref b)=true
 ·rw[if_pos hab]
  have e:a=b:=by have:=eq_of_beq hab;injection this
  subst e;obtain rfl:=hx.inj hy;exact bp7 (bE7 (bq5 (by simpa using h)))
 ·rw[if_neg hab]
  exact bp7 (wpAny_richCompare_same_room (op:=.Eq) hx.typeIs hy.typeIs F.slot_tuple_eq
   (bw6 F.slot_tuple_eq hx.typeIs F.entry_tuple_eq (ap7 (by show A.units+1+0<cLine;omega) hx hy ⟨_,rfl,(λe=>nomatch e),bB1 h⟩) (F.args_tuple_eq_2 _ _)) (by omega))
theorem ap9 {ks:List K}{a:ay}{n:Nat}{Q:Bool->ax->Prop}(hk:IsTupleKey knd s.heap ks a)(h:Q true s):wpAny (model prog w) A (eqIsQuiet (n+1) (.ref a)) Q E s:=by
 have hT:=hk.typeIs
 obtain⟨o,items,m,ho,_,hd,hi⟩:=hk
 unfold eqIsQuiet;refine bp7 (bD9 hT F.slot_tuple_eq.lookup ?_);show wpAny _ _ (isInstance (.ref a) (.type "tuple") >>= _) _ _ s;refine bp7 (bE5 hT isSubtype_tuple_tuple ?_);simp only[Bool.not_true,bs8,bx3];refine bp7 (bG3 ho hd ?_);refine bp7 ?_;show wpAny _ _ (forIn items _ _) _ _ s;rw[<- Array.forIn_toList];refine wpAny_forIn_list _ (λrest r s'=>r.1=none/\s'=s/\∀v∈rest,carriedByValue v=true) _ ?_ ?_ _ _ ⟨rfl,rfl,hi.byValue⟩
 ·rintro v rest r s' ⟨hr,rfl,hall⟩
  rw[eqIsQuiet_byValue _ (hall v bq3)];refine bp7 (bq5 ?_);simp only[Bool.not_true,bs8,bx3];exact bq5 ⟨rfl,rfl,λu hu'=>hall u (bq8 _ hu')⟩
 ·rintro⟨r1,r2⟩ s' ⟨hr,rfl,_⟩
  simp only at hr;subst hr;exact bq5 h
theorem C3 {h:Heap}:∀{x:List (List K)}{vs:List aw},Paired (λk v=>∃b,v=Value.ref b/\IsTupleKey knd h k b) x vs->∀v∈vs,∃k b,v = .ref b/\IsTupleKey knd h k b
 |_,_,.nil,v,hv=>by simp at hv
 |_,_,.cons ⟨b,e,r⟩ t,v,hv=>by
  rcases br0.mp hv with rfl|hv
  ·exact⟨_,b,e,r⟩
  ·exact C3 t v hv
theorem aq0 {ks:List (List K)}{a:ay}{n:Nat}{Q:Bool->ax->Prop}(hk:fO knd s.heap ks a)(h:Q true s):wpAny (model prog w) A (eqIsQuiet (n+2) (.ref a)) Q E s:=by
 have hT:=hk.typeIs
 obtain⟨o,items,m,ho,_,hd,hi⟩:=hk
 unfold eqIsQuiet;refine bp7 (bD9 hT F.slot_tuple_eq.lookup ?_);show wpAny _ _ (isInstance (.ref a) (.type "tuple") >>= _) _ _ s;refine bp7 (bE5 hT isSubtype_tuple_tuple ?_);simp only[Bool.not_true,bs8,bx3];refine bp7 (bG3 ho hd ?_);refine bp7 ?_;show wpAny _ _ (forIn items _ _) _ _ s;rw[<- Array.forIn_toList];refine wpAny_forIn_list _ (λrest r s'=>r.1=none/\s'=s/\∀v∈rest,∃k b,v = .ref b/\IsTupleKey knd s.heap k b) _ ?_ ?_ _ _ ⟨rfl,rfl,C3 hi⟩
 ·rintro v rest r s' ⟨hr,rfl,hall⟩
  obtain⟨k,b,rfl,q⟩:=hall v bq3
  refine bp7 (ap9 q ?_);simp only[Bool.not_true,bs8,bx3];exact bq5 ⟨rfl,rfl,λu hu'=>hall u (bq8 _ hu')⟩
 ·rintro⟨r1,r2⟩ s' ⟨hr,rfl,_⟩
  simp only at hr;subst hr;exact bq5 h
end
noncomputable def oT {prog:az}{w:bc}{K:Type}[DecidableEq K](knd:KeyKind prog w K):HeapKind prog w (List (List K)) where
 is:=fO knd
 hash:=B9 knd
 draws:=C0
 room:=λA=>A.units+8<cLine
 inj:=λhx hy=>hx.inj hy
 keeps:=λx ho hd hs=>x.keeps ho hd hs
 pyHash:=λhu hk h=>ap6 (Nat.lt_of_le_of_lt (Nat.add_le_add_left (by decide) _) hu) hk h
 eqBool:=λhu hx hy h=>ap8 hu hx hy h
 quiet:=λhk h=>aq0 hk h
noncomputable def dM (k:List (Int×Bool)):ae:=k.map λp=>[p.1,if p.2 then 1 else 0]
theorem vB:∀{k k':List (Int×Bool)},dM k=dM k'->k=k'
 |[],[],_=>rfl
 |[],_::_,h=>by simp[dM]at h
 |_::_,[],h=>by simp[dM]at h
 |(i,b)::r,(j,c)::r',h=>by
  simp only[dM,bt3,List.cons.injEq]at h
  obtain⟨⟨rfl,h2,_⟩,h3⟩:=h
  have:b=c:=by cases b<;>cases c<;>simp_all
  subst this;rw[vB h3]
noncomputable abbrev bO:=Sum Int Str
noncomputable def C4:bO->aw->Bool
 |.inl k,v=>Value.isInt k v
 |.inr x,v=>Value.isStrOf x v
noncomputable def aq1 (w:bc):bO->Int
 |.inl k=>hashInt k
 |.inr x=>hashStr w x
theorem jI:∀{k:bO}{v:aw},C4 k v=true->(∃i t,k=Sum.inl i/\v=Value.int i t)∨(∃x t,k=Sum.inr x/\v=Value.str x t)
 |.inl i,v,h=>by
  obtain⟨t,e⟩:=Value.isInt_shape (k:=i) (v:=v) h
  exact .inl ⟨i,t,rfl,e⟩
 |.inr x,v,h=>by
  obtain⟨t,e⟩:=Value.isStrOf_shape (x:=x) (v:=v) h
  exact .inr ⟨x,t,rfl,e⟩
theorem aq2 (a b:Int):decide ((Sum.inl a:bO)=Sum.inl b)=(a==b):=by
 by_cases e:a=b
 ·subst e;simp
 ·have h:¬(Sum.inl a:bO)=Sum.inl b:=λq=>e (Sum.inl.inj q)
  rw[bp9 h];exact (bB8.mpr e).symm
theorem aq3 (a b:Str):decide ((Sum.inr a:bO)=Sum.inr b)=decide (a=b):=by
 by_cases e:a=b
 ·subst e;simp
 ·have h:¬(Sum.inr a:bO)=Sum.inr b:=λq=>e (Sum.inr.inj q)
  rw[bp9 h,bp9 e]
theorem aq4 (a:Int)(b:Str):decide ((Sum.inl a:bO)=Sum.inr b)=false:=bp9 (λq=>nomatch q)
theorem aq5 (a:Str)(b:Int):decide ((Sum.inr a:bO)=Sum.inl b)=false:=bp9 (λq=>nomatch q)
noncomputable def rQ (prog:az)(w:bc):PySem.KeyKind prog w bO where
 is:=C4
 hash:=aq1 w
 inj:=λv a b ha hb=>by
  rcases jI ha with⟨i,t,rfl,rfl⟩|⟨x,t,rfl,rfl⟩
  ·rcases jI hb with⟨j,u,rfl,e⟩|⟨y,u,rfl,e⟩
   ·injection e with e1 _;rw[e1]
   ·exact nomatch e
  ·rcases jI hb with⟨j,u,rfl,e⟩|⟨y,u,rfl,e⟩
   ·exact nomatch e
   ·injection e with e1 _;rw[e1]
 byValue:=λk v h=>by
  rcases jI h with⟨i,t,rfl,rfl⟩|⟨x,t,rfl,rfl⟩<;>rfl
 pyHash:=λhv h=>by
  rcases jI hv with⟨i,t,rfl,rfl⟩|⟨x,t,rfl,rfl⟩
  ·exact wpAny_pyHash_int h
  ·exact wpAny_pyHash_str h
 eqBool:=λhu hv h=>by
  rcases jI hu with⟨i,t,rfl,rfl⟩|⟨x,t,rfl,rfl⟩
  ·rcases jI hv with⟨j,u,rfl,rfl⟩|⟨y,u,rfl,rfl⟩
   ·rw[aq2]at h;exact wpAny_eqBool_int h
   ·rw[aq4]at h;exact SeqAt.EqAt.int_str i t y u _ _ _ _ h
  ·rcases jI hv with⟨j,u,rfl,rfl⟩|⟨y,u,rfl,rfl⟩
   ·rw[aq5]at h;exact SeqAt.EqAt.str_int x t j u _ _ _ _ h
   ·rw[aq3]at h;exact wpAny_eqBool_str h
 «strs»:=λk x t v h=>by
  rcases jI h with⟨i,u,rfl,e⟩|⟨y,u,rfl,e⟩
  ·exact nomatch e
  ·injection e with e1 _
   subst e1;cases v<;>rfl
inductive V where
 |non|bl (b:Bool)|int (i:Int)|str (x:Str)|byt (b:Array UInt8)|flt (b:UInt64)|ref (a:ay)|ty (n:String)
 deriving DecidableEq
noncomputable def aR:V->aw->Prop
 |.non,u=>u=Value.none
 |.bl b,u=>u=Value.bool b
 |.int i,u=>∃t,u=Value.int i t
 |.str x,u=>∃t,u=Value.str x t
 |.byt b,u=>∃t,u=Value.bytes b t
 |.flt b,u=>∃t,u=Value.float b t
 |.ref a,u=>u=Value.ref a
 |.ty n,u=>u=Value.type n
noncomputable abbrev aN:List V->List aw->Prop:=Paired aR
theorem aN.length {xs:List V}{us:List aw}(r:aN xs us):xs.length=us.length:=Paired.length r
theorem aN.get:∀{xs:List V}{us:List aw}{i:Nat}{x:V},aN xs us->xs[i]? = some x->∃u,us[i]? = some u/\aR x u
 |_,_,_,_,.nil,e=>by simp at e
 |_,_,0,_,.cons r _,e=>by simp at e;subst e;exact⟨_,rfl,r⟩
 |_,_,i+1,x,.cons _ t,e=>by
  obtain⟨u,h1,h2⟩:=aN.get (i:=i) (x:=x) t (by simpa using e)
  exact⟨u,by simpa using h1,h2⟩
theorem aN.set {x:V}{u:aw}(r:aR x u):∀{xs:List V}{us:List aw} (i:Nat),aN xs us->aN (xs.set i x) (us.set i u)
 |_,_,_,.nil=>.nil
 |_,_,0,.cons _ t=>.cons r t
 |_,_,i+1,.cons q t=>.cons q (aN.set r i t)
theorem aN.append:∀{xs ys:List V}{us ws:List aw},aN xs us->aN ys ws->aN (xs++ys) (us++ws)
 |_,_,_,_,.nil,s=>s
 |_,_,_,_,.cons r t,s=>.cons r (aN.append t s)
noncomputable def iL:Option V->Option aw->Prop
 |some v,some u=>aR v u
 |none,none=>True
 |_,_=>False
noncomputable def KV {κ:Type}:List (κ×V)->List (κ×aw)->Prop:=Paired λ(p:κ×V) (q:κ×aw)=>p.1=q.1/\aR p.2 q.2
noncomputable def kV:bO->V
 |.inl i=>.int i
 |.inr x=>.str x
inductive HO where
 |lst (xs:List V)
 |tup (xs:List V)
 |dK (kvs:List (bO×V))|dT (kvs:List (List bO×V))
 |set (S:Int->Bool) (n:Nat)
 |ins (C dx:ay) (fs:List (Str×V))
 |own (x:ay)
 |xd (fs:List (Str×V))
 |met (f x:ay)
 |rng (lo hi:Int)
 |frz (o:Obj) (u:HO)
 |tbl (ps:Array aw)
 |code (q:Str)
 |cd (c:ay) (q:Str)
 |dA (kvs:List (List (Int×Bool)×V))|dB (kvs:List (Int×V))
 |ext (φ:Heap->Prop)
noncomputable abbrev Hp:=ay->Option HO
noncomputable def upd (H:Hp)(a:ay)(o:HO):Hp:=λb=>if b=a then some o else H b
theorem bH {H:Hp}{a:ay}{o:HO}:upd H a o a=some o:=by unfold upd;rw[if_pos rfl]
theorem aK {H:Hp}{a b:ay}{o:HO}(h:b≠a):upd H a o b=H b:=by unfold upd;rw[if_neg h]
theorem C5 {H:Hp}{a b:ay}{o u:HO}(h:H a=some o)(h':H b=some u)(d:o≠u):a≠b:=by
 intro e;subst e;rw[h]at h';exact d (bt2 h')
theorem dI {H:Hp}{a b:ay}{o:HO}(h:H a=some o)(h':H b=none):a≠b:=by
 intro e;subst e;rw[h]at h';cases h'
noncomputable def hZ (h:Heap)(a:ay):Prop:=∀o,h.get? a=some o->o.dict=none
theorem hZ.new (h:Heap)(o:Obj)(d:o.dict=none)(s:o.isFreed=false:=by rfl):hZ (h.push o) h.objs.size:=λu e=>by
 rw[br7 h (o:=o) s]at e;cases e;exact d
theorem hZ.stay {h h':Heap}{a:ay}{o:Obj}(n:hZ h a)(e:h.get? a=some o)(e':h'.get? a=some o):hZ h' a:=λu hu=>by
 rw[e']at hu;cases hu;exact n _ e
noncomputable def fP (H:Hp)(k:List (Int×Bool))(b:ay):Prop:=∃us:List V,H b=some (.tup us)/\Paired (λ(p:Int×Bool) (u:V)=>∃c,u = .ref c/\H c=some (.tup [.int p.1,.bl p.2])) k us
theorem fP.keeps {H H':Hp}{k:List (Int×Bool)}{b:ay}(ht:∀b xs,H b=some (.tup xs)->H' b=some (.tup xs))(x:fP H k b):fP H' k b:=
 let ⟨us,e,r⟩:=x;⟨us,ht _ _ e,vA r λ_ _ ⟨c,q,z⟩=>⟨c,q,ht _ _ z⟩⟩
section
variable (P:az)(w:bc)
noncomputable def bI (H:Hp)(h:Heap)(a:ay):HO->Prop
 |.lst xs=>xs.length<=sizeLine/\∃(its:List aw) (n:Nat),aN xs its/\h.get? a=some { cls:=.type "list",data:=.seq its.toArray n }
 |.tup xs=>xs.length<=sizeLine/\∃its:List aw,aN xs its/\IsTup h a its.toArray/\hZ h a
 |.dK kvs=>kvs.length<=sizeLine/\(a==sysModules)=false/\∃vs,KV kvs vs/\h.DictOf (rQ P w) a vs
 |.dT kvs=>kvs.length<=sizeLine/\(a==sysModules)=false/\∃xs:List (List bO×ay×aw),
   Paired (λ(p:List bO×V) (q:List bO×ay×aw)=>p.1=q.1/\H q.2.1=some (.tup (p.1.map kV))/\aR p.2 q.2.2) kvs xs/\
   ∃o es ep,h.get? a=some o/\o.ExactDict/\o.data = .dict es ep/\es.toList=xs.map (entryOfKey (tupleKind (rQ P w)))/\(xs.map (·.1)).Nodup
 |.set S n=>h.SetOf (intKind P w) a S n
 |.ins C dx fs=>H dx=some (.own a)/\fs.length<=1000/\dx≠a/\h.get? a=some (PySem.W.instObj C dx)/\
   ∃mA,h.Ns1 dx mA/\(∀f,iL (fs.lookup f) (mA f))/\PySem.Within mA (fs.map (·.1))
 |.own _=>∃o,h.get? a=some o
 |.xd fs=>∃mA,h.Ns1 a mA/\∀f,iL (fs.lookup f) (mA f)
 |.rng lo hi=>∃t u v,h.get? a=some { cls:=.type "range",data:=.fields #[.int lo t,.int hi u,.int 1 v] }
 |.frz o u=>h.get? a=some o/\bI H h a u
 |.tbl ps=>∃qs:Array aw,h.get? a=some { cls:=.none,data:=.fields qs }/\TriplesOk qs.toList/\∀(pos:Pos) (cv:aw),codeAmong pos qs.toList=some cv->∃(c:ay) (q:Str) (t:Tok),cv = .ref c/\H c=some (.code q)/\ps = #[.str q t]
 |.code q=>∃(oc:Obj) (vs:Array aw) (t:Tok),h.get? a=some oc/\oc.data = .fields vs/\vs[1]? = some (.str q t)
 |.cd c q=>(∃o,h.get? a=some o)/\H c=some (.code q)
 |.dA kvs=>kvs.length<=sizeLine/\(a==sysModules)=false/\∃xs:List (ae×ay×aw),
   Paired (λ(p:List (Int×Bool)×V) (q:ae×ay×aw)=>dM p.1=q.1/\fP H p.1 q.2.1/\aR p.2 q.2.2) kvs xs/\
   ∃o es ep,h.get? a=some o/\o.ExactDict/\o.data = .dict es ep/\es.toList=xs.map (entryOfKey (oT (iX P w)))/\(xs.map (·.1)).Nodup
 |.dB kvs=>kvs.length<=sizeLine/\(a==sysModules)=false/\∃vs,KV kvs vs/\h.DictOf (iX P w) a vs
 |.met f x=>h.get? a=some (PySem.W.methodObj (.ref f) (.ref x))
 |.ext φ=>φ h/\(∃o,h.get? a=some o)/\∀h1 h2:Heap,φ h1->(∀o,h1.get? a=some o->h2.get? a=some o)->φ h2
noncomputable def bT (H:Hp)(h:Heap):Prop:=∀a o,H a=some o->bI P w H h a o
end
section
variable {P:az}{w:bc}{H H':Hp}{h h':Heap}{a:ay}{o:HO}
theorem bI.lt (x:bI P w H h a o):a<h.objs.size:=by
 cases o with
 |lst xs=>obtain⟨_,_,_,_,e⟩:=x;exact br9 e
 |tup xs=>obtain⟨_,_,_,p,_⟩:=x;exact p.lt
 |dK kvs=>obtain⟨_,_,_,_,o,_,_,e,_⟩:=x;exact br9 e
 |dT kvs=>obtain⟨_,_,_,_,o,_,_,e,_⟩:=x;exact br9 e
 |set S n=>obtain⟨o,_,_,_,e,_⟩:=x;exact br9 e
 |ins C dx fs=>obtain⟨_,_,_,e,_⟩:=x;exact br9 e
 |own y=>obtain⟨_,e⟩:=x;exact br9 e
 |xd fs=>obtain⟨_,⟨_,_,_,e,_⟩,_⟩:=x;exact br9 e
 |rng lo hi=>obtain⟨_,_,_,e⟩:=x;exact br9 e
 |frz ob u=>obtain⟨e,_⟩:=x;exact br9 e
 |tbl ps=>obtain⟨_,e,_⟩:=x;exact br9 e
 |code q=>obtain⟨_,_,_,e,_⟩:=x;exact br9 e
 |cd c q=>obtain⟨⟨_,e⟩,_⟩:=x;exact br9 e
 |dA kvs=>obtain⟨_,_,_,_,o,_,_,e,_⟩:=x;exact br9 e
 |dB kvs=>obtain⟨_,_,_,_,o,_,_,e,_⟩:=x;exact br9 e
 |met f y=>exact br9 (show h.get? a=some _ from x)
 |ext φ=>obtain⟨_,⟨_,e⟩,_⟩:=x;exact br9 e
theorem Paired.mapP {α β:Type}{F G:α->β->Prop}:∀{l₁:List α}{l₂:List β},Paired F l₁ l₂->(∀a b,F a b->G a b)->Paired G l₁ l₂
 |_,_,.nil,_=>.nil
 |_,_,.cons r t,f=>.cons (f _ _ r) (Paired.mapP t f)
theorem bI.stay (x:bI P w H h a o)(k:∀b u,(b=a∨H b=some (.own a))->h.get? b=some u->h'.get? b=some u)(ho:∀b,H b=some (.own a)->H' b=some (.own a))(ht:∀b xs,H b=some (.tup xs)->H' b=some (.tup xs))(hc:∀b q,H b=some (.code q)->H' b=some (.code q):=by
   first
    |exact λ_ _ e=>e
    |(intro c q e;rw[aK (dI e (by assumption))];exact e)
    |(intro c q e;rw[aK (λz=>by subst z;simp_all)];exact e)):bI P w H' h' a o:=by
 induction o with
 |lst xs=>obtain⟨z,its,n,r,e⟩:=x;exact⟨z,its,n,r,k _ _ (.inl rfl) e⟩
 |tup xs=>obtain⟨z,its,r,⟨ob,e,c⟩,nd⟩:=x;exact⟨z,its,r,⟨ob,k _ _ (.inl rfl) e,c⟩,nd.stay e (k _ _ (.inl rfl) e)⟩
 |dK kvs=>obtain⟨z,y,vs,r,ob,es,ep,e,c⟩:=x;exact⟨z,y,vs,r,ob,es,ep,k _ _ (.inl rfl) e,c⟩
 |dT kvs=>
  obtain⟨z,y,xs,r,ob,es,ep,e,c⟩:=x
  exact⟨z,y,xs,Paired.mapP r λp q z=>⟨z.1,ht _ _ z.2.1,z.2.2⟩,ob,es,ep,k _ _ (.inl rfl) e,c⟩
 |set S n=>obtain⟨ob,es,ep,t,e,c⟩:=x;exact⟨ob,es,ep,t,k _ _ (.inl rfl) e,c⟩
 |ins C dx fs=>
  obtain⟨d,z,ne,e,mA,⟨od,es,ep,e2,c⟩,r⟩:=x
  exact⟨ho _ d,z,ne,k _ _ (.inl rfl) e,mA,⟨od,es,ep,k _ _ (.inr d) e2,c⟩,r⟩
 |own y=>obtain⟨ob,e⟩:=x;exact⟨ob,k _ _ (.inl rfl) e⟩
 |xd fs=>obtain⟨mA,⟨od,es,ep,e,c⟩,r⟩:=x;exact⟨mA,⟨od,es,ep,k _ _ (.inl rfl) e,c⟩,r⟩
 |rng lo hi=>obtain⟨t,u,v,e⟩:=x;exact⟨t,u,v,k _ _ (.inl rfl) e⟩
 |frz ob u ih=>obtain⟨e,q⟩:=x;exact⟨k _ _ (.inl rfl) e,ih q⟩
 |tbl ps=>
  obtain⟨qs,e,tr,cs⟩:=x
  exact⟨qs,k _ _ (.inl rfl) e,tr,λpos cv z=>let ⟨c,q,t,e1,e2,e3⟩:=cs pos cv z;⟨c,q,t,e1,hc _ _ e2,e3⟩⟩
 |code q=>obtain⟨oc,vs,t,e,r⟩:=x;exact⟨oc,vs,t,k _ _ (.inl rfl) e,r⟩
 |cd c q=>obtain⟨⟨o,e⟩,r⟩:=x;exact⟨⟨o,k _ _ (.inl rfl) e⟩,hc _ _ r⟩
 |dA kvs=>
  obtain⟨z,y,xs,r,ob,es,ep,e,c⟩:=x
  exact⟨z,y,xs,Paired.mapP r λp q z=>⟨z.1,z.2.1.keeps ht,z.2.2⟩,ob,es,ep,k _ _ (.inl rfl) e,c⟩
 |dB kvs=>obtain⟨z,y,vs,r,ob,es,ep,e,c⟩:=x;exact⟨z,y,vs,r,ob,es,ep,k _ _ (.inl rfl) e,c⟩
 |met f y=>
  have e:h.get? a=some (PySem.W.methodObj (.ref f) (.ref y)):=x;show h'.get? a=some (PySem.W.methodObj (.ref f) (.ref y));exact k a _ (.inl rfl) e
 |ext φ=>obtain⟨p,⟨o,e⟩,st⟩:=x;exact⟨st _ _ p λo q=>k _ _ (.inl rfl) q,⟨o,k _ _ (.inl rfl) e⟩,st⟩
theorem bT.lt (x:bT P w H h)(e:H a=some o):a<h.objs.size:=(x a o e).lt
theorem bT.fresh (x:bT P w H h)(e:h.objs.size<=a):H a=none:=by
 cases q:H a with
 |none=>rfl
 |some u=>exact absurd (br3 (x.lt q) e) (bw3 _)
theorem bT.kept (x:bT P w H h)(k:∀b u,h.get? b=some u->h'.get? b=some u):bT P w H h':=λa o e=>
 (x a o e).stay (λb u _ q=>k b u q) (λ_ q=>q) λ_ _ q=>q
theorem bT.laid (x:bT P w H h)(k:∀b u,h.get? b=some u->h'.get? b=some u)(hp:h.objs.size<=a)(new:bI P w (upd H a o) h' a o):bT P w (upd H a o) h':=λb u e=>by
 have hn:=x.fresh hp;by_cases hb:b=a
 ·subst hb;rw[bH]at e;cases e;exact new
 ·rw[aK hb]at e
  exact (x b u e).stay (λc v _ q=>k c v q) (λc q=>by rw[aK (dI q hn)];exact q) (λc xs q=>by rw[aK (dI q hn)];exact q) (λc r q=>by rw[aK (dI q hn)];exact q)
end
noncomputable def Rd (H:Hp)(a:ay)(u:HO):Prop:=H a=some u∨∃o,H a=some (.frz o u)
theorem Rd.ok {P:az}{w:bc}{H:Hp}{h:Heap}{a:ay}{u:HO}(r:Rd H a u)(x:bT P w H h):bI P w H h a u:=by
 rcases r with r|⟨o,r⟩
 ·exact x a u r
 ·obtain⟨_,q⟩:=x a _ r
  exact q
noncomputable def oU:Option HO->Prop
 |some (.lst _)=>True
 |some (.dK _)=>True
 |some (.dT _)=>True
 |some (.dA _)=>True
 |some (.dB _)=>True
 |some (.set _ _)=>True
 |some (.ins _ _ _)=>True
 |some (.ext _)=>True
 |_=>False
section
variable {P:az}{w:bc}{H:Hp}{h h':Heap}{x e:ay}{o':HO}
theorem bT.write (ok:bT P w H h)(mu:oU (H x))(he:e=x∨H e=some (.own x))(k:∀b u,b≠e->h.get? b=some u->h'.get? b=some u)(heo:∃u,h'.get? e=some u)(new:bI P w (upd H x o') h' x o'):bT P w (upd H x o') h':=λb u q=>by
 have nown:∀c y,H c=some (.own y)->c≠x:=λc y r z=>by subst z;rw[r]at mu;exact mu
 have ntup:∀c xs,H c=some (.tup xs)->c≠x:=λc xs r z=>by subst z;rw[r]at mu;exact mu
 by_cases hb:b=x
 ·subst hb;rw[bH]at q;cases q;exact new
 ·rw[aK hb]at q
  by_cases hbe:b=e
  ·have q':H b=some (.own x):=by
    rcases he with z|z
    ·exact absurd (hbe.trans z) hb
    ·rw[hbe];exact z
   rw[q]at q';cases q'
   obtain⟨v,hv⟩:=heo
   exact⟨v,by rw[hbe];exact hv⟩
  ·refine (ok b u q).stay (λc v hc r=>k c v ?_ r) (λc r=>by rw[aK (nown c b r)];exact r) (λc xs r=>by rw[aK (ntup c xs r)];exact r) (λc y r=>by rw[aK (λz=>by subst z;rw[r]at mu;exact mu)];exact r)
   rcases hc with rfl|hc
   ·exact hbe
   ·rintro rfl
    rcases he with z|z
    ·exact nown c b hc z
    ·rw[hc]at z;cases z;exact hb rfl
end
structure Un (fs ex:List ay)(H H':Hp)(h h':Heap):Prop where
 keep:∀b o,h.get? b=some o->H b=none->b∉fs->b∉ex->h'.get? b=some o
 slot:∀b o,h.get? b=some o->H b=none->b∈fs->b∉ex->∃sl,h'.get? b=some { o with slots:=sl }
 free:∀b o,h.get? b=some o->H b=none->b∉ex->H' b=none
 there:∀b o,h.get? b=some o->b∉ex->∃o',h'.get? b=some o'
 tups:∀b xs,H b=some (.tup xs)->H' b=some (.tup xs)
 frzs:∀b o u,H b=some (.frz o u)->H' b=some (.frz o u)
 tbls:∀b ps,H b=some (.tbl ps)->∃more,H' b=some (.tbl (ps++more))
section
variable {fs fs' ex ex':List ay}{H H1 H2:Hp}{h h1 h2 h':Heap}{a x e:ay}{o:HO}
theorem Un.any (u:Un fs ex H H1 h h1){b:ay}{ob:Obj}(q:h.get? b=some ob)(n:H b=none)(hx:b∉ex):∃sl,h1.get? b=some { ob with slots:=sl }:=by
 by_cases hb:b∈fs
 ·exact u.slot b ob q n hb hx
 ·exact⟨ob.slots,u.keep b ob q n hb hx⟩
theorem Un.kept (k:∀b u,h.get? b=some u->h'.get? b=some u):Un fs ex H H h h':=
 ⟨λb ob q _ _ _=>k b ob q,λb ob q _ _ _=>⟨ob.slots,k b ob q⟩,λ_ _ _ n _=>n,λb ob q _=>⟨ob,k b ob q⟩,λ_ _ q=>q,λ_ _ _ q=>q,λ_ ps q=>⟨#[],by rw[q];simp⟩⟩
theorem Un.refl:Un fs ex H H h h:=Un.kept λ_ _ q=>q
theorem Un.laid (k:∀b u,h.get? b=some u->h'.get? b=some u)(hp:h.objs.size<=a)(hn:H a=none):Un fs ex H (upd H a o) h h' where
 keep:=λb u q _ _ _=>k b u q
 slot:=λb u q _ _ _=>⟨u.slots,k b u q⟩
 free:=λb u q n _=>by rw[aK (bu3 (br3 (br9 q) hp))];exact n
 there:=λb u q _=>⟨u,k b u q⟩
 tups:=λb xs q=>by rw[aK (dI q hn)];exact q
 frzs:=λb u xs q=>by rw[aK (dI q hn)];exact q
 tbls:=λb ps q=>⟨#[],by rw[aK (dI q hn),q];simp⟩
theorem Un.write (mu:oU (H x))(he:e=x∨H e=some (.own x))(k:∀b u,b≠e->h.get? b=some u->h'.get? b=some u)(heo:∃u,h'.get? e=some u):Un fs ex H (upd H x o) h h':=by
 have hx:∀b,H b=none->b≠x:=λb n z=>by subst z;rw[n]at mu;exact mu
 have hb:∀b,H b=none->b≠e:=λb n z=>by
  subst z;rcases he with r|r
  ·exact hx b n r
  ·rw[n]at r;cases r
 have hm:∀b u,H b=some u->¬oU (some u)->b≠x:=λb u q nm z=>by subst z;rw[q]at mu;exact nm mu
 refine⟨λb u q n _ _=>k b u (hb b n) q,λb u q n _ _=>⟨u.slots,k b u (hb b n) q⟩,λb u q n _=>by rw[aK (hx b n)];exact n,λb u q _=>?_,
  λb xs q=>by rw[aK (hm b _ q λz=>z)];exact q,λb u xs q=>by rw[aK (hm b _ q λz=>z)];exact q,λb ps q=>⟨#[],by rw[aK (hm b _ q λz=>z),q];simp⟩⟩
 by_cases hbe:b=e
 ·subst hbe;exact heo
 ·exact⟨u,k b u hbe q⟩
end
noncomputable def rR (h:Heap)(H:Hp):List ay:=(List.range h.objs.size).filter λa=>(H a).isSome
noncomputable def iY (h:Heap)(H:Hp):Heap:=PySem.W.hideAll h (rR h H)
theorem aq6 (h:Heap)(H:Hp):(iY h H).objs.size=h.objs.size:=PySem.W.hideAll_size _ _
theorem aq7 {h:Heap}{H:Hp}{b:ay}{o:Obj}(e:h.get? b=some o)(n:H b=none):(iY h H).get? b=some o:=
 PySem.W.hideAll_get _ e λhm=>by
  have q:(H b).isSome=true:=(bt8.mp hm).2;rw[n]at q;simp at q
theorem aq8 {h:Heap}{H:Hp}{b:ay}{o:Obj}(e:(iY h H).get? b=some o):h.get? b=some o/\H b=none:=by
 have e':h.get? b=some o:=PySem.W.of_hideAll (rR h H) e;refine⟨e',?_⟩;cases q:H b with
 |none=>rfl
 |some x=>
  have hm:b∈rR h H:=bt8.mpr ⟨bz5.mpr (br9 e'),by simp[q]⟩;have z:(iY h H).get? b=none:=PySem.W.hideAll_none (rR h H) hm;rw[z]at e;cases e
noncomputable def aq9 (g h:Heap)(L:ay):List (ay×Obj):=(List.range h.objs.size).filterMap λa=>if a=L∨(g.get? a).isSome=true then none else (h.get? a).map λo=>(a,o)
noncomputable def rest (g h:Heap)(L d:ay):List (ay×Obj):=(aq9 g h L).filter λp=>decide (p.1≠d)
structure Mod (K:ad)(mg:Str->Option aw)(base:Heap):Prop where
 kin:K.In base
 glob:base.Ns mainGlobals mg
 blt:∃mb,base.Ns builtinsNs mb/\∀x:Str,x≠"__name__"->mb x=bootBuiltins x
 nolimit:base.NoLimit
structure Cx where
 prog:az
 w:bc
 K:ad
 mg:Str->Option aw
 base:Heap
 A:ba
 N:List Str
 s₀:ax
 H₀:Hp
 env:Env
 outer:List Env
 stack:List Env
 ex:List ay
 fn:Str->Bool
 calm:Bool
 pn:List (ay×Obj)
 xe:aw->ax->Prop
noncomputable def cD (l:List Env):List ay:=l.filterMap (·.frame)
noncomputable abbrev Cx.fs (X:Cx):List ay:=cD X.outer
noncomputable def eQ (sc:Scope)(x:Str):Prop:=sc.names.lookup x=some .local∨sc.names.lookup x=some .cell∨sc.names.lookup x=some .free
noncomputable def i5 (sc:Scope)(x:Str):Prop:=sc.names.lookup x=some .local∨sc.names.lookup x=some .cell
noncomputable def ar0 (env:Env)(h:Heap)(m:Str->Option aw)(x:Str)(u:aw):Prop:=
 (env.kindOf x=some .local/\m x=some u)∨((env.kindOf x=some .cell∨env.kindOf x=some .free)/\∃c,env.cells.lookup x=some c/\h.IsCell c (some u))
structure Cx.Ok (X:Cx):Prop where
 mod:Mod X.K X.mg X.base
 kind:X.env.scope.kind = .function
 glob:X.env.globals=mainGlobals
 blt:X.env.builtins=builtinsNs
 above:X.s₀.heap.objs.size<=X.env.locals
 inj:∀x y c,X.env.cells.lookup x=some c->X.env.cells.lookup y=some c->x=y
 has:∀x,(X.env.kindOf x=some .cell∨X.env.kindOf x=some .free)->∃c,X.env.cells.lookup x=some c
 cab:∀x c,X.fn x=true->X.env.cells.lookup x=some c->X.s₀.heap.objs.size<=c
 hd:X.calm=true->X.A.handled=none
 frames:X.A.frames=some X.stack
 stk:X.stack=X.outer∨(X.stack=X.env::X.outer/\X.env.frame=some X.env.locals)
 exf:∀b∈X.ex,b≠X.env.locals/\∀x c,X.env.cells.lookup x=some c->c≠b
 bs:∀b o,X.base.get? b=some o->X.s₀.heap.get? b=some o/\X.H₀ b=none
 bsz:X.base.objs.size<=X.s₀.heap.objs.size
 noex:∀b o,X.base.get? b=some o->b∉X.ex
 exfs:∀b∈X.ex,b∉X.fs
 funs:X.s₀.heap.FunFrames X.base X.outer
 frf:∀b∈X.fs,X.H₀ b=none
structure aA (X:Cx)(ai:List (ay×Obj))(σ:List (Option V))(H:Hp)(s:ax):Prop where
 ok:X.Ok
 os:s.os=X.s₀.os
 bare:AllBare s.gens
 base:Un X.fs X.ex X.H₀ H X.s₀.heap s.heap
 loc:∃m,s.heap.Ns X.env.locals m/\∀(i:Nat) (x:Str) (v:V),X.N[i]? = some x->σ[i]? = some (some v)->eQ X.env.scope x->∃u,aR v u/\ar0 X.env s.heap m x u
 cell:∀x c,X.env.cells.lookup x=some c->∃v,s.heap.IsCell c v
 free:H X.env.locals=none
 freeC:∀x c,X.env.cells.lookup x=some c->H c=none
 pin:∀p∈X.pn++ai,s.heap.get? p.1=some p.2/\H p.1=none/\p.1≠X.env.locals/\p.1∉X.fs/\∀v,p.2.data≠.cell v
 hok:bT X.prog X.w H s.heap
 len:σ.length=X.N.length
section
variable {X:Cx}{ai:List (ay×Obj)}{σ:List (Option V)}{H H':Hp}{s:ax}{h':Heap}
theorem Cx.Ok.nofr (ok:X.Ok){b:ay}{o:Obj}(e:X.base.get? b=some o):b∉X.fs:=λhb=>by
 have:=(ok.funs.mem hb).1
 rw[e]at this;cases this
theorem aA.bs (I:aA X ai σ H s):∀b o,X.base.get? b=some o->s.heap.get? b=some o/\H b=none:=λb o e=>
 ⟨I.base.keep b o (I.ok.bs b o e).1 (I.ok.bs b o e).2 (I.ok.nofr e) (I.ok.noex b o e),I.base.free b o (I.ok.bs b o e).1 (I.ok.bs b o e).2 (I.ok.noex b o e)⟩
theorem aA.bk (I:aA X ai σ H s):∀b o,X.base.get? b=some o->s.heap.get? b=some o:=λb o e=>(I.bs b o e).1
theorem aA.mod (I:aA X ai σ H s):Mod X.K X.mg X.base:=I.ok.mod
theorem aA.kIn (I:aA X ai σ H s):X.K.In s.heap:=I.ok.mod.kin.keeps I.bk
theorem aA.fr (I:aA X ai σ H s):∃m,Fr X.base X.env.locals s.heap m:=
 let ⟨m,hn,_⟩:=I.loc
 ⟨m,hn,I.bk,bt6 I.ok.bsz I.ok.above⟩
theorem aA.lt (I:aA X ai σ H s):X.env.locals<s.heap.objs.size:=let ⟨_,hn,_⟩:=I.loc;hn.lt
theorem aA.sz (I:aA X ai σ H s):X.s₀.heap.objs.size<=s.heap.objs.size:=bt6 I.ok.above (by9 I.lt)
theorem aA.nofs (I:aA X ai σ H s){a:ay}(h:s.heap.objs.size<=a):a∉X.fs:=λhb=>by
 obtain⟨_,o,ho,_⟩:=I.ok.funs.mem hb
 exact absurd (br3 (br9 ho) (bt6 I.sz h)) (bw3 _)
theorem aA.cne (I:aA X ai σ H s):∀x c,X.env.cells.lookup x=some c->c≠X.env.locals:=λx c e z=>by
 obtain⟨v,o,ho,hd⟩:=I.cell x c e
 obtain⟨m,⟨o',es,ep,ho',hd',_⟩,_⟩:=I.loc
 rw[z,ho']at ho;cases ho;rw[hd']at hd;cases hd
theorem aA.funs (I:aA X ai σ H s):s.heap.FunFrames X.base X.outer:=by
 have all:∀(l:List Env),(∀b∈cD l,b∈X.fs)->X.s₀.heap.FunFrames X.base l->s.heap.FunFrames X.base l:=by
  intro l
  induction l with
  |nil=>intro _ _;trivial
  |cons env r ih=>
   intro hs hl
   obtain⟨hk,⟨L,o,hf,hn,ho,hd⟩,hr⟩:=hl
   have hL:L∈X.fs:=hs L (by unfold cD;rw[List.filterMap_cons,hf];exact bq3)
   obtain⟨sl,e⟩:=I.base.slot L o ho (I.ok.frf L hL) hL λz=>I.ok.exfs L z hL
   exact⟨hk,⟨L,_,hf,hn,e,hd⟩,ih (λb hb=>hs b (by unfold cD;rw[List.filterMap_cons,hf];exact bq8 _ hb)) hr⟩
 exact all X.outer (λ_ hb=>hb) I.ok.funs
theorem aA.stack (I:aA X ai σ H s):s.heap.FunFrames X.base X.stack:=by
 rcases I.ok.stk with e|⟨e,hf⟩
 ·rw[e];exact I.funs
 ·rw[e]
  obtain⟨m,hn,_⟩:=I.loc
  refine .cons (by rw[I.ok.kind];decide) hf hn ?_ I.funs;exact Heap.get?_none_of_le (bt6 I.ok.bsz I.ok.above)
theorem aA.stkSub (I:aA X ai σ H s):∀b∈cD X.stack,b∈X.env.locals::X.fs:=λb hb=>by
 rcases I.ok.stk with e|⟨e,hf⟩
 ·rw[e]at hb;exact bq8 _ hb
 ·rw[e]at hb
  unfold cD at hb;rw[List.filterMap_cons,hf]at hb;exact hb
theorem aA.stkFree (I:aA X ai σ H s):∀b∈cD X.stack,H b=none:=λb hb=>by
 rcases br0.mp (I.stkSub b hb) with e|hb
 ·rw[e];exact I.free
 ·obtain⟨_,o,ho,_⟩:=I.ok.funs.mem hb
  exact I.base.free b o ho (I.ok.frf b hb) λz=>I.ok.exfs b z hb
theorem aA.step {g':Array GenState}{t':Nat}{d':Drawn}{ch:List ay}(I:aA X ai σ H s)(hch:∀b∈ch,(b∈X.ex∨X.s₀.heap.objs.size<=b)/\b≠X.env.locals/\(∀x c,X.env.cells.lookup x=some c->c≠b)/\∀p∈X.pn++ai,p.1≠b)(keep:∀b o,b≠X.env.locals->b∉X.fs->b∉ch->s.heap.get? b=some o->H b=none->h'.get? b=some o)(slot:∀b o,b≠X.env.locals->b∈X.fs->b∉ch->s.heap.get? b=some o->H b=none->∃sl,h'.get? b=some { o with slots:=sl })(free:∀b o,b∉ch->s.heap.get? b=some o->H b=none->H' b=none)(there:∀b o,b∉ch->s.heap.get? b=some o->∃o',h'.get? b=some o')(tups:∀b xs,H b=some (.tup xs)->H' b=some (.tup xs))(frzs:∀b o u,H b=some (.frz o u)->H' b=some (.frz o u))(tbls:∀b ps,H b=some (.tbl ps)->∃more,H' b=some (.tbl (ps++more)))(ns:∀m,s.heap.Ns X.env.locals m->h'.Ns X.env.locals m)(hok:bT X.prog X.w H' h')(hg:AllBare g') :
  aA X ai σ H' { s with heap:=h',gens:=g',drawn:=d',toks:=t' }:=by
 have neL:∀b o,X.s₀.heap.get? b=some o->b≠X.env.locals:=λb o e=>bu3 (br3 (br9 e) I.ok.above)
 have neC:∀b o,X.s₀.heap.get? b=some o->b∉X.ex->b∉ch:=λb o e hx hb=>by
  rcases (hch b hb).1 with z|z
  ·exact hx z
  ·exact absurd (br3 (br9 e) z) (bw3 _)
 have cellK:∀x c,X.env.cells.lookup x=some c->∀v,s.heap.IsCell c v->h'.IsCell c v:=λx c e v ⟨o,ho,hd⟩=>by
  have nch:c∉ch:=λz=>(hch c z).2.2.1 x c e rfl
  by_cases hc:c∈X.fs
  ·obtain⟨sl,q⟩:=slot c o (I.cne x c e) hc nch ho (I.freeC x c e)
   exact⟨_,q,hd⟩
  ·exact⟨o,keep c o (I.cne x c e) hc nch ho (I.freeC x c e),hd⟩
 refine⟨I.ok,I.os,hg,⟨λb o e n hb hx=>?_,λb o e n hb hx=>?_,λb o e n hx=>?_,λb o e hx=>?_,λb xs e=>tups b xs (I.base.tups b xs e),λb o xs e=>frzs b o xs (I.base.frzs b o xs e),λb ps e=>?_⟩,?_,λx c e=>?_,?_,λx c e=>?_,λp hp=>?_,hok,I.len⟩
 ·exact keep b o (neL b o e) hb (neC b o e hx) (I.base.keep b o e n hb hx) (I.base.free b o e n hx)
 ·obtain⟨sl,e1⟩:=I.base.slot b o e n hb hx
  obtain⟨sl',e2⟩:=slot b _ (neL b o e) hb (neC b o e hx) e1 (I.base.free b o e n hx)
  exact⟨sl',e2⟩
 ·obtain⟨o',e1⟩:=I.base.there b o e hx
  exact free b o' (neC b o e hx) e1 (I.base.free b o e n hx)
 ·obtain⟨o',e1⟩:=I.base.there b o e hx
  exact there b o' (neC b o e hx) e1
 ·obtain⟨m1,e1⟩:=I.base.tbls b ps e
  obtain⟨m2,e2⟩:=tbls b _ e1
  exact⟨m1++m2,by rw[e2,Array.append_assoc]⟩
 ·obtain⟨m,hn,hl⟩:=I.loc
  refine⟨m,ns m hn,λi x v e1 e2 e3=>?_⟩
  obtain⟨u,r,l⟩:=hl i x v e1 e2 e3
  refine⟨u,r,?_⟩;rcases l with l|⟨k,c,e,z⟩
  ·exact .inl l
  ·exact .inr ⟨k,c,e,cellK x c e _ z⟩
 ·obtain⟨v,z⟩:=I.cell x c e
  exact⟨v,cellK x c e v z⟩
 ·obtain⟨m,⟨o,_,_,ho,_⟩,_⟩:=I.loc
  exact free _ o (λz=>(hch _ z).2.1 rfl) ho I.free
 ·obtain⟨v,o,ho,hd⟩:=I.cell x c e
  exact free c o (λz=>(hch c z).2.2.1 x c e rfl) ho (I.freeC x c e)
 ·obtain⟨e,n,ne,nf,d⟩:=I.pin p hp
  have nch:p.1∉ch:=λz=>(hch p.1 z).2.2.2 p hp rfl
  exact⟨keep p.1 p.2 ne nf nch e n,free p.1 p.2 nch e n,ne,nf,d⟩
theorem aA.un {t':Nat}(I:aA X ai σ H s)(u:Un X.fs [] H H' s.heap h')(hok:bT X.prog X.w H' h'):aA X ai σ H' { s with heap:=h',toks:=t' }:=by
 obtain⟨m,⟨o,es,ep,ho,r⟩,_⟩:=id I.loc
 obtain⟨sl,hL⟩:=u.any ho I.free (by simp)
 exact I.step (g':=s.gens) (d':=s.drawn) (ch:=[]) (λ_ z=>nomatch z) (λb o _ hb _ e n=>u.keep b o e n hb (by simp)) (λb o _ hb _ e n=>u.slot b o e n hb (by simp)) (λb o _ e n=>u.free b o e n (by simp)) (λb o _ e=>u.there b o e (by simp)) u.tups u.frzs u.tbls (λm' hm=>by
  obtain⟨o',es',ep',ho',r'⟩:=hm
  rw[ho]at ho';cases ho'
  exact⟨_,es',ep',hL,r'⟩) hok I.bare
theorem aA.call {g':Array GenState}{t':Nat}{d':Drawn}{ch:List ay}(I:aA X ai σ H s)(u:Un (cD X.stack) ch H H' s.heap h')(hok:bT X.prog X.w H' h')(hg:AllBare g')(hch:∀b∈ch,(b∈X.ex∨X.s₀.heap.objs.size<=b)/\b≠X.env.locals/\(∀x c,X.env.cells.lookup x=some c->c≠b)/\∀p∈X.pn++ai,p.1≠b) :
  aA X ai σ H' { s with heap:=h',gens:=g',drawn:=d',toks:=t' }:=by
 obtain⟨m,⟨o,es,ep,ho,r⟩,_⟩:=id I.loc
 obtain⟨sl,hL⟩:=u.any ho I.free λz=>(hch _ z).2.1 rfl
 exact I.step (ch:=ch) hch (λb o hL hb hc e n=>u.keep b o e n (λz=>(br0.mp (I.stkSub b z)).elim hL hb) hc) (λb o _ _ hc e n=>u.any e n hc) (λb o hc e n=>u.free b o e n hc) (λb o hc e=>u.there b o e hc) u.tups u.frzs u.tbls (λm' hm=>by
  obtain⟨o',es',ep',ho',r'⟩:=hm
  rw[ho]at ho';cases ho'
  exact⟨_,es',ep',hL,r'⟩) hok hg
theorem aA.turned {t':Nat}{it:ay}(I:aA X ai σ H s)(k:∀b o,b≠it->s.heap.get? b=some o->h'.get? b=some o)(hn:H it=none)(hL:it≠X.env.locals)(h1:it∈X.ex∨X.s₀.heap.objs.size<=it)(h2:∀x c,X.env.cells.lookup x=some c->c≠it)(h3:∀p∈X.pn++ai,p.1≠it):aA X ai σ H { s with heap:=h',toks:=t' }:=by
 have nit:∀b u,H b=some u->b≠it:=λb u e z=>by rw[z,hn]at e;cases e
 refine I.step (g':=s.gens) (d':=s.drawn) (ch:=[it]) (λb hb=>?_) (λb o _ _ hc e _=>k b o (λz=>hc (by simp[z])) e) (λb o _ _ hc e _=>⟨o.slots,k b o (λz=>hc (by simp[z])) e⟩) (λ_ _ _ _ n=>n)
  (λb o hc e=>⟨o,k b o (λz=>hc (by simp[z])) e⟩) (λ_ _ e=>e) (λ_ _ _ e=>e) (λb ps e=>⟨#[],by rw[e];simp⟩) (λm hm=>?_) (λb u e=>?_) I.bare
 ·have e:b=it:=by simpa using hb
  subst e
  exact⟨h1,hL,h2,h3⟩
 ·obtain⟨o,es,ep,ho,r⟩:=hm
  exact⟨o,es,ep,k _ o (Ne.symm hL) ho,r⟩
 ·refine (I.hok b u e).stay (λc v hc q=>k c v ?_ q) (λ_ q=>q) λ_ _ q=>q
  rcases hc with z|z
  ·rw[z];exact nit b u e
  ·exact nit c _ z
theorem aA.tok (I:aA X ai σ H s)(t:Nat):aA X ai σ H { s with toks:=t }:=I.un (h':=s.heap) (t':=t) Un.refl I.hok
theorem aA.kept {t':Nat}(I:aA X ai σ H s)(k:∀b u,s.heap.get? b=some u->h'.get? b=some u):aA X ai σ H { s with heap:=h',toks:=t' }:=I.un (Un.kept k) (I.hok.kept k)
theorem aA.laid {a:ay}{o:HO}{t':Nat}(I:aA X ai σ H s)(k:∀b u,s.heap.get? b=some u->h'.get? b=some u)(hp:s.heap.objs.size<=a)(new:bI X.prog X.w (upd H a o) h' a o) :
  aA X ai σ (upd H a o) { s with heap:=h',toks:=t' }:=I.un (Un.laid k hp (I.hok.fresh hp)) (I.hok.laid k hp new)
theorem aA.write {x e:ay}{o:HO}{t':Nat}(I:aA X ai σ H s)(mu:oU (H x))(he:e=x∨H e=some (.own x))(k:∀b u,b≠e->s.heap.get? b=some u->h'.get? b=some u)(heo:∃u,h'.get? e=some u)(new:bI X.prog X.w (upd H x o) h' x o):aA X ai σ (upd H x o) { s with heap:=h',toks:=t' }:=I.un (Un.write mu he k heo) (I.hok.write mu he k heo new)
theorem aA.weak {σ':List (Option V)}(I:aA X ai σ H s)(hl:σ'.length=σ.length)(w:∀(i:Nat) v,σ'[i]? = some (some v)->σ[i]? = some (some v)):aA X ai σ' H s:=
 ⟨I.ok,I.os,I.bare,I.base,let ⟨m,hn,hl'⟩:=I.loc;⟨m,hn,λi x v e1 e2 e3=>hl' i x v e1 (w i v e2) e3⟩,I.cell,I.free,I.freeC,I.pin,I.hok,hl.trans I.len⟩
theorem aA.pins_of {pins':List (ay×Obj)}(I:aA X ai σ H s)(h:∀p∈pins',s.heap.get? p.1=some p.2/\H p.1=none/\p.1≠X.env.locals/\p.1∉X.fs/\∀v,p.2.data≠.cell v):aA X pins' σ H s:=
 ⟨I.ok,I.os,I.bare,I.base,I.loc,I.cell,I.free,I.freeC,λp hp=>(bs3.mp hp).elim (λz=>I.pin p (bt5 _ z)) (h p),I.hok,I.len⟩
theorem C6 {N:List Str}(hN:N.Nodup){i j:Nat}{x:Str}(a:N[i]? = some x)(b:N[j]? = some x):i=j:=by
 obtain⟨h1,e1⟩:=bs1.mp a
 obtain⟨h2,e2⟩:=bs1.mp b
 exact (List.getElem_inj hN).mp (e1.trans e2.symm)
theorem vC {M:Model}{A:ba}{E:aw->ax->Prop}{i:Nat}{x:Str}{v:V}{u:aw}{Q:Unit->ax->Prop}(I:aA X ai σ H s)(hN:X.N.Nodup)(hi:X.N[i]? = some x)(hx:i5 X.env.scope x)(r:aR v u)(h:∀s',aA X ai (σ.set i (some v)) H s'->(∃a,Heap.SameBut a s.heap s'.heap/\(a=X.env.locals∨X.env.cells.lookup x=some a))->Q () s')(hf:X.fn x=true∨X.env.scope.names.lookup x=some .local:=by first|exact .inl rfl|exact .inr rfl|assumption):wpAny M A (storeName X.env x u) Q E s:=by
 obtain⟨m,hn,hl⟩:=id I.loc
 have hcls:(X.env.scope.kind==.class||(X.env.scope.kind==.module&&X.env.locals != X.env.globals))=false:=by rw[I.ok.kind];rfl
 have hiσ:i<σ.length:=by rw[I.len];exact (bs1.mp hi).1
 have cne:=I.cne;have tracked:∀{a:ay}{h':Heap},(∃o,s.heap.get? a=some o/\H a=none)->Heap.SameBut a s.heap h'->bT X.prog X.w H h':=λ{a h'} ha hs b ob e=>by
  obtain⟨_,_,hfree⟩:=ha
  refine (I.hok b ob e).stay (λc w' hc q=>(hs.2 c ?_).trans q) (λ_ q=>q) λ_ _ q=>q
  rintro rfl;rcases hc with rfl|hc
  ·rw[hfree]at e;cases e
  ·rw[hfree]at hc;cases hc
 rcases hx with hk|hk
 ·refine wpAny_storeName_local hk hn (λh' hn' hs=>?_) hcls
  obtain⟨oL,_,_,hoL,_⟩:=id hn
  refine h _ ⟨I.ok,I.os,I.bare,⟨λb o e n hb hx=>?_,λb o e n hb hx=>?_,I.base.free,λb o e hx=>?_,I.base.tups,I.base.frzs,I.base.tbls⟩,⟨_,hn',λj y v' e1 e2 e3=>?_⟩,λy c e=>?_,I.free,I.freeC,λp hp=>?_,tracked ⟨oL,hoL,I.free⟩ hs,by simpa using I.len⟩ ⟨_,hs,.inl rfl⟩
  ·exact (hs.2 b (bu3 (br3 (br9 e) I.ok.above))).trans (I.base.keep b o e n hb hx)
  ·obtain⟨sl,e1⟩:=I.base.slot b o e n hb hx
   exact⟨sl,(hs.2 b (bu3 (br3 (br9 e) I.ok.above))).trans e1⟩
  ·obtain⟨o',e1⟩:=I.base.there b o e hx
   exact⟨o',(hs.2 b (bu3 (br3 (br9 e) I.ok.above))).trans e1⟩
  ·by_cases hj:j=i
   ·subst hj
    rw[hi]at e1;cases e1;rw[bx6 hiσ]at e2;cases e2
    exact⟨u,r,.inl ⟨hk,by simp⟩⟩
   ·rw[bt9 (Ne.symm hj)]at e2
    obtain⟨u',r',q⟩:=hl j y v' e1 e2 e3
    refine⟨u',r',?_⟩;rcases q with⟨k,e⟩|⟨k,c,e,z⟩
    ·refine .inl ⟨k,?_⟩
     have:y≠x:=λe=>hj (C6 hN e1 (e▸hi))
     simp[this,e]
    ·exact .inr ⟨k,c,e,z.sameBut hs (cne y c e)⟩
  ·obtain⟨w',z⟩:=I.cell y c e
   exact⟨w',z.sameBut hs (cne y c e)⟩
  ·obtain⟨e,n,ne,nf,d⟩:=I.pin p hp
   exact⟨(hs.2 p.1 ne).trans e,n,ne,nf,d⟩
 ·have hfn:X.fn x=true:=by
   rcases hf with z|z
   ·exact z
   ·rw[z]at hk;cases hk
  obtain⟨c,hc⟩:=I.ok.has x (.inl hk)
  obtain⟨w',z⟩:=I.cell x c hc
  refine wpAny_storeName_cell I.ok.kind hk hc z (λh' hc' hs=>?_)
  obtain⟨oc,hoc,hocd⟩:=id z
  refine h { s with heap:=h' } ⟨I.ok,I.os,I.bare,⟨λb o e n hb hx=>?_,λb o e n hb hx=>?_,I.base.free,λb o e hx=>?_,I.base.tups,I.base.frzs,I.base.tbls⟩,⟨m,hn.sameBut hs (Ne.symm (cne x c hc)),λj y v' e1 e2 e3=>?_⟩,λy c' e=>?_,I.free,I.freeC,λp hp=>?_,tracked ⟨oc,hoc,I.freeC x c hc⟩ hs,by simpa using I.len⟩ ⟨c,hs,.inr hc⟩
  ·exact (hs.2 b (bu3 (br3 (br9 e) (I.ok.cab x c hfn hc)))).trans (I.base.keep b o e n hb hx)
  ·obtain⟨sl,e1⟩:=I.base.slot b o e n hb hx
   exact⟨sl,(hs.2 b (bu3 (br3 (br9 e) (I.ok.cab x c hfn hc)))).trans e1⟩
  ·obtain⟨o',e1⟩:=I.base.there b o e hx
   exact⟨o',(hs.2 b (bu3 (br3 (br9 e) (I.ok.cab x c hfn hc)))).trans e1⟩
  ·by_cases hj:j=i
   ·subst hj
    rw[hi]at e1;cases e1;rw[bx6 hiσ]at e2;cases e2
    exact⟨u,r,.inr ⟨.inl hk,c,hc,hc'⟩⟩
   ·rw[bt9 (Ne.symm hj)]at e2
    obtain⟨u',r',q⟩:=hl j y v' e1 e2 e3
    refine⟨u',r',?_⟩;rcases q with q|⟨k,c',e,z'⟩
    ·exact .inl q
    ·refine .inr ⟨k,c',e,z'.sameBut hs ?_⟩
     rintro rfl;exact hj (C6 hN e1 (I.ok.inj _ _ _ e hc▸hi))
  ·by_cases hcc:c'=c
   ·subst hcc;exact⟨_,hc'⟩
   ·obtain⟨w2,z2⟩:=I.cell y c' e
    exact⟨w2,z2.sameBut hs hcc⟩
  ·obtain⟨e,n,ne,nf,d⟩:=I.pin p hp
   refine⟨(hs.2 p.1 ?_).trans e,n,ne,nf,d⟩;intro q;rw[q,hoc]at e;have q':oc=p.2:=bt2 e;exact d w' (by rw[<- q'];exact hocd)
theorem C7 {M:Model}{A:ba}{E:aw->ax->Prop}{i:Nat}{x:Str}{v:V}{u:aw}{Q:Unit->ax->Prop}(I:aA X ai σ H s)(hN:X.N.Nodup)(hi:X.N[i]? = some x)(hx:i5 X.env.scope x)(r:aR v u)(h:∀s',aA X ai (σ.set i (some v)) H s'->Q () s')(hf:X.fn x=true∨X.env.scope.names.lookup x=some .local:=by first|exact .inl rfl|exact .inr rfl|assumption):wpAny M A (storeName X.env x u) Q E s:=
 vC I hN hi hx r (λs' I' _=>h s' I') hf
theorem aA.call' {s':ax}{ch:List ay}(I:aA X ai σ H s)(ho:s'.os=s.os)(u:Un (cD X.stack) ch H H' s.heap s'.heap)(hok:bT X.prog X.w H' s'.heap)(hg:AllBare s'.gens)(hch:∀b∈ch,(b∈X.ex∨X.s₀.heap.objs.size<=b)/\b≠X.env.locals/\(∀x c,X.env.cells.lookup x=some c->c≠b)/\∀p∈X.pn++ai,p.1≠b):aA X ai σ H' s':=by
 obtain⟨h',g',d',t',o'⟩:=s'
 have e:o'=s.os:=ho;subst e;exact I.call (g':=g') (t':=t') (d':=d') u hok hg hch
end
noncomputable abbrev XK:=aw->Option ay->Hp->Prop
noncomputable abbrev St:=List (Option V)
noncomputable abbrev VK:=V->Hp->Prop
noncomputable abbrev TE:=St->Hp->VK->Prop
noncomputable abbrev TT:=St->Hp->(Bool->Hp->Prop)->Prop
noncomputable abbrev TA:=St->Hp->(List V->Hp->Prop)->Prop
structure dZ where
 nx:St->Hp->Prop
 rt:VK
 bk:St->Hp->Prop:=λ_ _=>False
 ct:St->Hp->Prop:=λ_ _=>False
noncomputable abbrev TS:=dZ->St->Hp->Prop
noncomputable def EP (X:Cx)(ai:List (ay×Obj))(σ:St)(Q:VK)(u:aw)(s':ax):Prop:=∃v H',aA X ai σ H' s'/\aR v u/\Q v H'
noncomputable def TP (X:Cx)(ai:List (ay×Obj))(σ:St)(Q:Bool->Hp->Prop)(b:Bool)(s':ax):Prop:=∃H',aA X ai σ H' s'/\Q b H'
noncomputable def AP (X:Cx)(ai:List (ay×Obj))(σ:St)(Q:List V->Hp->Prop)(us:List aw)(s':ax):Prop:=∃vs H',aA X ai σ H' s'/\aN vs us/\Q vs H'
noncomputable def SP (X:Cx)(ai:List (ay×Obj))(D:dZ)(f:Flow)(s':ax):Prop:=
 match f with
 |.next=>∃σ' H',aA X ai σ' H' s'/\D.nx σ' H'
 |.brk=>∃σ' H',aA X ai σ' H' s'/\D.bk σ' H'
 |.cont=>∃σ' H',aA X ai σ' H' s'/\D.ct σ' H'
 |.ret u=>∃v σ' H',aA X ai σ' H' s'/\aR v u/\D.rt v H'
noncomputable def PE (X:Cx)(e:Expr)(t:TE):Prop:=
 ∀(ai:List (ay×Obj)) (s:ax) (σ:St) (H:Hp) (Q:VK),aA X ai σ H s->t σ H Q->wpAny (model X.prog X.w) X.A (eval e X.env) (EP X ai σ Q) X.xe s
noncomputable def PT (X:Cx)(e:Expr)(t:TT):Prop:=
 ∀(ai:List (ay×Obj)) (s:ax) (σ:St) (H:Hp) (Q:Bool->Hp->Prop),aA X ai σ H s->t σ H Q->wpAny (model X.prog X.w) X.A (isTrue e X.env (eval e X.env)) (TP X ai σ Q) X.xe s
noncomputable def PW (X:Cx)(e:Expr)(t:TT):Prop:=
 ∀(whole:Sem aw) (ai:List (ay×Obj)) (s:ax) (σ:St) (H:Hp) (Q:Bool->Hp->Prop),aA X ai σ H s->t σ H Q->wpAny (model X.prog X.w) X.A (isTrue e X.env whole) (TP X ai σ Q) X.xe s
theorem PW.pt {X:Cx}{e:Expr}{t:TT}(h:PW X e t):PT X e t:=h _
noncomputable def PA (X:Cx)(es:List Expr)(t:TA):Prop:=
 ∀(pos:Pos) (ai:List (ay×Obj)) (s:ax) (σ:St) (H:Hp) (Q:List V->Hp->Prop),aA X ai σ H s->t σ H Q->wpAny (model X.prog X.w) X.A (spliced (backTo pos (starEach es X.env))) (AP X ai σ Q) X.xe s
noncomputable def PS (X:Cx)(st:Stmt)(t:TS):Prop:=
 ∀(ai:List (ay×Obj)) (s:ax) (σ:St) (H:Hp) (D:dZ),aA X ai σ H s->t D σ H->wpAny (model X.prog X.w) X.A (exec st X.env) (SP X ai D) X.xe s
noncomputable def dN (X:Cx)(st:List Stmt)(t:TS):Prop:=
 ∀(ai:List (ay×Obj)) (s:ax) (σ:St) (H:Hp) (D:dZ),aA X ai σ H s->t D σ H->wpAny (model X.prog X.w) X.A (execs st X.env) (SP X ai D) X.xe s
theorem aO {α:Type}{t:Sem α}{Q Q':α->ax->Prop}{M:Model}{A:ba}{E:aw->ax->Prop}{s:ax}(h:wpAny M A t Q E s)(hQ:∀a s,Q a s->Q' a s):wpAny M A t Q' E s:=bw0 h hQ λ_ _ x=>x
section
variable {X:Cx}
theorem bin {a b:Expr}{ta tb:TE}(ha:PE X a ta)(hb:PE X b tb){ai:List (ay×Obj)}{s:ax}{σ:St}{H:Hp}{R:V->V->Hp->Prop}(I:aA X ai σ H s)(h:ta σ H λx H1=>tb σ H1 λy H2=>R x y H2){α:Type}{Q:α->ax->Prop}{f:aw->aw->Sem α}(hf:∀v u s2 x y H2,aA X ai σ H2 s2->aR x v->aR y u->R x y H2->wpAny (model X.prog X.w) X.A (f v u) Q X.xe s2) :
  wpAny (model X.prog X.w) X.A (eval a X.env) (λv s₁=>wpAny (model X.prog X.w) X.A (eval b X.env) (λu s₂=>wpAny (model X.prog X.w) X.A (f v u) Q X.xe s₂) X.xe s₁) X.xe s:=by
 refine aO (ha ai s σ H _ I h) λv s1 ⟨x,H1,I1,r1,q1⟩=>?_
 refine aO (hb ai s1 σ H1 _ I1 q1) λu s2 ⟨y,H2,I2,r2,q2⟩=>?_
 exact hf v u s2 x y H2 I2 r1 r2 q2
noncomputable def dF (i:Nat):TE:=λσ H Q=>∃v,σ[i]? = some (some v)/\Q v H
noncomputable def tC (v:V):TE:=λ_ H Q=>Q v H
theorem i6 {i:Nat}{x:Str}{pos:Pos}(hN:X.N[i]? = some x)(hv:eQ X.env.scope x)(hd:(x==("__debug__":Str))=false:=by decide)(hcd:(x==("__classdict__":Str))=false:=by decide):PE X (.Name x pos) (dF i):=by
 intro ai s σ H Q I h
 obtain⟨v,e,h⟩:=h
 obtain⟨m,hn,hl⟩:=I.loc
 obtain⟨u,r,l⟩:=hl i x v hN e hv
 have fin:EP X ai σ Q u s:=⟨v,H,I,r,h⟩;rcases l with⟨hk,hm⟩|⟨hk,c,hc,hcell⟩
 ·exact wpAny_Name (wpAny_loadName_local I.ok.kind hk hn hm fin) hd
 ·rcases hk with hk|hk
  ·exact wpAny_Name (wpAny_loadName_cell I.ok.kind hk hc hcell fin) hd
  ·exact wpAny_Name (wpAny_loadName_free I.ok.kind hk hc hcell fin hcd) hd
theorem vD {i j pos}:PE X (.Constant (.int i) j pos) (tC (.int i)):=λ_ _ _ H _ I h=>wpAny_Constant_int ⟨.int i,H,I.tok _,⟨_,rfl⟩,h⟩
theorem ar1 {b j pos}:PE X (.Constant (.bool b) j pos) (tC (.bl b)):=λ_ _ _ H _ I h=>Constant_bool ⟨.bl b,H,I,rfl,h⟩
theorem ar2 {x j pos}:PE X (.Constant (.str x) j pos) (tC (.str x)):=λ_ _ _ H _ I h=>Calls.Constant_str ⟨.str x,H,I.tok _,⟨_,rfl⟩,h⟩
noncomputable def Gl (X:Cx)(x:Str):Prop:=X.env.kindOf x=some .globalImplicit
theorem rS {E:aw->ax->Prop}{ai:List (ay×Obj)}{s:ax}{σ:St}{H:Hp}{x:Str}{u:aw}{pos:Pos}{Q:aw->ax->Prop}(I:aA X ai σ H s)(hg:Gl X x)(hm:X.mg x=some u)(h:Q u s)(hd:(x==("__debug__":Str))=false:=by decide):wpAny (model X.prog X.w) X.A (eval (.Name x pos) X.env) Q E s:=
 Calls.Name_function_global I.ok.kind hg (Calls.loadGlobal_global (by rw[I.ok.glob];exact I.mod.glob.keeps I.bk) hm h) hd
theorem lI {E:aw->ax->Prop}{ai:List (ay×Obj)}{s:ax}{σ:St}{H:Hp}{x:Str}{u:aw}{pos:Pos}{Q:aw->ax->Prop}(I:aA X ai σ H s)(hg:Gl X x)(hm:X.mg x=none)(hv:bootBuiltins x=some u)(h:Q u s)(hn:x≠"__name__":=by decide)(hd:(x==("__debug__":Str))=false:=by decide):wpAny (model X.prog X.w) X.A (eval (.Name x pos) X.env) Q E s:=by
 obtain⟨mb,h1,h2⟩:=I.mod.blt
 exact Calls.Name_function_global I.ok.kind hg (Calls.loadGlobal_builtin (by rw[I.ok.glob];exact I.mod.glob.keeps I.bk) hm (by rw[I.ok.blt];exact h1.keeps I.bk) ((h2 x hn).trans hv) h) hd
theorem ar3 {x:Str}{v:V}{u:aw}{pos:Pos}(hg:Gl X x)(hm:X.mg x=some u)(r:aR v u)(hd:(x==("__debug__":Str))=false:=by decide):PE X (.Name x pos) (tC v):=
 λ_ _ _ H _ I h=>rS I hg hm ⟨v,H,I,r,h⟩ hd
theorem ar4 {x:Str}{v:V}{u:aw}{pos:Pos}(hg:Gl X x)(hm:X.mg x=none)(hv:bootBuiltins x=some u)(r:aR v u)(hn:x≠"__name__":=by decide)(hd:(x==("__debug__":Str))=false:=by decide):PE X (.Name x pos) (tC v):=
 λ_ _ _ H _ I h=>lI I hg hm hv ⟨v,H,I,r,h⟩ hn hd
variable {a b:Expr}{ta tb:TE}{pos:Pos}
noncomputable def PC (X:Cx)(op:CmpOp)(a b:Expr)(t:TE):Prop:=
 ∀(ai:List (ay×Obj)) (s:ax) (σ:St) (H:Hp) (Q:VK),aA X ai σ H s->t σ H Q->
  wpAny (model X.prog X.w) X.A (eval a X.env) (λv s₁=>wpAny (model X.prog X.w) X.A (eval b X.env) (λu s₂=>wpAny (model X.prog X.w) X.A (compareOp op v u) (EP X ai σ Q) X.xe s₂) X.xe s₁) X.xe s
noncomputable def tB (t:TE):TT:=λσ H Q=>t σ H λx H1=>∃c,x = .bl c/\Q c H1
theorem C8 {op:CmpOp}{t:TE}(h:PC X op a b t)(h1:behindInMarks op b=false:=by first|exact nobehind _ (by decide) (by decide)|rfl):PT X (.Compare a [op] [b] pos) (tB t):=by
 intro ai s σ H Q I hw;refine wpAny_isTrue_Compare1 (aO (h ai s σ H _ I hw) λv s1 h1=>aO h1 λu s2 h2=>aO h2 λc s3 ⟨x,H1,I1,r1,q1⟩=>?_) h1
 obtain⟨d,rfl,q⟩:=q1
 cases r1;exact bB1 ⟨H1,I1,q⟩
theorem ar5 {e:Expr}{t:TE}(h:PE X e t)(he:∀whole,isTrue e X.env whole=(do let v <- whole;standAt e.pos;holding [v] (truthy v)):=by intro _;rfl):PT X e (tB t):=by
 intro ai s σ H Q I hw;refine isTrue_plain (aO (h ai s σ H _ I hw) λv s1 ⟨x,H1,I1,r1,q1⟩=>?_) (he _)
 obtain⟨d,rfl,q⟩:=q1
 cases r1;exact bB1 ⟨H1,I1,q⟩
variable {tA tB':TT}{rest:List Expr}
noncomputable def C9 (t u:TT):TT:=λσ H Q=>t σ H λc H1=>if c=true then u σ H1 Q else Q false H1
noncomputable def D9 (t u:TT):TT:=λσ H Q=>t σ H λc H1=>if c=true then Q true H1 else u σ H1 Q
noncomputable def E1 (t:TT):TT:=λσ H Q=>t σ H λc H1=>Q (!c) H1
theorem ar6 (ha:PT X a tA):PW X (.BoolOp .And [a] pos) tA:=by
 intro wh ai s σ H Q I h;refine isTrue_and (aO (ha ai s σ H Q I h) λc s1 e=>?_);cases c with
 |true=>exact isTrue_and_nil e
 |false=>exact e
theorem ar7 (ha:PT X a tA):PW X (.BoolOp .Or [a] pos) tA:=by
 intro wh ai s σ H Q I h;refine isTrue_or (aO (ha ai s σ H Q I h) λc s1 e=>?_);cases c with
 |false=>exact isTrue_or_nil e
 |true=>exact e
theorem ar8 (ha:PT X a tA)(hb:PW X (.BoolOp .And (b::rest) pos) tB'):PW X (.BoolOp .And (a::b::rest) pos) (C9 tA tB'):=by
 intro wh ai s σ H Q I h;refine isTrue_and (aO (ha ai s σ H _ I h) λc s1 ⟨H1,I1,q1⟩=>?_);cases c with
 |true=>exact hb wh ai s1 σ H1 Q I1 q1
 |false=>exact⟨H1,I1,q1⟩
theorem ar9 (ha:PT X a tA)(hb:PW X (.BoolOp .Or (b::rest) pos) tB'):PW X (.BoolOp .Or (a::b::rest) pos) (D9 tA tB'):=by
 intro wh ai s σ H Q I h;refine isTrue_or (aO (ha ai s σ H _ I h) λc s1 ⟨H1,I1,q1⟩=>?_);cases c with
 |true=>exact⟨H1,I1,q1⟩
 |false=>exact hb wh ai s1 σ H1 Q I1 q1
theorem as0 (ha:PT X a tA):PT X (.UnaryOp .Not a pos) (E1 tA):=by
 intro ai s σ H Q I h;exact isTrue_not (ha ai s σ H (λc H1=>Q (!c) H1) I h)
noncomputable def E2 (ta tb:TE):TE:=λσ H Q=>ta σ H λx H1=>∃c,x = .bl c/\if c=true then tb σ H1 Q else Q (.bl false) H1
noncomputable def E3 (ta:TE):TE:=λσ H Q=>ta σ H λx H1=>∃c,x = .bl c/\Q (.bl (!c)) H1
theorem as1 {op}{t:TE}(h:PE X a t):PE X (.BoolOp op [a] pos) t:=λai s σ H Q I hw=>BoolOp_one (h ai s σ H Q I hw)
theorem as2 (ha:PE X a ta)(hb:PE X (.BoolOp .And (b::rest) pos) tb):PE X (.BoolOp .And (a::b::rest) pos) (E2 ta tb):=by
 intro ai s σ H Q I h;refine BoolOp_and (aO (ha ai s σ H _ I h) λv s1 ⟨x,H1,I1,r1,q1⟩=>?_)
 obtain⟨c,rfl,q1⟩:=q1
 cases r1;refine bB1 ?_;cases c with
 |true=>exact hb ai s1 σ H1 Q I1 q1
 |false=>exact⟨.bl false,H1,I1,rfl,q1⟩
theorem as3 (ha:PE X a ta):PE X (.UnaryOp .Not a pos) (E3 ta):=by
 intro ai s σ H Q I h;refine UnaryOp_ (aO (ha ai s σ H _ I h) λv s1 ⟨x,H1,I1,r1,q1⟩=>?_)
 obtain⟨c,rfl,q1⟩:=q1
 cases r1;exact not_of (bB1 ⟨.bl (!c),H1,I1,rfl,q1⟩)
end
noncomputable def b8 (K:ad)(H:Hp)(a:ay)(xs:List V):Prop:=
 Rd H a (.lst xs) ∨
  ∃(o:Obj) (its:Array aw) (n:Nat),K.lookup a=some o/\o.cls = .type "list"/\o.dict=none/\o.data = .seq its n/\its.size<=sizeLine/\aN xs its.toList
noncomputable def aQ (K:ad)(H:Hp)(a:ay)(xs:List V):Prop:=
 Rd H a (.tup xs) ∨
  ∃(o:Obj) (its:Array aw) (n:Nat),K.lookup a=some o/\o.cls = .type "tuple"/\o.data = .seq its n/\its.size<=sizeLine/\aN xs its.toList
noncomputable def as4:aw->Option V
 |.none=>some .non
 |.bool b=>some (.bl b)
 |.int i _=>some (.int i)
 |.str x _=>some (.str x)
 |.bytes b _=>some (.byt b)
 |.float b _=>some (.flt b)
 |.ref a=>some (.ref a)
 |.type n=>some (.ty n)
 |_=>none
theorem aR.abs {x:V}{u:aw}(r:aR x u):as4 u=some x:=by
 cases x with
 |non=>cases r;rfl
 |bl _=>cases r;rfl
 |int _=>obtain⟨t,rfl⟩:=r;rfl
 |str _=>obtain⟨t,rfl⟩:=r;rfl
 |byt _=>obtain⟨t,rfl⟩:=r;rfl
 |flt _=>obtain⟨t,rfl⟩:=r;rfl
 |ref _=>cases r;rfl
 |ty _=>cases r;rfl
theorem aR.inj {x y:V}{u:aw}(r:aR x u)(q:aR y u):x=y:=bt2 (r.abs.symm.trans q.abs)
theorem aN.inj:∀{xs ys:List V}{us:List aw},aN xs us->aN ys us->xs=ys
 |_,_,_,.nil,.nil=>rfl
 |_,_,_,.cons r t,.cons r' t'=>by rw[r.inj r',aN.inj t t']
section
variable {X:Cx}{ai:List (ay×Obj)}{σ:St}{H:Hp}{s:ax}{a:ay}{xs ys:List V}
theorem b8.of {K:ad}(h:H a=some (.lst xs)):b8 K H a xs:=.inl (.inl h)
theorem aQ.of {K:ad}(h:H a=some (.tup xs)):aQ K H a xs:=.inl (.inl h)
theorem aA.list (I:aA X ai σ H s)(h:b8 X.K H a xs):∃its:List aw,aN xs its/\PlainL s.heap a its.toArray/\xs.length<=sizeLine:=by
 rcases h with h|⟨o,its,n,hk,hc,hd,hs,hz,r⟩
 ·obtain⟨z,its,n,r,e⟩:=h.ok I.hok
  exact⟨its,r,⟨_,n,e,rfl,rfl,rfl⟩,z⟩
 ·refine⟨its.toList,r,⟨o,n,I.kIn a o hk,hc,hd,by simpa using hs⟩,?_⟩
  have e:=r.length;simp only[bB9]at e;omega
theorem aA.tuple (I:aA X ai σ H s)(h:aQ X.K H a xs):∃its:List aw,aN xs its/\IsTup s.heap a its.toArray/\xs.length<=sizeLine:=by
 rcases h with h|⟨o,its,n,hk,hc,hs,hz,r⟩
 ·obtain⟨z,its,r,p,_⟩:=h.ok I.hok
  exact⟨its,r,p,z⟩
 ·refine⟨its.toList,r,⟨o,I.kIn a o hk,hc,n,by simpa using hs⟩,?_⟩
  have e:=r.length;simp only[bB9]at e;omega
theorem aA.list_inj (I:aA X ai σ H s)(h:b8 X.K H a xs)(h':b8 X.K H a ys):xs=ys:=by
 obtain⟨its,r,⟨o,n,e,_,_,d⟩,_⟩:=I.list h
 obtain⟨its',r',⟨o',n',e',_,_,d'⟩,_⟩:=I.list h'
 rw[e]at e';cases e';rw[d]at d';injection d' with d1 _
 have:its=its':=by simpa using congrArg Array.toList d1
 subst this;exact r.inj r'
theorem aA.tuple_inj (I:aA X ai σ H s)(h:aQ X.K H a xs)(h':aQ X.K H a ys):xs=ys:=by
 obtain⟨its,r,⟨o,e,_,n,d⟩,_⟩:=I.tuple h
 obtain⟨its',r',⟨o',e',_,n',d'⟩,_⟩:=I.tuple h'
 rw[e]at e';cases e';rw[d]at d';injection d' with d1 _
 have:its=its':=by simpa using congrArg Array.toList d1
 subst this;exact r.inj r'
end
noncomputable abbrev Cx.wish (X:Cx)(E:aw->ax->Prop):Cx:={ X with xe:=E }
noncomputable abbrev Cx.nox (X:Cx):Cx:=X.wish λ_ _=>False
theorem Cx.Ok.wish {X:Cx}(ok:X.Ok)(E:aw->ax->Prop):(X.wish E).Ok:=
 ⟨ok.mod,ok.kind,ok.glob,ok.blt,ok.above,ok.inj,ok.has,ok.cab,ok.hd,ok.frames,ok.stk,ok.exf,ok.bs,ok.bsz,ok.noex,ok.exfs,ok.funs,ok.frf⟩
theorem Cx.Ok.unwish {X:Cx}{E:aw->ax->Prop}(ok:(X.wish E).Ok):X.Ok:=
 ⟨ok.mod,ok.kind,ok.glob,ok.blt,ok.above,ok.inj,ok.has,ok.cab,ok.hd,ok.frames,ok.stk,ok.exf,ok.bs,ok.bsz,ok.noex,ok.exfs,ok.funs,ok.frf⟩
section
variable {X:Cx}{ai:List (ay×Obj)}{σ:St}{H:Hp}{s:ax}{E:aw→ax→Prop}
theorem aA.wish (I:aA X ai σ H s)(E:aw->ax->Prop):aA (X.wish E) ai σ H s:=⟨I.ok.wish E,I.os,I.bare,I.base,I.loc,I.cell,I.free,I.freeC,I.pin,I.hok,I.len⟩
theorem aA.unwish (I:aA (X.wish E) ai σ H s):aA X ai σ H s:=⟨I.ok.unwish,I.os,I.bare,I.base,I.loc,I.cell,I.free,I.freeC,I.pin,I.hok,I.len⟩
theorem SP.unwish {D:dZ}{f:Flow}{s':ax}(h:SP (X.wish E) ai D f s'):SP X ai D f s':=by
 cases f with
 |next=>obtain⟨σ',H',I,q⟩:=h;exact⟨σ',H',I.unwish,q⟩
 |brk=>obtain⟨σ',H',I,q⟩:=h;exact⟨σ',H',I.unwish,q⟩
 |cont=>obtain⟨σ',H',I,q⟩:=h;exact⟨σ',H',I.unwish,q⟩
 |ret u=>obtain⟨v,σ',H',I,r,q⟩:=h;exact⟨v,σ',H',I.unwish,r,q⟩
theorem dN.nox {st:List Stmt}{t:TS}(h:dN X.nox st t):dN X st t:=λai s σ H D I hw=>
 bw0 (h ai s σ H D (I.wish _) hw) (λ_ _ q=>q.unwish) λ_ _ z=>False.elim z
end
section
variable {X:Cx}{st:Stmt}{rest:List Stmt}{t u:TS}{e:Expr}{te:TE}{pos:Pos}
noncomputable def E4:TS:=λD σ H=>D.nx σ H
noncomputable def E5 (t u:TS):TS:=λD σ H=>t { D with nx:=u D } σ H
theorem as5:dN X [] E4:=λ_ _ σ H _ I h=>wpAny_execs_nil ⟨σ,H,I,h⟩
theorem rT (h1:PS X st t)(h2:dN X rest u):dN X (st::rest) (E5 t u):=by
 intro ai s σ H D I h;refine wpAny_execs_cons (aO (h1 ai s σ H { D with nx:=u D } I h) λf s1 q=>?_);cases f with
 |next=>
  obtain⟨σ',H',I',q⟩:=q
  exact h2 ai s1 σ' H' D I' q
 |ret v=>exact q
 |brk=>exact q
 |cont=>exact q
theorem fQ (h1:PS X st t):dN X [st] t:=by
 intro ai s σ H D I h;refine wpAny_execs_cons (aO (h1 ai s σ H D I h) λf s1 q=>?_);cases f with
 |next=>exact wpAny_execs_nil q
 |ret v=>exact q
 |brk=>exact q
 |cont=>exact q
theorem aA.quiet {ai:List (ay×Obj)}{σ:St}{H:Hp}{s:ax}(I:aA X ai σ H s):interactive X.env=false:=by simp[interactive,I.ok.kind]
noncomputable def n4 (te:TE):TS:=λD σ H=>te σ H λ_ H1=>D.nx σ H1
theorem lJ (he:PE X e te)(hs:swapsWith e none pos.line X.env=pure false:=by rfl):PS X (.Expr e pos) (n4 te):=by
 intro ai s σ H D I h;exact wpAny_Expr_any (aO (he ai s σ H _ I h) λv s1 ⟨x,H1,I1,r1,q1⟩=>⟨σ,H1,I1,q1⟩) I.quiet hs
noncomputable def vE (te:TE):TS:=λD σ H=>te σ H D.rt
theorem vF (he:PE X e te):PS X (.Return (some e) pos) (vE te):=by
 intro ai s σ H D I h;exact wpAny_Return_some (aO (he ai s σ H _ I h) λv s1 ⟨x,H1,I1,r1,q1⟩=>⟨x,σ,H1,I1,r1,q1⟩)
noncomputable def rV (c:TT)(t u:TS):TS:=λD σ H=>c σ H λb H1=>if b=true then t D σ H1 else u D σ H1
theorem oV {c:Expr}{a b:List Stmt}{tc:TT}(hc:PT X c tc)(ha:dN X a t)(hb:dN X b u):PS X (.If c a b pos) (rV tc t u):=by
 intro ai s σ H D I h;refine wpAny_If (aO (hc ai s σ H _ I h) λd s1 ⟨H1,I1,q1⟩=>?_);cases d with
 |true=>exact ha ai s1 σ H1 D I1 q1
 |false=>exact hb ai s1 σ H1 D I1 q1
end
noncomputable abbrev TG:=V->St->Hp->(St->Hp->Prop)->Prop
noncomputable abbrev lK:=List V->St->Hp->(St->Hp->Prop)->Prop
noncomputable def PG (X:Cx)(target:Expr)(t:TG):Prop:=
 ∀(ai:List (ay×Obj)) (s:ax) (σ:St) (H:Hp) (v:V) (u:aw) (Q:St->Hp->Prop),aA X ai σ H s->aR v u->t v σ H Q->
  wpAny (model X.prog X.w) X.A (assign target X.env u) (λ_ s'=>∃σ' H',aA X ai σ' H' s'/\Q σ' H') X.xe s
noncomputable def rW (X:Cx)(ts:List Expr)(t:lK):Prop:=
 ∀(ai:List (ay×Obj)) (s:ax) (σ:St) (H:Hp) (vs:List V) (us:List aw) (Q:St->Hp->Prop),aA X ai σ H s->aN vs us->t vs σ H Q->
  wpAny (model X.prog X.w) X.A (assignInOrder ((assignEach ts X.env).map (·.2)) us) (λ_ s'=>∃σ' H',aA X ai σ' H' s'/\Q σ' H') X.xe s
noncomputable abbrev vG:=V->V->V->Hp->(Hp->Prop)->Prop
noncomputable def E6 (X:Cx)(t:vG):Prop:=
 ∀(ai:List (ay×Obj)) (s:ax) (σ:St) (H:Hp) (o i v:V) (ov iv u:aw) (Q:Hp->Prop),aA X ai σ H s->aR o ov->aR i iv->aR v u->t o i v H Q->
  wpAny (model X.prog X.w) X.A (setItem ov iv u) (λ_ s'=>∃H',aA X ai σ H' s'/\Q H') X.xe s
section
variable {X:Cx}{pos:Pos}
noncomputable def dO (i:Nat):TG:=λv σ H Q=>Q (σ.set i (some v)) H
theorem jJ {i:Nat}{x:Str}(hN:X.N.Nodup)(hi:X.N[i]? = some x)(hx:i5 X.env.scope x)(hf:X.fn x=true∨X.env.scope.names.lookup x=some .local:=by first|exact .inl rfl|exact .inr rfl|assumption):PG X (.Name x pos) (dO i):=by
 intro ai s σ H v u Q I r h;exact wpAny_assign_Name (C7 I hN hi hx r (λs' I'=>⟨_,H,I',h⟩) hf)
noncomputable def rX:lK:=λvs σ H Q=>vs = []/\Q σ H
noncomputable def lM (t:TG)(u:lK):lK:=λvs σ H Q=>∃v r,vs=v::r/\t v σ H λσ' H'=>u r σ' H' Q
theorem vH:rW X [] rX:=by
 intro ai s σ H vs us Q I r h
 obtain⟨e,h⟩:=h
 subst e;cases r;exact assignInOrder_nil ⟨σ,H,I,h⟩
theorem n5 {e:Expr}{es:List Expr}{t:TG}{u:lK}(h1:PG X e t)(h2:rW X es u)(hs:(assignEach (e::es) X.env).map (·.2)=assign e X.env::(assignEach es X.env).map (·.2):=by rfl):rW X (e::es) (lM t u):=by
 intro ai s σ H vs us Q I r h
 obtain⟨v,vr,e1,h⟩:=h
 subst e1;cases r with
 |cons r rr=>
  rw[hs];refine assignInOrder_cons (aO (h1 ai s σ H _ _ _ I r h) λ_ s1 ⟨σ1,H1,I1,q1⟩=>?_);exact h2 ai s1 σ1 H1 _ _ Q I1 rr q1
noncomputable def rY (K:ad)(n:Nat)(t:lK):TG:=λv σ H Q=>∃a xs,v = .ref a/\aQ K H a xs/\xs.length=n/\t xs σ H Q
theorem vI {es:List Expr}{k:Nat}{t:lK}{n:Nat}(hc:X.calm=true)(h:rW X es t)(hn:(assignEach es X.env).length=n:=by rfl)(hst:(assignEach es X.env).findIdx? (·.1)=none:=by rfl):PG X (.Tuple es k pos) (rY X.K n t):=by
 intro ai s σ H v u Q I r hw
 obtain⟨a,xs,e1,hq,hl,hw⟩:=hw
 subst e1;cases r
 obtain⟨its,rv,ht,hz⟩:=I.tuple hq
 refine assign_Tuple_tuple (I.ok.hd hc) ht (by simp[hn,<- hl,rv.length]) hst λh' hx=>?_
 have I1:aA X ai σ H { s with heap:=h' }:=I.kept (t':=s.toks) λb o e=>hx b o (bu3 (br9 e)) e
 exact h ai _ σ H xs _ Q I1 (by simpa using rv) hw
noncomputable def vJ (to ti:TE)(t:vG):TG:=λv σ H Q=>to σ H λo H1=>ti σ H1 λi H2=>t o i v H2 λH3=>Q σ H3
theorem as6 {o i:Expr}{to ti:TE}{t:vG}(ho:PE X o to)(hi:PE X i ti)(hs:E6 X t)(ha:∀v,assign (.Subscript o i pos) X.env v=(do
   let ov <- holding [v] (eval o X.env)
   let iv <- holding [v,ov] (eval i X.env)
   standAt pos
   holding [v,ov,iv] (setItem ov iv v)
   release [v,ov,iv] []):=by intro _;rfl):PG X (.Subscript o i pos) (vJ to ti t):=by
 intro ai s σ H v u Q I r h;rw[ha];refine bp7 (by3 (aO (ho ai s σ H _ I h) λov s1 ⟨x,H1,I1,r1,q1⟩=>?_));refine bp7 (by3 (aO (hi ai s1 σ H1 _ I1 q1) λiv s2 ⟨y,H2,I2,r2,q2⟩=>?_));refine bp7 (wpAny_standAt (bp7 (by3 (aO (hs ai s2 σ H2 x y v ov iv u _ I2 r1 r2 r q2) λ_ s3 ⟨H3,I3,q3⟩=>?_))));exact wpAny_release ⟨σ,H3,I3,q3⟩
noncomputable def iZ (te:TE)(g:TG):TS:=λD σ H=>te σ H λx H1=>g x σ H1 D.nx
theorem as7 {tg e:Expr}{te:TE}{g:TG}(he:PE X e te)(hg:PG X tg g)(hs:swapsWithSole [tg] e pos.line X.env=pure false:=by rfl)(hw:swappedStores [tg] e X.env=pure none:=by rfl)(h1:(assignEach [tg] X.env).map (·.2) = [assign tg X.env]:=by rfl):PS X (.Assign [tg] e pos) (iZ te g):=by
 intro ai s σ H D I h;refine wpAny_Assign_stores (aO (he ai s σ H _ I h) λv s1 ⟨x,H1,I1,r1,q1⟩=>?_) hs hw;rw[h1];exact aO (hg ai s1 σ H1 x v _ I1 r1 q1) λ_ s2 q=>q
theorem oW {i:Nat}{x:Str}{e:Expr}{te:TE}{pos':Pos}(hN:X.N.Nodup)(hi:X.N[i]? = some x)(hx:i5 X.env.scope x)(he:PE X e te)(hs:swapsWith e (some (.Name x pos')) pos.line X.env=pure false:=by rfl)(hf:X.fn x=true∨X.env.scope.names.lookup x=some .local:=by first|exact .inl rfl|exact .inr rfl|assumption) :
  PS X (.Assign [.Name x pos'] e pos) (iZ te (dO i)):=by
 intro ai s σ H D I h;refine wpAny_Assign_Name (aO (he ai s σ H _ I h) λv s1 ⟨y,H1,I1,r1,q1⟩=>?_) hs;exact C7 I1 hN hi hx r1 (λs2 I2=>⟨_,H1,I2,q1⟩) hf
end
section
variable {X:Cx}{pos:Pos}
noncomputable def E7 (c:TT)(tb:TS):TS:=λD σ H=>∃W:Nat->St->Hp->Prop,(∃m,W m σ H)/\∀m σ H,W m σ H->
 c σ H λb H1=>if b=true then ∃N:St->Hp->Prop,(∀σ' H',N σ' H'->∃m',m'<m/\W m' σ' H')/\tb { D with nx:=N,ct:=N,bk:=D.nx } σ H1 else D.nx σ H1
theorem as8 {c:Expr}{body:List Stmt}{tc:TT}{tb:TS}(hp:PassesOwn (model X.prog X.w) X.A X.env X.xe)(hc:PT X c tc)(hb:dN X body tb):PS X (.While c body [] pos) (E7 tc tb):=by
 intro ai s σ H D I h
 obtain⟨W,⟨m0,w0⟩,turn⟩:=h
 refine wpAny_While (codeAny_whileLoop (λn s'=>∃σ' H',aA X ai σ' H' s'/\W n σ' H') ?_ m0 ⟨σ,H,I,w0⟩);rintro n s1 ⟨σ1,H1,I1,w1⟩;refine bF5 hp (aO (hc ai s1 σ1 H1 _ I1 (turn n σ1 H1 w1)) λb s2 ⟨H2,I2,q2⟩=>?_);cases b with
 |true=>
  obtain⟨N,hN,q2⟩:=q2
  rw[if_pos rfl];refine bF5 hp (aO (hb ai s2 σ1 H2 _ I2 q2) λf s3 q3=>?_);cases f with
  |next=>
   obtain⟨σ3,H3,I3,n3⟩:=q3
   obtain⟨m',hm,w3⟩:=hN σ3 H3 n3
   exact⟨m',hm,σ3,H3,I3,w3⟩
  |cont=>
   obtain⟨σ3,H3,I3,n3⟩:=q3
   obtain⟨m',hm,w3⟩:=hN σ3 H3 n3
   exact⟨m',hm,σ3,H3,I3,w3⟩
  |brk=>exact q3
  |ret v=>exact q3
 |false=>
  rw[if_neg bq7];exact wpAny_execs_nil ⟨σ1,H2,I2,q2⟩
end
structure It where
 go:Nat->Hp->Prop
 yld:Nat->Hp->V->Hp->Prop
 stop:Nat->Hp->Prop
noncomputable def j4 (X:Cx)(ai:List (ay×Obj))(H:Hp)(b:ay):Prop:=
 H b=none/\b≠X.env.locals/\b∉X.fs/\(b∈X.ex∨X.s₀.heap.objs.size<=b)/\(∀x c,X.env.cells.lookup x=some c->c≠b)/\∀p∈X.pn++ai,p.1≠b
theorem aA.fpOk {X:Cx}{ai:List (ay×Obj)}{σ:St}{H H':Hp}{s:ax}{b:ay}(I:aA X ai σ H s)(hb:s.heap.objs.size<=b)(hn:H' b=none):j4 X ai H' b:=by
 refine⟨hn,bA3 (br3 I.lt hb),I.nofs hb,.inr (bt6 I.sz hb),λx c e z=>?_,λp hp z=>?_⟩
 ·obtain⟨v,q⟩:=I.cell x c e
  exact absurd (br3 q.lt (by rw[z];exact hb)) (bw3 _)
 ·exact absurd (br3 (br9 (I.pin p hp).1) (by rw[z];exact hb)) (bw3 _)
structure kN (P:az)(w:bc)(K:ad)(tg:Expr)(J:It)(fp:List ay)(it:ay)(tn:Nat->Heap->Prop):Prop where
 mem:it∈fp
 obj:∀i h,tn i h->∀b∈fp,∃o,h.get? b=some o/\∀v,o.data≠.cell v
 keep:∀i h h',tn i h->(∀b∈fp,∀o,h.get? b=some o->h'.get? b=some o)->tn i h'
 item:∀(X:Cx),X.prog=P->X.w=w->X.K=K->X.calm=true->∀(i:Nat) (ai:List (ay×Obj)) (s:ax) (σ:St) (H:Hp) (E:aw->ax->Prop),aA X ai σ H s->(∀b∈fp,j4 X ai H b)->tn i s.heap->J.go i H->
  wpAny (model P w) X.A (pyNext (.ref it)) (λr s1=>∃u,r=some u/\
   wpAny (model P w) X.A (letOwnedTupleGo tg (.ref it) u) (λ_ s2=>∃x H',aA X ai σ H' s2/\aR x u/\J.yld i H x H'/\tn (i+1) s2.heap/\∀b∈fp,H' b=none) E s1) E s
 done:∀(X:Cx),X.prog=P->X.w=w->X.K=K->X.calm=true->∀(i:Nat) (ai:List (ay×Obj)) (s:ax) (σ:St) (H:Hp) (E:aw->ax->Prop),aA X ai σ H s->(∀b∈fp,j4 X ai H b)->tn i s.heap->J.stop i H->
  wpAny (model P w) X.A (pyNext (.ref it)) (λr s1=>r=none/\aA X ai σ H s1) E s
 self:∀(A:ba) (i:Nat) (s:ax) (Q:aw->ax->Prop) (E:aw->ax->Prop),tn i s.heap->Q (.ref it) s->wpAny (model P w) A (pyIter (.ref it)) Q E s
noncomputable abbrev TI:=St->Hp->(It->Hp->Prop)->Prop
noncomputable def E8 (X:Cx)(ai:List (ay×Obj))(σ:St)(tg:Expr)(R:It->Hp->Prop)(itv:aw)(s2:ax):Prop:=
 ∃(it:ay) (fp:List ay) (tn:Nat->Heap->Prop) (J:It) (H':Hp),itv = .ref it/\aA X ai σ H' s2/\kN X.prog X.w X.K tg J fp it tn/\tn 0 s2.heap/\(∀b∈fp,j4 X ai H' b)/\R J H'
noncomputable def PI (X:Cx)(tg iter:Expr)(wi:TI):Prop:=
 ∀(ai:List (ay×Obj)) (s:ax) (σ:St) (H:Hp) (R:It->Hp->Prop),aA X ai σ H s->wi σ H R->
  wpAny (model X.prog X.w) X.A (eval iter X.env) (λv s1=>wpAny (model X.prog X.w) X.A (pyIter v) (E8 X ai σ tg R) X.xe s1) X.xe s
theorem rZ {M:Model}{A:ba}{E:aw->ax->Prop}{s:ax}{tg:Expr}{it:ay}{u:aw}{o:Obj}{n:String}{vs:Array aw}{Q:Unit->ax->Prop}(ho:s.heap.get? it=some o)(hc:o.cls = .type n)(hd:o.data = .fields vs)(hn:["enumerate","zip","dict_itemiterator","dict_reverseitemiterator","odict_iterator","itertools.zip_longest","itertools.pairwise"].contains n=false)(hQ:Q () s):wpAny M A (letOwnedTupleGo tg (.ref it) u) Q E s:=by
  unfold letOwnedTupleGo;cases tg<;>first
    |exact bq5 hQ
    |(cases u<;>first
        |exact bq5 hQ
        | (refine bp7 (wpAny_load ho ?_)
           rw[hc,hd];show wpAny M A (if (["enumerate","zip","dict_itemiterator","dict_reverseitemiterator","odict_iterator","itertools.zip_longest","itertools.pairwise"].contains n&&vs[0]?==some (rawInt _))=true then _ else _) Q E s;rw[if_neg (by intro h;rw[hn,Bool.false_and]at h;cases h)]
           exact bq5 hQ))
noncomputable def n6 (K:ad)(a:ay):It:=
 ⟨λi H=>∃xs x,b8 K H a xs/\xs[i]? = some x,λi H x H'=>H'=H/\∀xs,b8 K H a xs->xs[i]? = some x,λi H=>∃xs,b8 K H a xs/\xs.length<=i⟩
noncomputable def kO (K:ad)(a:ay):It:=
 ⟨λi H=>∃xs x,aQ K H a xs/\xs[i]? = some x,λi H x H'=>H'=H/\∀xs,aQ K H a xs->xs[i]? = some x,λi H=>∃xs,aQ K H a xs/\xs.length<=i⟩
noncomputable def sA (lo:Int)(n:Nat):It:=⟨λi _=>i<n,λi H x H'=>H'=H/\x = .int (lo+i),λi _=>n<=i⟩
theorem as9 {P:az}{w:bc}{K:ad}{tg:Expr}(a it:ay):kN P w K tg (n6 K a) [it] it (λi h=>h.IsListIter it a i) where
 mem:=by simp
 obj:=λi h st b hb=>by
  have e:b=it:=by simpa using hb
  subst e
  obtain⟨o,e,c,d⟩:=st
  exact⟨o,e,λv z=>by rw[d]at z;cases z⟩
 keep:=λi h h' st k=>st.at λo e=>k it (by simp) o e
 item:=by
  intro X hP hw hK hc i ai s σ H E I hf st hg;subst hP hw hK
  obtain⟨xs,x,hq,hx⟩:=hg
  obtain⟨its,rv,p,hz⟩:=I.list hq
  obtain⟨u,hu,ru⟩:=rv.get hx
  obtain⟨f0,f1,f2,f3,f4,f5⟩:=hf it (by simp)
  refine wpAny_pyNext_list_item st p.isList (x:=u) (by simpa using hu) λh' st' sb=>?_
  have I1:aA X ai σ H { s with heap:=h' }:=I.turned (t':=s.toks) (λb o hb e=>(sb.2 b hb).trans e) f0 f1 f3 f4 f5
  obtain⟨o,e,c,d⟩:=id st'
  exact⟨u,rfl,rZ (s:={ s with heap:=h' }) e c d (by decide) ⟨x,H,I1,ru,⟨rfl,λys hy=>by rw[I.list_inj hy hq];exact hx⟩,st',λb hb=>(hf b hb).1⟩⟩
 done:=by
  intro X hP hw hK hc i ai s σ H E I hf st hg;subst hP hw hK
  obtain⟨xs,hq,hx⟩:=hg
  obtain⟨its,rv,p,hz⟩:=I.list hq
  obtain⟨f0,f1,f2,f3,f4,f5⟩:=hf it (by simp)
  have hl:=rv.length;exact wpAny_pyNext_list_end (I.ok.hd hc) st p.isList (by simp;omega) λh' eb=>⟨rfl,I.turned (t':=s.toks) (λb o hb e=>eb b o hb e) f0 f1 f3 f4 f5⟩
 self:=λ_ _ _ _ _ st h=>wpAny_pyIter_listiter st h
theorem E9 {P:az}{w:bc}{K:ad}{tg:Expr}(a it:ay):kN P w K tg (kO K a) [it] it (λi h=>h.IsTupleIter it a i) where
 mem:=by simp
 obj:=λi h st b hb=>by
  have e:b=it:=by simpa using hb
  subst e
  obtain⟨o,e,c,d⟩:=st
  exact⟨o,e,λv z=>by rw[d]at z;cases z⟩
 keep:=λi h h' st k=>st.at λo e=>k it (by simp) o e
 item:=by
  intro X hP hw hK hc i ai s σ H E I hf st hg;subst hP hw hK
  obtain⟨xs,x,hq,hx⟩:=hg
  obtain⟨its,rv,p,hz⟩:=I.tuple hq
  obtain⟨u,hu,ru⟩:=rv.get hx
  obtain⟨f0,f1,f2,f3,f4,f5⟩:=hf it (by simp)
  refine wpAny_pyNext_tuple_item st (show s.heap.IsTuple a its.toArray from p) (x:=u) (by simpa using hu) λh' st' sb=>?_
  have I1:aA X ai σ H { s with heap:=h' }:=I.turned (t':=s.toks) (λb o hb e=>(sb.2 b hb).trans e) f0 f1 f3 f4 f5
  obtain⟨o,e,c,d⟩:=id st'
  exact⟨u,rfl,rZ (s:={ s with heap:=h' }) e c d (by decide) ⟨x,H,I1,ru,⟨rfl,λys hy=>by rw[I.tuple_inj hy hq];exact hx⟩,st',λb hb=>(hf b hb).1⟩⟩
 done:=by
  intro X hP hw hK hc i ai s σ H E I hf st hg;subst hP hw hK
  obtain⟨xs,hq,hx⟩:=hg
  obtain⟨its,rv,p,hz⟩:=I.tuple hq
  obtain⟨f0,f1,f2,f3,f4,f5⟩:=hf it (by simp)
  have hl:=rv.length;exact wpAny_pyNext_tuple_end (I.ok.hd hc) st (show s.heap.IsTuple a its.toArray from p) (by simp;omega) λh' eb=>⟨rfl,I.turned (t':=s.toks) (λb o hb e=>eb b o hb e) f0 f1 f3 f4 f5⟩
 self:=λ_ _ _ _ _ st h=>wpAny_pyIter_tupleiter st h
theorem at0 {P:az}{w:bc}{K:ad}{tg:Expr}(it:ay)(lo:Int)(n:Nat):kN P w K tg (sA lo n) [it] it (λi h=>IsRangeIter h it (lo+(i:Nat)*1) ((n:Int)-(i:Nat)) 1) where
 mem:=by simp
 obj:=λi h st b hb=>by
  have e:b=it:=by simpa using hb
  subst e
  exact⟨_,st,λv z=>by
   have z':Data.fields _=Data.cell v:=z
   cases z'⟩
 keep:=λi h h' st k=>k it (by simp) _ st
 item:=by
  intro X hP hw hK hc i ai s σ H E I hf st hg;subst hP hw hK
  obtain⟨f0,f1,f2,f3,f4,f5⟩:=hf it (by simp)
  have W:=Walks.range (prog:=X.prog) (w:=X.w) (I.ok.hd hc) it lo 1 n;refine W.item i s _ _ hg st λv h' tk hv st' kk=>?_
  obtain⟨t,rfl⟩:=hv
  have I1:aA X ai σ H { s with heap:=h',toks:=tk }:=I.turned (λb o hb e=>kk b o (by simpa using hb) e) f0 f1 f3 f4 f5;refine⟨_,rfl,rZ (s:={ s with heap:=h',toks:=tk }) (n:="range_iterator") st' rfl rfl (by decide) ⟨.int (lo+i),H,I1,⟨t,?_⟩,⟨rfl,rfl⟩,st',λb hb=>(hf b hb).1⟩⟩;rw[Int.mul_one]
 done:=by
  intro X hP hw hK hc i ai s σ H E I hf st hg;subst hP hw hK
  obtain⟨f0,f1,f2,f3,f4,f5⟩:=hf it (by simp)
  exact wpAny_pyNext_range_end (I.ok.hd hc) st (by have:n<=i:=hg;omega) λh' eb=>⟨rfl,I.turned (t':=s.toks) (λb o hb e=>eb b o hb e) f0 f1 f3 f4 f5⟩
 self:=λ_ _ _ _ _ st h=>wpAny_pyIter_rangeiter st h
section
variable {X:Cx}{tg:Expr}
noncomputable def at2 (K:ad)(tl:TE):TI:=λσ H R=>tl σ H λx H1=>∃a,x = .ref a/\(∃xs,aQ K H1 a xs)/\R (kO K a) H1
theorem G0 {l:Expr}{tl:TE}(hl:PE X l tl):PI X tg l (at2 X.K tl):=by
 intro ai s σ H R I h;refine aO (hl ai s σ H _ I h) λv s1 ⟨x,H1,I1,r1,q1⟩=>?_
 obtain⟨a,e,⟨xs,hq⟩,q⟩:=q1
 subst e;cases r1
 obtain⟨its,rv,p,hz⟩:=I1.tuple hq
 refine bE8 (show s1.heap.IsTuple a its.toArray from p) ?_;refine⟨s1.heap.objs.size,[s1.heap.objs.size],_,_,H1,rfl,I1.kept (t':=s1.toks) λb o e=>bq0 _ e,E9 a _,⟨_,br7 _ rfl,rfl,rfl⟩,λb hb=>?_,q⟩;have e:b=s1.heap.objs.size:=by simpa using hb
 subst e;exact I1.fpOk (bq4 _) (I1.hok.fresh (bq4 _))
theorem at3 {ai:List (ay×Obj)}{σ:St}{H:Hp}{s:ax}{R:It->Hp->Prop}{E:aw->ax->Prop}{lo hi:Int}{t u v:Tok}{tk:Nat}(I:aA X ai σ H s)(h1:-(2^62)<=lo)(h2:lo<2^62)(h3:-(2^62)<=hi)(h4:hi<2^62)(q:R (sA lo (hi-lo).toNat) H):wpAny (model X.prog X.w) X.A (pyIter (.ref s.heap.objs.size)) (E8 X ai σ tg R) E { s with heap:=s.heap.push { cls:=.type "range",data:=.fields #[.int lo t,.int hi u,.int 1 v] },toks:=tk }:=by
 refine wpAny_pyIter_range (IsRange.new ..) (small_one h1 h2 h3 h4) ?_;have I1:aA X ai σ H { s with heap:=s.heap.push { cls:=.type "range",data:=.fields #[.int lo t,.int hi u,.int 1 v] },toks:=tk }:=I.kept λb o e=>bq0 _ e
 refine⟨(s.heap.push { cls:=.type "range",data:=.fields #[.int lo t,.int hi u,.int 1 v] }).objs.size,[(s.heap.push { cls:=.type "range",data:=.fields #[.int lo t,.int hi u,.int 1 v] }).objs.size],_,_,H,rfl,
  I1.kept (t':=tk) λb o e=>bq0 _ e,at0 _ lo (hi-lo).toNat,?_,λb hb=>?_,q⟩
 ·have e1:lo+((0:Nat):Int)*1=lo:=by simp
  have e2:(((hi-lo).toNat:Nat):Int)-((0:Nat):Int)=Builtin.Range.rangeSize lo hi 1:=by rw[rangeSize_one];split<;>omega
  show IsRangeIter _ _ (lo+((0:Nat):Int)*1) ((((hi-lo).toNat:Nat):Int)-((0:Nat):Int)) 1;rw[e1,e2];exact br7 _ rfl
 ·have e:b=(s.heap.push { cls:=.type "range",data:=.fields #[.int lo t,.int hi u,.int 1 v] }).objs.size:=by simpa using hb
  subst e;exact I1.fpOk (bq4 _) (I1.hok.fresh (bq4 _))
noncomputable def G2 (ta:TA):TI:=λσ H R=>ta σ H λvs H1=>∃j:Int,vs = [.int j]/\-(2^62)<=j/\j<2^62/\R (sA 0 j.toNat) H1
theorem at4 {a:Expr}{ta:TA}{p pos:Pos}(hg:Gl X "range")(hm:X.mg "range" = none)(ha:PA X [a] ta)(hs:starEach [a] X.env = [(false,eval a X.env)]:=by rfl):PI X tg (.Call (.Name "range" p) [a] [] pos) (G2 ta):=by
 intro ai s σ H R I h;refine Call_ (lI I hg hm boot_range (bB0 (aO (ha pos ai s σ H _ I h) λus s1 ⟨vs,H1,I1,r1,q1⟩=>?_) hs rfl))
 obtain⟨j,e,q1,q2,q⟩:=q1
 subst e;cases r1 with
 |cons r rr=>
  cases rr
  obtain⟨t,rfl⟩:=r
  exact call_range_1 (at3 I1 (by omega) (by omega) q1 q2 (by simpa using q))
noncomputable def G3 (wi:TI)(g:TG)(tb:TS):TS:=λD σ H=>wi σ H λJ H1=>∃W:Nat->Nat->St->Hp->Prop,(∃m,W 0 m σ H1)/\∀i m σ H,W i m σ H->
 (J.stop i H/\D.nx σ H)∨(J.go i H/\∃N:St->Hp->Prop,(∀σ' H',N σ' H'->∃m',m'<m/\W (i+1) m' σ' H')/\∀x H',J.yld i H x H'->g x σ H' λσ2 H2=>tb { D with nx:=N,ct:=N,bk:=D.nx } σ2 H2)
noncomputable def oX (fp:List ay)(h:Heap):List (ay×Obj):=fp.filterMap λb=>(h.get? b).map λo=>(b,o)
theorem sC {fp:List ay}{h:Heap}{b:ay}{o:Obj}(hb:b∈fp)(e:h.get? b=some o):(b,o)∈oX fp h:=List.mem_filterMap.mpr ⟨b,hb,by rw[e];rfl⟩
theorem at5 {fp:List ay}{h:Heap}{p:ay×Obj}(hp:p∈oX fp h):p.1∈fp/\h.get? p.1=some p.2:=by
 obtain⟨b,hb,e⟩:=List.mem_filterMap.mp hp
 cases q:h.get? b with
 |none=>rw[q]at e;cases e
 |some o=>
  rw[q]at e;have e':(b,o)=p:=bt2 e;subst e'
  exact⟨hb,q⟩
theorem aA.pinned {ai:List (ay×Obj)}{σ:St}{H:Hp}{s:ax}{fp:List ay}(I:aA X ai σ H s)(hf:∀b∈fp,j4 X ai H b)(ho:∀b∈fp,∃o,s.heap.get? b=some o/\∀v,o.data≠.cell v):aA X (ai++oX fp s.heap) σ H s:=
 I.pins_of λp hp=>(bs3.mp hp).elim (λz=>I.pin p (bs2 _ z)) λz=>by
  obtain⟨hb,e⟩:=at5 z
  obtain⟨f0,f1,f2,_⟩:=hf p.1 hb
  obtain⟨o,e',d⟩:=ho p.1 hb
  rw[e]at e';cases e'
  exact⟨e,f0,f1,f2,d⟩
theorem aA.unpinned {ai pl:List (ay×Obj)}{σ:St}{H:Hp}{s:ax}(I:aA X (ai++pl) σ H s):aA X ai σ H s:=I.pins_of λp hp=>I.pin p (bs2 _ (bt5 _ hp))
theorem G4 {iter:Expr}{body:List Stmt}{wi:TI}{g:TG}{tb:TS}{pos:Pos}(hp:PassesOwn (model X.prog X.w) X.A X.env X.xe)(hc:X.calm=true)(hi:PI X tg iter wi)(hg:PG X tg g)(hb:dN X body tb)(hs:∀x,foldedSetIterable iter X.env x=pure x:=by intro _;rfl):PS X (.For tg iter body [] pos) (G3 wi g tb):=by
 intro ai s σ H D I h;refine wpAny_For (aO (hi ai s σ H _ I h) λv s1 h1=>aO h1 λitv s2 h2=>?_) hs
 obtain⟨it,fp,tn,J,H2,e,I2,T,st2,f2,W,⟨m0,w0⟩,turn⟩:=h2
 subst e;have stat:∀{H':Hp},(∀b∈fp,H' b=none)->∀b∈fp,j4 X ai H' b:=λhn b hb=>⟨hn b hb,(f2 b hb).2⟩
 refine codeAny_forLoop_any (λn s'=>∃i σ' H',aA X ai σ' H' s'/\tn i s'.heap/\(∀b∈fp,H' b=none)/\W i n σ' H') ?_ m0 ⟨0,σ,H2,I2,st2,λb hb=>(f2 b hb).1,w0⟩;rintro n s3 ⟨i,σ3,H3,I3,st3,fr3,w3⟩;rcases turn i n σ3 H3 w3 with⟨stop,qn⟩|⟨go,N,hN,step⟩
 ·refine bF5 hp (aO (T.done X rfl rfl rfl hc i ai s3 σ3 H3 X.xe I3 (stat fr3) st3 stop) λr s4 ⟨hr,I4⟩=>?_)
  subst hr;exact wpAny_execs_nil ⟨σ3,H3,I4,qn⟩
 ·refine bF5 hp (aO (T.item X rfl rfl rfl hc i ai s3 σ3 H3 X.xe I3 (stat fr3) st3 go) λr s4 ⟨u,hr,h4⟩=>?_)
  subst hr;refine bF5 hp (aO h4 λ_ s5 ⟨x,H5,I5,r5,y5,st5,fr5⟩=>?_);have I5':=I5.pinned (stat fr5) (T.obj _ _ st5);refine bF5 hp (aO (hg _ s5 σ3 H5 x u _ I5' r5 (step x H5 y5)) λ_ s6 ⟨σ6,H6,I6,q6⟩=>?_);refine bF5 hp (aO (hb _ s6 σ6 H6 _ I6 q6) λf s7 q7=>?_);have again:∀{σ7:St}{H7:Hp},aA X (ai++oX fp s5.heap) σ7 H7 s7->N σ7 H7->∃m,m<n/\∃i σ' H',aA X ai σ' H' s7/\tn i s7.heap/\(∀b∈fp,H' b=none)/\W i m σ' H':=λ{σ7 H7} I7 n7=>by
   obtain⟨m',hm,w7⟩:=hN σ7 H7 n7
   refine⟨m',hm,i+1,σ7,H7,I7.unpinned,T.keep _ _ _ st5 λb hb o e=>(I7.pin (b,o) (bs2 _ (bs2 _ (sC hb e)))).1,λb hb=>?_,w7⟩
   obtain⟨o,e,d⟩:=T.obj _ _ st5 b hb
   exact (I7.pin (b,o) (bs2 _ (bs2 _ (sC hb e)))).2.1
  cases f with
  |next=>obtain⟨σ7,H7,I7,n7⟩:=q7;exact again I7 n7
  |cont=>obtain⟨σ7,H7,I7,n7⟩:=q7;exact again I7 n7
  |brk=>obtain⟨σ7,H7,I7,q7⟩:=q7;exact⟨σ7,H7,I7.unpinned,q7⟩
  |ret v=>obtain⟨x7,σ7,H7,I7,r7,q7⟩:=q7;exact⟨x7,σ7,H7,I7.unpinned,r7,q7⟩
end
theorem bp5 {K:ad}{a:ay}{xs:List V}{g:TG}{tb:TS}{D:dZ}{σ:St}{H:Hp}(Pv:Nat->St->Hp->Prop)(h0:Pv 0 σ H)(hl:∀i σ H,i<=xs.length->Pv i σ H->b8 K H a xs)(hs:∀i x σ H,xs[i]? = some x->Pv i σ H->g x σ H λσ2 H2=>tb { D with nx:=Pv (i+1),ct:=Pv (i+1),bk:=D.nx } σ2 H2)(hd:∀σ H,Pv xs.length σ H->D.nx σ H) :
  ∃W:Nat->Nat->St->Hp->Prop,(∃m,W 0 m σ H)/\∀i m σ H,W i m σ H->
   ((n6 K a).stop i H/\D.nx σ H)∨((n6 K a).go i H/\∃N:St->Hp->Prop,(∀σ' H',N σ' H'->∃m',m'<m/\W (i+1) m' σ' H')/\∀x H',(n6 K a).yld i H x H'->g x σ H' λσ2 H2=>tb { D with nx:=N,ct:=N,bk:=D.nx } σ2 H2):=by
 refine⟨λi m σ H=>m=xs.length-i/\i<=xs.length/\Pv i σ H,⟨xs.length,by simp,bu8 _,h0⟩,?_⟩;rintro i m σ H ⟨rfl,hi,p⟩;have q:=hl i σ H hi p;by_cases hlt:i<xs.length
 ·refine .inr ⟨⟨xs,xs[i],q,by simp[hlt]⟩,Pv (i+1),λσ' H' p'=>⟨xs.length-(i+1),by omega,rfl,hlt,p'⟩,λx H' y=>?_⟩
  obtain⟨e,y⟩:=y
  subst e;exact hs i x σ _ (y xs q) p
 ·have e:i=xs.length:=by omega
  subst e;exact .inl ⟨⟨xs,q,bq4 _⟩,hd σ H p⟩
theorem at6 {K:ad}{a:ay}{xs:List V}{g:TG}{tb:TS}{D:dZ}{σ:St}{H:Hp}(Pv:Nat->St->Hp->Prop)(h0:Pv 0 σ H)(hl:∀i σ H,i<=xs.length->Pv i σ H->aQ K H a xs)(hs:∀i x σ H,xs[i]? = some x->Pv i σ H->g x σ H λσ2 H2=>tb { D with nx:=Pv (i+1),ct:=Pv (i+1),bk:=D.nx } σ2 H2)(hd:∀σ H,Pv xs.length σ H->D.nx σ H) :
  ∃W:Nat->Nat->St->Hp->Prop,(∃m,W 0 m σ H)/\∀i m σ H,W i m σ H->
   ((kO K a).stop i H/\D.nx σ H)∨((kO K a).go i H/\∃N:St->Hp->Prop,(∀σ' H',N σ' H'->∃m',m'<m/\W (i+1) m' σ' H')/\∀x H',(kO K a).yld i H x H'->g x σ H' λσ2 H2=>tb { D with nx:=N,ct:=N,bk:=D.nx } σ2 H2):=by
 refine⟨λi m σ H=>m=xs.length-i/\i<=xs.length/\Pv i σ H,⟨xs.length,by simp,bu8 _,h0⟩,?_⟩;rintro i m σ H ⟨rfl,hi,p⟩;have q:=hl i σ H hi p;by_cases hlt:i<xs.length
 ·refine .inr ⟨⟨xs,xs[i],q,by simp[hlt]⟩,Pv (i+1),λσ' H' p'=>⟨xs.length-(i+1),by omega,rfl,hlt,p'⟩,λx H' y=>?_⟩
  obtain⟨e,y⟩:=y
  subst e;exact hs i x σ _ (y xs q) p
 ·have e:i=xs.length:=by omega
  subst e;exact .inl ⟨⟨xs,q,bq4 _⟩,hd σ H p⟩
noncomputable abbrev R2:=V->V->Hp->VK->Prop
noncomputable def cE (X:Cx)(f:aw->aw->Sem aw)(r:R2):Prop:=
 ∀(ai:List (ay×Obj)) (s:ax) (σ:St) (H:Hp) (x y:V) (v u:aw) (Q:VK),aA X ai σ H s->aR x v->aR y u->r x y H Q->
  wpAny (model X.prog X.w) X.A (f v u) (EP X ai σ Q) X.xe s
noncomputable def vK (X:Cx)(f:aw->Sem aw)(r:V->Hp->VK->Prop):Prop:=
 ∀(ai:List (ay×Obj)) (s:ax) (σ:St) (H:Hp) (x:V) (v:aw) (Q:VK),aA X ai σ H s->aR x v->r x H Q->
  wpAny (model X.prog X.w) X.A (f v) (EP X ai σ Q) X.xe s
noncomputable def e8 (X:Cx)(f:aw)(r:List V->Hp->VK->Prop):Prop:=
 ∀(ai:List (ay×Obj)) (s:ax) (σ:St) (H:Hp) (xs:List V) (us:List aw) (Q:VK),aA X ai σ H s->aN xs us->r xs H Q->
  wpAny (model X.prog X.w) X.A (call f us) (EP X ai σ Q) X.xe s
noncomputable def at7 (X:Cx)(r:V->Hp->(Bool->Hp->Prop)->Prop):Prop:=
 ∀(ai:List (ay×Obj)) (s:ax) (σ:St) (H:Hp) (x:V) (v:aw) (Q:Bool->Hp->Prop),aA X ai σ H s->aR x v->r x H Q->
  wpAny (model X.prog X.w) X.A (truthy v) (TP X ai σ Q) X.xe s
noncomputable def oY (r:R2)(ta tb:TE):TE:=λσ H Q=>ta σ H λx H1=>tb σ H1 λy H2=>r x y H2 Q
noncomputable def tUn (r:V->Hp->VK->Prop)(ta:TE):TE:=λσ H Q=>ta σ H λx H1=>r x H1 Q
noncomputable def rI (C:Int->Int->Prop)(g:Int->Int->V):R2:=λx y H Q=>∃i j,x = .int i/\y = .int j/\C i j/\Q (g i j) H
noncomputable def i7 (g:Int->Int->V):R2:=λx y H Q=>∃i j,x = .int i/\y = .int j/\Q (g i j) H
noncomputable def rU (g:Int->V):V->Hp->VK->Prop:=λx H Q=>∃i,x = .int i/\Q (g i) H
section
variable {X:Cx}{a b c:Expr}{ta tb tc:TE}{pos:Pos}
theorem vL (ha:PE X a ta)(hb:PE X b tb){ai:List (ay×Obj)}{s:ax}{σ:St}{H:Hp}{R:V->V->Hp->Prop}(I:aA X ai σ H s)(h:ta σ H λx H1=>tb σ H1 λy H2=>R x y H2){Q:aw->ax->Prop}{f:aw->aw->Sem aw}(hf:∀v u s2 x y H2,aA X ai σ H2 s2->aR x v->aR y u->R x y H2->wpAny (model X.prog X.w) X.A (f v u) Q X.xe s2) :
  wpAny (model X.prog X.w) X.A (eval a X.env) (λv s₁=>wpAny (model X.prog X.w) X.A (eval b X.env) (λu s₂=>wpAny (model X.prog X.w) X.A (f v u) Q X.xe s₂) X.xe s₁) X.xe s:=by
 refine aO (ha ai s σ H _ I h) λv s1 ⟨x,H1,I1,r1,q1⟩=>?_
 refine aO (hb ai s1 σ H1 _ I1 q1) λu s2 ⟨y,H2,I2,r2,q2⟩=>?_
 exact hf v u s2 x y H2 I2 r1 r2 q2
theorem at8 {op:Operator}{r:R2}(ho:cE X (binaryOp op) r)(ha:PE X a ta)(hb:PE X b tb):PE X (.BinOp a op b pos) (oY r ta tb):=by
 intro ai s σ H Q I h;exact wpAny_BinOp (vL ha hb I h λv u s2 x y H2 I2 rx ry q=>ho ai s2 σ H2 x y v u Q I2 rx ry q)
theorem at9 {op:UnaryOp}{r:V->Hp->VK->Prop}(ho:vK X (unaryOp op) r)(ha:PE X a ta):PE X (.UnaryOp op a pos) (tUn r ta):=by
 intro ai s σ H Q I h;exact UnaryOp_ (aO (ha ai s σ H _ I h) λv s1 ⟨x,H1,I1,r1,q1⟩=>ho ai s1 σ H1 x v Q I1 r1 q1)
theorem oZ {f:aw->aw->Sem aw}{C:Int->Int->Prop}{g:Int->Int->Int}(rule:∀(i j:Int) (t u:Tok) (s:ax) (Q:aw->ax->Prop) (E:aw->ax->Prop),C i j->Q (.int (g i j) s.toks) { s with toks:=s.toks+1 }->wpAny (model X.prog X.w) X.A (f (.int i t) (.int j u)) Q E s) :
  cE X f (rI C λi j=>.int (g i j)):=by
 intro ai s σ H x y v u Q I rx ry h
 obtain⟨i,j,rfl,rfl,hc,q⟩:=h
 obtain⟨t,rfl⟩:=rx
 obtain⟨t',rfl⟩:=ry
 exact rule i j t t' s _ _ hc ⟨.int (g i j),H,I.tok _,⟨_,rfl⟩,q⟩
theorem sD {f:aw->aw->Sem aw}{g:Int->Int->Int}(rule:∀(i j:Int) (t u:Tok) (s:ax) (Q:aw->ax->Prop) (E:aw->ax->Prop),Q (.int (g i j) s.toks) { s with toks:=s.toks+1 }->wpAny (model X.prog X.w) X.A (f (.int i t) (.int j u)) Q E s) :
  cE X f (i7 λi j=>.int (g i j)):=by
 intro ai s σ H x y v u Q I rx ry h
 obtain⟨i,j,rfl,rfl,q⟩:=h
 obtain⟨t,rfl⟩:=rx
 obtain⟨t',rfl⟩:=ry
 exact rule i j t t' s _ _ ⟨.int (g i j),H,I.tok _,⟨_,rfl⟩,q⟩
theorem sE {f:aw->aw->Sem aw}{g:Int->Int->Bool}(rule:∀(i j:Int) (t u:Tok) (s:ax) (Q:aw->ax->Prop) (E:aw->ax->Prop),Q (.bool (g i j)) s->wpAny (model X.prog X.w) X.A (f (.int i t) (.int j u)) Q E s) :
  cE X f (i7 λi j=>.bl (g i j)):=by
 intro ai s σ H x y v u Q I rx ry h
 obtain⟨i,j,rfl,rfl,q⟩:=h
 obtain⟨t,rfl⟩:=rx
 obtain⟨t',rfl⟩:=ry
 exact rule i j t t' s _ _ ⟨.bl (g i j),H,I,rfl,q⟩
noncomputable def vM (i j:Int):Prop:=0<j/\j<1073741824
noncomputable def vN (i j:Int):Prop:=0<=j/\j<=1000000/\i.natAbs<2^64
noncomputable def p5 (i j:Int):Prop:=(-(2^64)<i/\i<2^64)∨(-(2^64)<j/\j<2^64)
theorem p5.ok {i j:Int}(h:p5 i j):IntMulOk i j:=by
 rcases h with⟨h1,h2⟩|⟨h1,h2⟩
 ·exact .of_left (intBits_le_64 h1 h2)
 ·exact .of_right (intBits_le_64 h1 h2)
theorem au0 (k:Nat):(0:Int)<=2^k:=by
 rw[two_pow_cast];exact bE9 _
theorem au1:cE X (binaryOp .Add) (i7 λi j=>.int (i+j)):=sD λ_ _ _ _ _ _ _ q=>add_int q
theorem au2:cE X (binaryOp .Sub) (i7 λi j=>.int (i-j)):=sD λ_ _ _ _ _ _ _ q=>sub_int q
theorem au3:cE X (binaryOp .Mult) (rI p5 λi j=>.int (i*j)):=oZ λ_ _ _ _ _ _ _ hc q=>mul_int q hc.ok
theorem au4:cE X (binaryOp .FloorDiv) (rI vM λi j=>.int (i/j)):=oZ λi j _ _ _ _ _ hc q=>by
 have h1:(0:Int)<j:=hc.1;have h2:j<1073741824:=hc.2;exact floordiv_int (by omega) (by rw[Int.fdiv_eq_ediv_of_nonneg i (by omega)];exact q) (.inl (PyProof.noPylong_small (by omega)))
theorem au5:cE X (binaryOp .Mod) (rI (λ_ j=>0<j) λi j=>.int (i%j)):=oZ λi j _ _ _ _ _ hc q=>by
 have h1:(0:Int)<j:=hc;exact mod_int' (by omega) (by rw[Int.fmod_eq_emod_of_nonneg i (by omega)];exact q)
theorem au6:cE X (binaryOp .LShift) (rI vN λi j=>.int (i*2^j.toNat)):=oZ λ_ _ _ _ _ _ _ hc q=>lshift_int_small hc.1 hc.2.1 hc.2.2 q
theorem au7:cE X (binaryOp .RShift) (rI (λ_ j=>0<=j) λi j=>.int (i/2^j.toNat)):=oZ λi j _ _ _ _ _ hc q=>
 rshift_int hc (by rw[Int.fdiv_eq_ediv_of_nonneg i (au0 _)];exact q)
theorem au8:cE X (binaryOp .BitAnd) (i7 λi j=>.int (Builtin.bitAnd i j)):=sD λ_ _ _ _ _ _ _ q=>and_int q
theorem au9:cE X (binaryOp .BitOr) (i7 λi j=>.int (Builtin.bitOr i j)):=sD λ_ _ _ _ _ _ _ q=>or_int q
theorem unI {f:aw->Sem aw}{g:Int->Int}(rule:∀(i:Int) (t:Tok) (s:ax) (Q:aw->ax->Prop) (E:aw->ax->Prop),Q (.int (g i) s.toks) { s with toks:=s.toks+1 }->wpAny (model X.prog X.w) X.A (f (.int i t)) Q E s) :
  vK X f (rU λi=>.int (g i)):=by
 intro ai s σ H x v Q I rx h
 obtain⟨i,rfl,q⟩:=h
 obtain⟨t,rfl⟩:=rx
 exact rule i t s _ _ ⟨.int (g i),H,I.tok _,⟨_,rfl⟩,q⟩
theorem av0:vK X (unaryOp .USub) (rU λi=>.int (-i)):=unI λ_ _ _ _ _ q=>neg_int q
end
noncomputable def G5:V->V->Bool
 |.non,.non=>true|.non,.int _=>true|.int _,.non=>true|.non,.bl _=>true|.bl _,.non=>true|.non,.str _=>true|.str _,.non=>true
 |.int _,.int _=>true|.bl _,.bl _=>true|.str _,.str _=>true|.byt _,.byt _=>true
 |.int _,.str _=>true|.str _,.int _=>true|.bl _,.str _=>true|.str _,.bl _=>true
 |_,_=>false
noncomputable def G6:R2:=λx y H Q=>G5 x y=true/\Q (.bl (decide (x=y))) H
noncomputable def G7:R2:=λx y H Q=>G5 x y=true/\Q (.bl (!decide (x=y))) H
theorem G8 {i j:Int}:decide (V.int i=V.int j)=(i==j):=by
 rw[bA4];simp
theorem G9 {i j:Bool}:decide (V.bl i=V.bl j)=(i==j):=by
 rw[bA4];simp
theorem J0 {i j:Str}:decide (V.str i=V.str j)=(i==j):=by
 rw[bA4];simp
theorem J1 {i j:Array UInt8}:decide (V.byt i=V.byt j)=(i.toList==j.toList):=by
 rw[bA4];cases i;cases j;simp
section
variable {X:Cx}{a b c:Expr}{ta tb tc:TE}{pos:Pos}
theorem cF {ai:List (ay×Obj)}{σ:St}{H:Hp}{s:ax}{Q:VK}{k k':Bool}(I:aA X ai σ H s)(q:Q (.bl k) H)(e:k=k'):EP X ai σ Q (.bool k') s:=by
 subst e
 exact⟨.bl k,H,I,rfl,q⟩
theorem J2:cE X (compareOp .Eq) G6:=by
 intro ai s σ H x y v u Q I rx ry h
 obtain⟨hs,q⟩:=h
 cases x with
 |non=>
  cases rx;cases y with
  |non=>cases ry;exact PySem.EqNone.eq_none_none (cF I q (by simp))
  |bl j=>cases ry;exact PySem.EqNone.eq_none_bool (cF I q (by simp))
  |int j=>obtain⟨t',rfl⟩:=ry;exact PySem.EqNone.eq_none_int (cF I q (by simp))
  |str j=>obtain⟨t',rfl⟩:=ry;exact PySem.EqNone.eq_none_str (cF I q (by simp))
  |_=>exact absurd (show false=true from hs) bq7
 |bl i=>
  cases rx;cases y with
  |non=>cases ry;exact PySem.EqNone.eq_bool_none (cF I q (by simp))
  |bl j=>cases ry;exact eq_bool (cF I q G9)
  |str j=>obtain⟨t',rfl⟩:=ry;exact PySem.EqMixed.eq_bool_str (cF I q (by simp))
  |_=>exact absurd (show false=true from hs) bq7
 |int i=>
  obtain⟨t,rfl⟩:=rx
  cases y with
  |non=>cases ry;exact PySem.EqNone.eq_int_none (cF I q (by simp))
  |int j=>obtain⟨t',rfl⟩:=ry;exact eq_int (cF I q G8)
  |str j=>obtain⟨t',rfl⟩:=ry;exact PySem.EqMixed.eq_int_str (cF I q (by simp))
  |_=>exact absurd (show false=true from hs) bq7
 |str i=>
  obtain⟨t,rfl⟩:=rx
  cases y with
  |non=>cases ry;exact PySem.EqNone.eq_str_none (cF I q (by simp))
  |bl j=>cases ry;exact PySem.EqMixed.eq_str_bool (cF I q (by simp))
  |int j=>obtain⟨t',rfl⟩:=ry;exact PySem.EqMixed.eq_str_int (cF I q (by simp))
  |str j=>obtain⟨t',rfl⟩:=ry;exact eq_str (cF I q J0)
  |_=>exact absurd (show false=true from hs) bq7
 |byt i=>
  obtain⟨t,rfl⟩:=rx
  cases y with
  |byt j=>obtain⟨t',rfl⟩:=ry;exact PySem.W.eq_bytes (cF I q J1)
  |_=>exact absurd (show false=true from hs) bq7
 |_=>cases y<;>exact absurd (show false=true from hs) bq7
theorem av1:cE X (compareOp .NotEq) G7:=by
 intro ai s σ H x y v u Q I rx ry h
 obtain⟨hs,q⟩:=h
 cases x with
 |non=>
  cases rx;cases y with
  |non=>cases ry;exact PySem.EqNone.ne_none_none (cF I q (by simp))
  |bl j=>cases ry;exact PySem.EqNone.ne_none_bool (cF I q (by simp))
  |int j=>obtain⟨t',rfl⟩:=ry;exact PySem.EqNone.ne_none_int (cF I q (by simp))
  |str j=>obtain⟨t',rfl⟩:=ry;exact PySem.EqNone.ne_none_str (cF I q (by simp))
  |_=>exact absurd (show false=true from hs) bq7
 |bl i=>
  cases rx;cases y with
  |non=>cases ry;exact PySem.EqNone.ne_bool_none (cF I q (by simp))
  |bl j=>cases ry;exact ne_bool (cF I q (congrArg not G9))
  |str j=>obtain⟨t',rfl⟩:=ry;exact PySem.EqMixed.ne_bool_str (cF I q (by simp))
  |_=>exact absurd (show false=true from hs) bq7
 |int i=>
  obtain⟨t,rfl⟩:=rx
  cases y with
  |non=>cases ry;exact PySem.EqNone.ne_int_none (cF I q (by simp))
  |int j=>obtain⟨t',rfl⟩:=ry;exact ne_int (cF I q (congrArg not G8))
  |str j=>obtain⟨t',rfl⟩:=ry;exact PySem.EqMixed.ne_int_str (cF I q (by simp))
  |_=>exact absurd (show false=true from hs) bq7
 |str i=>
  obtain⟨t,rfl⟩:=rx
  cases y with
  |non=>cases ry;exact PySem.EqNone.ne_str_none (cF I q (by simp))
  |bl j=>cases ry;exact PySem.EqMixed.ne_str_bool (cF I q (by simp))
  |int j=>obtain⟨t',rfl⟩:=ry;exact PySem.EqMixed.ne_str_int (cF I q (by simp))
  |str j=>obtain⟨t',rfl⟩:=ry;exact ne_str (cF I q (congrArg not J0))
  |_=>exact absurd (show false=true from hs) bq7
 |byt i=>
  obtain⟨t,rfl⟩:=rx
  cases y with
  |byt j=>obtain⟨t',rfl⟩:=ry;exact PySem.W.ne_bytes (cF I q (congrArg not J1))
  |_=>exact absurd (show false=true from hs) bq7
 |_=>cases y<;>exact absurd (show false=true from hs) bq7
theorem av2:cE X (compareOp .Lt) (i7 λi j=>.bl (decide (i<j))):=sE λ_ _ _ _ _ _ _ q=>lt_int q
theorem av3:cE X (compareOp .LtE) (i7 λi j=>.bl (decide (i<=j))):=sE λ_ _ _ _ _ _ _ q=>le_int q
theorem av4:cE X (compareOp .Gt) (i7 λi j=>.bl (decide (j<i))):=sE λ_ _ _ _ _ _ _ q=>gt_int q
theorem av5:cE X (compareOp .GtE) (i7 λi j=>.bl (decide (j<=i))):=sE λ_ _ _ _ _ _ _ q=>ge_int q
theorem lN (b:Expr){op:CmpOp}(h:op≠.In:=by decide)(h2:op≠.NotIn:=by decide):behindInMarks op b=false:=by
 have e1:(op==CmpOp.In)=false:=by cases op<;>first|rfl|exact absurd rfl h
 have e2:(op==CmpOp.NotIn)=false:=by cases op<;>first|rfl|exact absurd rfl h2
 cases b<;>simp[behindInMarks,e1,e2]
theorem av6 {op:CmpOp}{r:R2}(ho:cE X (compareOp op) r)(ha:PE X a ta)(hb:PE X b tb)(hm:behindInMarks op b=false):PE X (.Compare a [op] [b] pos) (oY r ta tb):=by
 intro ai s σ H Q I h;exact wpAny_Compare1 (vL ha hb I h λv u s2 x y H2 I2 rx ry q=>ho ai s2 σ H2 x y v u Q I2 rx ry q) hm
noncomputable def av7 (t:TE):TT:=λσ H Q=>t σ H λx H'=>∃k,x = .bl k/\Q k H'
theorem av8 {op:CmpOp}{r:R2}(ho:cE X (compareOp op) r)(ha:PE X a ta)(hb:PE X b tb)(hm:behindInMarks op b=false):PT X (.Compare a [op] [b] pos) (av7 (oY r ta tb)):=by
 intro ai s σ H Q I h
 refine wpAny_isTrue_Compare1 (aO (ha ai s σ H _ I h) λv s1 ⟨x,H1,I1,r1,q1⟩=>aO (hb ai s1 σ H1 _ I1 q1) λu s2 ⟨y,H2,I2,r2,q2⟩=>
  aO (ho ai s2 σ H2 x y v u _ I2 r1 r2 q2) λc s3 ⟨z,H3,I3,r3,k,e,q3⟩=>?_) hm
 subst e;cases r3;exact bB1 ⟨H3,I3,q3⟩
noncomputable def vO (K:ad)(x:V)(H:Hp)(k:Bool):Prop:=
 match x with
 |.non=>k=false
 |.bl b=>k=b
 |.int i=>k=(i != 0)
 |.str y=>y.length<=sizeLine/\k=((y.length:Int) != 0)
 |.byt y=>y.size<=sizeLine/\k=((y.size:Int) != 0)
 |.ref p=>(∃xs,b8 K H p xs/\k = !xs.isEmpty)∨(∃xs,aQ K H p xs/\k = !xs.isEmpty)∨∃kvs,H p=some (.dK kvs)/\k = !kvs.isEmpty
 |_=>False
theorem av9 {κ:Type}{kvs:List (κ×V)}{vs:List (κ×aw)}(r:KV kvs vs):(!vs.isEmpty) = !kvs.isEmpty:=by
 cases r<;>rfl
theorem J3 {xs:List V}{its:List aw}(r:aN xs its):(!its.toArray.isEmpty) = !xs.isEmpty:=by
 cases r<;>simp
theorem n9:(sizeLine:Nat)<2^63:=by rw[sizeLine_eq];decide
theorem aw0:at7 X (λx H Q=>∃k,vO X.K x H k/\Q k H):=by
 intro ai s σ H x v Q I rx h
 obtain⟨k,e,q⟩:=h
 have hl:=n9;have hs:sizeLine=16777216:=sizeLine_eq;cases x with
 |non=>
  cases rx;have e':k=false:=e;subst e';exact truthy_none ⟨H,I,q⟩
 |bl b=>
  cases rx;have e':k=b:=e;subst e';exact bB1 ⟨H,I,q⟩
 |int i=>
  obtain⟨t,rfl⟩:=rx
  have e':k=(i != 0):=e;subst e';exact PySem.P.truthy_int ⟨H,I,q⟩
 |str y=>
  obtain⟨t,rfl⟩:=rx
  obtain⟨hy,e'⟩:y.length<=sizeLine/\k=((y.length:Int) != 0):=e
  subst e';exact PySem.P.truthy_str (by omega) ⟨H,I.tok _,q⟩
 |byt y=>
  obtain⟨t,rfl⟩:=rx
  obtain⟨hy,e'⟩:y.size<=sizeLine/\k=((y.size:Int) != 0):=e
  subst e';exact PySem.W.truthy_bytes (by omega) ⟨H,I.tok _,q⟩
 |ref p=>
  cases rx;have e':(∃xs,b8 X.K H p xs/\k = !xs.isEmpty)∨(∃xs,aQ X.K H p xs/\k = !xs.isEmpty)∨∃kvs,H p=some (.dK kvs)/\k = !kvs.isEmpty:=e
  rcases e' with⟨xs,hx,e'⟩|⟨xs,hx,e'⟩|⟨kvs,hx,e'⟩
  ·subst e'
   obtain⟨its,r,pl,hz⟩:=I.list hx
   have ao:=r.length;exact wpAny_truthy_list pl.isList (by simp only[bq9];omega) ⟨H,I.tok _,by rw[J3 r];exact q⟩
  ·subst e'
   obtain⟨its,r,pl,hz⟩:=I.tuple hx
   have ao:=r.length;exact truthy_tuple pl (by simp only[bq9];omega) ⟨H,I.tok _,by rw[J3 r];exact q⟩
  ·subst e'
   obtain⟨hz,hS,vs,r,m⟩:kvs.length<=sizeLine/\(p==sysModules)=false/\∃vs,KV kvs vs/\s.heap.DictOf (rQ X.prog X.w) p vs:=I.hok p _ hx
   have ao:kvs.length=vs.length:=Paired.length r;exact wpAny_truthy_dict hS m (by omega) ⟨H,I.tok _,by rw[av9 r];exact q⟩
 |_=>exact (show False from e).elim
theorem aw1 (ha:PE X a ta)(he:∀whole,isTrue a X.env whole=(do let v <- whole;standAt a.pos;holding [v] (truthy v))) :
  PT X a (λσ H Q=>ta σ H λx H'=>∃k,vO X.K x H' k/\Q k H'):=by
 intro ai s σ H Q I h;exact isTrue_plain (aO (ha ai s σ H _ I h) λv s1 ⟨x,H1,I1,r1,q1⟩=>aw0 ai s1 σ H1 x v Q I1 r1 q1) (he _)
theorem jK {x:V}{us:List aw}(r:aN [x] us):∃u,us = [u]/\aR x u:=by
 cases r with
 |cons r1 r2=>cases r2;exact⟨_,rfl,r1⟩
theorem vP {x y:V}{us:List aw}(r:aN [x,y] us):∃u w',us = [u,w']/\aR x u/\aR y w':=by
 cases r with
 |cons r1 r2=>
  cases r2 with
  |cons r3 r4=>cases r4;exact⟨_,_,rfl,r1,r3⟩
end
structure vQ (h:Heap)(x dx C:ay)(mA:Str->Option aw):Prop where
 obj:h.get? x=some (PySem.W.instObj C dx)
 ns:h.Ns1 dx mA
 ne:dx≠x
theorem aw2 {h:Heap}{dx:ay}{mA:Str->Option aw}(n:h.Ns1 dx mA):∃od,h.get? dx=some od/\∀name,PySem.W.lookIn name od=some (mA name):=by
 obtain⟨o,es,ep,ho,hd,hk,_,hm⟩:=n
 refine⟨o,ho,λname=>?_⟩;have e:=hm name;unfold nsFind findBy at e;rw[<- Array.find?_toList]at e;unfold PySem.W.lookIn;rw[hd];dsimp only;split
 ·rename_i y q
  rw[q]at e;exact congrArg some e
 ·rename_i q
  rw[q]at e;have a:es.toList.any (·.refKey)=false:=by
   rw[List.any_eq_false];intro y hy
   obtain⟨z,t,hkey⟩:=hk y (Array.mem_toList_iff.mp hy)
   simp[DictEntry.refKey,hkey]
  have a':¬es.toList.any (·.refKey)=true:=by rw[a];exact bq7
  rw[if_neg a'];exact congrArg some e
theorem vQ.look {h:Heap}{x dx C:ay}{mA:Str->Option aw}(I:vQ h x dx C mA):∃od,PySem.W.InstAt h x (PySem.W.instObj C dx) C (some od)/\∀name,PySem.W.lookIn name od=some (mA name):=
 let ⟨od,ho,hl⟩:=aw2 I.ns
 ⟨od,⟨I.obj,rfl,rfl,ho⟩,hl⟩
theorem iL.some_of {v:V}{o:Option aw}(r:iL (some v) o):∃u,o=some u/\aR v u:=by
 cases o with
 |none=>exact (show False from r).elim
 |some u=>exact⟨u,rfl,r⟩
section
variable {P:az}{w:bc}{H H':Hp}{h h':Heap}{a C dx:ay}{fs fs':List (Str×V)}
theorem aw3 (hok:bT P w H h)(e:H a=some (.ins C dx fs)):∃mA,vQ h a dx C mA/\(∀f,iL (fs.lookup f) (mA f))/\PySem.Within mA (fs.map (·.1))/\fs.length<=1000/\H dx=some (.own a):=by
 obtain⟨d,z,ne,ob,mA,n,r,q⟩:=(show bI P w H h a (.ins C dx fs) from hok a _ e)
 exact⟨mA,⟨ob,n,ne⟩,r,q,z,d⟩
end
structure vR (K:ad)(C:ay):Prop where
 pg:PySem.W.plainGet K C Str.empty=true
 hd:PySem.W.hasDictIn K C=true
 po:PySem.W.plainOver K C=true
 sa:PySem.W.findIn K (.ref C) "__setattr__" = some (some (.builtin "object.__setattr__"))
theorem vR.get {K:ad}{C:ay}(c:vR K C)(f:Str):PySem.W.plainGet K C f=true:=c.pg
section
variable {X:Cx}{ai:List (ay×Obj)}{σ:St}{H:Hp}{s:ax}{A:ba}{E:aw→ax→Prop}{Q:aw→ax→Prop}{c:aw}{b:Bool}
inductive gC (K:ad)(H:Hp):V->aw->Prop where
 |non:gC K H .non (.type "NoneType")
 |bl (x:Bool):gC K H (.bl x) (.type "bool")
 |int (i:Int):gC K H (.int i) (.type "int")
 |str (x:Str):gC K H (.str x) (.type "str")
 |flt (x:UInt64):gC K H (.flt x) (.type "float")
 |lst {a:ay}{xs:List V} (e:H a=some (.lst xs)):gC K H (.ref a) (.type "list")
 |frz {a:ay}{o:Obj}{xs:List V} (e:H a=some (.frz o (.lst xs))):gC K H (.ref a) (.type "list")
 |tup {a:ay}{xs:List V} (e:H a=some (.tup xs)):gC K H (.ref a) (.type "tuple")
 |dK {a:ay}{kvs:List (bO×V)} (e:H a=some (.dK kvs)):gC K H (.ref a) (.type "dict")
 |dT {a:ay}{kvs:List (List bO×V)} (e:H a=some (.dT kvs)):gC K H (.ref a) (.type "dict")
 |ins {a C dx:ay}{fs:List (Str×V)} (e:H a=some (.ins C dx fs)) (cl:vR K C) (ha:PySem.W.findIn K (.ref C) "__class__" = some (some (.builtin "object.__class__")))
   (hn:PySem.W.specialIn K (.builtin "object.__class__") "__get__" = some (some (.builtin "getset_descriptor.__get__"))) (htk:PySem.W.takesIn K (.builtin "object.__class__")=some true)
   (hm:PySem.W.mroIn K C (.type "object")=some true):gC K H (.ref a) (.ref C)
theorem aw4 {x:V}{u t:aw}(I:aA X ai σ H s)(rx:aR x u)(ty:gC X.K H x t)(e:PySem.W.kitOne X.K t c=some b)(h:∀tk,Q (.bool b) { s with toks:=tk }) :
  wpAny (model X.prog X.w) A (call (.builtin "isinstance") [u,c]) Q E s:=by
 cases ty with
 |non=>cases (show u=Value.none from rx);exact by1 PySem.W.kitx_none I.kIn bG8 e (λz=>nomatch z) h
 |bl y=>cases (show u=Value.bool y from rx);exact by1 PySem.W.kitx_bool I.kIn bG8 e (λz=>nomatch z) h
 |int i=>obtain⟨t,q⟩:=(show ∃t,u=Value.int i t from rx);cases q;exact by1 PySem.W.kitx_int I.kIn bG8 e (λz=>nomatch z) h
 |str y=>obtain⟨t,q⟩:=(show ∃t,u=Value.str y t from rx);cases q;exact by1 PySem.W.kitx_str I.kIn bG8 e (λz=>nomatch z) h
 |flt y=>obtain⟨t,q⟩:=(show ∃t,u=Value.float y t from rx);cases q;exact by1 PySem.W.kitx_float I.kIn bG8 e (λz=>nomatch z) h
 |@lst a xs ea=>
  cases (show u=Value.ref a from rx)
  obtain⟨_,_,n,_,h1⟩:=(show bI X.prog X.w H s.heap a (.lst xs) from I.hok a _ ea)
  exact by1 PySem.W.kitx_list I.kIn ⟨_,h1,rfl⟩ e (λz=>nomatch z) h
 |@frz a ob xs ea=>
  cases (show u=Value.ref a from rx)
  obtain⟨_,_,_,n,_,h1⟩:=(show bI X.prog X.w H s.heap a (.frz ob (.lst xs)) from I.hok a _ ea)
  exact by1 PySem.W.kitx_list I.kIn ⟨_,h1,rfl⟩ e (λz=>nomatch z) h
 |@tup a xs ea=>
  cases (show u=Value.ref a from rx)
  obtain⟨_,_,_,p,_⟩:=(show bI X.prog X.w H s.heap a (.tup xs) from I.hok a _ ea)
  obtain⟨o,h1,h2,_⟩:=p
  exact by1 PySem.W.kitx_tuple I.kIn ⟨o,h1,h2⟩ e (λz=>nomatch z) h
 |@dK a kvs ea=>
  cases (show u=Value.ref a from rx)
  obtain⟨_,_,vs,_,p⟩:=(show bI X.prog X.w H s.heap a (.dK kvs) from I.hok a _ ea)
  obtain⟨o,es,ep,h1,h2,_⟩:=p
  exact by1 PySem.W.kitx_dict I.kIn ⟨o,h1,h2.1⟩ e (λz=>nomatch z) h
 |@dT a kvs ea=>
  cases (show u=Value.ref a from rx)
  obtain⟨_,_,xs,_,o,es,ep,h1,h2,_⟩:=(show bI X.prog X.w H s.heap a (.dT kvs) from I.hok a _ ea)
  exact by1 PySem.W.kitx_dict I.kIn ⟨o,h1,h2.1⟩ e (λz=>nomatch z) h
 |@ins a C dx fs ea cl ha hn htk hm=>
  cases (show u=Value.ref a from rx)
  obtain⟨mA,O,_⟩:=aw3 I.hok ea
  obtain⟨od,J,_⟩:=O.look
  exact by1 (PySem.W.kitx_own (cl.get _) cl.hd ha hn htk hm) I.kIn J e (λz=>nomatch z) h
end
structure bM (k:Nat)(A:ba):Prop where
 hd:A.handled=none
 dp:A.depth+3*k+5<recursionLimit
 un:A.units+16*k+200<cLine
theorem bM.mono {j k:Nat}{A:ba}(r:bM k A)(h:j<=k):bM j A:=⟨r.hd,by have:=r.dp;omega,by have:=r.un;omega⟩
theorem bM.deeper {k:Nat}{A:ba}(r:bM (k+1) A)(env:Env):bM k (A.deeper env):=
 ⟨r.hd,by have:=r.dp;show A.depth+1+3*k+5<_;omega,by have:=r.un;show A.units+3+16*k+200<_;omega⟩
theorem bM.depth {k:Nat}{A:ba}(r:bM k A):A.depth<recursionLimit:=by have:=r.dp;omega
theorem bM.units {k:Nat}{A:ba}(r:bM k A):A.units+64<cLine:=by have:=r.un;omega
noncomputable def kP:TA:=λ_ H Q=>Q [] H
noncomputable def gD (ta:TE)(tr:TA):TA:=λσ H Q=>ta σ H λx H1=>tr σ H1 λxs H2=>Q (x::xs) H2
section
variable {X:Cx}{e:Expr}{es:List Expr}{te:TE}{t:TA}{pos:Pos}
theorem iM:PA X [] kP:=λ_ _ _ _ H Q I h=>Calls.spliced_nil ⟨[],H,I,.nil,h⟩
theorem eR (ha:PE X e te)(hr:PA X es t)(hs:starEach (e::es) X.env=(false,eval e X.env)::starEach es X.env:=by rfl):PA X (e::es) (gD te t):=by
 intro pos ai s σ H Q I h;rw[hs];show wpAny _ _ (spliced ((false,eval e X.env)::backTo pos (starEach es X.env))) _ _ s;refine Calls.spliced_cons (aO (ha ai s σ H _ I h) λu s1 ⟨x,H1,I1,r1,q1⟩=>?_);exact aO (hr pos ai s1 σ H1 _ I1 q1) λus s2 ⟨xs,H2,I2,r2,q2⟩=>⟨x::xs,H2,I2,.cons r1 r2,q2⟩
noncomputable def J4 (t:TA):TE:=λσ H Q=>t σ H λxs H1=>xs.length<=sizeLine/\∀p,H1 p=none->Q (.ref p) (upd H1 p (.tup xs))
noncomputable def J5 (t:TA):TE:=λσ H Q=>t σ H λxs H1=>xs.length<=sizeLine/\∀p,H1 p=none->Q (.ref p) (upd H1 p (.lst xs))
theorem aw5 {x1}(h:PA X es t):PE X (.Tuple es x1 pos) (J4 t):=by
 intro ai s σ H Q I hq;refine wpAny_Tuple_spliced (aO (h pos ai s σ H _ I hq) λus s1 ⟨xs,H1,I1,r,z,q⟩=>⟨by rw[<- r.length];exact z,?_⟩);have hf:H1 s1.heap.objs.size=none:=I1.hok.fresh (bq4 _);refine⟨.ref s1.heap.objs.size,upd H1 s1.heap.objs.size (.tup xs),I1.laid (t':=s1.toks) (λb u e=>bq0 _ e) (bq4 _) ?_,rfl,q _ hf⟩
 exact⟨z,us,r,⟨_,br7 _ rfl,rfl,_,rfl⟩,hZ.new _ _ rfl⟩
theorem J6 (h:PA X es t):PE X (.List es pos) (J5 t):=by
 intro ai s σ H Q I hq;refine wpAny_List_spliced (aO (h pos ai s σ H _ I hq) λus s1 ⟨xs,H1,I1,r,z,q⟩=>⟨by rw[<- r.length];exact z,?_⟩);have hf:H1 s1.heap.objs.size=none:=I1.hok.fresh (bq4 _);refine⟨.ref s1.heap.objs.size,upd H1 s1.heap.objs.size (.lst xs),I1.laid (t':=s1.toks) (λb u e=>bq0 _ e) (bq4 _) ?_,rfl,q _ hf⟩
 exact⟨z,us,0,r,br7 _ rfl⟩
end
noncomputable abbrev Sp:=List V->Hp->VK->XK->Prop
noncomputable abbrev fD:=List Env->Hp->ax->XK->aw->ax->Prop
structure p6 (P:az)(w:bc)(K:ad)(mg:Str->Option aw)(base:Heap)(A:ba)(outer:List Env)(s:ax)(H:Hp):Prop where
 frames:A.frames=some outer
 mod:Mod K mg base
 bs:∀b o,base.get? b=some o->s.heap.get? b=some o/\H b=none
 bsz:base.objs.size<=s.heap.objs.size
 funs:s.heap.FunFrames base outer
 frf:∀b∈cD outer,H b=none
 hok:bT P w H s.heap
 bare:AllBare s.gens
noncomputable def CE (outer:List Env)(P:az)(w:bc)(H:Hp)(s:ax)(Q:VK)(u:aw)(s':ax):Prop:=
 ∃v H',s'.os=s.os/\AllBare s'.gens/\Un (cD outer) [] H H' s.heap s'.heap/\bT P w H' s'.heap/\aR v u/\Q v H'
noncomputable def CR (CX:fD)(outer:List Env)(P:az)(w:bc)(H:Hp)(s:ax)(Q:VK)(E:XK)(r:Result)(s':ax):Prop:=
 match r with
 |.ok (.ret u)=>CE outer P w H s Q u s'
 |.ok _=>False
 |.error e=>CX outer H s E e s'
structure d7 (P:az)(w:bc)(K:ad)(mg:Str->Option aw)(base:Heap)(CX:fD)(k:Nat)(f:ay)(fd:FuncData)(ps:List Str)(sp:Sp):Prop where
 len:∀vs H Q E,sp vs H Q E->vs.length=ps.length
 run:∀(A:ba) (outer:List Env) (s:ax) (H:Hp) (args:Args) (us:List aw) (vs:List V) (Q:VK) (E:XK),bM k A->p6 P w K mg base A outer s H->BindsTo s fd args (ps.zip us)->aN vs us->sp vs H Q E->
  codeAny (model P w) A (.call (.ref f) args) (CR CX outer P w H s Q E) s
theorem d7.imp {P:az}{w:bc}{K:ad}{mg:Str->Option aw}{base:Heap}{CX:fD}{k:Nat}{f:ay}{fd:FuncData}{ps:List Str}{sp sp':Sp}(F:d7 P w K mg base CX k f fd ps sp)(h:∀vs H Q E,sp' vs H Q E->sp vs H Q E):d7 P w K mg base CX k f fd ps sp':=
 ⟨λvs H Q E q=>F.len vs H Q E (h _ _ _ _ q),λA outer s H args us vs Q E hr he hb hv hs=>F.run A outer s H args us vs Q E hr he hb hv (h _ _ _ _ hs)⟩
section
variable {X:Cx}{ai:List (ay×Obj)}{σ:St}{H:Hp}{s s':ax}
theorem aA.env0 (I:aA X ai σ H s):p6 X.prog X.w X.K X.mg X.base X.A X.stack s H:=
 ⟨I.ok.frames,I.ok.mod,I.bs,bt6 I.ok.bsz I.sz,I.stack,I.stkFree,I.hok,I.bare⟩
theorem aA.after {Q:VK}{u:aw}(I:aA X ai σ H s)(h:CE X.stack X.prog X.w H s Q u s'):EP X ai σ Q u s':=by
 obtain⟨v,H',os,bare,un,hok,r,q⟩:=h
 obtain⟨hh,g,d,t,os'⟩:=s'
 obtain rfl:os'=s.os:=os
 exact⟨v,H',I.call (h':=hh) (g':=g) (d':=d) (t':=t) (ch:=[]) un hok bare (λb z=>absurd z (by simp)),r,q⟩
end
noncomputable def nA (sp:Sp)(dvs:List V)(E:XK)(t:TA):TE:=λσ H Q=>t σ H λvs H1=>sp (vs++dvs) H1 Q E
noncomputable def i8 (K:ad)(fd:FuncData)(ps:List Str)(ds:List aw):Prop:=
 ∀(s:ax) (us:List aw),K.In s.heap->(us++ds).length=ps.length->BindsTo s fd ⟨us,[]⟩ (ps.zip (us++ds))
theorem i8.all {K:ad}{fd:FuncData}{ps:List Str}(h:∀us:List aw,us.length=ps.length->bindArgs fd ⟨us,[]⟩=pure (ps.zip us)):i8 K fd ps []:=λs us _ hl=>by
 rw[bu0]at hl ⊢;exact .of_eq (h us hl)
noncomputable def lO (CX:fD)(X:Cx)(E:XK):Prop:=∀(ai:List (ay×Obj)) (σ:St) (H:Hp) (s:ax) (e:aw) (s':ax),aA X ai σ H s->CX X.stack H s E e s'->X.xe e s'
section
variable {X:Cx}{CX:fD}{k:Nat}{f C:ay}{fd:FuncData}{ps:List Str}{sp:Sp}{dvs:List V}{ds:List aw}{E:XK}{x m:Str}{p pos aj:Pos}{e o:Expr}{es:List Expr}{ta:TE}{t:TA}
theorem J7 {ai:List (ay×Obj)}{σ:St}{H:Hp}{s:ax}{Q:VK}{us:List aw}{vs:List V}(F:d7 X.prog X.w X.K X.mg X.base CX k f fd ps sp)(hr:bM k X.A)(hb:i8 X.K fd ps ds)(hd:aN dvs ds)(hx:lO CX X E)(I:aA X ai σ H s)(r:aN vs us)(h:sp (vs++dvs) H Q E):wpAny (model X.prog X.w) X.A (call (.ref f) us) (EP X ai σ Q) X.xe s:=by
 have r2:aN (vs++dvs) (us++ds):=r.append hd;have hl:(us++ds).length=ps.length:=by rw[<- r2.length];exact F.len _ _ _ _ h
 refine wpAny_call (codeAny_mono (F.run X.A X.stack s H ⟨us,[]⟩ (us++ds) (vs++dvs) Q E hr I.env0 (hb s us I.kIn hl) r2 h) λr s' hq=>?_);cases r with
 |error e=>exact hx ai σ H s e s' I hq
 |ok fl=>
  cases fl with
  |ret u=>exact I.after hq
  |next=>exact False.elim hq
  |brk=>exact False.elim hq
  |cont=>exact False.elim hq
theorem p8 (F:d7 X.prog X.w X.K X.mg X.base CX k f fd ps sp)(hr:bM k X.A)(hg:Gl X x)(hm:X.mg x=some (.ref f))(hk:PySem.W.keepIn X.K (.ref f)=true)(hb:i8 X.K fd ps ds)(hd:aN dvs ds)(hx:lO CX X E)(ha:PA X (e::es) t)(hdb:(x==("__debug__":Str))=false:=by decide)(he:starEach (e::es) X.env=(false,eval e X.env)::starEach es X.env:=by rfl)(hpl:(backTo pos (starEach es X.env)).any (·.1)=false:=by rfl) :
  PE X (.Call (.Name x p) (e::es) [] pos) (nA sp dvs E t):=by
 intro ai s σ H Q I h;refine bC6 (rS I hg hm ?_ hdb);refine PySem.W.callWith_K (h₀:=X.base) I.ok.mod.kin hk (aO (ha pos ai s σ H _ I h) λus s1 ⟨vs,H1,I1,r,q⟩=>⟨I1.kIn,?_⟩) he hpl;exact J7 F hr hb hd hx I1 r q
end
noncomputable def PK (X:Cx)(kws:List Keyword)(t:TA):Prop:=
 ∀(pos:Pos) (ai:List (ay×Obj)) (s:ax) (σ:St) (H:Hp) (Q:List V->Hp->Prop),aA X ai σ H s->t σ H Q->wpAny (model X.prog X.w) X.A (evalAll ((backToKw pos (keywordEach kws X.env)).map (·.2))) (AP X ai σ Q) X.xe s
structure FnScope (N P:List Str)(sc:Scope):Prop where
 kind:sc.kind = .function
 co:sc.isCoroutine=false
 gen:sc.isGenerator=false
 nd:N.Nodup
 pre:N.take P.length=P
 par:∀x∈P,sc.names.lookup x=some .local∨sc.names.lookup x=some .cell
 nofree:∀y∈sc.names,y.2≠.free
theorem J8 {kindOf:Str->Option NameKind}{x:Str}:∀{binds:List (Str×aw)}{m:Str->Option aw},(∀v,(x,v)∉binds)->bindL kindOf binds m x=m x
 |[],_,_=>rfl
 |(n,v)::r,m,h=>by
  unfold bindL;rw[J8 λw hw=>h w (bq8 _ hw)];split
  ·have:x≠n:=by rintro rfl;exact h v bq3
   simp[this]
  ·rfl
theorem J9 {kindOf:Str->Option NameKind}{x:Str}:∀{binds:List (Str×aw)}{m:Str->Option aw},(∀v,(x,v)∉binds)->bindC kindOf binds m x=m x
 |[],_,_=>rfl
 |(n,v)::r,m,h=>by
  unfold bindC;rw[J9 λw hw=>h w (bq8 _ hw)];split
  ·rfl
  ·have:x≠n:=by rintro rfl;exact h v bq3
   simp[this]
theorem K0 {kindOf:Str->Option NameKind}{x:Str}{v:aw}:∀{P:List Str}{vs:List aw}{i:Nat}{m:Str->Option aw},P.Nodup->P[i]? = some x->vs[i]? = some v->kindOf x=some .local->
  bindL kindOf (P.zip vs) m x=some v
 |[],_,_,_,_,h,_,_=>by simp at h
 |_::_,[],_,_,_,_,h,_=>by simp at h
 |p::P,w::vs,0,m,nd,h1,h2,hk=>by
  simp at h1 h2;subst h1;subst h2;show bindL kindOf ((p,w)::P.zip vs) m p=_;unfold bindL;rw[J8 λv hv=>(bx1.mp nd).1 (List.of_mem_zip hv).1,if_pos hk];simp
 |p::P,w::vs,i+1,m,nd,h1,h2,hk=>by
  show bindL kindOf ((p,w)::P.zip vs) m x=_;unfold bindL;exact K0 (i:=i) (bx1.mp nd).2 (by simpa using h1) (by simpa using h2) hk
theorem K1 {kindOf:Str->Option NameKind}{x:Str}{v:aw}:∀{P:List Str}{vs:List aw}{i:Nat}{m:Str->Option aw},P.Nodup->P[i]? = some x->vs[i]? = some v->kindOf x≠some .local->
  bindC kindOf (P.zip vs) m x=some v
 |[],_,_,_,_,h,_,_=>by simp at h
 |_::_,[],_,_,_,_,h,_=>by simp at h
 |p::P,w::vs,0,m,nd,h1,h2,hk=>by
  simp at h1 h2;subst h1;subst h2;show bindC kindOf ((p,w)::P.zip vs) m p=_;unfold bindC;rw[J9 λv hv=>(bx1.mp nd).1 (List.of_mem_zip hv).1,if_neg hk];simp
 |p::P,w::vs,i+1,m,nd,h1,h2,hk=>by
  show bindC kindOf ((p,w)::P.zip vs) m x=_;unfold bindC;exact K1 (i:=i) (bx1.mp nd).2 (by simpa using h1) (by simpa using h2) hk
noncomputable def fR (N:List Str)(vs:List V):St:=vs.map some++List.replicate (N.length-vs.length) none
noncomputable def cJ (CX:fD)(P:az)(w:bc)(K:ad)(mg:Str->Option aw)(base:Heap)(N:List Str)(qual:Str)(scope:Scope)(f:ay)(cd:aw)(A:ba)(outer:List Env)(s:ax)(H:Hp)(E:XK):Cx where
 prog:=P
 w:=w
 K:=K
 mg:=mg
 base:=base
 A:=A.deeper (envOfC qual scope s.heap.objs.size f cd)
 N:=N
 s₀:=s
 H₀:=H
 env:=envOfC qual scope s.heap.objs.size f cd
 outer:=outer
 stack:=envOfC qual scope s.heap.objs.size f cd::outer
 ex:=[]
 calm:=true
 fn:=λ_=>true
 pn:=[]
 xe:=λe s'=>wpAny (model P w) (A.deeper (envOfC qual scope s.heap.objs.size f cd)) (leaving (envOfC qual scope s.heap.objs.size f cd) e) (λ_ s''=>CX outer H s E e s'') (λe' s''=>CX outer H s E e' s'') s'
theorem K2 {sc:Scope}{n:Nat}{x:Str}(h:sc.names.lookup x=some .cell):∃c,(cellsFrom n sc.names []).lookup x=some c:=by
 have q:=PySem.W.cellsFrom_some sc.names n [] (.inl h);exact Option.isSome_iff_exists.mp q
theorem K3 {CX:fD}{P:az}{w:bc}{K:ad}{mg:Str->Option aw}{base:Heap}{N ps:List Str}{qual:Str}{scope:Scope}{f:ay}{cd:aw}{A:ba}{outer:List Env}{s s1:ax}{H:Hp}{E:XK}{us:List aw}{vs:List V}(S:FnScope N ps scope)(hd:A.handled=none)(e0:p6 P w K mg base A outer s H)(hl:vs.length=ps.length)(r:aN vs us)(x:InCallC s s.heap.objs.size (bindL (envOfC qual scope s.heap.objs.size f cd).kindOf (ps.zip us) λ_=>none) (cellsFrom (s.heap.objs.size+1) scope.names []) (bindC (envOfC qual scope s.heap.objs.size f cd).kindOf (ps.zip us) λ_=>none) s1) :
  aA (cJ CX P w K mg base N qual scope f cd A outer s H E) [] (fR N vs) H s1:=by
 have hpl:ps.length<=N.length:=by have:=congrArg List.length S.pre;rw[List.length_take]at this;omega
 obtain⟨h1,tk,rfl,hk⟩:=x.done
 have noA:∀b:ay,b∉(cJ CX P w K mg base N qual scope f cd A outer s H E).ex:=λb z=>absurd (show b∈([]:List ay) from z) (by simp)
 refine⟨⟨e0.mod,S.kind,rfl,rfl,bq4 _,λy z c h1 h2=>?_,λy hy=>?_,λy c _ h=>?_,λ_=>hd,Around.frames_deeper e0.frames,.inr ⟨rfl,rfl⟩,λb z=>absurd z (noA b),e0.bs,e0.bsz,λb _ _=>noA b,λb z=>absurd z (noA b),e0.funs,e0.frf⟩,
  rfl,e0.bare,Un.kept hk,⟨_,x.toInCall.ns,λi y v h1 h2 h3=>?_⟩,λy c h=>⟨_,x.cell y c h⟩,e0.hok.fresh (bq4 _),λy c h=>?_,λp hp=>absurd (show p∈([]:List (ay×Obj)) from hp) (by simp),e0.hok.kept hk,?_⟩
 ·exact name_of_addr x.apart (bv6 h1) (bv6 h2)
 ·have hy:scope.names.lookup y=some .cell∨scope.names.lookup y=some .free:=hy
  rcases hy with hy|hy
  ·exact K2 hy
  ·exact absurd rfl (S.nofree _ (bv6 hy))
 ·exact by9 (x.above y c (bv6 h))
 ·have hi:i<vs.length:=by
   unfold fR at h2;by_cases hi:i<vs.length
   ·exact hi
   ·rw[bB2 (by simpa using hi)]at h2
    rw[List.getElem?_replicate]at h2;split at h2<;>cases h2
  have ha:vs[i]? = some v:=by
   unfold fR at h2;rw[bz9 (by simpa using hi),br5]at h2;cases e:vs[i]? with
   |none=>rw[e]at h2;cases h2
   |some a=>rw[e]at h2;cases h2;rfl
  obtain⟨u,hu,rv⟩:=r.get ha
  have hp:ps[i]? = some y:=by
   rw[<- S.pre,List.getElem?_take_of_lt (by omega)];exact h1
  have ndP:ps.Nodup:=by rw[<- S.pre];exact S.nd.sublist (List.take_sublist _ _)
  refine⟨u,rv,?_⟩;rcases S.par y (bv1 hp) with k|k
  ·exact .inl ⟨k,K0 ndP hp hu k⟩
  ·obtain⟨c,e⟩:=K2 (n:=s.heap.objs.size+1) k
   refine .inr ⟨.inl k,c,e,?_⟩;have q:=x.cell y c e;rw[K1 ndP hp hu (by show scope.names.lookup y≠_;rw[k];decide)]at q;exact q
 ·exact e0.hok.fresh (by9 (x.above y c (bv6 h)))
 ·unfold fR
  show _=N.length;rw[br4,bq6,List.length_replicate];omega
theorem vS {CX:fD}{P:az}{w:bc}{K:ad}{mg:Str->Option aw}{base:Heap}{k:Nat}{f:ay}{name qual:Str}{params:Arguments}{body:List Stmt}{scope:Scope}{dV kV doc pm cdv ct oc:aw}{an od:Option ay}{osl:Array (Option aw)}{N ps:List Str}{sp:Sp}(lk:K.lookup f=some ⟨oc,od,.func (PySem.W.fnOf name qual params body scope dV kV doc pm an cdv ct),osl⟩)(hcd:PySem.W.codeIn K cdv qual=true)(S:FnScope N ps scope)(len:∀vs H Q E,sp vs H Q E->vs.length=ps.length)(hbody:∀(A:ba) (outer:List Env) (s:ax) (H:Hp) (vs:List V) (Q:VK) (E:XK),bM k (A.deeper (envOfC qual scope s.heap.objs.size f cdv))->sp vs H Q E->
   ∃t,dN (cJ CX P w K mg base N qual scope f cdv A outer s H E) body t/\t { nx:=λ_ H'=>Q .non H',rt:=Q } (fR N vs) H) :
  d7 P w K mg base CX (k+1) f (PySem.W.fnOf name qual params body scope dV kV doc pm an cdv ct) ps sp:=by
 refine⟨len,λA outer s H args us vs Q E hr e0 hb r hsp=>?_⟩;have hl:=len _ _ _ _ hsp;have KX:K.In s.heap:=e0.mod.kin.keeps λb o e=>(e0.bs b o e).1
 have lim:s.heap.NoLimit:=e0.mod.nolimit.keeps λb o e=>(e0.bs b o e).1
 have hkind:∀y∈ps.zip us,scope.names.lookup y.1=some .local∨(scope.names.lookup y.1=some .cell/\((cellsFrom (s.heap.objs.size+1) scope.names []).lookup y.1).isSome=true):=λ⟨n,v⟩ hy=>by
  rcases S.par n (List.of_mem_zip hy).1 with q|q
  ·exact .inl q
  ·exact .inr ⟨q,PySem.W.cellsFrom_some _ _ _ (.inl q)⟩
 refine codeAny_call_function hr.depth (KX _ _ lk) rfl S.co S.gen rfl (PySem.W.codeRec_of KX hcd) (hb _ _ _ _ ?_);refine wpAny_newFunctionEnv_cells S.kind hkind λenv he s1 x=>?_
 subst he;refine⟨lim.keeps x.toInCall.keep,codeAny_func ?_⟩
 obtain⟨t,ht,hq⟩:=hbody A outer s H vs Q E (hr.deeper _) hsp
 have I:aA (cJ CX P w K mg base N qual scope f cdv A outer s H E) [] (fR N vs) H s1:=K3 S hr.hd e0 hl r x;refine bw0 (ht [] s1 (fR N vs) H _ I hq) (λfl s' hs=>?_) λe s' hs=>hs
 have fin:∀{σ':St}{H':Hp}{v:V}{u:aw},aA (cJ CX P w K mg base N qual scope f cdv A outer s H E) [] σ' H' s'->aR v u->Q v H'->CE outer P w H s Q u s':=
  λ{σ' H' v u} J rv q=>⟨v,H',J.os,J.bare,J.base,J.hok,rv,q⟩
 cases fl with
 |ret u=>
  obtain⟨v,σ',H',J,rv,q⟩:=hs
  exact fin J rv q
 |next=>
  obtain⟨σ',H',J,q⟩:=hs
  exact fin (v:=V.non) (u:=Value.none) J rfl q
 |brk=>
  obtain⟨_,_,_,q⟩:=hs
  exact False.elim q
 |cont=>
  obtain⟨_,_,_,q⟩:=hs
  exact False.elim q
section
variable {X:Cx}{x:Str}{p pos:Pos}{e:Expr}{es:List Expr}{t:TA}{id T:String}{r:List V→Hp→VK→Prop}
noncomputable def vT (r:List V->Hp->VK->Prop)(t:TA):TE:=λσ H Q=>t σ H λvs H1=>r vs H1 Q
theorem K4 (hc:e8 X (.builtin id) r)(hg:Gl X x)(hm:X.mg x=none)(hv:bootBuiltins x=some (.builtin id))(ha:PA X (e::es) t)(hn:x≠"__name__":=by decide)(hdb:(x==("__debug__":Str))=false:=by decide)(he:starEach (e::es) X.env=(false,eval e X.env)::starEach es X.env:=by rfl)(hpl:(backTo pos (starEach es X.env)).any (·.1)=false:=by rfl):PE X (.Call (.Name x p) (e::es) [] pos) (vT r t):=by
 intro ai s σ H Q I h;refine bC6 (lI I hg hm hv ?_ hn hdb);exact PyProof.Rows.callWith_builtin1 (aO (ha pos ai s σ H _ I h) λus s1 ⟨vs,H1,I1,r1,q1⟩=>hc ai s1 σ H1 vs us Q I1 r1 q1) he hpl
theorem aw6 (hc:e8 X (.type T) r)(hg:Gl X x)(hm:X.mg x=none)(hv:bootBuiltins x=some (.type T))(ha:PA X (e::es) t)(hn:x≠"__name__":=by decide)(hdb:(x==("__debug__":Str))=false:=by decide)(he:starEach (e::es) X.env=(false,eval e X.env)::starEach es X.env:=by rfl)(hpl:(backTo pos (starEach es X.env)).any (·.1)=false:=by rfl):PE X (.Call (.Name x p) (e::es) [] pos) (vT r t):=by
 intro ai s σ H Q I h;refine bC6 (lI I hg hm hv ?_ hn hdb);exact bB0 (aO (ha pos ai s σ H _ I h) λus s1 ⟨vs,H1,I1,r1,q1⟩=>hc ai s1 σ H1 vs us Q I1 r1 q1) he hpl
end
end L2
namespace HT
open PySem PyProof.Rows
noncomputable def cK:ag->ag->Bool
 |[],[]=>false
 |[],_::_=>true
 |_::_,[]=>false
 |x::xs,y::ys=>if x=y then cK xs ys else decide (x<y)
theorem jL (x y:Int)(xs ys:ag):cK (x::xs) (y::ys)=if x=y then cK xs ys else decide (x<y):=rfl
theorem K5:cK [] []=false:=rfl
theorem aw7 (y:Int)(ys:ag):cK [] (y::ys)=true:=rfl
theorem aw8 (x:Int)(xs:ag):cK (x::xs) []=false:=rfl
theorem K6 (A:ba)(s:ax)(a:Int)(t:Tok)(c:Int)(u:Tok):∃e,SeqAt.EqAt A s (.int a t) (.int c u) e/\(e=true↔a=c):=
 ⟨(a==c),SeqAt.EqAt.int_int a t c u,by simp⟩
theorem K7 (A:ba)(s:ax)(a:Int)(t:Tok)(c:Int)(u:Tok)(prog:az)(w:bc)(E:aw->ax->Prop)(Q:aw->ax->Prop)(h:Q (.bool (decide (a<c))) s) :
  wpAny (model prog w) A (richCompare .Lt (.int a t) (.int c u)) Q E s:=
 (PyProof.Rows.lt_int h:wpAny (model prog w) A (compareOp .Lt (.int a t) (.int c u)) Q E s)
section
open PySem.SeqAt
open PySem.AutoSeq1 (wpAny_loadPart')
open PySem.MeetsSeq PySem.MeetsSeq2 PySem.MeetsSeq3
theorem aw9 (l b:ay)(items items2:Array aw)(n n2:Nat)(dd dd2:Option ay)(sl sl2:Array (Option aw))(ns ms:ag)(hi:IntsAre items.toList ns)(hj:IntsAre items2.toList ms) :
  Meets (Builtin.«tuple.__lt__» ⟨[.ref l,.ref b],[]⟩)
   (λ_ R s=>s.heap.get? l=some { cls:=.type "tuple",dict:=dd,data:=.seq items n,slots:=sl }/\s.heap.get? b=some { cls:=.type "tuple",dict:=dd2,data:=.seq items2 n2,slots:=sl2 }/\
    R (.ok (.ret (.bool (cK ns ms)))) s):=
 .of_wp λprog w A R s h=>by
  obtain⟨hp,g,d,tk,os⟩:=s;obtain⟨hl,hb,h⟩:=h
  have f2:=AutoSeq1.sub_tuple_tuple;have z1:items.size=ns.length:=by rw[<- hi.length];simp
  have z2:items2.size=ms.length:=by rw[<- hj.length];simp
  wp_walk using wpAny_loadPart' hl,wpAny_loadPart' hb,wpAny_forIn_list _ (λrest b s'=>b.1=none/\s'=⟨hp,g,d,tk,os⟩/\∃(vs ws:List aw) (ns' ms':ag),rest=vs.zip ws/\
   IntsAre vs ns'/\IntsAre ws ms'/\ns'.length+items2.size=ms'.length+items.size/\R (.ok (.ret (.bool (cK ns' ms')))) ⟨hp,g,d,tk,os⟩) _
  case turn=>
   rintro⟨y,x⟩ rest b s' ⟨hb',rfl,vs,ws,ns',ms',hz,hvi,hwi,ao,hR⟩
   cases hvi with
   |nil=>rw[List.zip_nil_left]at hz;cases hz
   |cons a t hvi'=>
    cases hwi with
    |nil=>rw[List.zip_nil_right]at hz;cases hz
    |cons c u hwi'=>
     rw[bC4]at hz;injection hz with hyx hrest
     injection hyx with hy hx
     subst hy hx;rw[jL]at hR;simp only[bu9]at ao
     obtain⟨e,he,hiff⟩:=K6 A.in1 ⟨hp,g,d,tk,os⟩ a t c u
     refine bp7 (he prog w _ _ ?_);cases e with
     |true=>
      rw[if_pos (hiff.mp rfl)]at hR
      wp_walk
      exact⟨rfl,rfl,_,_,_,_,hrest,hvi',hwi',by omega,hR⟩
     |false=>
      rw[if_neg (λq=>absurd (hiff.mpr q) bq7)]at hR;have hri:=K7 A.in1 ⟨hp,g,d,tk,os⟩ a t c u prog w
      wp_walk using hri
      exact⟨_,rfl,by simpa using hR⟩
  case fin=>
   rintro⟨b1,b2⟩ s' ⟨hb',rfl,vs,ws,ns',ms',hz,hvi,hwi,ao,hR⟩
   simp only at hb';subst hb';have hv:cK ns' ms'=decide (items.size<items2.size):=by
    cases hvi with
    |nil=>
     cases hwi with
     |nil=>
      simp only[List.length_nil]at ao;rw[K5];exact (bp9 (by omega)).symm
     |cons c u hw=>
      simp only[List.length_nil,bu9]at ao;rw[aw7];exact (bq2 (by omega)).symm
    |cons a t hv=>
     cases hwi with
     |nil=>
      simp only[List.length_nil,bu9]at ao;rw[aw8];exact (bp9 (by omega)).symm
     |cons c u hw=>
      rw[bC4]at hz;cases hz
   rw[hv]at hR
   wp_walk
   exact⟨_,rfl,by simpa[Builtin.Tuple.tupleCompareSizes] using hR⟩
  case h=>
   exact⟨rfl,rfl,items.toList,items2.toList,ns,ms,rfl,hi,hj,by omega,h⟩
end
section
variable {prog:az}{w:bc}{A:ba}{E:aw→ax→Prop}{s:ax}
theorem ax0 {l b:ay}{items items2:Array aw}{ns ms:ag}{Q:aw->ax->Prop}(hl:IsTup s.heap l items)(hb:IsTup s.heap b items2)(hi:IntsAre items.toList ns)(hj:IntsAre items2.toList ms)(hu:A.units<cLine)(h:Q (.bool (cK ns ms)) s):wpAny (model prog w) A (compareOp .Lt (.ref l) (.ref b)) Q E s:=by
 obtain⟨⟨cls,dd,data,sl⟩,ho,hc,n,hd⟩:=id hl
 obtain⟨⟨cls2,dd2,data2,sl2⟩,ho2,hc2,n2,hd2⟩:=id hb
 simp only at hc hd hc2 hd2;subst hc hd hc2 hd2;exact richCompare_meets_room (op:=.Lt) ⟨_,ho,rfl⟩ ⟨_,ho2,rfl⟩ PySem.F.slot_tuple_lt PySem.F.entry_tuple_lt (PySem.F.args_tuple_lt_2 _ _) (aw9 l b items items2 n n2 dd dd2 sl sl2 ns ms hi hj)
  ⟨ho,ho2,show Value.bool (cK ns ms)≠Value.notImplemented/\Q (.bool (cK ns ms)) s from ⟨(λx=>nomatch x),h⟩⟩ hu
theorem ax1 {t b:ay}{vs ws:List aw}{Q:aw->ax->Prop}(ht:IsTup s.heap t vs.toArray)(hb:IsTup s.heap b ws.toArray)(hv:vs≠[])(h1:ws = []->Q (.ref t) s)(h2:ws≠[]->Q (.ref s.heap.objs.size) { s with heap:=s.heap.push { cls:=.type "tuple",data:=.seq (vs++ws).toArray } })(hsz:vs.length+ws.length<=sizeLine):wpAny (model prog w) A (binaryOp .Add (.ref t) (.ref b)) Q E s:=by
 obtain⟨⟨cls,dd,data,sl⟩,ho,hc,n,hd⟩:=id ht
 obtain⟨⟨cls2,dd2,data2,sl2⟩,ho2,hc2,n2,hd2⟩:=id hb
 simp only at hc hd hc2 hd2;subst hc hd hc2 hd2;have e:vs.toArray++ws.toArray=(vs++ws).toArray:=by simp
 by_cases hw:ws = []
 ·exact concat_meets ⟨_,ho,rfl⟩ ⟨_,ho2,rfl⟩ noFill_tuple_add seq_tuple_add PySem.F.slot_tuple_add PySem.F.entry_tuple_add (PySem.F.args_tuple_add_2 _ _)
   (tuple_addW1 t b vs.toArray ws.toArray n n2 dd dd2 sl sl2 (by simpa using hv) (by simp[hw])) ⟨ho,ho2,h1 hw⟩
 ·refine concat_meets ⟨_,ho,rfl⟩ ⟨_,ho2,rfl⟩ noFill_tuple_add seq_tuple_add PySem.F.slot_tuple_add PySem.F.entry_tuple_add (PySem.F.args_tuple_add_2 _ _)
   (tuple_addW2 t b vs.toArray ws.toArray n n2 dd dd2 sl sl2 (by simpa using hv) (by simpa using hw) (by rw[bq9,bq9];exact hsz)) ⟨ho,ho2,?_⟩
  rw[e];exact h2 hw
end
end HT
namespace L2
open PySem PySem.Spec PyProof.Rows
noncomputable abbrev TO:=St->Hp->(Option Int->Hp->Prop)->Prop
theorem lP {ns:ag}:∀{us:List aw},aN (ns.map V.int) us->IntsAre us ns:=by
 induction ns with
 |nil=>intro us r;rw[List.map_nil]at r;cases r;exact .nil
 |cons n ns ih=>
  intro us r;rw[bt3]at r;cases r with
  |cons r1 r2=>
   obtain⟨t,e⟩:=r1
   subst e;exact .cons n t (ih r2)
section
variable {X:Cx}{e:Expr}{te:TE}{lo hi:Option Expr}{tl th:TO}{pos p2:Pos}
noncomputable def ax2 (K:ad):R2:=λx y H Q=>∃a b xs ys,x = .ref a/\y = .ref b/\aQ K H a xs/\aQ K H b ys/\xs≠[]/\xs.length+ys.length<=sizeLine/\
 (ys = []->Q (.ref a) H)/\(ys≠[]->∀p,H p=none->Q (.ref p) (upd H p (.tup (xs++ys))))
theorem aN.nil_iff {xs:List V}{us:List aw}(r:aN xs us):us = []↔xs = []:=by
 cases r with
 |nil=>simp
 |cons _ _=>simp
theorem ax3:cE X (binaryOp .Add) (ax2 X.K):=by
 intro ai s σ H x y v u Q I rx ry h
 obtain⟨a,b,xs,ys,rfl,rfl,ha,hb,hx,hz,q1,q2⟩:=h
 cases rx;cases ry
 obtain⟨its,r1,p1,_⟩:=I.tuple ha
 obtain⟨aq,r2,p2,_⟩:=I.tuple hb
 refine HT.ax1 p1 p2 (λz=>hx (r1.nil_iff.mp z)) (λz=>⟨.ref a,H,I,rfl,q1 (r2.nil_iff.mp z)⟩) (λz=>?_) (by rw[<- r1.length,<- r2.length];exact hz);refine⟨.ref s.heap.objs.size,_,I.laid (t':=s.toks) (o:=.tup (xs++ys)) (λb ob q=>bq0 _ q) (bq4 _) ?_,rfl,q2 (λw=>z (r2.nil_iff.mpr w)) _ (I.hok.fresh (bq4 _))⟩
 exact⟨by rw[br4];exact hz,_,r1.append r2,IsTup.new _ _,hZ.new _ _ rfl⟩
end
noncomputable def i9 (n:Nat)(i:Int):Option Nat:=if 0<=i then (if i<n then some i.toNat else none) else if -(n:Int)<=i then some (i+n).toNat else none
noncomputable def atI {α:Type}(xs:List α)(i:Int):Option α:=(i9 xs.length i).bind λj=>xs[j]?
theorem K8 {n:Nat}{i:Int}{j:Nat}(h:i9 n i=some j):seqIndex? i n=some j/\j<n/\-(n:Int)<=i/\i<n:=by
 unfold i9 at h;by_cases h0:0<=i
 ·rw[if_pos h0]at h
  by_cases h1:i<n
  ·rw[if_pos h1]at h
   have e:i.toNat=j:=bt2 h
   exact⟨by rw[seqIndex_of h0 h1,e],by omega,by omega,h1⟩
  ·rw[if_neg h1]at h;cases h
 ·rw[if_neg h0]at h
  by_cases h1:-(n:Int)<=i
  ·rw[if_pos h1]at h
   have e:(i+n).toNat=j:=bt2 h
   exact⟨by rw[seqIndex_neg (by omega) h1,e],by omega,h1,by omega⟩
  ·rw[if_neg h1]at h;cases h
theorem vU {α:Type}{xs:List α}{i:Int}{v:α}(h:atI xs i=some v):∃j,seqIndex? i xs.length=some j/\xs[j]? = some v/\j<xs.length/\-(xs.length:Int)<=i/\i<xs.length:=by
 unfold atI at h;cases e:i9 xs.length i with
 |none=>rw[e]at h;cases h
 |some j=>
  rw[e]at h
  obtain⟨h1,h2,h3,h4⟩:=K8 e
  exact⟨j,h1,h,h2,h3,h4⟩
theorem K9 {α:Type}{xs:List α}{j:Nat}{v:α}(h:xs[j]? = some v):atI xs (j:Int)=some v:=by
 have hj:j<xs.length:=(bs1.mp h).1;have e:i9 xs.length (j:Int)=some j:=by
  unfold i9;rw[if_pos (by omega),if_pos (by omega)];simp
 unfold atI;rw[e];exact h
theorem ax4 {α:Type}(xs:List α)(v:α):atI (xs++[v]) (-1)=some v:=by
 have hl:(xs++[v]).length=xs.length+1:=by simp
 have e:i9 (xs++[v]).length (-1)=some xs.length:=by
  unfold i9;rw[hl,if_neg (by decide),if_pos (by omega)];congr 1;omega
 unfold atI;rw[e];show (xs++[v])[xs.length]? = some v;simp
noncomputable def L0 (b:Expr):Prop:=∀o i,subscripted b false o i=operate [o,i] (getItem o i)
noncomputable def jM (X:Cx)(r:R2):Prop:=
 ∀(value slice:Expr) (ai:List (ay×Obj)) (s:ax) (σ:St) (H:Hp) (x y:V) (v u:aw) (Q:VK),aA X ai σ H s->aR x v->aR y u->r x y H Q->
  subscripted slice false v u=operate [v,u] (getItem v u)->wpAny (model X.prog X.w) X.A (subscriptTail value slice v u) (EP X ai σ Q) X.xe s
noncomputable def L1 (X:Cx)(id:String)(r:V->List V->Hp->VK->Prop):Prop:=
 ∀(ai:List (ay×Obj)) (s:ax) (σ:St) (H:Hp) (x:V) (xs:List V) (v:aw) (us:List aw) (Q:VK),aA X ai σ H s->aR x v->aN xs us->r x xs H Q->
  wpAny (model X.prog X.w) X.A (call (.builtin id) (v::us)) (EP X ai σ Q) X.xe s
section
variable {X:Cx}{a b:Expr}{ta tb:TE}{pos:Pos}
theorem jM.or {r r':R2}(h:jM X r)(h':jM X r'):jM X (λx y H Q=>r x y H Q∨r' x y H Q):=by
 intro value slice ai s σ H x y v u Q I rx ry q hs;rcases q with q|q
 ·exact h value slice ai s σ H x y v u Q I rx ry q hs
 ·exact h' value slice ai s σ H x y v u Q I rx ry q hs
theorem p9 {r:R2}(hr:jM X r)(ha:PE X a ta)(hb:PE X b tb)(hs:L0 b):PE X (.Subscript a b pos) (oY r ta tb):=by
 intro ai s σ H Q I h;exact Subscript_ (vL ha hb I h λv u s2 x y H2 I2 rx ry q=>hr a b ai s2 σ H2 x y v u Q I2 rx ry q (hs _ _))
noncomputable def L3 (K:ad):R2:=λx y H Q=>∃p xs i v,x = .ref p/\y = .int i/\b8 K H p xs/\atI xs i=some v/\Q v H
noncomputable def L4 (K:ad):R2:=λx y H Q=>∃p xs i v,x = .ref p/\y = .int i/\aQ K H p xs/\atI xs i=some v/\Q v H
noncomputable def L5:R2:=λx y H Q=>∃z i c,x = .str z/\y = .int i/\z.length<=sizeLine/\atI z.cps.toList i=some c/\Q (.str ⟨#[c]⟩) H
theorem vV:jM X (L3 X.K):=by
 intro value slice ai s σ H x y v u Q I rx ry h hs
 obtain⟨p,xs,i,z,rfl,rfl,hq,he,q⟩:=h
 cases rx
 obtain⟨t,rfl⟩:=ry
 obtain⟨its,r,pl,hz⟩:=I.list hq
 obtain⟨j,h1,h2,h3,h4,h5⟩:=vU he
 obtain⟨w,ew,rw'⟩:=r.get h2
 have hl:=r.length;have hn:=n9;have fin:EP X ai σ Q w s:=⟨z,H,I,rw',q⟩;by_cases h0:0<=i
 ·have hj:i.toNat=j:=by
   rw[seqIndex_of h0 h5]at h1;exact bt2 h1
  exact item_listR pl.isList h0 (by omega) (by rw[hj];simpa using ew) fin hs
 ·have hj:(i+(its.toArray.size:Int)).toNat=j:=by
   rw[seqIndex_neg (by omega) h4]at h1;rw[bq9,<- hl];exact bt2 h1
  exact subscriptTail_builtinR (x:=w) pl.isList.typeIs slot_list_getitem.lookup
   (wpAny_getItem_list_neg (Q:=λr s'=>r=w/\EP X ai σ Q r s') pl.isList (by omega) (by rw[bq9]<;>omega) (by omega) (by rw[hj];simpa using ew) ⟨rfl,fin⟩) hs
theorem vW:jM X (L4 X.K):=by
 intro value slice ai s σ H x y v u Q I rx ry h hs
 obtain⟨p,xs,i,z,rfl,rfl,hq,he,q⟩:=h
 cases rx
 obtain⟨t,rfl⟩:=ry
 obtain⟨its,r,pl,hz⟩:=I.tuple hq
 obtain⟨j,h1,h2,h3,h4,h5⟩:=vU he
 obtain⟨w,ew,rw'⟩:=r.get h2
 have hl:=r.length;have hn:=n9;have fin:EP X ai σ Q w s:=⟨z,H,I,rw',q⟩;exact subscriptTail_builtinR (x:=w) pl.typeIs slot_tuple_getitem.lookup
  (getItem_tuple (j:=j) (Q:=λr s'=>r=w/\EP X ai σ Q r s') pl (by omega) (by omega) (by rw[bq9,<- hl];exact h1) (by simpa using ew) ⟨rfl,fin⟩) hs
theorem ax5:jM X L5:=by
 intro value slice ai s σ H x y v u Q I rx ry h hs
 obtain⟨z,i,c,rfl,rfl,hz,he,q⟩:=h
 obtain⟨t,rfl⟩:=rx
 obtain⟨t',rfl⟩:=ry
 obtain⟨j,h1,h2,h3,h4,h5⟩:=vU he
 have hl:z.cps.toList.length=z.length:=by simp[Str.length]
 rw[hl]at h1 h4 h5;have hn:=n9
 exact tail_any (typeIs_str s z t) slot_str_getitem.lookup (getItem_str (c:=c) (by
  have e1:decide (i < -(2^63:Int))=false:=bp9 (by omega);have e2:decide (i >= 2^63)=false:=bp9 (by omega)
  rw[e1,e2,Bool.or_false]) (by rw[h1];simpa using h2) ⟨.str ⟨#[c]⟩,H,I.tok _,⟨_,rfl⟩,q⟩) hs
noncomputable def L6 (K:ad):R2:=λx y H Q=>L3 K x y H Q∨L4 K x y H Q∨L5 x y H Q
theorem ax6:jM X (L6 X.K):=vV.or (vW.or ax5)
theorem ax7 (its:List aw)(n j:Nat)(u:aw):Obj.mapSeq (·.setIfInBounds j u) { cls:=.type "list",data:=.seq its.toArray n }={ cls:=.type "list",data:=.seq (its.set j u).toArray n }:=by
 simp[Obj.mapSeq]
theorem aA.lst {ai:List (ay×Obj)}{σ:St}{H:Hp}{s:ax}{p:ay}{xs:List V}(I:aA X ai σ H s)(h:H p=some (.lst xs)) :
  ∃(its:List aw) (n:Nat),aN xs its/\s.heap.get? p=some { cls:=.type "list",data:=.seq its.toArray n }/\xs.length<=sizeLine:=by
 obtain⟨z,its,n,r,e⟩:=I.hok p _ h
 exact⟨its,n,r,e,z⟩
theorem aA.lstUpd {ai:List (ay×Obj)}{σ:St}{H:Hp}{s:ax}{p:ay}{xs ys:List V}{its its':List aw}{n n':Nat}{f:Obj->Obj}(I:aA X ai σ H s)(h:H p=some (.lst xs))(ho:s.heap.get? p=some { cls:=.type "list",data:=.seq its.toArray n })(hf:f { cls:=.type "list",data:=.seq its.toArray n }={ cls:=.type "list",data:=.seq its'.toArray n' })(r:aN ys its')(hz:ys.length<=sizeLine)(t:Nat) :
  aA X ai σ (upd H p (.lst ys)) { s with heap:=s.heap.update p f,toks:=t }:=by
 have e:(s.heap.update p f).get? p=some { cls:=.type "list",data:=.seq its'.toArray n' }:=by
  rw[bw9 f ho (by rw[hf]<;>rfl),hf]
 refine I.write (x:=p) (e:=p) (by rw[h];trivial) (.inl rfl) (λb u hb q=>(bx8 _ _ (Ne.symm hb)).trans q) ⟨_,e⟩ ?_
 exact⟨hz,its',n',r,e⟩
noncomputable def vX:V->V->V->Hp->(Hp->Prop)->Prop:=λo i v H Q=>∃p xs k j,o = .ref p/\i = .int k/\H p=some (.lst xs)/\i9 xs.length k=some j/\Q (upd H p (.lst (xs.set j v)))
theorem ax8:E6 X vX:=by
 intro ai s σ H o i v ov iv u Q I ro ri rv h
 obtain⟨p,xs,k,j,rfl,rfl,hp,hj,q⟩:=h
 cases ro
 obtain⟨t,rfl⟩:=ri
 obtain⟨its,n,r,ho,hz⟩:=I.lst hp
 obtain⟨h1,h2,h3,h4⟩:=K8 hj
 have hl:=r.length;have hn:=n9;have I':aA X ai σ (upd H p (.lst (xs.set j v))) { s with heap:=s.heap.update p (Obj.mapSeq (·.setIfInBounds j u)) }:=
  I.lstUpd hp ho (ax7 its n j u) (r.set rv j) (by rw[bx2];exact hz) s.toks
 by_cases h0:0<=k
 ·have hk:k.toNat=j:=by
   rw[seqIndex_of h0 h4]at h1;exact bt2 h1
  exact PySem.W.ki_setAt ho h0 (by omega) (by rw[bq9,<- hl];exact h4) (by rw[hk];exact⟨_,I',q⟩)
 ·have hk:(k+(its.toArray.size:Int)).toNat=j:=by
   rw[seqIndex_neg (by omega) h3]at h1;rw[bq9,<- hl];exact bt2 h1
  exact PySem.W.ki_setBack ho (by omega) (by rw[bq9,<- hl];exact h3) (by omega) (by rw[hk];exact⟨_,I',q⟩)
noncomputable def jN:V->Bool
 |.non=>true
 |.bl _=>true
 |.int _=>true
 |.str _=>true
 |_=>false
noncomputable def iN:V->V->Bool
 |.non,.non=>true
 |.bl a,.bl b=>a==b
 |.bl a,.int b=>(if a then 1 else 0)==b
 |.int a,.bl b=>a==(if b then 1 else 0)
 |.int a,.int b=>a==b
 |.str a,.str b=>a==b
 |_,_=>false
theorem ax9 {A:ba}{s:ax}{y x:V}{u v:aw}(ry:aR y u)(rx:aR x v)(fy:jN y=true)(fx:jN x=true):SeqAt.EqAt A s u v (iN y x):=by
 cases y with
 |non=>
  cases ry;cases x with
  |non=>cases rx;exact SeqAt.EqAt.same _
  |bl b=>cases rx;exact SeqAt.EqAt.none_bool b
  |int b=>obtain⟨t,rfl⟩:=rx;exact SeqAt.EqAt.none_int b t
  |str b=>obtain⟨t,rfl⟩:=rx;exact SeqAt.EqAt.none_str b t
  |_=>exact absurd (show false=true from fx) bq7
 |bl a=>
  cases ry;cases x with
  |non=>cases rx;exact SeqAt.EqAt.bool_none a
  |bl b=>cases rx;exact SeqAt.EqAt.bool_bool a b
  |int b=>obtain⟨t,rfl⟩:=rx;exact SeqAt.EqAt.bool_int a b t
  |str b=>obtain⟨t,rfl⟩:=rx;exact SeqAt.EqAt.bool_str a b t
  |_=>exact absurd (show false=true from fx) bq7
 |int a=>
  obtain⟨t',rfl⟩:=ry
  cases x with
  |non=>cases rx;exact SeqAt.EqAt.int_none a t'
  |bl b=>cases rx;exact SeqAt.EqAt.int_bool a t' b
  |int b=>obtain⟨t,rfl⟩:=rx;exact SeqAt.EqAt.int_int a t' b t
  |str b=>obtain⟨t,rfl⟩:=rx;exact SeqAt.EqAt.int_str a t' b t
  |_=>exact absurd (show false=true from fx) bq7
 |str a=>
  obtain⟨t',rfl⟩:=ry
  cases x with
  |non=>cases rx;exact SeqAt.EqAt.str_none a t'
  |bl b=>cases rx;exact SeqAt.EqAt.str_bool a t' b
  |int b=>obtain⟨t,rfl⟩:=rx;exact SeqAt.EqAt.str_int a t' b t
  |str b=>obtain⟨t,rfl⟩:=rx;exact SeqAt.EqAt.str_str a t' b t
  |_=>exact absurd (show false=true from fx) bq7
 |_=>exact absurd (show false=true from fy) bq7
noncomputable def jO (x:V)(u:aw):Bool:=match u with
 |.none=>iN .non x
 |.bool b=>iN (.bl b) x
 |.int i _=>iN (.int i) x
 |.str z _=>iN (.str z) x
 |_=>false
theorem L7 {x y:V}{u:aw}(r:aR y u)(f:jN y=true):jO x u=iN y x:=by
 cases y with
 |non=>cases r;rfl
 |bl b=>cases r;rfl
 |int i=>obtain⟨t,rfl⟩:=r;rfl
 |str z=>obtain⟨t,rfl⟩:=r;rfl
 |_=>exact absurd (show false=true from f) bq7
theorem vY {x:V}:∀{xs:List V}{us:List aw},aN xs us->xs.all jN=true->us.any (jO x)=xs.any λy=>iN y x
 |_,_,.nil,_=>rfl
 |y::xs,u::us,.cons r t,f=>by
  rw[List.all_cons,bt4]at f;rw[List.any_cons,List.any_cons,L7 r f.1,vY t f.2]
theorem vZ {A:ba}{s:ax}{x:V}{v:aw}(rx:aR x v)(fx:jN x=true):∀{xs:List V}{us:List aw},aN xs us->xs.all jN=true->∀u∈us,SeqAt.EqAt A s u v (jO x u)
 |_,_,.nil,_=>λu hu=>by cases hu
 |y::xs,u::us,.cons r t,f=>λu' hu=>by
  rw[List.all_cons,bt4]at f;rcases br0.mp hu with rfl|hu
  ·rw[L7 r f.1];exact ax9 r rx f.1 fx
  ·exact vZ rx fx t f.2 u' hu
noncomputable def pA (x:V)(xs:List V):Bool:=xs.any λy=>iN y x
noncomputable def L8 (K:ad)(neg:Bool):R2:=λx y H Q=>∃p xs,y = .ref p/\(b8 K H p xs∨aQ K H p xs)/\jN x=true/\xs.all jN=true/\Q (.bl (if neg then !pA x xs else pA x xs)) H
theorem ay0:cE X (compareOp .In) (L8 X.K false):=by
 intro ai s σ H x y v u Q I rx ry h
 obtain⟨p,xs,rfl,hq,fx,fs,q⟩:=h
 cases ry;rcases hq with hq|hq
 ·obtain⟨its,r,pl,hz⟩:=I.list hq
  refine SeqAt.in_listAt (jO x) pl.isList (λw hw=>vZ rx fx r fs w (by simpa using hw)) ⟨.bl _,H,I,rfl,?_⟩;rw[show its.toArray.any (jO x)=its.any (jO x) by simp,vY r fs];exact q
 ·obtain⟨its,r,pl,hz⟩:=I.tuple hq
  refine SeqAt.in_tupleAt (jO x) pl (λw hw=>vZ rx fx r fs w (by simpa using hw)) ⟨.bl _,H,I,rfl,?_⟩;rw[show its.toArray.any (jO x)=its.any (jO x) by simp,vY r fs];exact q
theorem ay1:e8 X (.builtin "len") (λxs H Q=>∃p ys,xs = [.ref p]/\(b8 X.K H p ys∨aQ X.K H p ys)/\Q (.int ys.length) H):=by
 intro ai s σ H xs us Q I r h
 obtain⟨p,ys,rfl,hq,q⟩:=h
 obtain⟨u,rfl,rx⟩:=jK r
 cases rx;have hn:=n9;rcases hq with hq|hq
 ·obtain⟨its,r',pl,hz⟩:=I.list hq
  have ao:=r'.length;exact Calls.call_len_list pl.isList (by simp only[bq9]<;>omega) ⟨.int ys.length,H,I.tok _,⟨s.toks+1,by rw[bq9,ao]⟩,q⟩
 ·obtain⟨its,r',pl,hz⟩:=I.tuple hq
  have ao:=r'.length;exact len_tuple pl (by simp only[bq9]<;>omega) ⟨.int ys.length,H,I.tok _,⟨s.toks+1,by rw[bq9,ao]⟩,q⟩
theorem e8.or {f:aw}{r r':List V->Hp->VK->Prop}(h:e8 X f r)(h':e8 X f r'):e8 X f (λxs H Q=>r xs H Q∨r' xs H Q):=by
 intro ai s σ H xs us Q I rs q;rcases q with q|q
 ·exact h ai s σ H xs us Q I rs q
 ·exact h' ai s σ H xs us Q I rs q
theorem ay2:e8 X (.type "tuple") (λxs H Q=>∃p ys,xs = [.ref p]/\((b8 X.K H p ys/\∀l,H l=none->Q (.ref l) (upd H l (.tup ys)))∨(aQ X.K H p ys/\Q (.ref p) H))):=by
 intro ai s σ H xs us Q I r h
 obtain⟨p,ys,rfl,h⟩:=h
 obtain⟨u,rfl,rx⟩:=jK r
 cases rx;rcases h with⟨hq,q⟩|⟨hq,q⟩
 ·obtain⟨its,r',pl,hz⟩:=I.list hq
  have ao:=r'.length;refine call_tuple_list pl.isList (λh' kp=>?_) (by simp only[bq9]<;>omega);have I1:aA X ai σ H { s with heap:=h' }:=I.kept (t':=s.toks) kp;have I2:aA X ai σ (upd H h'.objs.size (.tup ys)) { s with heap:=h'.push { cls:=.type "tuple",data:=.seq its.toArray } }:=
   I1.laid (t':=s.toks) (λb o e=>bq0 _ e) (bq4 _) (show bI X.prog X.w _ _ _ (.tup ys) from ⟨hz,its,r',IsTup.new _ _,hZ.new _ _ rfl⟩)
  exact⟨.ref h'.objs.size,_,I2,rfl,q _ (I1.hok.fresh (bq4 _))⟩
 ·obtain⟨its,r',pl,hz⟩:=I.tuple hq
  exact call_tuple_same pl ⟨.ref p,H,I,rfl,q⟩
noncomputable def pB (K:ad)(T:String)(x:V)(H:Hp):Prop:=match x with
 |.str _=>T="str"
 |.int _=>T="int"
 |.ref p=>(T="list"/\∃xs,b8 K H p xs)∨(T="tuple"/\∃o,K.lookup p=some o/\o.cls = .type "tuple"/\o.dict=none) ∨
   (T="dict"/\((∃kvs,H p=some (.dK kvs))∨∃kvs,H p=some (.dT kvs)))∨(T="set"/\∃S n,H p=some (.set S n))
 |_=>False
theorem L9 {ai:List (ay×Obj)}{σ:St}{H:Hp}{s:ax}{T:String}{x:V}{v:aw}(I:aA X ai σ H s)(r:aR x v)(ty:pB X.K T x H) :
  s.TypeIs v T/\∀a,v = .ref a->∃ob,s.heap.get? a=some ob/\ob.dict=none:=by
 cases x with
 |str z=>
  obtain⟨t,rfl⟩:=r
  cases (show T="str" from ty)
  exact⟨typeIs_str s z t,λ_ e=>nomatch e⟩
 |int i=>
  obtain⟨t,rfl⟩:=r
  cases (show T="int" from ty)
  exact⟨typeIs_int s i t,λ_ e=>nomatch e⟩
 |ref p=>
  cases r;rcases ty with⟨rfl,xs,hq⟩|⟨rfl,o,hk,hc,hd⟩|⟨rfl,hk⟩|⟨rfl,S,n,hk⟩
  ·obtain⟨its,_,pl,_⟩:=I.list hq
   refine⟨pl.isList.typeIs,λa e=>?_⟩;cases e
   obtain⟨o,n,e,c,hd,_⟩:=pl
   exact⟨o,e,hd⟩
  ·refine⟨⟨o,I.kIn p o hk,hc⟩,λa e=>?_⟩
   cases e
   exact⟨o,I.kIn _ o hk,hd⟩
  ·have z:∃o,s.heap.get? p=some o/\o.ExactDict:=by
    rcases hk with⟨kvs,hk⟩|⟨kvs,hk⟩
    ·obtain⟨_,_,_,_,o,_,_,e,ex,_⟩:=I.hok p _ hk
     exact⟨o,e,ex⟩
    ·obtain⟨_,_,_,_,o,_,_,e,ex,_⟩:=I.hok p _ hk
     exact⟨o,e,ex⟩
   obtain⟨o,e,ex⟩:=z
   refine⟨⟨o,e,ex.1⟩,λa e2=>?_⟩;cases e2
   exact⟨o,e,ex.2.1⟩
  ·obtain⟨o,_,_,_,e,ex,_⟩:=I.hok p _ hk
   refine⟨⟨o,e,ex.1⟩,λa e2=>?_⟩;cases e2
   exact⟨o,e,ex.2.1⟩
 |_=>exact False.elim ty
noncomputable def M0 (K:ad)(T:String)(r:V->List V->Hp->VK->Prop)(to:TE):TE:=λσ H Q=>to σ H λx H1=>pB K T x H1/\r x [] H1 Q
noncomputable def w4 (K:ad)(T:String)(r:V->List V->Hp->VK->Prop)(to:TE)(t:TA):TE:=λσ H Q=>to σ H λx H1=>pB K T x H1/\t σ H1 λxs H2=>r x xs H2 Q
variable {o e:Expr}{es:List Expr}{to:TE}{t:TA}{name:Str}{aj am:Pos}{T id:String}{r:V→List V→Hp→VK→Prop}
theorem ay3 (pa:PlainAttrs T)(slot:Slot T name id)(hty:typeOf (.builtin id)=pure (.type "method_descriptor"))(hm:L1 X id r)(ho:PE X o to)(hbase:attributeBase o name X.env (eval o X.env)=eval o X.env:=by rfl)(hline:(aj.endLine==am.line)=true:=by rfl):PE X (.Call (.Attribute o name aj) [] [] am) (M0 X.K T r to):=by
 intro ai s σ H Q I h;refine wpAny_Call_method0_late hbase hline (aO (ho ai s σ H _ I h) λv s1 ⟨x,H1,I1,r1,ty,q1⟩=>?_)
 obtain⟨h1,h2⟩:=L9 I1 r1 ty
 exact⟨T,id,pa,slot,hty,h1,h2,Calls.callWith_builtin rfl (PySem.evalArgs_none (hm ai s1 σ H1 x [] v [] Q I1 r1 .nil q1))⟩
theorem sF (pa:PlainAttrs T)(slot:Slot T name id)(hty:typeOf (.builtin id)=pure (.type "method_descriptor"))(hm:L1 X id r)(ho:PE X o to)(ha:PA X (e::es) t)(hbase:attributeBase o name X.env (eval o X.env)=eval o X.env:=by rfl)(hfew:((backTo am (starEach (e::es) X.env)).all (λx=>!x.1)&&(backToKw am (keywordEach [] X.env)).all (λx=>x.1.isSome)
  &&decide ((e::es).length+([]:List Keyword).length+(if ([]:List Keyword).isEmpty then 0 else 1)<30))=true:=by rfl)(hline:(aj.endLine==am.line)=true:=by rfl)(hs:starEach (e::es) X.env=(false,eval e X.env)::starEach es X.env:=by rfl)(av:(backTo am (starEach es X.env)).any (·.1)=false:=by rfl) :
  PE X (.Call (.Attribute o name aj) (e::es) [] am) (w4 X.K T r to t):=by
 intro ai s σ H Q I h;refine wpAny_Call_method_late hbase hfew hline rfl (aO (ho ai s σ H _ I h) λv s1 ⟨x,H1,I1,r1,ty,q1⟩=>?_)
 obtain⟨h1,h2⟩:=L9 I1 r1 ty
 refine⟨T,id,pa,slot,hty,h1,h2,?_⟩;have hA:=ha am ai s1 σ H1 _ I1 q1;rw[hs]at hA ⊢;refine Calls.callWith_builtin (by show (false||(backTo am (starEach es X.env)).any (·.1))=false;rw[av]<;>rfl) (Calls.evalArgs_plain ?_);exact aO hA λus s2 ⟨vs,H2,I2,r2,q2⟩=>hm ai s2 σ H2 x vs v us Q I2 r1 r2 q2
end
noncomputable def pC (X:Cx)(id:String)(r:V->List V->Hp->VK->Prop):Prop:=
 ∀(ai:List (ay×Obj)) (s:ax) (σ:St) (H:Hp) (x:V) (xs:List V) (v:aw) (us:List aw) (Q:VK),aA X ai σ H s->aR x v->aN xs us->r x xs H Q->
  wpAny (model X.prog X.w) X.A (call (.builtin id) (v::us)) (EP X ai σ Q) X.xe s
theorem aN.one {x:V}{us:List aw}(h:aN [x] us):∃u,us = [u]/\aR x u:=by
 cases h with
 |cons r t=>
  cases t
  exact⟨_,rfl,r⟩
theorem aN.two {x y:V}{us:List aw}(h:aN [x,y] us):∃u v,us = [u,v]/\aR x u/\aR y v:=by
 cases h with
 |cons r t=>
  cases t with
  |cons q t=>
   cases t
   exact⟨_,_,rfl,r,q⟩
theorem aN.zero:∀{us:List aw},aN [] us->us = []
 |_,.nil=>rfl
theorem aN.dropLast {xs:List V}{us:List aw}(h:aN xs us):aN xs.dropLast us.dropLast:=by
 induction h with
 |nil=>exact .nil
 |cons r t ih=>
  cases t with
  |nil=>exact .nil
  |cons q t'=>exact .cons r ih
theorem aN.reverse {xs:List V}{us:List aw}(h:aN xs us):aN xs.reverse us.reverse:=by
 induction h with
 |nil=>exact .nil
 |cons r t ih=>rw[List.reverse_cons,List.reverse_cons];exact aN.append ih (.cons r .nil)
theorem aN.rep {xs:List V}{us:List aw}(h:aN xs us):∀k:Nat,aN (List.replicate k xs).flatten (List.replicate k us).flatten
 |0=>.nil
 |k+1=>by
  rw[bx0,bx0,bB3,bB3];exact aN.append h (aN.rep h k)
theorem ay4 {α:Type}(l:List α):l.eraseIdx (l.length-1)=l.dropLast:=by
 induction l with
 |nil=>rfl
 |cons a r ih=>
  cases r with
  |nil=>rfl
  |cons b r=>
   have e:(a::b::r).length-1=((b::r).length-1)+1:=by
    have h1:(a::b::r).length=r.length+2:=rfl;have h2:(b::r).length=r.length+1:=rfl;omega
   rw[e,List.eraseIdx_cons_succ,ih]
   all_goals rfl
theorem M3 (its:List aw):∀(k:Nat) (acc:List aw),
  List.foldl (λx1 x2=>x1++x2) acc.toArray (List.replicate k its.toArray)=(acc++(List.replicate k its).flatten).toArray
 |0,acc=>by simp
 |k+1,acc=>by
  have e:acc.toArray++its.toArray=(acc++its).toArray:=by simp
  have e2:(acc++its)++(List.replicate k its).flatten=acc++(List.replicate (k+1) its).flatten:=by
   rw[bx0,bB3,bs6]
  rw[<- e2,<- M3 its k (acc++its),<- e,bx0,List.foldl_cons]
section
variable {X:Cx}{ai:List (ay×Obj)}{σ:St}{H:Hp}{s:ax}{l b:ay}{xs ys zs:List V}
theorem aA.lset {its its':List aw}{n:Nat}{f:Array aw->Array aw}{t':Nat}(I:aA X ai σ H s)(hH:H l=some (.lst xs))(e:s.heap.get? l=some { cls:=.type "list",data:=.seq its.toArray n })(hf:f its.toArray=its'.toArray)(hv:aN ys its')(hz:ys.length<=sizeLine) :
  aA X ai σ (upd H l (.lst ys)) { s with heap:=s.heap.update l (Obj.mapSeq f),toks:=t' }:=by
 have q:=PySem.IsL.update e f;rw[hf]at q;refine I.write (x:=l) (e:=l) (by rw[hH];exact trivial) (.inl rfl) (λb' u hb hu=>(bx8 s.heap (Obj.mapSeq f) (Ne.symm hb)).trans hu) ⟨_,q⟩ ?_
 exact⟨hz,its',_,hv,q⟩
theorem aA.lstM (I:aA X ai σ H s)(hH:H l=some (.lst xs)):xs.length<=sizeLine/\∃(its:List aw) (n:Nat),aN xs its/\xs.length=its.length/\s.heap.get? l=some { cls:=.type "list",data:=.seq its.toArray n }:=by
 obtain⟨z,its,n,r,e⟩:=I.hok l _ hH
 exact⟨z,its,n,r,r.length,e⟩
theorem M4 {n:Nat}(h:n<=sizeLine):Builtin.List.listTooLong n=false:=by
 unfold Builtin.List.listTooLong;exact bp9 (by omega)
end
section
variable {X:Cx}
noncomputable def M5:V->List V->Hp->VK->Prop:=λx vs H Q=>∃l xs y,x = .ref l/\vs = [y]/\H l=some (.lst xs)/\xs.length<sizeLine/\Q .non (upd H l (.lst (xs++[y])))
theorem sG:pC X "list.append" M5:=by
 intro ai s σ H x vs v us Q I rx rv h
 obtain⟨l,xs,y,rfl,rfl,hH,hz,q⟩:=h
 cases rx
 obtain⟨u,rfl,ru⟩:=rv.one
 obtain⟨z,its,n,r,hl,e⟩:=I.lstM hH
 refine bG9 F.slot_list_append ⟨_,e,rfl⟩ F.entry_list_append (F.args_list_append_2 _ _) (PySem.list_append l its.toArray n u (by rw[bq9];omega)) ⟨e,?_⟩;refine⟨.non,_,I.lset (its':=its++[u]) hH e (by simp) (r.append (.cons ru .nil)) ?_,rfl,q⟩;rw[br4,List.length_singleton];omega
noncomputable def M6:V->List V->Hp->VK->Prop:=λx vs H Q=>∃l b xs zs,x = .ref l/\vs = [.ref b]/\H l=some (.lst xs)/\H b=some (.lst zs)/\xs.length+zs.length<=sizeLine/\Q .non (upd H l (.lst (xs++zs)))
theorem ay5:pC X "list.extend" M6:=by
 intro ai s σ H x vs v us Q I rx rv h
 obtain⟨l,b,xs,zs,rfl,rfl,hH,hB,hz,q⟩:=h
 cases rx
 obtain⟨u,rfl,ru⟩:=rv.one
 cases ru
 obtain⟨z,its,n,r,hl,e⟩:=I.lstM hH
 obtain⟨z2,aq,n2,r2,hl2,e2⟩:=I.lstM hB
 have hsz:its.toArray.size+aq.toArray.size<=sizeLine:=by rw[bq9,bq9];omega
 have hlong:¬(!its.toArray.isEmpty&&Builtin.List.listTooLong (its.toArray.size+aq.toArray.size))=true:=by
  rw[M4 hsz,Bool.and_false];exact bq7
 refine bG9 F.slot_list_extend ⟨_,e,rfl⟩ F.entry_list_extend (F.args_list_extend_2 _ _)
  (AutoSeq1.list_extend_list_list_0 l its.toArray n b aq.toArray n2 hlong (by rw[bq9];omega) (by omega)) ⟨e,e2,?_⟩
 refine⟨.non,_,I.lset (its':=its++aq) hH e (by simp) (r.append r2) ?_,rfl,q⟩;rw[br4];omega
noncomputable def M7:V->List V->Hp->VK->Prop:=λx vs H Q=>∃l xs y,x = .ref l/\vs = []/\H l=some (.lst xs)/\xs[xs.length-1]? = some y/\Q y (upd H l (.lst xs.dropLast))
theorem ay6:pC X "list.pop" M7:=by
 intro ai s σ H x vs v us Q I rx rv h
 obtain⟨l,xs,y,rfl,rfl,hH,hy,q⟩:=h
 cases rx;have hus:=rv.zero;subst hus
 obtain⟨z,its,n,r,hl,e⟩:=I.lstM hH
 obtain⟨u,hu,ru⟩:=r.get hy
 have hy':its.toArray[its.toArray.size-1]? = some u:=by
  show its.toArray[its.length-1]? = some u;rw[<- by8,<- hl];exact hu
 refine bG9 F.slot_list_pop ⟨_,e,rfl⟩ F.entry_list_pop (F.args_list_pop_1 _) (MeetsSeq.list_pop_last l its.toArray n u hy' (by rw[bq9];omega)) ⟨e,?_⟩;refine⟨y,_,I.lset (its':=its.dropLast) hH e ?_ r.dropLast ?_,ru,q⟩
 ·show its.toArray.eraseIdxIfInBounds (its.toArray.size-1)=its.dropLast.toArray
  rw[bq9,List.eraseIdxIfInBounds_toArray,ay4]
 ·rw[List.length_dropLast]
  omega
theorem M8 {α:Type}(xs:List α)(k:Nat):(List.replicate k xs).flatten.length=k*xs.length:=by
 induction k with
 |zero=>simp
 |succ k ih=>rw[bx0,bB3,br4,ih,Nat.succ_mul,Nat.add_comm]
end
section
variable {κ:Type}[DecidableEq κ]
noncomputable def gU (kvs:List (κ×V))(k:κ):Option V:=(kvs.find? λkv=>decide (kv.1=k)).map (·.2)
noncomputable def fU (kvs:List (κ×V))(k:κ)(v:V):List (κ×V):=
 if (kvs.any λkv=>decide (kv.1=k))=true then kvs.map (λkv=>if kv.1=k then (kv.1,v) else kv) else kvs++[(k,v)]
theorem w5 {p:κ×V}{r:List (κ×V)}{k:κ}(e:p.1=k):gU (p::r) k=some p.2:=by simp[gU,bv4,e]
theorem w6 {p:κ×V}{r:List (κ×V)}{k:κ}(e:¬p.1=k):gU (p::r) k=gU r k:=by simp[gU,bv4,e]
theorem M9 (k:κ):∀kvs:List (κ×V),(kvs.any λkv=>decide (kv.1=k))=(gU kvs k).isSome
 |[]=>rfl
 |p::r=>by
  rw[List.any_cons];by_cases e:p.1=k
  ·simp only[w5 e,bq2 e,Bool.true_or,Option.isSome_some]
  ·rw[w6 e,bp9 e,Bool.false_or];exact M9 k r
theorem N0 (kvs:List (κ×V))(k:κ)(v:V):(fU kvs k v).length<=kvs.length+1:=by
 unfold fU;split
 ·rw[bq6];omega
 ·rw[br4,bu9,List.length_nil];omega
theorem iL.isSome_eq {o:Option V}{u:Option aw}(r:iL o u):o.isSome=u.isSome:=by
 cases o with
 |none=>cases u with
  |none=>rfl
  |some _=>exact (show False from r).elim
 |some _=>cases u with
  |none=>exact (show False from r).elim
  |some _=>rfl
theorem KV.val {kvs:List (κ×V)}{vs:List (κ×aw)}(r:KV kvs vs)(k:κ):iL (gU kvs k) (valueAt vs k):=by
 unfold KV at r
 induction r with
 |nil=>exact bG8
 |@cons p q ps qs h t ih=>
  obtain⟨h1,h2⟩:=h
  by_cases e:p.1=k
  ·have e':q.1=k:=h1.symm.trans e
   have b:valueAt (q::qs) k=some q.2:=by simp[valueAt,bv4,e']
   rw[w5 e,b];exact h2
  ·have e':¬q.1=k:=λz=>e (h1.trans z)
   have b:valueAt (q::qs) k=valueAt qs k:=by simp[valueAt,bv4,e']
   rw[w6 e,b];exact ih
theorem KV.any {kvs:List (κ×V)}{vs:List (κ×aw)}(r:KV kvs vs)(k:κ):(kvs.any λkv=>decide (kv.1=k))=vs.any λkv=>decide (kv.1=k):=by
 unfold KV at r
 induction r with
 |nil=>rfl
 |cons h t ih=>rw[List.any_cons,List.any_cons,ih,h.1]
theorem KV.repl {kvs:List (κ×V)}{vs:List (κ×aw)}(r:KV kvs vs)(k:κ){y:V}{u:aw}(ry:aR y u) :
  KV (kvs.map λkv=>if kv.1=k then (kv.1,y) else kv) (vs.map λkv=>if kv.1=k then (kv.1,u) else kv):=by
 unfold KV at r ⊢
 induction r with
 |nil=>exact .nil
 |@cons p q ps qs h t ih=>
  rw[bt3,bt3];refine .cons ?_ ih
  obtain⟨h1,h2⟩:=h
  by_cases e:p.1=k
  ·rw[if_pos e,if_pos (h1.symm.trans e)];exact⟨h1,ry⟩
  ·rw[if_neg e,if_neg (λz=>e (h1.trans z))];exact⟨h1,h2⟩
theorem KV.put {kvs:List (κ×V)}{vs:List (κ×aw)}(r:KV kvs vs)(k:κ){y:V}{u:aw}(ry:aR y u):KV (fU kvs k y) (stored vs k u):=by
 unfold fU stored;rw[r.any k];by_cases e:(vs.any λkv=>decide (kv.1=k))=true
 ·rw[if_pos e,if_pos e];exact r.repl k ry
 ·rw[if_neg e,if_neg e];exact Paired.snoc r ⟨rfl,ry⟩
theorem KV.length {kvs:List (κ×V)}{vs:List (κ×aw)}(r:KV kvs vs):kvs.length=vs.length:=Paired.length r
end
section
variable {P:az}{w:bc}{H:Hp}{h:Heap}{a:ay}
theorem w9 {u:HO}(ok:bT P w H h)(e:Rd H a u):bI P w H h a u:=e.ok ok
theorem ay7 {kvs:List (bO×V)}(ok:bT P w H h)(e:Rd H a (.dK kvs)):kvs.length<=sizeLine/\(a==sysModules)=false/\∃vs,KV kvs vs/\h.DictOf (rQ P w) a vs:=
 show bI P w H h a (.dK kvs) from w9 ok e
end
section
variable {X:Cx}{ai:List (ay×Obj)}{σ:St}{H:Hp}{s:ax}{a:ay}{y v:V}{u r:aw}{o:Option V}{A:ba}{E:aw→ax→Prop}
theorem aA.big (I:aA X ai σ H s):sysModules<s.heap.objs.size:=by
 have h:mainGlobals<s.heap.objs.size:=(I.mod.glob.keeps I.bk).lt;exact Nat.lt_trans (by decide) h
theorem wA {h':Heap}{t':Nat}{ob:HO}(I:aA X ai σ H s)(mu:oU (H a))(hs:Heap.SameBut a s.heap h')(he:∃q,h'.get? a=some q)(new:bI X.prog X.w (upd H a ob) h' a ob) :
  aA X ai σ (upd H a ob) { s with heap:=h',toks:=t' }:=
 I.write (x:=a) (e:=a) mu (.inl rfl) (λb q hb z=>(hs.2 b hb).trans z) he new
end
section
variable {X:Cx}{ai:List (ay×Obj)}{σ:St}{H:Hp}{s:ax}{a:ay}{kvs:List (bO×V)}{k:bO}{u:aw}{A:ba}{E:aw→ax→Prop}
theorem ay8 {Q:aw->ax->Prop}(I:aA X ai σ H s)(e:Rd H a (.dK kvs))(h:∀t s',aA X ai σ H s'->Q (.int kvs.length t) s'):wpAny (model X.prog X.w) A (call (.builtin "len") [.ref a]) Q E s:=by
 obtain⟨z,hd,vs,rel,dd⟩:=ay7 I.hok e
 refine call_len_dict hd dd (by rw[<- rel.length];rw[sizeLine_eq]at z;omega) ?_;rw[<- rel.length];exact h _ _ (I.tok _)
end
noncomputable def wB (i:Expr):Prop:=∀ov iv,subscripted i false ov iv=operate [ov,iv] (getItem ov iv)
theorem ay9 {prog:az}{w:bc}{A:ba}{E:aw->ax->Prop}{s:ax}{env:Env}{value slice:Expr}{pos:Pos}{T id:String}{Q:aw->ax->Prop}(hl:typeLookup (.type T) "__getitem__" = pure (some (.builtin id)))(hs:wB slice)(h:wpAny (model prog w) A (eval value env) (λo s₁=>wpAny (model prog w) A (eval slice env) (λi s₂=>s₂.TypeIs o T/\wpAny (model prog w) A (getItem o i) Q E s₂) E s₁) E s) :
  wpAny (model prog w) A (eval (.Subscript value slice pos) env) Q E s:=by
 refine Subscript_ (bw0 h (λo s₁ h₁=>bw0 h₁ (λi s₂ h₂=>?_) λ_ _ x=>x) λ_ _ x=>x)
 obtain⟨hT,h₂⟩:=h₂
 unfold subscriptTail;refine bp7 ?_;rw[getitemInPython_of_ne hT.not_modules];refine bp7 (bD9 hT hl ?_);have fin:wpAny (model prog w) A (subscripted slice false o i) (λr s₃=>wpAny (model prog w) A (letTemporaryGo value o r >>= λ_=>pure r) Q E s₃) E s₂:=by
  rw[hs o i];exact wpAny_operating (bw0 h₂ (λr s₃ h₃=>bp7 (wpAny_letTemporaryGo (bq5 h₃))) λ_ _ x=>x)
 first
  |exact bq5 (bp7 fin)
  |exact bp7 (bq5 (bp7 fin))
  |exact bp7 fin
structure M1 (X:Cx)(o:Expr)(m:Str)(aj:Pos)(e:Expr)(am:Pos):Prop where
 base:attributeBase o m X.env (eval o X.env)=eval o X.env
 few:((backTo am (starEach [e] X.env)).all (λx=>!x.1)&&(backToKw am (keywordEach [] X.env)).all (λx=>x.1.isSome)
 &&decide (([e]:List Expr).length+([]:List Keyword).length+(if ([]:List Keyword).isEmpty then 0 else 1)<30))=true
 line:(aj.endLine==am.line)=true
 trees:backTo am (starEach [e] X.env) = [(false,eval e X.env)]
structure M2 (X:Cx)(o:Expr)(m:Str)(aj:Pos)(e f:Expr)(am:Pos):Prop where
 base:attributeBase o m X.env (eval o X.env)=eval o X.env
 few:((backTo am (starEach [e,f] X.env)).all (λx=>!x.1)&&(backToKw am (keywordEach [] X.env)).all (λx=>x.1.isSome)
 &&decide (([e,f]:List Expr).length+([]:List Keyword).length+(if ([]:List Keyword).isEmpty then 0 else 1)<30))=true
 line:(aj.endLine==am.line)=true
 trees:backTo am (starEach [e,f] X.env) = [(false,eval e X.env),(false,eval f X.env)]
end L2
namespace Att
open PySem PySem.W PySem.Calls PyProof.Rows
theorem az0 {P:Params}{h:Heap}:∀(ns:ag) (vs:List aw),WellAll P h vs (ns.map WData.int)->IntsAre vs ns:=by
 intro ns
 induction ns with
 |nil=>
  intro vs w;rw[List.map_nil]at w;cases w;exact .nil
 |cons n ns ih=>
  intro vs w;rw[bt3]at w;cases w with
  |cons a b=>
   cases a;exact .cons _ _ (ih _ b)
theorem N1 {l:OpenLaw}{n:Nat}(hn:l.most=some n){P:Params}{h:Heap}{args:List WData}{vals:List aw}(hpre:l.row.toRowW.claim.pre args=true)(hwl:WellAll P h vals args) :
  ∃a vs ns,vals = [Value.ref a]/\args = [WData.list (ns.map WData.int)]/\h.get? a=some { cls:=.type "list",data:=.seq vs.toArray }/\IntsAre vs ns/\ns.length<=n:=by
 have hsh:WShape.hasAll [] args [.list .int]=true:=(pre_splitW hpre).1;have hc:l.pre.holds [] { args:=args }=true:=(pre_splitW hpre).2
 obtain⟨d,r,rfl,h1,h2⟩:=hasAllW_cons hsh
 obtain rfl:=hasAllW_nil h2
 obtain⟨xs,rfl,h3⟩:=hasW_list h1
 obtain⟨ns,rfl⟩:=items_int h3
 have ao:ns.length<=n:=by
  unfold OpenLaw.pre at hc;have h4:(WTm.not (.lt (.lit (.int (n:Int))) (.len (.arg 0)))).holds [] { args:=[.list (ns.map .int)] }=true:=by
   have h4:=(holds_andW hc).1;rw[hn]at h4;exact h4
  have h5:=condW_of h4 (w_not (w_lt w_lit (w_len_list (w_arg rfl))));rw[bq6]at h5;refine Nat.le_of_not_lt λq=>?_
  have q':(n:Int)<((ns.length:Nat):Int):=by omega
  first
   |(rw[bq2 q']at h5;exact absurd h5 (by decide))
   |(simp at h5;omega)
 cases hwl with
 |cons w1 w2=>
  cases w2;cases w1 with
  |list ho hall=>exact⟨_,_,ns,rfl,rfl,ho,az0 ns _ hall,ao⟩
theorem N2 (l:OpenLaw)(args:List WData):l.row.toRowW.claim.post args (.bool true) args=true:=
 postW_of (r:=l.row.toRowW) (X:=(true==true))
  (show WShape.has [] (.bool true) .bool=true by first|rfl|decide|simp[WShape.has,WShape.arms,WShape.armsAll])
  (show (WTm.eq .res (.lit (.bool true))).value [] { args:=args,res:=some (.bool true),after:=args }=some (.bool (true==true)) from w_eq_bool (w_res rfl) w_lit) rfl
theorem bp6 {l:OpenLaw}{n:Nat}{q:az}{loose:List Str}{XP:(Str->Option aw)->Heap->Prop}{YP:bc->Heap->Prop}{d:DefRec}{x:Str}(hn:l.most=some n)(hdf:d.params.defaults = [])(hbind:∀pm cd doc v:aw,bindArgs (docDef d.name d.params d.body d.scope pm cd doc) ⟨[v],[]⟩=pure [(x,v)])(hx:d.scope.names.lookup x=some .local∨d.scope.names.lookup x=some .cell)(hk:d.scope.kind = .function)(hco:d.scope.isCoroutine=false)(hgen:d.scope.isGenerator=false)(body:∀(w:bc) (s₀ s₁ s:ax) (mg mb:Str->Option aw) (fa:ay) (o:Obj) (pm cd doc:aw) (a:ay) (vs:List aw) (ns:ag),
   Ground q loose [] XP w s₀ mg mb s₁.heap->YP w s₁.heap->
   s₁.heap.get? fa=some o->o.data = .func (docDef d.name d.params d.body d.scope pm cd doc)->s₁.heap.CodeRec cd d.name->mg d.name=some (.ref fa)->
   s₁.heap.get? a=some { cls:=.type "list",data:=.seq vs.toArray }->IntsAre vs ns->ns.length<=n->
   s.gens = #[]->s.os=s₁.os->
   Fr s₁.heap s₁.heap.objs.size s.heap (bindL (envOfC d.name d.scope s₁.heap.objs.size fa cd).kindOf [(x,.ref a)] λ_=>none)->
   Cl s₁.heap.objs.size (cellsFrom (s₁.heap.objs.size+1) d.scope.names []) s.heap (bindC (envOfC d.name d.scope s₁.heap.objs.size fa cd).kindOf [(x,.ref a)] λ_=>none)->
   wpAny (model l.prog w) (callerA.deeper (envOfC d.name d.scope s₁.heap.objs.size fa cd)) (execs d.body (envOfC d.name d.scope s₁.heap.objs.size fa cd))
    (λf s'=>f = .ret (.bool true)/\OldK s₁.heap s'.heap/\s'.os=s₁.os/\AllBare s'.gens) (λ_ _=>False) s) :
  WalkO q loose XP YP l.row.toRowW d [] (λf vs=>PySem.call f vs):=by
 intro w s₀ s₁ mg mb G Y fa o pm cd doc dV kV ho hd hcd hD hmg hg args vals as hpre hlay hrd hwl hlo;obtain rfl:dV = .none:=Dflts.none hD hdf;obtain rfl:kV = .none:=Dflts.noKw hD
 obtain⟨a,vs,ns,rfl,rfl,hobj,hints,ao⟩:=N1 hn hpre hwl
 refine enter_call ?_;refine call_cells_ret (o:=o) (by rw[depth_caller];decide) ho (fd_plain hd) G.T.nolimit hcd (hbind pm cd doc (.ref a)) (λy hy=>?_) (λh₁ tk F X=>?_) hco hgen hk
 ·obtain rfl:y=(x,Value.ref a):=bq1.mp hy
  rcases hx with e|e
  ·exact .inl e
  ·exact .inr ⟨e,cellsFrom_some _ _ _ (.inl e)⟩
 ·refine bw0 (body w s₀ s₁ { s₁ with heap:=h₁,toks:=tk } mg mb fa o pm cd doc a vs ns G Y ho (fd_plain hd) hcd hmg hobj hints ao hg rfl F X) (λf s' hq=>?_) (λ_ _ hq=>hq)
  obtain⟨rfl,h2,h3,h4⟩:=hq
  exact⟨.inl ⟨.bool true,.bool true,[],rfl,λ_=>rfl,.bool true,N2 l _,λ_=>⟨List.Pairwise.nil,λ_ hm=>(nomatch hm)⟩⟩,h2,h3,h4⟩
theorem az1 {l:OpenLaw}{n:Nat}{q:az}{loose:List Str}{XP:(Str->Option aw)->Heap->Prop}{YP:bc->Heap->Prop}{d:DefRec}(hn:l.most=some n)(hdf:d.params.defaults = [])(call:∀(w:bc) (s₀ s₁:ax) (mg mb:Str->Option aw) (fa:ay) (o:Obj) (pm cd doc:aw) (a:ay) (vs:List aw) (ns:ag),
   Ground q loose [] XP w s₀ mg mb s₁.heap->YP w s₁.heap->
   s₁.heap.get? fa=some o->o.data = .func (docDef d.name d.params d.body d.scope pm cd doc)->s₁.heap.CodeRec cd d.name->mg d.name=some (.ref fa)->
   s₁.heap.get? a=some { cls:=.type "list",data:=.seq vs.toArray }->IntsAre vs ns->ns.length<=n->s₁.gens = #[]->
   codeAny (model l.prog w) callerA (.call (.ref fa) ⟨[.ref a],[]⟩) (λr s'=>r = .ok (.ret (.bool true))/\OldK s₁.heap s'.heap/\s'.os=s₁.os/\AllBare s'.gens) s₁) :
  WalkO q loose XP YP l.row.toRowW d [] (λf vs=>PySem.call f vs):=by
 intro w s₀ s₁ mg mb G Y fa o pm cd doc dV kV ho hd hcd hD hmg hg args vals as hpre hlay hrd hwl hlo;obtain rfl:dV = .none:=Dflts.none hD hdf;obtain rfl:kV = .none:=Dflts.noKw hD
 obtain⟨a,vs,ns,rfl,rfl,hobj,hints,ao⟩:=N1 hn hpre hwl
 refine enter_call (codeAny_mono (call w s₀ s₁ mg mb fa o pm cd doc a vs ns G Y ho (fd_plain hd) hcd hmg hobj hints ao hg) λr s' hq=>?_)
 obtain⟨rfl,h2,h3,h4⟩:=hq
 exact⟨.inl ⟨.bool true,.bool true,[],rfl,λ_=>rfl,.bool true,N2 l _,λ_=>⟨List.Pairwise.nil,λ_ hm=>(nomatch hm)⟩⟩,h2,h3,h4⟩
end Att
namespace L2
open PySem PySem.Spec PyProof.Rows
theorem N3:∀{vs:List aw}{ns:ag},IntsAre vs ns->aN (ns.map V.int) vs
 |_,_,.nil=>.nil
 |_,_,.cons n t h=>.cons ⟨t,rfl⟩ (N3 h)
noncomputable def bE (s:Stmt):Arguments:=match s with
 |.FunctionDef _ a _ _ _ _ _ _ _ _=>a
 |_=>{ posonlyargs:=[],args:=[],vararg:=none,kwonlyargs:=[],kw_defaults:=[],kwarg:=none,defaults:=[] }
noncomputable def bA (s:Stmt):List Stmt:=match s with
 |.FunctionDef _ _ b _ _ _ _ _ _ _=>b
 |_=>[]
noncomputable def aJ (s:Stmt):Scope:=match s with
 |.FunctionDef _ _ _ _ _ _ sc _ _ _=>sc
 |_=>{ kind:=.function,names:=[],isGenerator:=false,isCoroutine:=false }
noncomputable abbrev cG:fD:=λ_ _ _ _ _ _=>False
noncomputable abbrev E0:XK:=λ_ _ _=>False
theorem nB {X:Cx}:lO cG X E0:=λ_ _ _ _ _ _ _ h=>h.elim
structure bK (K:ad)(x qual:Str)(st:Stmt)(f:ay)(fd:FuncData):Prop where
 ex:∃(oc:aw) (od:Option ay) (kV doc pm:aw) (an:Option ay) (cdv ct:aw) (osl:Array (Option aw)),
  fd=PySem.W.fnOf x qual (bE st) (bA st) (aJ st) .none kV doc pm an cdv ct/\K.lookup f=some ⟨oc,od,.func fd,osl⟩/\PySem.W.codeIn K cdv qual=true
 kp:PySem.W.keepIn K (.ref f)=true
section
variable {P:az}{w:bc}{K:ad}{mg:Str→Option aw}{base:Heap}
theorem bK.ok {x qual:Str}{st:Stmt}{f:ay}{fd:FuncData}{N ps:List Str}{k:Nat}{sp:Sp}(F:bK K x qual st f fd)(S:FnScope N ps (aJ st))(len:∀vs H Q E,sp vs H Q E->vs.length=ps.length)(hbody:∀(cdv:aw) (A:ba) (outer:List Env) (s:ax) (H:Hp) (vs:List V) (Q:VK) (E:XK),bM k (A.deeper (envOfC qual (aJ st) s.heap.objs.size f cdv))->sp vs H Q E->
   ∃t,dN (cJ cG P w K mg base N qual (aJ st) f cdv A outer s H E).nox (bA st) t/\t { nx:=λ_ H'=>Q .non H',rt:=Q } (fR N vs) H):d7 P w K mg base cG (k+1) f fd ps sp:=by
 obtain⟨oc,od,kV,doc,pm,an,cdv,ct,osl,rfl,lk,hcd⟩:=F.ex
 refine vS lk hcd S len λA outer s H vs Q E hr hsp=>?_
 obtain⟨t,h,q⟩:=hbody cdv A outer s H vs Q E hr hsp
 exact⟨t,h.nox,q⟩
theorem bK.binds {x qual:Str}{st:Stmt}{f:ay}{fd:FuncData}{ps:List Str}(F:bK K x qual st f fd)(h:∀(kV doc pm:aw) (an:Option ay) (cdv ct:aw) (us:List aw),us.length=ps.length->bindArgs (PySem.W.fnOf x qual (bE st) (bA st) (aJ st) .none kV doc pm an cdv ct) ⟨us,[]⟩=pure (ps.zip us)):i8 K fd ps []:=by
 obtain⟨oc,od,kV,doc,pm,an,cdv,ct,osl,rfl,lk,hcd⟩:=F.ex
 exact .all (h kV doc pm an cdv ct)
theorem cZ {x qual:Str}{st:Stmt}{f:ay}{oc:aw}{od an:Option ay}{osl:Array (Option aw)}{kV doc pm cdv ct:aw}(l:K.lookup f=some ⟨oc,od,.func (PySem.W.fnOf x qual (bE st) (bA st) (aJ st) .none kV doc pm an cdv ct),osl⟩)(c:PySem.W.codeIn K cdv qual=true)(k:PySem.W.keepIn K (.ref f)=true):bK K x qual st f (PySem.W.fnOf x qual (bE st) (bA st) (aJ st) .none kV doc pm an cdv ct):=⟨⟨oc,od,kV,doc,pm,an,cdv,ct,osl,rfl,l,c⟩,k⟩
end
theorem N4 {n:Nat}(h:n<=1000):n<sizeLine:=Nat.lt_of_le_of_lt h (by decide)
section
variable {X:Cx}
theorem pv (i:Nat){x:Str}{pos:Pos}(hN:X.N[i]? = some x:=by rfl)(hv:eQ X.env.scope x:=by first|exact Or.inl rfl|exact Or.inr (Or.inl rfl)|exact Or.inr (Or.inr rfl))(hd:(x==("__debug__":Str))=false:=by decide)(hcd:(x==("__classdict__":Str))=false:=by decide):PE X (.Name x pos) (dF i):=i6 hN hv hd hcd
theorem az2:e8 X (.builtin "len") (λxs H Q=>∃a kvs,xs = [V.ref a]/\H a=some (.dK kvs)/\Q (.int kvs.length) H):=by
 intro ai s σ H xs us Q I r h
 obtain⟨a,kvs,rfl,ha,q⟩:=h
 obtain⟨u,rfl,ru⟩:=jK r
 cases ru;exact ay8 I (.inl ha) λt s' I'=>⟨.int kvs.length,H,I',⟨t,rfl⟩,q⟩
end
theorem bJ {A B:Prop}(h:B):if false=true then A else B:=by
 rw[if_neg bq7];exact h
theorem bQ {A B:Prop}(h:A):if true=true then A else B:=by
 rw[if_pos rfl];exact h
noncomputable def aI (H H':Hp):Prop:=∀b o,H b=some o->H' b=some o
theorem aI.refl (H:Hp):aI H H:=λ_ _ h=>h
theorem aI.trans {H H1 H2:Hp}(a:aI H H1)(b:aI H1 H2):aI H H2:=λc o h=>b c o (a c o h)
theorem aI.free {H H':Hp}(e:aI H H'){l:ay}(h:H' l=Option.none):H l=Option.none:=by
 cases q:H l with
 |none=>rfl
 |some o=>
  rw[e l o q]at h;cases h
noncomputable def eS (cells:List (Str×ay)):List (Str×NameKind)->List (Str×ay)->List (Str×ay)
 |[],cs=>cs
 |(n,k)::r,cs=>eS cells r (if k==.free then (n,(cells.lookup n).getD 0)::cs else cs)
theorem wC {env:Env}:∀(ns:List (Str×NameKind)) (cs:List (Str×ay)),(∀x∈ns,x.2 = .free->∃c,env.cells.lookup x.1=some c)->
  (forIn ns cs (λ(x:Str×NameKind) r=>(match x with
   |(name,kind)=>if (kind==.free)=true then (do let y <- cellOf env name;pure (ForInStep.yield ((name,y)::r))) else pure (ForInStep.yield r)):_->_->Sem _))=(pure (eS env.cells ns cs):Sem (List (Str×ay)))
 |[],cs,_=>by rw[List.forIn_nil];rfl
 |(n,k)::r,cs,h=>by
  rw[List.forIn_cons];have hr:∀x∈r,x.2 = .free->∃c,env.cells.lookup x.1=some c:=λx hx=>h x (bq8 _ hx)
  cases hk:(k==NameKind.free) with
  |true=>
   have e:k = .free:=by simpa using hk
   obtain⟨c,hc⟩:=h (n,k) bq3 e
   simp only[hk,if_true];have e1:cellOf env n=pure c:=by unfold cellOf;rw[hc]
   rw[e1];show ((pure c >>= λy=>pure (ForInStep.yield ((n,y)::cs))) >>= _:Sem _)=_;rw[pure_bind,pure_bind]
   have:=wC (env:=env) r ((n,c)::cs) hr
   refine this.trans ?_;unfold eS;simp only[hk,if_true,hc,Option.getD_some];cases r<;>rfl
  |false=>
   simp only[hk,bs8,bx3];rw[pure_bind]
   have:=wC (env:=env) r cs hr
   refine this.trans ?_
   conv=>rhs;unfold eS
   simp only[hk,bs8,bx3]
theorem wD {scope:Scope}{env:Env}(h:∀x∈scope.names,x.2 = .free->∃c,env.cells.lookup x.1=some c):closureFor scope env=pure (eS env.cells scope.names []):=by
 have e:=wC (env:=env) scope.names [] h;unfold closureFor;rw[show (pure (eS env.cells scope.names []):Sem (List (Str×ay)))=(pure (eS env.cells scope.names []) >>= pure) by rw[pure_bind]];rw[<- e]
theorem sH {cells:List (Str×ay)}:∀(ns:List (Str×NameKind)) (cs:List (Str×ay)) {x:Str}{c:ay},(∀y∈ns,y.2 = .free->∃c,cells.lookup y.1=some c)->
  (∀x c,cs.lookup x=some c->cells.lookup x=some c)->(eS cells ns cs).lookup x=some c->cells.lookup x=some c
 |[],cs,x,c,_,hc,h=>hc x c h
 |(n,k)::r,cs,x,c,hn,hc,h=>by
  unfold eS at h;have hr:∀y∈r,y.2 = .free->∃c,cells.lookup y.1=some c:=λy hy=>hn y (bq8 _ hy)
  cases hk:(k==NameKind.free) with
  |false=>
   simp only[hk,bs8,bx3]at h;exact sH r cs hr hc h
  |true=>
   simp only[hk,if_true]at h;refine sH r _ hr (λy d e=>?_) h
   obtain⟨c0,h0⟩:=hn (n,k) bq3 (by simpa using hk)
   have h0:cells.lookup n=some c0:=h0;rw[h0]at e;rw[bw7]at e;by_cases hyn:y=n
   ·subst hyn
    simp only[bz7,Option.getD_some]at e;rw[h0];exact e
   ·have:(y==n)=false:=bB8.mpr hyn
    simp only[this]at e;exact hc y d e
theorem wE {cells:List (Str×ay)}:∀(ns:List (Str×NameKind)) (cs:List (Str×ay)) {x:Str},((x,NameKind.free)∈ns∨∃c,cs.lookup x=some c)->∃c,(eS cells ns cs).lookup x=some c
 |[],cs,x,h=>by
  rcases h with h|h
  ·simp at h
  ·exact h
 |(n,k)::r,cs,x,h=>by
  unfold eS;refine wE r _ ?_;rcases h with h|⟨c,h⟩
  ·rcases br0.mp h with e|e
   ·cases e
    exact .inr ⟨_,by simp[bw7];rfl⟩
   ·exact .inl e
  ·right
   cases hk:(k==NameKind.free) with
   |false=>exact⟨c,by simpa[hk] using h⟩
   |true=>
    simp only[if_true];rw[bw7];by_cases hxn:(x==n)=true
    ·simp only[hxn];exact⟨_,rfl⟩
    ·simp only[Bool.eq_false_iff.mpr hxn];exact⟨c,h⟩
theorem sJ {env:Env}:∀{names:List (Str×NameKind)}{x:Str}{k:NameKind},(names.map λ(n,k)=>if (k==NameKind.free&&env.scope.kind==.function&&env.kindOf n==some .cell) then (n,NameKind.cell) else (n,k)).lookup x=some k->
  names.lookup x=some k∨(names.lookup x=some .free/\k = .cell)
 |[],_,_,h=>by simp at h
 |(n,q)::r,x,k,h=>by
  have ih:=@sJ env r x k;rw[bt3]at h;by_cases hx:(x==n)=true
  ·have e:x=n:=by simpa using hx
   subst e;by_cases hc:(q==NameKind.free&&env.scope.kind==.function&&env.kindOf x==some .cell)=true
   ·simp only[hc,if_true,bw7,bz7]at h
    have hq:q = .free:=by simp at hc;exact hc.1.1
    exact .inr ⟨by simp[bw7,hq],(bt2 h).symm⟩
   ·simp only[hc,bs8,bx3,bw7,bz7]at h
    exact .inl (by simp[bw7];exact bt2 h)
  ·have hx':(x==n)=false:=Bool.eq_false_iff.mpr hx
   have h':(r.map λ(n,k)=>if (k==NameKind.free&&env.scope.kind==.function&&env.kindOf n==some .cell) then (n,NameKind.cell) else (n,k)).lookup x=some k:=by
    by_cases hc:(q==NameKind.free&&env.scope.kind==.function&&env.kindOf n==some .cell)=true
    ·simp only[hc,if_true,bw7,hx']at h;exact h
    ·simp only[hc,bs8,bx3,bw7,hx']at h;exact h
   simp only[bw7,hx'];exact ih h'
noncomputable def gE (fr:List (Option Nat))(σ:St):St:=fr.map λo=>o.bind λj=>(σ[j]?).join
noncomputable def Wk (σ₁ σ₂:St):Prop:=σ₁.length=σ₂.length/\∀(i:Nat) v,σ₁[i]? = some (some v)->σ₂[i]? = some (some v)
theorem Wk.refl (σ:St):Wk σ σ:=⟨rfl,λ_ _ h=>h⟩
theorem Wk.set {σ τ:St}{i:Nat}{v:V}(h:Wk σ τ)(hi:σ[i]? = some none):Wk σ (τ.set i (some v)):=by
 refine⟨by rw[bx2];exact h.1,λj w e=>?_⟩;by_cases hj:j=i
 ·subst hj;rw[hi]at e;cases e
 ·rw[bt9 (Ne.symm hj)];exact h.2 j w e
theorem jP:∀(ns:List (Str×NameKind)) (n:Nat) (cs:List (Str×ay)),cellsFrom n ns cs=cellsFrom n ns []++cs
 |[],_,_=>rfl
 |(x,k)::r,n,cs=>by
  unfold cellsFrom;split
  ·rw[jP r (n+1) ((x,n)::cs),jP r (n+1) [(x,n)]];simp
  ·exact jP r n cs
theorem wF:∀(ns:List (Str×NameKind)) (n:Nat) {x:Str}{c:ay},(x,c)∈cellsFrom n ns []->(x,NameKind.cell)∈ns
 |[],_,_,_,h=>by simp[cellsFrom]at h
 |(y,k)::r,n,x,c,h=>by
  unfold cellsFrom at h;split at h
  ·rename_i hk
   rw[jP]at h;rcases bs3.mp h with z|z
   ·exact bq8 _ (wF r _ z)
   ·rw[bq1]at z
    cases z
    have:k = .cell:=by simpa using hk
    rw[this];exact bq3
  ·exact bq8 _ (wF r _ h)
theorem sK:∀(ns:List (Str×NameKind)) (n:Nat) {x:Str},(x,NameKind.cell)∈ns->∃c,(x,c)∈cellsFrom n ns []
 |(y,k)::r,n,x,h=>by
  unfold cellsFrom;rcases br0.mp h with z|z
  ·cases z
   rw[if_pos (by rfl),jP]
   exact⟨n,bs2 _ (by simp)⟩
  ·split
   ·obtain⟨c,hc⟩:=sK r (n+1) z
    rw[jP]
    exact⟨c,bt5 _ hc⟩
   ·exact sK r n z
theorem wG {α:Type}:∀{l:List (Str×α)}{x:Str}{c:α},(x,c)∈l->∃d,l.lookup x=some d
 |(y,v)::r,x,c,h=>by
  rw[bw7];cases hb:x==y with
  |true=>exact⟨v,rfl⟩
  |false=>
   rcases br0.mp h with z|z
   ·cases z;simp at hb
   ·exact wG z
theorem sL {α:Type}{x:Str}:∀(l r:List (Str×α)),(l++r).lookup x=(match l.lookup x with|some v=>some v|none=>r.lookup x)
 |[],_=>rfl
 |(y,v)::l,r=>by
  rw[List.cons_append,bw7,bw7];cases hb:x==y with
  |true=>rfl
  |false=>exact sL l r
noncomputable def iA (X:Cx)(scope:Scope)(C:ay):List (Str×ay):=cellsFrom (C+1) scope.names (eS X.env.cells scope.names [])
theorem lQ {X:Cx}{scope:Scope}{C:ay}{x:Str}{c:ay}(h:(iA X scope C).lookup x=some c) :
  (x,c)∈cellsFrom (C+1) scope.names []∨((∀d,(x,d)∉cellsFrom (C+1) scope.names [])/\(eS X.env.cells scope.names []).lookup x=some c):=by
 unfold iA at h;rw[jP,sL]at h;cases e:(cellsFrom (C+1) scope.names []).lookup x with
 |some v=>rw[e]at h;cases h;exact .inl (bv6 e)
 |none=>
  rw[e]at h;refine .inr ⟨λd hd=>?_,h⟩
  obtain⟨d',z⟩:=wG hd
  rw[e]at z;cases z
theorem az3 {X:Cx}{scope:Scope}{C:ay}{x:Str}{c:ay}(hn:(x,NameKind.cell)∉scope.names)(h:(eS X.env.cells scope.names []).lookup x=some c):(iA X scope C).lookup x=some c:=by
 unfold iA;rw[jP,sL];cases e:(cellsFrom (C+1) scope.names []).lookup x with
 |some v=>exact absurd (wF _ _ (bv6 e)) hn
 |none=>exact h
theorem N5 {X:Cx}{scope:Scope}{C:ay}{x:Str}(h:(x,NameKind.cell)∈scope.names∨∃c,(eS X.env.cells scope.names []).lookup x=some c):∃c,(iA X scope C).lookup x=some c:=by
 unfold iA;rw[jP,sL];cases e:(cellsFrom (C+1) scope.names []).lookup x with
 |some v=>exact⟨v,rfl⟩
 |none=>
  rcases h with h|h
  ·obtain⟨c,hc⟩:=sK scope.names (C+1) h
   obtain⟨d,hd⟩:=wG hc
   rw[e]at hd;cases hd
  ·exact h
noncomputable def bY (X:Cx)(scope:Scope)(N:List Str)(s:ax)(H:Hp)(C:ay)(fp:List ay)(E:aw->ax->Prop):Cx:=
 { X with N:=N,s₀:=s,H₀:=H,env:=compEnvC scope (iA X scope C) C X.env,outer:=X.stack,ex:=fp,fn:=λx=>scope.names.lookup x==some .cell,pn:=[],xe:=E }
structure eF (X:Cx)(scope:Scope)(N:List Str)(fr:List (Option Nat)):Prop where
 kind:scope.kind = .function
 own:∀y∈scope.names,y.2 = .cell->scope.names.lookup y.1=some .cell
 names:∀y∈scope.names,y.2 = .local->scope.names.lookup y.1=some .local
 free:∀y∈scope.names,y.2 = .free->X.env.scope.names.lookup y.1=some .cell∨X.env.scope.names.lookup y.1=some .free
 len:fr.length=N.length
 from_:∀(i j:Nat),fr[i]? = some (some j)->∃x,N[i]? = some x/\X.N[j]? = some x/\scope.names.lookup x=some .free
section
variable {X:Cx}{ai:List (ay×Obj)}{σ:St}{H:Hp}{s:ax}{scope:Scope}{N:List Str}{fr:List (Option Nat)}
theorem eF.cells (S:eF X scope N fr)(I:aA X ai σ H s):∀y∈scope.names,y.2 = .free->∃c,X.env.cells.lookup y.1=some c:=λy hy hk=>I.ok.has y.1 (S.free y hy hk)
theorem az4 {C D:ay}{fp:List ay}{E:aw->ax->Prop}{h1:Heap}{tk:Nat}{m:Str->Option aw}(S:eF X scope N fr)(I:aA X ai σ H s)(hf:∀b∈fp,j4 X ai H b)(hfl:∀b∈fp,b<s.heap.objs.size)(hD:s.heap.objs.size<=D)(hC:s.heap.objs.size<=C)(hDC:D<C)(old:∀b o,s.heap.get? b=some o->h1.get? b=some o)(hns:h1.Ns C m)(hacc:h1.get? D=some { cls:=.type "list",data:=.seq #[] 0 })(hco:CellsOk h1 (C+1) (cellsFrom (C+1) scope.names [])) :
  aA (bY X scope N s H C fp E) [] (gE fr σ) (upd H D (.lst [])) { s with heap:=h1,toks:=tk }:=by
 have hHD:H D=none:=I.hok.fresh hD;have cl:=S.cells I;have cs:∀{x:Str}{c:ay},(eS X.env.cells scope.names []).lookup x=some c->X.env.cells.lookup x=some c:=λ{x c} h=>sH scope.names [] cl (λ_ _ z=>by simp at z) h
 have clt:∀{x:Str}{c:ay},X.env.cells.lookup x=some c->c<s.heap.objs.size:=λ{x c} h=>by obtain⟨v,z⟩:=I.cell x c h;exact z.lt
 have nge:∀{x:Str}{c:ay},(x,c)∈cellsFrom (C+1) scope.names []->C<c:=λ{x c} h=>(hco.empty x c h).2
 refine⟨⟨I.ok.mod,?_,I.ok.glob,I.ok.blt,hC,?_,?_,?_,I.ok.hd,I.ok.frames,.inl rfl,?_,I.bs,bt6 I.ok.bsz I.sz,?_,?_,I.stack,I.stkFree⟩,rfl,I.bare,Un.laid old hD hHD,⟨m,hns,?_⟩,?_,?_,?_,λp hp=>absurd (show p∈([]:List (ay×Obj)) from hp) (by simp),?_,?_⟩
 ·exact S.kind
 ·intro x y c h1 h2
  rcases lQ h1 with a|⟨_,a⟩<;>rcases lQ h2 with b|⟨_,b⟩
  ·exact name_of_addr hco.apart a b
  ·exact absurd (br3 (Nat.lt_trans (nge a) (clt (cs b))) hC) (bw3 _)
  ·exact absurd (br3 (Nat.lt_trans (nge b) (clt (cs a))) hC) (bw3 _)
  ·exact I.ok.inj x y c (cs a) (cs b)
 ·intro x hx
  have hx:(relabel scope X.env).names.lookup x=some .cell∨(relabel scope X.env).names.lookup x=some .free:=hx;have fin:(x,NameKind.free)∈scope.names->∃c,(iA X scope C).lookup x=some c:=λz=>N5 (.inr (wE scope.names [] (.inl z)))
  rcases hx with hx|hx
  ·rcases sJ hx with z|z
   ·exact N5 (.inl (bv6 z))
   ·exact fin (bv6 z.1)
  ·rcases sJ hx with z|z
   ·exact fin (bv6 z)
   ·exact absurd z.2 (by decide)
 ·intro x c hx h
  have hx:(scope.names.lookup x==some NameKind.cell)=true:=hx;have hx:scope.names.lookup x=some .cell:=by simpa using hx
  rcases lQ h with a|⟨a,_⟩
  ·exact bt6 hC (by9 (nge a))
  ·obtain⟨d,hd⟩:=sK scope.names (C+1) (bv6 hx)
   exact absurd hd (a d)
 ·intro b hb
  refine⟨bu3 (br3 (hfl b hb) hC),λx c e=>?_⟩;rcases lQ e with a|⟨_,a⟩
  ·exact bA3 (Nat.lt_trans (br3 (hfl b hb) hC) (nge a))
  ·exact (hf b hb).2.2.2.2.1 x c (cs a)
 ·intro b o e hb
  rcases (hf b hb).2.2.2.1 with z|z
  ·exact I.ok.noex b o e z
  ·exact absurd (br3 (br9 e) (bt6 I.ok.bsz z)) (bw3 _)
 ·intro b hb z
  rcases br0.mp (I.stkSub b z) with e|e
  ·exact (hf b hb).2.1 e
  ·exact (hf b hb).2.2.1 e
 ·intro i x v e1 e2 e3
  have e2:(fr.map λo=>o.bind λj=>(σ[j]?).join)[i]? = some (some v):=e2;rw[br5]at e2;cases ef:fr[i]? with
  |none=>rw[ef]at e2;cases e2
  |some o=>
   rw[ef]at e2;cases o with
   |none=>cases e2
   |some j=>
    have e2:some ((σ[j]?).join)=some (some v):=e2;have ej:σ[j]? = some (some v):=by
     cases q:σ[j]? with
     |none=>rw[q]at e2;cases e2
     |some w=>rw[q]at e2;cases w with
      |none=>cases e2
      |some w=>cases e2;rfl
    obtain⟨y,a1,a2,a4⟩:=S.from_ i j ef
    have e1:N[i]? = some x:=e1;rw[e1]at a1;cases a1;have a3:(x,NameKind.free)∈scope.names:=bv6 a4;have vis:eQ X.env.scope x:=(S.free _ a3 rfl).elim (λz=>.inr (.inl z)) λz=>.inr (.inr z)
    obtain⟨m0,hn0,hl0⟩:=I.loc
    obtain⟨u,r,l⟩:=hl0 j x v a2 ej vis
    refine⟨u,r,.inr ⟨?_,?_⟩⟩
    ·have e3:(relabel scope X.env).names.lookup x=some .local∨(relabel scope X.env).names.lookup x=some .cell∨(relabel scope X.env).names.lookup x=some .free:=e3
     rcases e3 with z|z|z
     ·rcases sJ z with y|y
      ·rw[a4]at y;cases y
      ·exact absurd y.2 (by decide)
     ·exact .inl z
     ·exact .inr z
    ·obtain⟨c,hc⟩:=wE (cells:=X.env.cells) scope.names [] (x:=x) (.inl a3)
     refine⟨c,az3 (λz=>by have:=S.own _ z rfl;rw[a4]at this;cases this) hc,?_⟩;have hc':=cs hc;have S1:=S.free (x,.free) a3 rfl;rcases l with⟨k,_⟩|⟨_,c2,hc2,z⟩
     ·have k:X.env.scope.names.lookup x=some .local:=k
      rcases S1 with q|q<;>(have q:X.env.scope.names.lookup x=_:=q;rw[k]at q;cases q)
     ·rw[hc']at hc2;cases hc2
      obtain⟨oc,ho,hd⟩:=z
      exact⟨oc,old c oc ho,hd⟩
 ·intro x c e
  rcases lQ e with a|⟨_,a⟩
  ·exact⟨_,(hco.empty x c a).1⟩
  ·obtain⟨v,oc,ho,hd⟩:=I.cell x c (cs a)
   exact⟨v,oc,old c oc ho,hd⟩
 ·show upd H D (.lst []) C=none
  rw[aK (bA3 hDC)];exact I.hok.fresh hC
 ·intro x c e
  show upd H D (.lst []) c=none;rcases lQ e with a|⟨_,a⟩
  ·rw[aK (bA3 (Nat.lt_trans hDC (nge a)))];exact I.hok.fresh (bt6 hC (by9 (nge a)))
  ·have q:=cs a
   rw[aK (bu3 (br3 (clt q) hD))];exact I.freeC x c q
 ·exact I.hok.laid old hD ⟨bu8 _,[],0,.nil,hacc⟩
 ·show (gE fr σ).length=N.length
  unfold gE;rw[bq6];exact S.len
end
noncomputable def kQ (X:Cx)(ifs:List Expr)(t:TT):Prop:=
 ∀(ai:List (ay×Obj)) (s:ax) (σ:St) (H:Hp) (Q:Bool->Hp->Prop),aA X ai σ H s->t σ H Q->
  wpAny (model X.prog X.w) X.A (forIn ifs true λc r=>if r=true then do let ok <- isTrue c X.env (eval c X.env);pure (ForInStep.yield ok) else pure (ForInStep.yield r)) (TP X ai σ Q) X.xe s
noncomputable def wH:TT:=λ_ H Q=>Q true H
theorem N6 {X:Cx}:kQ X [] wH:=λ_ _ _ H _ I h=>wpAny_tests_nil ⟨H,I,h⟩
theorem az5 {X:Cx}{c:Expr}{t:TT}(h:PT X c t):kQ X [c] t:=λai s σ H Q I hq=>wpAny_tests_one (h ai s σ H Q I hq)
section
variable {prog:az}{w:bc}{A:ba}
noncomputable def wI (prog:az)(w:bc)(A:ba)(elt tg:Expr)(ifs:List Expr)(it acc:aw)(env:Env)(lost:aw->ax->Prop)(stop next:ax->Prop)(s:ax):Prop:=
 let M:=model prog w
 let tests:Sem Bool:=forIn ifs true λc r=>if r=true then do let ok <- isTrue c env (eval c env);pure (ForInStep.yield ok) else pure (ForInStep.yield r)
 let put:ax->Prop:=wpAny M A (eval elt env) (λx=>wpAny M A (call (.builtin "list.append") [acc,x]) (λ_=>next) lost) lost
 let taken:aw->ax->Prop:=λv=>wpAny M A (letOwnedTupleGo tg it v) (λ_=>wpAny M A (assign tg env v) (λ_=>wpAny M A tests (λok s'=>if ok=true then put s' else next s') lost) lost) lost
 wpAny M A (pyNext it) (λr s'=>match r with
  |none=>stop s'
  |some v=>taken v s') lost s
theorem az6 {R:Result->ax->Prop}{s:ax}{elt tg iter:Expr}{ifs:List Expr}{scope:Scope}{pos:Pos}{it acc:aw}{env:Env}(I:Nat->ax->Prop)(turn:∀n s,I n s->wI prog w A elt tg ifs it acc env (notedBy (model prog w) A env λe=>R (.error e)) (R (.ok .next)) (λs'=>∃m,m<n/\I m s') s)(n:Nat)(h:I n s) :
  codeAny (model prog w) A (.compLoop (.ListComp elt [⟨tg,iter,ifs,0⟩] scope pos) 0 it acc env) R s:=by
 apply codeAny_loop rfl I _ n h;intro k s1 h1
 change wpAny _ A ((compTurn _ 0 it acc env).onRaise (λx=>do noteFrame x env;theTreesLotGoes x)) _ _ s1
 apply wpAny_noted;rw[compTurn_list];have t:=turn k s1 h1;unfold wI at t;apply bp7;apply wpAny_standAt;apply bp7;refine bw0 t (λr s2 h2=>?_) λ_ _ z=>z
 cases r with
 |none=>exact bq5 h2
 |some v=>
  apply bp7;refine bw0 h2 (λ_ s3 h3=>?_) λ_ _ z=>z
  apply bp7;refine bw0 h3 (λ_ s4 h4=>?_) λ_ _ z=>z
  apply bp7;refine bw0 h4 (λok s5 h5=>?_) λ_ _ z=>z
  cases ok with
  |false=>exact bq5 ⟨rfl,h5⟩
  |true=>
   apply bp7;apply bp7;refine bw0 h5 (λx s6 h6=>?_) λ_ _ z=>z
   apply bp7;exact bw0 h6 (λ_ s7 h7=>bq5 (bq5 ⟨rfl,h7⟩)) λ_ _ z=>z
end
noncomputable def sM (g:TG)(tc:TT)(te:TE)(σ0:St)(J:It)(D:ay)(Q:VK)(W:Nat->Nat->List V->Hp->Prop):Prop:=
 ∀i m acc H',W i m acc H'->H' D=some (.lst acc)/\((J.stop i H'/\Q (.ref D) H')∨(J.go i H'/\∀x H2,J.yld i H' x H2->g x σ0 H2 λσ2 H3=>Wk σ0 σ2/\tc σ2 H3 λb H4=>
  if b=true then te σ2 H4 λv H5=>H5 D=some (.lst acc)/\acc.length<sizeLine/\∃m',m'<m/\W (i+1) m' (acc++[v]) (upd H5 D (.lst (acc++[v]))) else ∃m',m'<m/\W (i+1) m' acc H4))
noncomputable def az7 (wi:TI)(fr:List (Option Nat))(g:TG)(tc:TT)(te:TE):TE:=λσ H Q=>wi σ H λJ H1=>∀D,H1 D=none->
 ∃W:Nat->Nat->List V->Hp->Prop,(∃m,W 0 m [] (upd H1 D (.lst [])))/\sM g tc te (gE fr σ) J D Q W
section
variable {M:Model}{A:ba}{E:aw→ax→Prop}{s:ax}
theorem az8 {scope:Scope}{globals:ay}{cl:List (Str×ay)}{qual:Str}{func:Option ay}{code:aw}{builtins:ay}{outer:Env}{Q:Env->ax->Prop}(hQ:∀h',h'.Ns s.heap.objs.size (λ_=>none)->(∀b o,s.heap.get? b=some o->h'.get? b=some o)->CellsOk h' (s.heap.objs.size+1) (cellsFrom (s.heap.objs.size+1) scope.names [])->
   Q (newEnv scope s.heap.objs.size globals (cellsFrom (s.heap.objs.size+1) scope.names cl) qual func code (some outer) builtins) { s with heap:=h' }) :
  wpAny M A (newFunctionEnv scope globals cl [] qual func code (some outer) builtins) Q E s:=by
 simp only[newFunctionEnv,Option.isSome_some,if_true];refine bp7 (wpAny_alloc ?_);refine bp7 (wpAny_layCells _ (λname kind cells=>by cases hkc:kind==NameKind.cell<;>simp[hkc]) _ _ _ _ ?_);have ok:=cellsFrom_ok scope.names (s.heap.push { cls:=.type "dict",data:=.dict #[] }) (s.heap.objs.size+1) [] ⟨λ_ _ hm=>(nomatch hm),List.Pairwise.nil⟩ (by rw[bB4];exact bq4 _);rw[bB4]at ok;rw[show ({ s with heap:=s.heap.push { cls:=.type "dict",data:=.dict #[] } }:ax).heap.objs.size=s.heap.objs.size+1 from bB4 ..];rw[List.forIn_nil];refine bp7 (bq5 (bq5 (hQ _ ((Heap.Ns.new s.heap (.type "dict")).keeps (pushCells_keeps _ _)) (λb o e=>pushCells_keeps _ _ b o (bq0 _ e)) ok)))
end
section
variable {X:Cx}{ai:List (ay×Obj)}{σ:St}{H:Hp}{s:ax}{scope:Scope}{N:List Str}{fr:List (Option Nat)}{tg iter elt:Expr}{ifs:List Expr}{pos:Pos}{wi:TI}{g:TG}{tc:TT}{te:TE}
structure nC (X:Cx)(scope:Scope)(N:List Str)(tg:Expr)(ifs:List Expr)(elt:Expr)(s:ax)(H:Hp)(g:TG)(tc:TT)(te:TE):Prop where
 tg:∀(C:ay) (fp:List ay),PG (bY X scope N s H C fp λ_ _=>False) tg g
 ifs:∀(C:ay) (fp:List ay),kQ (bY X scope N s H C fp λ_ _=>False) ifs tc
 elt:∀(C:ay) (fp:List ay),PE (bY X scope N s H C fp λ_ _=>False) elt te
structure wJ (X:Cx)(scope:Scope)(N:List Str)(tg:Expr)(ifs:List Expr)(elt:Expr)(g:TG)(tc:TT)(te:TE):Prop where
 tg:∀(s:ax) (H:Hp) (C:ay) (fp:List ay),PG (bY X scope N s H C fp λ_ _=>False) tg g
 ifs:∀(s:ax) (H:Hp) (C:ay) (fp:List ay),kQ (bY X scope N s H C fp λ_ _=>False) ifs tc
 elt:∀(s:ax) (H:Hp) (C:ay) (fp:List ay),PE (bY X scope N s H C fp λ_ _=>False) elt te
theorem wJ.at (B:wJ X scope N tg ifs elt g tc te)(s:ax)(H:Hp):nC X scope N tg ifs elt s H g tc te:=⟨B.tg s H,B.ifs s H,B.elt s H⟩
theorem az9 {C:ay}{fp:List ay}{E:aw->ax->Prop}{pins':List (ay×Obj)}{σ':St}{H':Hp}{s':ax}(I:aA X ai σ H s)(hf:∀b∈fp,j4 X ai H b)(I':aA (bY X scope N s H C fp E) pins' σ' H' s'):aA X ai σ H' s':=
 I.call' (ch:=fp) I'.os I'.base I'.hok I'.bare λb hb=>⟨(hf b hb).2.2.2.1,(hf b hb).2.1,(hf b hb).2.2.2.2.1,(hf b hb).2.2.2.2.2⟩
theorem wK {Rr:aw->ay->Result->ax->Prop}{J:It}{fp:List ay}{it:ay}{tn:Nat->Heap->Prop}{Q:VK}(hc:X.calm=true)(S:eF X scope N fr)(B:nC X scope N tg ifs elt s H g tc te)(I:aA X ai σ H s)(T:kN X.prog X.w X.K tg J fp it tn)(hst:tn 0 s.heap)(hf:∀b∈fp,j4 X ai H b)(h:∀D,H D=none->∃W:Nat->Nat->List V->Hp->Prop,(∃m,W 0 m [] (upd H D (.lst [])))/\sM g tc te (gE fr σ) J D Q W)(hend:∀(D C:ay) (s':ax) (H':Hp) (m:Str->Option aw),s.heap.objs.size<=C->s.heap.objs.size<=D->aA X ai σ H' s'->s'.heap.Ns C m->H' C=none->Q (.ref D) H'->Rr (.ref D) C (.ok .next) s') :
  wpAny (model X.prog X.w) X.A (newList []) (λacc s₃=>wpAny (model X.prog X.w) X.A (newFunctionEnv scope X.env.globals (eS X.env.cells scope.names []) [] X.env.qual none .none (some X.env)) (λcenv s₄=>
   codeAny (model X.prog X.w) X.A (.compStart (.ListComp elt [⟨tg,iter,ifs,0⟩] scope pos) 0 (.ref it) acc { cenv with scope:=relabel scope X.env }) (Rr acc cenv.locals) s₄) X.xe s₃) X.xe s:=by
 refine bv9 (az8 (λh₁ hns₁ keep₁ hco₁=>?_));dsimp only at hns₁ keep₁ hco₁ ⊢;generalize hH2:s.heap.push { cls:=.type "list",dict:=none,data:=.seq ([]:List aw).toArray }=H2 at hns₁ keep₁ hco₁ ⊢;have hC:H2.objs.size=s.heap.objs.size+1:=by rw[<- hH2,bB4]
 have hDC:s.heap.objs.size<H2.objs.size:=by rw[hC];exact Nat.lt_succ_self _
 have hCle:s.heap.objs.size<=H2.objs.size:=by rw[hC];exact Nat.le_succ _
 have old:∀b o,s.heap.get? b=some o->h₁.get? b=some o:=λb o e=>keep₁ b o (hH2▸bq0 _ e)
 have hacc:h₁.get? s.heap.objs.size=some { cls:=.type "list",data:=.seq #[] 0 }:=keep₁ _ _ (hH2▸br7 _ rfl);have hfl:∀b∈fp,b<s.heap.objs.size:=λb hb=>by obtain⟨o,e,_⟩:=T.obj _ _ hst b hb;exact br9 e
 obtain⟨W,⟨m0,w0⟩,turn⟩:=h s.heap.objs.size (I.hok.fresh (bq4 _))
 have st1:tn 0 h₁:=T.keep _ _ _ hst λb _ o e=>old b o e
 have fr0:∀b∈fp,upd H s.heap.objs.size (.lst []) b=none:=λb hb=>by rw[aK (bu3 (hfl b hb))];exact (hf b hb).1
 have stat:∀{H':Hp},(∀b∈fp,H' b=none)->∀b∈fp,j4 (bY X scope N s H H2.objs.size fp λ_ _=>False) [] H' b:=λ{H'} hn b hb=>by
  have f:=hf b hb;refine⟨hn b hb,bu3 (br3 (hfl b hb) hCle),λz=>?_,.inl hb,λx c e=>(lQ e).elim (λz=>bA3 (Nat.lt_trans (br3 (hfl b hb) hCle) (hco₁.empty x c z).2)) λz=>f.2.2.2.2.1 x c (sH scope.names [] (S.cells I) (λ_ _ z=>by simp at z) z.2),λp hp=>absurd (show p∈([]:List (ay×Obj)) from hp) (by simp)⟩;rcases br0.mp (I.stkSub b z) with e|e
  ·exact f.2.1 e
  ·exact f.2.2.1 e
 generalize hX:bY X scope N s H H2.objs.size fp (λ_ _=>False)=Y at stat;have I0:aA Y [] (gE fr σ) (upd H s.heap.objs.size (.lst [])) { s with heap:=h₁ }:=hX▸az4 S I hf hfl (bq4 _) hCle hDC old hns₁ hacc hco₁;have bt:PG Y tg g:=hX▸B.tg H2.objs.size fp;have bi:kQ Y ifs tc:=hX▸B.ifs H2.objs.size fp;have be:PE Y elt te:=hX▸B.elt H2.objs.size fp;have eP:Y.prog=X.prog:=by rw[<- hX];rfl
 have ew:Y.w=X.w:=by rw[<- hX];rfl
 have eK:Y.K=X.K:=by rw[<- hX];rfl
 have eA:Y.A=X.A:=by rw[<- hX];rfl
 have eE:Y.env=compEnvC scope (iA X scope H2.objs.size) H2.objs.size X.env:=by rw[<- hX];rfl
 have eX:Y.xe=λ_ _=>False:=by rw[<- hX];rfl
 have ec:Y.calm=true:=by rw[<- hX];exact hc
 have never:∀{E:aw->ax->Prop} (e:aw) (s':ax),Y.xe e s'->E e s':=λ{E} e s' z=>by rw[eX]at z;exact z.elim
 have out:∀{pins' σ' H' s'},aA Y pins' σ' H' s'->aA X ai σ H' s':=λ{_ _ _ _} I'=>az9 (C:=H2.objs.size) (E:=λ_ _=>False) (scope:=scope) (N:=N) I hf (hX▸I')
 have loop:codeAny (model X.prog X.w) X.A (.compLoop (.ListComp elt [⟨tg,iter,ifs,0⟩] scope pos) 0 (.ref it) (.ref s.heap.objs.size) (compEnvC scope (iA X scope H2.objs.size) H2.objs.size X.env))
   (Rr (.ref s.heap.objs.size) H2.objs.size) { s with heap:=h₁ }:=by
  refine az6 (λn s'=>∃i acc H',aA Y [] (gE fr σ) H' s'/\tn i s'.heap/\(∀b∈fp,H' b=none)/\W i n acc H') ?_ m0 ⟨0,[],_,I0,st1,fr0,w0⟩;rintro n s3 ⟨i,acc,H3,I3,st3,fr3,w3⟩;unfold wI;dsimp only
  obtain⟨hD3,step⟩:=turn i n acc H3 w3
  rcases step with⟨stop,qn⟩|⟨go,step⟩
  ·have z:=T.done Y eP ew eK ec i [] s3 _ H3 (notedBy (model X.prog X.w) X.A (compEnvC scope (iA X scope H2.objs.size) H2.objs.size X.env) λe s'=>Rr (.ref s.heap.objs.size) H2.objs.size (.error e) s') I3 (stat fr3) st3 stop
   rw[eA]at z;refine aO z λr s4 ⟨hr,I4⟩=>?_
   subst hr
   obtain⟨m4,hn4,_⟩:=I4.loc
   rw[eE]at hn4;have f4:=I4.free;rw[eE]at f4;exact hend _ _ s4 H3 m4 hCle (bq4 _) (out I4) hn4 f4 qn
  ·have z:=T.item Y eP ew eK ec i [] s3 _ H3 (notedBy (model X.prog X.w) X.A (compEnvC scope (iA X scope H2.objs.size) H2.objs.size X.env) λe s'=>Rr (.ref s.heap.objs.size) H2.objs.size (.error e) s') I3 (stat fr3) st3 go
   rw[eA]at z;refine aO z λr s4 ⟨u,hr,h4⟩=>?_
   subst hr;refine aO h4 λ_ s5 ⟨x,H5,I5,r5,y5,st5,fr5⟩=>?_
   have I5':=I5.pinned (stat fr5) (T.obj _ _ st5);have q1:=bt _ s5 _ H5 x u _ I5' r5 (step x H5 y5);rw[eP,ew,eA,eE]at q1;refine bw0 q1 (λ_ s6 ⟨σ6,H6,I6,wk,q6⟩=>?_) never;have q2:=bi _ s6 σ6 H6 _ I6 q6;rw[eP,ew,eA,eE]at q2;refine bw0 q2 (λb s7 ⟨H7,I7,q7⟩=>?_) never;have again:∀{H8:Hp}{s8:ax}{acc':List V},aA Y ([]++oX fp s5.heap) σ6 H8 s8->(∃m',m'<n/\W (i+1) m' acc' H8)->∃m,m<n/\∃i acc H',aA Y [] (gE fr σ) H' s8/\tn i s8.heap/\(∀b∈fp,H' b=none)/\W i m acc H':=λ{H8 s8 acc'} I8 n8=>by
    obtain⟨m',hm,w8⟩:=n8
    refine⟨m',hm,i+1,acc',H8,(I8.unpinned).weak wk.1 wk.2,T.keep _ _ _ st5 λb hb o e=>(I8.pin (b,o) (bs2 _ (bs2 _ (sC hb e)))).1,λb hb=>?_,w8⟩
    obtain⟨o,e,d⟩:=T.obj _ _ st5 b hb
    exact (I8.pin (b,o) (bs2 _ (bs2 _ (sC hb e)))).2.1
   cases b with
   |false=>
    rw[if_neg bq7]at q7 ⊢;exact again I7 q7
   |true=>
    rw[if_pos rfl]at q7 ⊢;have q3:=be _ s7 σ6 H7 _ I7 q7;rw[eP,ew,eA,eE]at q3;refine bw0 q3 (λv s8 ⟨y,H8,I8,r8,hD8,hz8,q8⟩=>?_) never;have q4:=sG _ s8 σ6 H8 (.ref s.heap.objs.size) [y] (.ref s.heap.objs.size) [v] (λ_ H9=>∃m',m'<n/\W (i+1) m' (acc++[y]) H9) I8 rfl (.cons r8 .nil) ⟨_,_,_,rfl,rfl,hD8,hz8,q8⟩;rw[eP,ew,eA]at q4;exact bw0 q4 (λ_ s9 ⟨_,H9,I9,_,q9⟩=>again I9 q9) never
 exact codeAny_compStart_list loop (T.self _ 0 _ _ _ st1 loop)
end
section
variable {X:Cx}{scope:Scope}{N:List Str}{fr:List (Option Nat)}{tg iter elt:Expr}{ifs:List Expr}{pos:Pos}{wi:TI}{g:TG}{tc:TT}{te:TE}
theorem aA.drop {ai:List (ay×Obj)}{σ:St}{H H':Hp}{s s':ax}{C:ay}{h':Heap}(I0:aA X ai σ H s)(hC:s.heap.objs.size<=C){σ':St}(I:aA X ai σ' H' s')(hn:H' C=none)(sb:Heap.SameBut C s'.heap h'):aA X ai σ' H' { s' with heap:=h' }:=by
 refine I.turned (t':=s'.toks) (it:=C) (λb o hb e=>(sb.2 b hb).trans e) hn (bA3 (br3 I0.lt hC)) (.inr (bt6 I0.sz hC)) (λx c e z=>?_) λp hp z=>?_
 ·obtain⟨v,q⟩:=I0.cell x c e
  exact absurd (br3 q.lt (by rw[z];exact hC)) (bw3 _)
 ·exact absurd (br3 (br9 (I0.pin p hp).1) (by rw[z];exact hC)) (bw3 _)
theorem aA0 {i:Nat}{x:Str}{px spos:Pos}(hc:X.calm=true)(S:eF X scope N fr)(hi:PI X tg iter wi)(B:wJ X scope N tg ifs elt g tc te)(hN:X.N.Nodup)(hix:X.N[i]? = some x)(hx:X.env.scope.names.lookup x=some .local)(hsw:swapsWith (.ListComp elt [⟨tg,iter,ifs,0⟩] scope pos) (some (.Name x px)) spos.line X.env=pure true)(hs:∀x,foldedSetIterable iter X.env x=pure x:=by intro _;rfl) :
  PS X (.Assign [.Name x px] (.ListComp elt [⟨tg,iter,ifs,0⟩] scope pos) spos) (iZ (az7 wi fr g tc te) (dO i)):=by
 intro ai s σ H D I h;rw[exec_Assign_Name_used _ _ _ _ hsw];refine bp7 (wpAny_standAt (bp7 ?_));show wpAny _ _ (do let _ <- comprehension (.ListComp elt [⟨tg,iter,ifs,0⟩] scope pos) scope X.env _ (newList []) false (eval iter X.env) (some (assign (.Name x px) X.env))) _ _ s
 refine bp7 (bw0 (wpAny_comprehension_free (Q:=λ_ s'=>SP X ai D .next s') (use:=some (assign (.Name x px) X.env)) rfl hs (wD (S.cells I)) S.kind S.names (aO (hi ai s σ H _ I h) λv s1 h1=>aO h1 λitv s2 h2=>?_))
  (λ_ s' hq=>bq5 (bq5 hq)) λ_ _ e=>e)
 obtain⟨it,fp,tn,J,H2,e,I2,T,st2,f2,hW⟩:=h2
 subst e;refine wK (Rr:=λacc C=>compPost (model X.prog X.w) X.A X.xe (some (assign (.Name x px) X.env)) (λ_ s'=>SP X ai D .next s') acc C) hc S (B.at _ _) I2 T st2 f2 hW ?_;intro D' C s' H' m hC hD I' hns hHC q;refine wpAny_assign_Name (vC I' hN hix (.inl hx) (v:=.ref D') rfl (λs'' I'' sb=>?_) (.inr hx))
 obtain⟨a,sb,ha⟩:=sb
 have hCa:C≠a:=by
  rcases ha with z|z
  ·rw[z];exact bA3 (br3 I2.lt hC)
  ·intro e;subst e
   obtain⟨v,q⟩:=I2.cell x _ z
   exact absurd (br3 q.lt hC) (bw3 _)
 exact⟨m,hns.sameBut sb hCa,λh' sb'=>⟨_,H',I2.drop hC I'' hHC sb',q⟩⟩
variable {gh:Hp→TG}{tch:Hp→TT}{teh:Hp→TE}
noncomputable def wL (wi:TI)(fr:List (Option Nat))(gh:Hp->TG)(tch:Hp->TT)(teh:Hp->TE):TE:=λσ H Q=>wi σ H λJ H1=>∀D,H1 D=none->
 ∃W:Nat->Nat->List V->Hp->Prop,(∃m,W 0 m [] (upd H1 D (.lst [])))/\sM (gh H1) (tch H1) (teh H1) (gE fr σ) J D Q W
theorem wM (hc:X.calm=true)(S:eF X scope N fr)(hi:PI X tg iter wi)(B:∀(s:ax) (H:Hp),nC X scope N tg ifs elt s H (gh H) (tch H) (teh H))(hs:∀x,foldedSetIterable iter X.env x=pure x:=by intro _;rfl):PE X (.ListComp elt [⟨tg,iter,ifs,0⟩] scope pos) (wL wi fr gh tch teh):=by
 intro ai s σ H Q I h;rw[eval_ListComp];refine wpAny_comprehension_free (use:=none) rfl hs (wD (S.cells I)) S.kind S.names (aO (hi ai s σ H _ I h) λv s1 h1=>aO h1 λitv s2 h2=>?_)
 obtain⟨it,fp,tn,J,H2,e,I2,T,st2,f2,hW⟩:=h2
 subst e;refine wK (Rr:=λacc C=>compPost (model X.prog X.w) X.A X.xe none (EP X ai σ Q) acc C) hc S (B _ _) I2 T st2 f2 hW ?_;intro D C s' H' m hC hD I' hns hHC q
 exact⟨m,hns,λh' sb=>⟨.ref D,H',I2.drop hC I' hHC sb,rfl,q⟩⟩
theorem aA1 {i:Nat}{x:Str}{px spos:Pos}(hc:X.calm=true)(S:eF X scope N fr)(hi:PI X tg iter wi)(B:∀(s:ax) (H:Hp),nC X scope N tg ifs elt s H (gh H) (tch H) (teh H))(hN:X.N.Nodup)(hix:X.N[i]? = some x)(hx:X.env.scope.names.lookup x=some .local)(hsw:swapsWith (.ListComp elt [⟨tg,iter,ifs,0⟩] scope pos) (some (.Name x px)) spos.line X.env=pure true)(hs:∀x,foldedSetIterable iter X.env x=pure x:=by intro _;rfl) :
  PS X (.Assign [.Name x px] (.ListComp elt [⟨tg,iter,ifs,0⟩] scope pos) spos) (iZ (wL wi fr gh tch teh) (dO i)):=by
 intro ai s σ H D I h;rw[exec_Assign_Name_used _ _ _ _ hsw];refine bp7 (wpAny_standAt (bp7 ?_));show wpAny _ _ (do let _ <- comprehension (.ListComp elt [⟨tg,iter,ifs,0⟩] scope pos) scope X.env _ (newList []) false (eval iter X.env) (some (assign (.Name x px) X.env))) _ _ s
 refine bp7 (bw0 (wpAny_comprehension_free (Q:=λ_ s'=>SP X ai D .next s') (use:=some (assign (.Name x px) X.env)) rfl hs (wD (S.cells I)) S.kind S.names (aO (hi ai s σ H _ I h) λv s1 h1=>aO h1 λitv s2 h2=>?_))
  (λ_ s' hq=>bq5 (bq5 hq)) λ_ _ e=>e)
 obtain⟨it,fp,tn,J,H2,e,I2,T,st2,f2,hW⟩:=h2
 subst e;refine wK (Rr:=λacc C=>compPost (model X.prog X.w) X.A X.xe (some (assign (.Name x px) X.env)) (λ_ s'=>SP X ai D .next s') acc C) hc S (B _ _) I2 T st2 f2 hW ?_;intro D' C s' H' m hC hD I' hns hHC q;refine wpAny_assign_Name (vC I' hN hix (.inl hx) (v:=.ref D') rfl (λs'' I'' sb=>?_) (.inr hx))
 obtain⟨a,sb,ha⟩:=sb
 have hCa:C≠a:=by
  rcases ha with z|z
  ·rw[z];exact bA3 (br3 I2.lt hC)
  ·intro e;subst e
   obtain⟨v,q⟩:=I2.cell x _ z
   exact absurd (br3 q.lt hC) (bw3 _)
 exact⟨m,hns.sameBut sb hCa,λh' sb'=>⟨_,H',I2.drop hC I'' hHC sb',q⟩⟩
end
theorem cS {H:Hp}{p:ay}(h:H p=none)(o:HO):aI H (upd H p o):=λb u q=>by rw[aK (dI q h)];exact q
theorem aI.tup {K:ad}{H H':Hp}{a:ay}{xs:List V}(e:aI H H')(h:aQ K H a xs):aQ K H' a xs:=by
 rcases h with (h|⟨o,h⟩)|h
 ·exact .inl (.inl (e _ _ h))
 ·exact .inl (.inr ⟨o,e _ _ h⟩)
 ·exact .inr h
structure N7 (H:Hp)(J:It)(xs:List V):Prop where
 go:∀i H',aI H H'->i<xs.length->J.go i H'
 yld:∀i H' x H2,aI H H'->J.yld i H' x H2->i<xs.length->xs[i]? = some x/\H2=H'
 stop:∀H',aI H H'->J.stop xs.length H'
theorem aA2 {K:ad}{H:Hp}{a:ay}{xs:List V}(h:aQ K H a xs):N7 H (kO K a) xs:=
 ⟨λi H' e hi=>⟨xs,xs[i],e.tup h,by simp[hi]⟩,λi H' x H2 e y hi=>⟨y.2 xs (e.tup h),y.1⟩,λH' e=>⟨xs,e.tup h,bq4 _⟩⟩
noncomputable def CW (H1:Hp)(D:ay)(n:Nat)(Pv:Nat->List V->Hp->Prop):Nat->Nat->List V->Hp->Prop:=λi m acc H'=>m=n-i/\i<=n/\acc.length<=i/\aI H1 H'/\H' D=some (.lst acc)/\Pv i acc H'
noncomputable def N8 (H1:Hp)(D:ay)(n:Nat)(Pv:Nat->List V->Hp->Prop)(i:Nat)(acc:List V)(v:V)(H5:Hp):Prop:=H5 D=some (.lst acc)/\acc.length<sizeLine/\∃m',m'<n-i/\CW H1 D n Pv (i+1) m' (acc++[v]) (upd H5 D (.lst (acc++[v])))
noncomputable def CNo (H1:Hp)(D:ay)(n:Nat)(Pv:Nat->List V->Hp->Prop)(i:Nat)(acc:List V)(H4:Hp):Prop:=∃m',m'<n-i/\CW H1 D n Pv (i+1) m' acc H4
structure wN (H1:Hp)(D:ay)(n i:Nat)(acc:List V)(H':Hp):Prop where
 lt:i<n
 few:acc.length<=i
 sz:n<=sizeLine
 same:aI H1 H'
 new:H1 D=none
 acc:H' D=some (.lst acc)
theorem wN.yes {H1:Hp}{D:ay}{n i:Nat}{acc:List V}{H' H5:Hp}{Pv:Nat->List V->Hp->Prop}{v:V}(c:wN H1 D n i acc H')(s:aI H' H5)(p:Pv (i+1) (acc++[v]) (upd H5 D (.lst (acc++[v])))):N8 H1 D n Pv i acc v H5:=by
 refine⟨s _ _ c.acc,Nat.lt_of_le_of_lt c.few (br3 c.lt c.sz),_,?_,rfl,c.lt,?_,λb o e=>?_,bH,p⟩
 ·have:=c.lt;omega
 ·rw[br4,List.length_singleton];exact Nat.succ_le_succ c.few
 ·rw[aK (dI e c.new)];exact s _ _ (c.same _ _ e)
theorem aA3 {H1:Hp}{J:It}{xs:List V}{g:TG}{tc:TT}{te:TE}{σ0:St}{Q:VK}(O:N7 H1 J xs)(Pv:Nat->List V->Hp->Prop)(hn:xs.length<=sizeLine)(h0:∀D,H1 D=none->Pv 0 [] (upd H1 D (.lst [])))(hs:∀i x acc D H',xs[i]? = some x->wN H1 D xs.length i acc H'->Pv i acc H'->g x σ0 H' λσ2 H3=>Wk σ0 σ2/\tc σ2 H3 λb H4=>
   if b=true then te σ2 H4 λv H5=>N8 H1 D xs.length Pv i acc v H5 else CNo H1 D xs.length Pv i acc H4)(hd:∀D acc H',H1 D=none->aI H1 H'->H' D=some (.lst acc)->acc.length<=xs.length->Pv xs.length acc H'->Q (.ref D) H') :
  ∀D,H1 D=none->∃W:Nat->Nat->List V->Hp->Prop,(∃m,W 0 m [] (upd H1 D (.lst [])))/\sM g tc te σ0 J D Q W:=by
 intro D hD;refine⟨CW H1 D xs.length Pv,⟨xs.length,rfl,bu8 _,bq4 _,cS hD _,bH,h0 D hD⟩,?_⟩;rintro i m acc H' ⟨rfl,hi,ha,sm,hDa,p⟩;refine⟨hDa,?_⟩;by_cases hlt:i<xs.length
 ·refine .inr ⟨O.go i H' sm hlt,λx H2 y=>?_⟩
  obtain⟨hx,e⟩:=O.yld i H' x H2 sm y hlt
  subst e;exact hs i x acc D H2 hx ⟨hlt,ha,hn,sm,hD,hDa⟩ p
 ·have e:i=xs.length:=by omega
  subst e;exact .inl ⟨O.stop H' sm,hd D acc H' hD sm hDa ha p⟩
end L2
namespace Srt
open PySem PySem.W PyProof.Rows
noncomputable abbrev G (p:Array Nat)(i:Nat):Nat:=p.getD i 0
noncomputable def PP (n:Nat)(p:Array Nat):Prop:=p.toList.Perm (List.range n)
structure Ord (c:Nat->Nat->Bool):Prop where
 asym:∀{i j},c i j=true->c j i=false
 ntr:∀{i j k},c i j=false->c j k=false->c i k=false
end Srt
namespace L2
open PySem PySem.Spec PyProof.Rows
theorem wO:∀{xs:List V}{us:List aw} (i:Nat),i<xs.length->aN xs us->aR (xs.getD i .non) (us.getD i Value.none)
 |_,_,_,h,.nil=>by simp at h
 |_,_,0,_,.cons r _=>by simpa using r
 |_,_,i+1,h,.cons _ t=>by
  have:=wO i (by simpa using h) t
  simpa using this
theorem wP {α:Type}:∀l:List α,(l.zip l).map (·.2)=l
 |[]=>rfl
 |a::l=>by
  show a::((l.zip l).map (·.2))=a::l;rw[wP l]
theorem aA4 {prog:az}{w:bc}{A:ba}{E:aw->ax->Prop}{s:ax}{a:ay}{vs:List aw}{n:Nat}{P:PySem.Fin->ax->Prop}(e:s.heap.get? a=some (seqObj "list" vs.toArray n))(few:vs.length<2)(q:P (.done (.ret .none)) { s with heap:=sortedHeap s.heap a vs vs.toArray }):wpAny (model prog w) A (Builtin.«list.sort» ⟨[.ref a],[]⟩) P E s:=by
 have big:vs.length<=sizeLine:=bt6 (by9 few) (by decide);have la:=br9 e;have c:vs.toArray.size<2:=by simpa using few
 have same:(arrOf (SortSt.mk' general' (vs.toArray.zip vs.toArray) #[] 7 none)).map (·.2)=vs.toArray:=by
  change (vs.toArray.zip vs.toArray).map (·.2)=vs.toArray
  apply Array.ext';simpa using wP vs
 obtain⟨k,ek⟩:∃k,(s.heap.update a (Obj.mapSeq λ_=>#[])).get? a=some (seqObj "list" #[] k):=⟨_,get?_update_seq e λ_=>#[]⟩
 have there:(((s.heap.update a (Obj.mapSeq λ_=>#[])).push (seqObj "tuple" vs.toArray 0)).push (seqObj "list" #[] 0)).get? a=some (seqObj "list" #[] k):=
  bq0 _ (bq0 _ ek)
 rw[list_sort_plain];apply bp7;apply listItems_at e rfl;apply bp7;refine listUpdate_at e rfl ?_ (by simpa using big) (bu8 _);apply bp7;apply seqEpoch_at ek rfl;apply bp7;refine wpAny_newTuple ?_ big;apply bp7;refine wpAny_newList ?_ (bu8 _);apply by3;simp only[c,if_true,StateT.run_pure];apply bp7;apply bq5;apply bp7;apply bq5;apply bp7;apply seqEpoch_at there rfl;apply bp7;refine listUpdate_at there rfl ?_ (bu8 _) (by rw[same,bq9];exact Nat.le_succ_of_le big);rw[same];simp only[bne_self_eq_false,bs8,bx3];exact bq5 q
theorem aA5 {prog:az}{w:bc}{A:ba}{E:aw->ax->Prop}{s:ax}{l:ay}{vs:List aw}{Q:aw->ax->Prop}(hl:s.heap.IsList l vs.toArray)(few:vs.length<2)(q:Q (.ref (s.heap.objs.size+1)) { s with heap:=sortedAll s.heap vs vs.toArray }):wpAny (model prog w) A (call (.builtin "sorted") [.ref l]) Q E s:=by
 have big:vs.length<=sizeLine:=bt6 (by9 few) (by decide);apply Calls.call_function_entry kind_sorted plain_sorted entry_sorted (args_sorted1 _);simp only[Builtin.«sorted»];apply bp7 (m:=checkCount "sorted" 1 1 _);apply bq5;apply bp7;refine collect_list hl ?_ big;apply bp7;refine wpAny_newList ?_ big;have one:((s.heap.push (seqObj "list" #[] 0)).update s.heap.objs.size (Obj.mapSeq (·++vs.toArray))).objs.size=s.heap.objs.size+1:=(Heap.size_update _ _ _).trans (size_push' _ _);have at1:(((s.heap.push (seqObj "list" #[] 0)).update s.heap.objs.size (Obj.mapSeq (·++vs.toArray))).push (seqObj "list" vs.toArray 0)).get? (s.heap.objs.size+1)=some (seqObj "list" vs.toArray 0):=one▸br7 _ rfl
 change wpAny _ _ _ _ _ { s with heap:=((s.heap.push (seqObj "list" #[] 0)).update s.heap.objs.size (Obj.mapSeq (·++vs.toArray))).push (seqObj "list" vs.toArray 0) }
 rw[one];apply bp7;apply by3;refine bw6 slot_list_sort ⟨_,at1,rfl⟩ entry_list_sort ?_ (args_list_sort _);refine aA4 at1 few ⟨_,rfl,?_⟩;exact bq5 ⟨_,rfl,q⟩
section
variable {prog:az}{w:bc}{A:ba}{s:ax}{Q:Bool→ax→Prop}
theorem N9:∀{us ws:List aw}{xs ys:ag} (i:Nat),IntsAre us xs->IntsAre ws ys->Q (HT.cK xs ys) s->PySem.W.KatLex prog w A true (decide (us.length<ws.length)) Q (us.zip ws) i s
 |_,_,_,_,_,.nil,.nil,h=>h
 |_,_,_,_,_,.nil,.cons _ _ _,h=>h
 |_,_,_,_,_,.cons _ _ _,.nil,h=>h
 |_,_,_,_,i,.cons (vs:=us) x t hx,.cons (vs:=ws) y u hy,h=>by
  refine PySem.W.kat_cons (wpAny_eqBool_int ?_);rw[HT.jL]at h;by_cases e:x=y
  ·rw[if_pos e]at h
   have eb:(x==y)=true:=by simpa using e
   rw[eb];refine PySem.W.kat_yes ?_;have e2:decide ((Value.int x t::us).length<(Value.int y u::ws).length)=decide (us.length<ws.length):=by simp
   rw[e2];exact N9 (i+1) hx hy h
  ·rw[if_neg e]at h
   have eb:(x==y)=false:=by simpa using e
   rw[eb];refine PySem.W.kat_no ?_;cases hi:(true&&i==0) with
   |true=>exact PySem.W.kat_lt_int h
   |false=>exact PySem.W.kat_one _ _ (lt_int h)
end
end L2
namespace Raw
open PySem PySem.W PySem.Calls PyProof.Rows
noncomputable def pD (h:Heap)(d:ay)(es:Array DictEntry)(ep:Nat):Prop:=∃o,h.get? d=some o/\o.ExactDict/\o.data = .dict es ep
theorem pD.ty {s:ax}{d:ay}{es:Array DictEntry}{ep:Nat}(x:pD s.heap d es ep):s.TypeIs (.ref d) "dict":=x.elim λo y=>⟨o,y.1,y.2.1.1⟩
section
variable {prog:az}{w:bc}{A:ba}{E:aw→ax→Prop}{s:ax}{d it:ay}{es:Array DictEntry}{ep i:Nat}
theorem made (far:(d==sysModules)=false)(x:pD s.heap d es ep){Q:aw->ax->Prop}(q:Q (.ref s.heap.objs.size) { s with heap:=s.heap.push { cls:=.type "dict_keyiterator",data:=.fields #[.ref d,.int 0 0,.int es.size 0,.int ep 0] } }):wpAny (model prog w) A (pyIter (.ref d)) Q E s:=by
 have T:=x.ty
 obtain⟨o,e1,e2,e3⟩:=x
 apply wpAny_pyIter_slot T PySem.F.slot_dict_iter;apply bw6 PySem.F.slot_dict_iter T PySem.F.entry_dict_iter _ (PySem.F.args_dict_iter_1 _);simp only[Builtin.«dict.__iter__»,Builtin.Dict.dictSlotNone];apply bp7;apply bp7;apply wpAny_notOrdered_dict T;apply bq5
 change wpAny _ _ (Builtin.Dict.showsAll d >>= _) _ _ s
 have far':Builtin.Dict.showsAll d=pure ():=by
  unfold Builtin.Dict.showsAll;simp only[far,bs8,bx3]
 rw[far',pure_bind];apply bp7;apply wpAny_dictEntries e1 e3;apply bp7;apply wpAny_dictEpoch e1 e3;apply bp7;refine bv9 (bq5 ?_);refine⟨.ref s.heap.objs.size,rfl,"dict_keyiterator",_,⟨_,br7 _ rfl,rfl⟩,PySem.F.slot_dict_keyiterator_next.lookup,?_⟩;simpa only[rawInt] using q
theorem turn (hh:A.handled=none)(hi:s.heap.IsKeyIter it d i es.size ep)(x:pD s.heap d es ep){Q:Option aw->ax->Prop}(yes:∀(lt:i<es.size) h',h'.IsKeyIter it d (i+1) es.size ep->Heap.SameBut it s.heap h'->Q (some es[i].key) { s with heap:=h' })(no:es.size<=i->∀h',Heap.ExtBut it s.heap h'->Q none { s with heap:=h' }):wpAny (model prog w) A (pyNext (.ref it)) Q E s:=by
 have T:=hi.typeIs
 obtain⟨oi,f1,f2,f3⟩:=hi
 obtain⟨o,e1,e2,e3⟩:=x
 have slot:=PySem.F.slot_dict_keyiterator_next;have plain:Builtin.Dict_items.ownsTuple "dict_keyiterator" = false:=by decide
 have isref:(Value.ref d==Value.none)=false:=rfl;have nn:¬(i:Int)<0:=by omega
 unfold pyNext;apply bp7;apply bG2;apply bz2 (name:=Str.ofString "__next__") T slot;apply bw6 slot T PySem.F.entry_dict_keyiterator_next _ (PySem.F.args_dict_keyiterator_next_1 _);apply bp7;apply bq5;apply bp7;apply bp7;apply bp7
 first
  |apply wpAny_typeNameOfWhole_keyiter T
  |apply wpAny_typeNameOf_keyiter T
 apply bq5;apply bp7;apply wpAny_fieldsOf f1 f3;simp only[plain,bs8,bx3]
 change wpAny _ _ (if (Value.ref d==Value.none)=true then _ else _) _ _ s
 have adr:Builtin.Dict_items.addrOf (Value.ref d)=pure d:=rfl;simp only[isref,bs8,bx3,adr,pure_bind];apply bp7;apply wpAny_dictEntries e1 e3;simp only[bne_self_eq_false,bs8,bx3];apply bp7;apply wpAny_dictEpoch e1 e3;simp only[bne_self_eq_false,bs8,bx3];apply bq5;simp only[nn,bx3,bu1];by_cases lt:i<es.size
 ·simp only[Array.getElem?_eq_getElem lt]
  apply bp7;apply bp7
  first
   |apply wpAny_typeNameOfWhole_keyiter T
   |apply wpAny_typeNameOf_keyiter T
  apply bq5;apply bp7;apply wpAny_isOneOf_keyiter T
  change wpAny _ _ (setField (.ref it) 1 (rawInt ((i:Int)+1)) >>= _) _ _ s
  apply bp7;refine bG4 f1 f3 (by simp) ?_;have again:(s.heap.update it (Obj.mapFields (·.setIfInBounds 1 (rawInt ((i:Int)+1))))).IsKeyIter it d (i+1) es.size ep:=by
   refine⟨_,bw9 _ f1 (Obj.isFreed_of_fields (bA6 f3 _)),?_,?_⟩
   ·rw[Obj.cls_mapFields];exact f2
   ·rw[bA6 f3];simp[rawInt]
  apply bp7;apply by3;apply bp7;refine wpAny_isOneOf_keyiter (s:={ s with heap:=s.heap.update it (Obj.mapFields (·.setIfInBounds 1 (rawInt ((i:Int)+1)))) }) again.typeIs ?_
  change wpAny _ _ (pure es[i].key) _ _ _
  apply bq5;apply bq5
  exact⟨es[i].key,rfl,bq5 (yes lt _ again (Heap.SameBut.update ..))⟩
 ·have ge:es.size<=i:=Nat.le_of_not_lt lt
  simp only[Array.getElem?_eq_none ge];apply bp7;apply bp7
  first
   |apply wpAny_typeNameOfWhole_keyiter T
   |apply wpAny_typeNameOf_keyiter T
  apply bq5
  change wpAny _ _ (setField (.ref it) 0 .none >>= _) _ _ s
  apply bp7;refine bG4 f1 f3 (by simp) ?_;apply bp7;simp only[newExc,newTuple];apply bp7;refine bv9 ?_ (by size_fits);apply bp7;refine bD3 (a:=Value.none) (by first|rfl|(simp only[firstArgMember];rfl)) ?_;refine bv9 ?_ (by size_fits);unfold raiseNew;apply bp7;apply wpAny_handled;have quiet:A.in1.handled=none:=hh;rw[quiet];refine wpAny_throw ?_;apply bp7;refine bE5 (T:="StopIteration") (b:=true) ⟨_,br7 _ rfl,rfl⟩ isSubtype_stop ?_;exact bq5 (no ge _ (((Heap.SameBut.update ..).extBut.push _).push _))
end
end Raw
namespace L2
open PySem PySem.Spec PyProof.Rows
section
variable {X:Cx}
theorem aA6:e8 X (.builtin "isinstance") (λxs H Q=>∃x t n b,xs = [x,.ty n]/\gC X.K H x t/\PySem.W.kitOne X.K t (.type n)=some b/\Q (.bl b) H):=by
 intro ai s σ H xs us Q I r h
 obtain⟨x,t,n,b,rfl,ty,e,q⟩:=h
 obtain⟨u,u',rfl,ru,ru'⟩:=vP r
 cases ru';exact aw4 I ru ty e λtk=>⟨.bl b,H,I.tok tk,rfl,q⟩
end
noncomputable def O0 (outer:List (Str×NameKind))(XN:List Str)(names:List (Str×NameKind))(N:List Str)(fr:List (Option Nat)):Bool:=
 names.all (λy=>!(y.2==.cell)||names.lookup y.1==some .cell)&&names.all (λy=>!(y.2==.local)||names.lookup y.1==some .local) &&
 names.all (λy=>!(y.2==.free)||(outer.lookup y.1==some .cell||outer.lookup y.1==some .free))&&fr.length==N.length &&
 (fr.zip N).all (λp=>match p.1 with
  |none=>true
  |some j=>XN[j]?==some p.2&&names.lookup p.2==some .free)
theorem eF.of {X:Cx}{scope:Scope}{N:List Str}{fr:List (Option Nat)}(hk:scope.kind = .function)(h:O0 X.env.scope.names X.N scope.names N fr=true):eF X scope N fr:=by
 unfold O0 at h;simp only[bt4]at h
 obtain⟨⟨⟨⟨h1,h2⟩,h3⟩,h4⟩,h5⟩:=h
 refine⟨hk,λy hy e=>?_,λy hy e=>?_,λy hy e=>?_,by simpa using h4,λi j e=>?_⟩
 ·have:=bC7.mp h1 y hy
  rw[e]at this;simpa using this
 ·have:=bC7.mp h2 y hy
  rw[e]at this;simpa using this
 ·have:=bC7.mp h3 y hy
  rw[e]at this;simpa using this
 ·have hl:fr.length=N.length:=by simpa using h4
  have hi:i<fr.length:=(bs1.mp e).1;have m:(some j,N[i]'(by omega))∈fr.zip N:=by
   have:(fr.zip N)[i]? = some (some j,N[i]'(by omega)):=by
    rw[List.getElem?_zip_eq_some]
    exact⟨e,by simp⟩
   exact bv1 this
  have:=bC7.mp h5 _ m
  simp only[bt4,beq_iff_eq]at this
  exact⟨N[i]'(by omega),by simp,this.1,this.2⟩
theorem wk0 {n:Option V}{r:St}{v:V}:Wk (none::r) (some v::r):=(Wk.refl (none::r)).set (i:=0) rfl
noncomputable def pE (H:Hp)(ys:List V)(ls:aa):Prop:=Paired (λy l=>∃b,y = .ref b/\H b=some (.tup [.int l.1,.int l.2])) ys ls
structure O1 (H:Hp)(v:V)(ws:ag)(ls:aa):Prop where
 at_:∃a p q ys,v = .ref a/\H a=some (.tup [.ref p,.ref q])/\H p=some (.tup (ws.map V.int))/\H q=some (.tup ys)/\pE H ys ls
theorem pE.get {H:Hp}:∀{ys:List V}{ls:aa}{i:Nat}{y:V},pE H ys ls->ys[i]? = some y->∃l b,ls[i]? = some l/\y = .ref b/\H b=some (.tup [.int l.1,.int l.2])
 |_,_,_,_,.nil,e=>by simp at e
 |_,_,0,_,.cons (b:=l) ⟨b,h1,h2⟩ _,e=>by simp at e;subst e;exact⟨l,b,rfl,h1,h2⟩
 |_,_,i+1,_,.cons _ t,e=>by
  obtain⟨l,b,h1,h2⟩:=pE.get (i:=i) t (by simpa using e)
  exact⟨l,b,by simpa using h1,h2⟩
noncomputable def bN (ls:aa)(k:Int):ag:=ls.flatMap λl=>(if l.1=k then [l.2] else [])++(if l.2=k then [l.1] else [])
theorem aA7 (ls:aa)(l:Int×Int)(k:Int):bN (ls++[l]) k=bN ls k++((if l.1=k then [l.2] else [])++(if l.2=k then [l.1] else [])):=by
 unfold bN;rw[List.flatMap_append];simp
theorem aA8 {ls:aa}{i:Nat}{l:Int×Int}(h:ls[i]? = some l)(k:Int):bN (ls.take (i+1)) k=bN (ls.take i) k++((if l.1=k then [l.2] else [])++(if l.2=k then [l.1] else [])):=by
 rw[bB5,h];exact aA7 _ _ _
structure jQ (H H':Hp)(r:ay)(bs:List ay)(f:Nat->ag):Prop where
 new:H r=none
 news:∀b∈bs,H b=none/\b≠r
 nd:bs.Nodup
 row:H' r=some (.lst (bs.map V.ref))
 rows:∀(k:Nat) (b:ay),bs[k]? = some b->H' b=some (.lst ((f k).map V.int))
 same:aI H H'
theorem jQ.congr {H H':Hp}{r:ay}{bs:List ay}{f g:Nat->ag}(h:jQ H H' r bs f)(e:∀k,k<bs.length->f k=g k):jQ H H' r bs g:=
 ⟨h.new,h.news,h.nd,h.row,λk b hb=>by rw[<- e k (bs1.mp hb).1];exact h.rows k b hb,h.same⟩
theorem jQ.app {H H':Hp}{r:ay}{bs:List ay}{f:Nat->ag}(h:jQ H H' r bs f){k:Nat}{b:ay}(hb:bs[k]? = some b)(x:Int) :
  jQ H (upd H' b (.lst ((f k).map V.int++[V.int x]))) r bs (λj=>if j=k then f j++[x] else f j):=by
 have hm:b∈bs:=bv1 hb;refine⟨h.new,h.news,h.nd,by rw[aK (Ne.symm (h.news b hm).2)];exact h.row,λj c hc=>?_,λc o e=>by rw[aK (dI e (h.news b hm).1)];exact h.same c o e⟩;by_cases hj:j=k
 ·subst hj
  rw[hb]at hc;cases hc;rw[bH,if_pos rfl];simp
 ·rw[if_neg hj]
  have ne:c≠b:=λz=>by
   subst z
   obtain⟨i1,e1⟩:=bs1.mp hb
   obtain⟨i2,e2⟩:=bs1.mp hc
   refine hj (Nat.le_antisymm (Nat.le_of_not_lt λz=>?_) (Nat.le_of_not_lt λz=>?_))
   ·exact bw4.mp h.nd _ _ i1 i2 z (e1.trans e2.symm)
   ·exact bw4.mp h.nd _ _ i2 i1 z (e2.trans e1.symm)
  rw[aK ne];exact h.rows j c hc
theorem wQ (ls:aa)(k:Int):(bN ls k).length<=2*ls.length:=by
 induction ls with
 |nil=>exact bq4 _
 |cons l r ih=>
  have e:bN (l::r) k=((if l.1=k then [l.2] else [])++(if l.2=k then [l.1] else []))++bN r k:=rfl;rw[e,br4,br4,bu9];have h1:(if l.1=k then [l.2] else []).length<=1:=by split<;>simp
  have h2:(if l.2=k then [l.1] else []).length<=1:=by split<;>simp
  omega
theorem pF {α:Type}{xs:List α}{i:Int}{v:α}(h0:0<=i)(h:xs[i.toNat]? = some v):atI xs i=some v:=by
 have:=K9 h
 rwa [show ((i.toNat:Nat):Int)=i by omega]at this
theorem iO {n:Nat}(h:n<=16000000):n<sizeLine:=by rw[sizeLine_eq];omega
theorem aA9 {σ:St}{H:Hp}{A B:Hp->Prop}(h:A H):wH σ H λb H4=>if b=true then A H4 else B H4:=by
 show if true=true then A H else B H
 rw[if_pos rfl];exact h
theorem pG {K:ad}{H:Hp}{p:ay}{xs:List V}(h:b8 K H p xs):pB K "list" (.ref p) H:=.inl ⟨rfl,xs,h⟩
end L2
namespace Zp
open PySem PyProof.Rows
section
variable {prog:az}{w:bc}{A:ba}{E:aw→ax→Prop}{s:ax}
theorem aB0 {it t:ay}{i:Nat}{items:Array aw}{x:aw}{Q:aw->ax->Prop}(hi:s.heap.IsTupleIter it t i)(ht:s.heap.IsTuple t items)(hx:items[i]? = some x)(q:∀h',h'.IsTupleIter it t (i+1)->Heap.SameBut it s.heap h'->Q x { s with heap:=h' }):wpAny (model prog w) A (Builtin.SmallTypes.nextOf (.ref it)) Q E s:=by
 have T:=hi.typeIs
 obtain⟨o,e1,e2,e3⟩:=hi
 obtain⟨u,f1,_,k,f3⟩:=ht
 have slot:=PySem.F.slot_tuple_iterator_next;have isref:(Value.ref t==Value.none)=false:=rfl;unfold Builtin.SmallTypes.nextOf;apply bp7;apply bz2 (name:=Str.ofString "__next__") T slot;apply bw6 slot T PySem.F.entry_tuple_iterator_next _ (PySem.F.args_tuple_iterator_next_1 _)
 change wpAny _ _ (field (.ref it) 0 >>= _) _ _ s
 apply bp7;refine by7 e1 e3 (x:=.ref t) rfl ?_
 change wpAny _ _ (if (Value.ref t==Value.none)=true then _ else _) _ _ s
 simp only[isref,bs8,bx3]
 change wpAny _ _ (field (.ref it) 1 >>= _) _ _ s
 apply bp7;refine by7 e1 e3 (x:=.int i 0) rfl ?_
 change wpAny _ _ (seqItems? (.ref t) >>= _) _ _ s
 apply bp7;apply bG3 f1 f3;simp only[bu1,hx];apply bp7;refine bG4 e1 e3 (by simp) ?_;apply bq5;refine⟨x,rfl,bq5 (q _ ⟨_,bw9 _ e1 (Obj.isFreed_of_fields (bA6 e3 _)),?_,?_⟩ (Heap.SameBut.update ..))⟩
 ·rw[Obj.cls_mapFields];exact e2
 ·rw[bA6 e3];simp[rawInt]
theorem aB1 {it t:ay}{i:Nat}{items:Array aw}{Q:aw->ax->Prop}(hh:A.handled=none)(hi:s.heap.IsTupleIter it t i)(ht:s.heap.IsTuple t items)(hx:items[i]? = none)(q:∀h' e,Heap.ExtBut it s.heap h'->(∃o,h'.get? e=some o/\o.cls = .type "StopIteration")->E (.ref e) { s with heap:=h' }):wpAny (model prog w) A (Builtin.SmallTypes.nextOf (.ref it)) Q E s:=by
 have T:=hi.typeIs
 obtain⟨o,e1,e2,e3⟩:=hi
 obtain⟨u,f1,_,k,f3⟩:=ht
 have slot:=PySem.F.slot_tuple_iterator_next;have isref:(Value.ref t==Value.none)=false:=rfl;unfold Builtin.SmallTypes.nextOf;apply bp7;apply bz2 (name:=Str.ofString "__next__") T slot;apply bw6 slot T PySem.F.entry_tuple_iterator_next _ (PySem.F.args_tuple_iterator_next_1 _)
 change wpAny _ _ (field (.ref it) 0 >>= _) _ _ s
 apply bp7;refine by7 e1 e3 (x:=.ref t) rfl ?_
 change wpAny _ _ (if (Value.ref t==Value.none)=true then _ else _) _ _ s
 simp only[isref,bs8,bx3]
 change wpAny _ _ (field (.ref it) 1 >>= _) _ _ s
 apply bp7;refine by7 e1 e3 (x:=.int i 0) rfl ?_
 change wpAny _ _ (seqItems? (.ref t) >>= _) _ _ s
 apply bp7;apply bG3 f1 f3;simp only[bu1,hx];apply bp7;apply bE7;apply bp7;refine bG4 e1 e3 (by simp) ?_;apply bp7;simp only[newExc,newTuple];apply bp7;refine bv9 ?_ (by size_fits);apply bp7;refine bD3 (a:=Value.none) (by first|rfl|(simp only[firstArgMember];rfl)) ?_;refine bv9 ?_ (by size_fits);unfold raiseNew;apply bp7;apply wpAny_handled;have quiet:A.in1.handled=none:=hh;rw[quiet];refine wpAny_throw ?_;exact q _ _ (((Heap.SameBut.update ..).extBut.push _).push _) ⟨_,br7 _ rfl,rfl⟩
end
end Zp
namespace L2
open PySem PySem.Spec PyProof.Rows
theorem aB2 (l:ay)(items:Array aw)(n:Nat)(b:ay)(items2:Array aw)(n2:Nat)(dd:Option ay)(ss:Array (Option aw))(h0:¬(!items.isEmpty&&Builtin.List.listTooLong (items.size+items2.size))=true)(h1:items.size<=sizeLine)(h2:items.size+items2.size<=sizeLine+1) :
  Meets (Builtin.«list.extend» ⟨[.ref l,.ref b],[]⟩) (λ_ R s=>s.heap.get? l=some { cls:=.type "list",dict:=none,data:=.seq items n,slots:=#[] }/\s.heap.get? b=some { cls:=.type "tuple",dict:=dd,data:=.seq items2 n2,slots:=ss }/\R (.ok (.ret Value.none)) { s with heap:=s.heap.update l (Obj.mapSeq λx=>x++items2),toks:=s.toks }):=
 .of_wp λprog w A R s h=>by
  obtain⟨hp,g,d,tk,os⟩:=s;obtain⟨hl,hb,h⟩:=h;have f2:=AutoSeq1.sub_tuple_tuple;have f3:=AutoSeq1.sub_list_list;have f4:=AutoSeq1.sub_tuple_list;have f5:=AutoSeq1.sub_list_tuple
  have hz':(items++items2).size<=sizeLine+1:=by rw[Array.size_append];exact h2
  wp_walk using (wpAny_updateSeq hl rfl (hz:=h1) (_hz':=hz')),AutoSeq1.wpAny_loadPart' hl,AutoSeq1.wpAny_loadPart' hb
  exact⟨_,rfl,h⟩
noncomputable def O2 (K:ad):V->List V->Hp->VK->Prop:=λx vs H Q=>∃(l b:ay) (xs zs:List V),x = .ref l/\vs = [.ref b]/\H l=some (.lst xs)/\aQ K H b zs/\xs.length+zs.length<=sizeLine/\Q .non (upd H l (.lst (xs++zs)))
theorem aB3 {X:Cx}:pC X "list.extend" (O2 X.K):=by
 intro ai s σ H x vs v us Q I rx rv h
 obtain⟨l,b,xs,zs,rfl,rfl,hH,hB,hz,q⟩:=h
 cases rx
 obtain⟨u,rfl,ru⟩:=rv.one
 cases ru
 obtain⟨z,its,n,r,hl,e⟩:=I.lstM hH
 obtain⟨aq,r2,⟨⟨cls,dd,data,ss⟩,e2,hc,n2,hd⟩,z2⟩:=I.tuple hB
 cases hc;cases hd;have hl2:=r2.length;have hsz:its.toArray.size+aq.toArray.size<=sizeLine:=by rw[bq9,bq9];omega
 have hlong:¬(!its.toArray.isEmpty&&Builtin.List.listTooLong (its.toArray.size+aq.toArray.size))=true:=by
  rw[M4 hsz,Bool.and_false];exact bq7
 refine bG9 F.slot_list_extend ⟨_,e,rfl⟩ F.entry_list_extend (F.args_list_extend_2 _ _)
  (aB2 l its.toArray n b aq.toArray n2 dd ss hlong (by rw[bq9];omega) (by omega)) ⟨e,e2,?_⟩
 refine⟨.non,_,I.lset (its':=its++aq) hH e (by simp) (r.append r2) ?_,rfl,q⟩;rw[br4];omega
end L2
namespace L2
open PySem PySem.Spec PyProof.Rows PySem.W
structure bC where
 qual:Str
 params:Arguments
 body:Expr
 scope:Scope
noncomputable abbrev wR (l:bC)(pm cv ctv:aw):FuncData:=kla_fn "<lambda>" l.qual l.params l.body l.scope [] pm cv ctv
noncomputable abbrev O3 (l:bC)(pm cv ctv:aw):Obj:={ cls:=.type "function",data:=.func (wR l pm cv ctv) }
noncomputable def iB (H:Hp)(f:ay)(l:bC):Prop:=∃(pm ctv:aw) (c:ay),H f=some (.frz (O3 l pm (.ref c) ctv) (.cd c l.qual))
theorem iB.same {H H':Hp}{f:ay}{l:bC}(s:aI H H')(h:iB H f l):iB H' f l:=
 let ⟨pm,ctv,c,e1⟩:=h;⟨pm,ctv,c,s _ _ e1⟩
structure iP (base:Heap)(mg:Str->Option aw)(P:ay):Prop where
 ex:base.BuiltinsAt mg P
section
variable {X:Cx}{ai:List (ay×Obj)}{σ:St}{H:Hp}{s:ax}{P:ay}{l:bC}
theorem iP.at (B:iP X.base X.mg P)(I:aA X ai σ H s):s.heap.BuiltinsAt X.mg P:=
 let ⟨bm,o,h1,h2,h3,h4,h5,h6⟩:=B.ex;⟨bm,o,h1,h2,h3,h4,I.bk _ _ h5,h6⟩
theorem aA.table {t:Tok}{h':Heap}{tk:Nat}{qs qs':Array aw}{c:ay}{oc:Obj}{vs:Array aw}{tq:Tok}(I:aA X ai σ H s)(hP:H P=some (.tbl #[.str l.qual t]))(hx:Heap.ExtBut P s.heap h')(hge:s.heap.objs.size<=c)(hoc:h'.get? c=some oc)(hd:oc.data = .fields vs)(hv:vs[1]? = some (.str l.qual tq))(e:s.heap.get? P=some { cls:=.none,data:=.fields qs })(e':h'.get? P=some { cls:=.none,data:=.fields qs' })(tr:TriplesOk qs'.toList)(cs:∀(pos:Pos) (cv:aw),codeAmong pos qs.toList=some cv->∃(c:ay) (q:Str) (t':Tok),cv = .ref c/\H c=some (.code q)/\#[.str l.qual t] = #[Value.str q t'])(new:∀(pos:Pos) (cv:aw),codeAmong pos qs'.toList=some cv->codeAmong pos qs.toList=some cv∨cv = .ref c):aA X ai σ (upd H c (.code l.qual)) { s with heap:=h',toks:=tk }:=by
 have hn:H c=none:=I.hok.fresh hge;have cP:P≠c:=λz=>by rw[z,hn]at hP;cases hP
 have lt:∀{b o},s.heap.get? b=some o->b≠c:=λ{b o} g z=>absurd (br9 g) (by rw[z];exact Nat.not_lt.mpr hge)
 have old:∀{b o},H b=some o->b≠c:=λ{b o} g z=>by rw[z,hn]at g;cases g
 refine I.un ⟨λb o g n _ _=>hx b o (λz=>by rw[z,hP]at n;cases n) g,λb o g n _ _=>⟨o.slots,hx b o (λz=>by rw[z,hP]at n;cases n) g⟩,λb o g n _=>by rw[aK (lt g)];exact n,λb o g _=>?_,λb xs g=>by rw[aK (old g)];exact g,λb o u g=>by rw[aK (old g)];exact g,λb ps g=>⟨#[],by rw[aK (old g),g];simp⟩⟩ λb u z=>?_
 ·by_cases hb:b=P
  ·subst hb;exact⟨_,e'⟩
  ·exact⟨o,hx b o hb g⟩
 ·by_cases hb:b=c
  ·subst hb;rw[bH]at z;cases z
   exact⟨oc,vs,tq,hoc,hd,hv⟩
  ·rw[aK hb]at z
   by_cases bP:b=P
   ·subst bP
    rw[hP]at z;cases z;refine⟨qs',e',tr,λpos cv h=>?_⟩;rcases new pos cv h with h|rfl
    ·obtain⟨c1,q,t',e1,e2,e3⟩:=cs pos cv h
     exact⟨c1,q,t',e1,by rw[aK (old e2)];exact e2,e3⟩
    ·exact⟨c,l.qual,t,rfl,bH,rfl⟩
   ·refine (I.hok b u z).stay (λc' v hc q=>hx c' v ?_ q) (λc' q=>by rw[aK (old q)];exact q) (λc' xs q=>by rw[aK (old q)];exact q) (λc' r q=>by rw[aK (old q)];exact q)
    rcases hc with rfl|hc
    ·exact bP
    ·intro w;rw[w,hP]at hc;cases hc
noncomputable def O4 (P:ay)(l:bC):TE:=λ_ H Q=>(∃t:Tok,H P=some (.tbl #[.str l.qual t]))/\∀f H',aI H H'->H f=none->iB H' f l->Q (.ref f) H'
theorem aB4 {pos:Pos}{c:aw}:∀{l:List aw},TriplesOk l->TriplesOk (l++[rawInt pos.line,rawInt pos.col,c]):=by
 intro l h
 fun_induction TriplesOk l with
 |case1=>exact trivial
 |case2 a b c d e r ih=>exact ih h
 |case3=>exact h.elim
theorem aB5 {pos pos':Pos}{c cv:aw}:∀{l:List aw},TriplesOk l->codeAmong pos' (l++[rawInt pos.line,rawInt pos.col,c])=some cv->codeAmong pos' l=some cv∨cv=c:=by
 intro l h g
 fun_induction TriplesOk l with
 |case1=>
  simp only[List.nil_append,codeAmong,rawInt]at g;split at g
  ·exact .inr (bt2 g).symm
  ·cases g
 |case2 a b d e f r ih=>
  simp only[List.cons_append,codeAmong]at g ⊢;split
  ·rename_i hh
   rw[if_pos hh]at g;exact .inl g
  ·rename_i hh
   rw[if_neg hh]at g;exact ih h g
 |case3=>exact h.elim
theorem aB6 {params:Arguments}{body:Expr}{scope:Scope}{pos:Pos}{c0:ay}(hl:l=⟨X.env.qual++"<lambda>",params,body,scope⟩)(hcode:X.env.code = .ref c0)(hK:codeHdIn X.K c0 P=true)(B:iP X.base X.mg P)(hgP:mainGlobals≠P)(hdef:defaultsOf params X.env=([],[]):=by rfl)(hcl:closureFor scope X.env=pure []:=by rfl):PE X (.Lambda params body scope pos) (O4 P l):=by
 intro ai s σ H Q I ⟨⟨t,hP⟩,q⟩
 obtain⟨qs,e,tr,cs⟩:=(show bI X.prog X.w H s.heap P (.tbl #[.str l.qual t]) from I.hok P _ hP)
 have e0:s.heap.get? P=some (tabObj qs):=e;refine kla_eval hdef ?_;have lq:l.qual=X.env.qual++"<lambda>":=by rw[hl]
 cases hf:codeAmong pos qs.toList with
 |none=>
  refine kla_makeFunction hcl I.ok.glob (I.ok.mod.glob.keeps I.bk) hcode (codeHd_of_K I.kIn hK) e0 tr hf hgP (B.at I) λc' ctv h' tk hx hge hlt hrec htb=>?_
  obtain⟨c2,oc,vs,tq,ec,hoc,hd,hv⟩:=hrec
  cases ec;have hx2:Heap.ExtBut P s.heap h':=hx;have I1:aA X ai σ (upd H c' (.code l.qual)) { s with heap:=h',toks:=tk }:=I.table (l:=l) hP hx2 hge hoc hd (by rw[lq];exact hv) e htb (by rw[bv7];exact aB4 tr) cs λpos' cv h=>by
   rw[bv7]at h;exact aB5 tr h
  have fn:upd H c' (.code l.qual) h'.objs.size=none:=I1.hok.fresh (bq4 _);have cf:c'≠h'.objs.size:=bu3 hlt
  let fo:Obj:=kla_obj "<lambda>" (X.env.qual++"<lambda>") params body scope [] ((X.mg "__name__").getD .none) c' ctv
  have I2:aA X ai σ (upd (upd H c' (.code l.qual)) h'.objs.size (.frz fo (.cd c' l.qual))) { s with heap:=h'.push fo,toks:=tk }:=I1.laid (s:={ s with heap:=h',toks:=tk }) (a:=h'.objs.size) (o:=.frz fo (.cd c' l.qual)) (t':=tk) (λb o g=>bq0 _ g) (bq4 _) ⟨br7 _ rfl,⟨fo,br7 _ rfl⟩,by rw[aK cf,bH]⟩;refine⟨.ref h'.objs.size,_,I2,rfl,q _ _ (λb o g=>?_) ?_ ⟨(X.mg "__name__").getD .none,ctv,c',by rw[bH,hl]⟩⟩
  ·have b1:b≠c':=λz=>by rw[z,I.hok.fresh hge]at g;cases g
   have b2:b≠h'.objs.size:=λz=>by
    have:=I.hok.lt g
    rw[z]at this;exact absurd (br3 (br3 this hge) (by9 hlt)) (bw3 _)
   rw[aK b2,aK b1];exact g
  ·cases z:H h'.objs.size with
   |none=>rfl
   |some u=>exact absurd (br3 (br3 (I.hok.lt z) hge) (by9 hlt)) (bw3 _)
 |some cv=>
  obtain⟨c,q',t',rfl,hc,eq⟩:=cs pos cv hf
  have hq:q'=l.qual:=by
   have:=congrArg (λa:Array aw=>a[0]?) eq
   simp at this;exact this.1.symm
  subst hq;refine kla_makeFunctionHit hcl I.ok.glob (I.ok.mod.glob.keeps I.bk) hcode (codeHd_of_K I.kIn hK) e0 tr hf (B.at I) λctv h' tk k hsz=>?_
  have I1:aA X ai σ H { s with heap:=h',toks:=tk }:=I.kept k
  let fo:Obj:={ cls:=.type "function",data:=.func (kla_fn "<lambda>" (X.env.qual++"<lambda>") params body scope [] ((X.mg "__name__").getD .none) (.ref c) ctv) }
  have I2:aA X ai σ (upd H h'.objs.size (.frz fo (.cd c l.qual))) { s with heap:=h'.push fo,toks:=tk }:=I1.laid (s:={ s with heap:=h',toks:=tk }) (a:=h'.objs.size) (o:=.frz fo (.cd c l.qual)) (t':=tk) (λb o g=>bq0 _ g) (bq4 _) ⟨br7 _ rfl,⟨fo,br7 _ rfl⟩,by rw[aK (λz=>by rw[z,I1.hok.fresh (bq4 _)]at hc;cases hc)];exact hc⟩;have fn:H h'.objs.size=none:=I1.hok.fresh (bq4 _);have old:∀{b o},H b=some o->b≠h'.objs.size:=λ{b o} g z=>by rw[z,fn]at g;cases g
  exact⟨.ref h'.objs.size,_,I2,rfl,q _ _ (λb o g=>by rw[aK (old g)];exact g) fn ⟨(X.mg "__name__").getD .none,ctv,c,by rw[bH,hl]⟩⟩
end
end L2
namespace L2
open PySem PySem.Spec PyProof.Rows
structure wS (P:az)(w:bc)(K:ad)(mg:Str->Option aw)(base:Heap)(CX:fD)(k:Nat)(l:bC)(sp:Sp):Prop where
 run:∀(A:ba) (outer:List Env) (s:ax) (H:Hp) (f:ay) (us:List aw) (vs:List V) (Q:VK) (E:XK),bM k A->p6 P w K mg base A outer s H->iB H f l->aN vs us->sp vs H Q E->
  codeAny (model P w) A (.call (.ref f) ⟨us,[]⟩) (CR CX outer P w H s Q E) s
theorem iB.at {P:az}{w:bc}{H:Hp}{h:Heap}{f:ay}{l:bC}(q:iB H f l)(ok:bT P w H h):∃(pm ctv:aw) (c:ay),h.get? f=some (O3 l pm (.ref c) ctv)/\h.CodeRec (.ref c) l.qual:=by
 obtain⟨pm,ctv,c,e1⟩:=q
 have q1:=ok f _ e1
 obtain⟨oc,vs,t,g,d,e⟩:=(show bI P w H h c (.code l.qual) from ok c _ q1.2.2)
 exact⟨pm,ctv,c,q1.1,c,oc,vs,t,rfl,g,d,e⟩
theorem aB7 {CX:fD}{P:az}{w:bc}{K:ad}{mg:Str->Option aw}{base:Heap}{k:Nat}{l:bC}{N ps:List Str}{sp:Sp}(S:FnScope N ps l.scope)(hb:∀(pm cv ctv:aw) (us:List aw),us.length=ps.length->bindArgs (wR l pm cv ctv) ⟨us,[]⟩=pure (ps.zip us))(len:∀vs H Q E,sp vs H Q E->vs.length=ps.length)(hbody:∀(A:ba) (outer:List Env) (s:ax) (H:Hp) (f:ay) (cv:aw) (vs:List V) (Q:VK) (E:XK),bM k (A.deeper (envOfC l.qual l.scope s.heap.objs.size f cv))->sp vs H Q E->
   ∃t,PE (cJ CX P w K mg base N l.qual l.scope f cv A outer s H E) l.body t/\t (fR N vs) H Q) :
  wS P w K mg base CX (k+1) l sp:=by
 refine⟨λA outer s H f us vs Q E hr e0 hl r hsp=>?_⟩;have ao:=len _ _ _ _ hsp
 obtain⟨pm,ctv,c,ho,hcd⟩:=hl.at e0.hok
 have lim:s.heap.NoLimit:=e0.mod.nolimit.keeps λb o e=>(e0.bs b o e).1
 have hkind:∀y∈ps.zip us,l.scope.names.lookup y.1=some .local∨(l.scope.names.lookup y.1=some .cell/\((cellsFrom (s.heap.objs.size+1) l.scope.names []).lookup y.1).isSome=true):=λ⟨n,v⟩ hy=>by
  rcases S.par n (List.of_mem_zip hy).1 with q|q
  ·exact .inl q
  ·exact .inr ⟨q,PySem.W.cellsFrom_some _ _ _ (.inl q)⟩
 refine PySem.W.kla_callFunE hr.depth ho rfl S.co S.gen rfl hcd ?_;rw[hb pm (.ref c) ctv us (by rw[<- r.length];exact ao)];refine bq5 (wpAny_newFunctionEnv_cells S.kind hkind λenv he s1 x=>?_);subst he;refine⟨lim.keeps x.toInCall.keep,PySem.W.kla_codeExpr ?_⟩
 obtain⟨t,ht,hq⟩:=hbody A outer s H f (.ref c) vs Q E (hr.deeper _) hsp
 have I:aA (cJ CX P w K mg base N l.qual l.scope f (.ref c) A outer s H E) [] (fR N vs) H s1:=K3 S hr.hd e0 ao r x;refine bw0 (ht [] s1 (fR N vs) H _ I hq) (λu s' hs=>?_) λe s' hs=>hs
 obtain⟨v,H',J,rv,q⟩:=hs
 exact⟨v,H',J.os,J.bare,J.base,J.hok,rv,q⟩
end L2
namespace Raw
open PySem PySem.W PySem.Calls PyProof.Rows
section
variable {prog:az}{w:bc}{K:Type}[DecidableEq K]{knd:HeapKind prog w K}{A:ba}{E:aw→ax→Prop}{s:ax}{env:Env}
theorem aB8 {k v:Expr}{pos:Pos}{Q:aw->ax->Prop}(hu:knd.room A)(h:wpAny (model prog w) A (eval k env) (λkv s1=>wpAny (model prog w) A (eval v env) (λvv s2=>∃a κ,kv = .ref a/\knd.is s2.heap κ a/\s2.heap.DictOfH knd s.heap.objs.size []/\
   ∀h',h'.DictOfH knd s.heap.objs.size [(κ,a,vv)]->Heap.SameBut s.heap.objs.size s2.heap h'->Q (.ref s.heap.objs.size) { s2 with heap:=h',toks:=s2.toks+knd.draws κ }) E s1) E
   { s with heap:=s.heap.push { cls:=.type "dict",data:=.dict #[] } }):wpAny (model prog w) A (eval (.Dict [some k] [v] pos) env) Q E s:=by
 rw[arm_eval_Dict,zip_pairTrees [some k] [v] env pos rfl rfl,dictDisplay_pairs _ (by simp[pairTrees]) (by simp[pairTrees])];refine bp7 (wpAny_standAt (bp7 ?_));unfold subDict;refine bp7 (wpAny_alloc ?_);refine bp7 (by3 ?_);rw[if_pos (by simp[pairTrees])];refine bp7 (pairTrees_cons_walk (bw0 h (λkv s1 h1=>bw0 h1 (λvv s2 h2=>pairTrees_nil_walk ?_) λ_ _ e=>e) λ_ _ e=>e))
 obtain⟨a,κ,rfl,hk,hm,hQ⟩:=h2
 refine by3 ?_;refine bp7 ?_;rw[List.forIn_cons];refine bp7 (bp7 (wpAny_dictSet_heap (hsz:=by simp) hu hk hm λh' hm' hs'=>bq5 ?_));dsimp only;rw[List.forIn_nil];exact bq5 (bq5 (bq5 (bq5 (hQ h' (by simpa[storedH,atKey] using hm') hs'))))
end
end Raw
namespace L2
open PySem PySem.Spec PyProof.Rows
noncomputable abbrev gF (H:Hp):List (List (Int×Bool)×V)->List (ae×ay×aw)->Prop:=Paired λp q=>dM p.1=q.1/\fP H p.1 q.2.1/\aR p.2 q.2.2
theorem gF.val {H:Hp}{kvs:List (List (Int×Bool)×V)}{xs:List (ae×ay×aw)}(r:gF H kvs xs)(k:List (Int×Bool)):iL (gU kvs k) ((atKey xs (dM k)).map (·.2)):=by
 induction r with
 |nil=>exact bG8
 |@cons p q ps qs h t ih=>
  obtain⟨h1,_,h2⟩:=h
  by_cases e:p.1=k
  ·have e':q.1=dM k:=by rw[<- h1,e]
   have b:atKey (q::qs) (dM k)=some q.2:=by simp[atKey,bv4,e']
   rw[w5 e,b];exact h2
  ·have e':¬q.1=dM k:=λz=>e (vB (h1.trans z))
   have b:atKey (q::qs) (dM k)=atKey qs (dM k):=by simp[atKey,bv4,e']
   rw[w6 e,b];exact ih
theorem gF.repl {H:Hp}{kvs:List (List (Int×Bool)×V)}{xs:List (ae×ay×aw)}(r:gF H kvs xs)(k:List (Int×Bool)){y:V}{u:aw}(ry:aR y u) :
  gF H (kvs.map λkv=>if kv.1=k then (kv.1,y) else kv) (xs.map (putAt (dM k) u)):=by
 induction r with
 |nil=>exact .nil
 |@cons p q ps qs h t ih=>
  rw[bt3,bt3];refine .cons ?_ ih
  obtain⟨h1,h2,h3⟩:=h
  unfold putAt;by_cases e:p.1=k
  ·rw[if_pos e,if_pos (by rw[<- h1,e])];exact⟨h1,h2,ry⟩
  ·rw[if_neg e,if_neg (λz=>e (vB (h1.trans z)))];exact⟨h1,h2,h3⟩
theorem gF.put {H:Hp}{kvs:List (List (Int×Bool)×V)}{xs:List (ae×ay×aw)}(r:gF H kvs xs)(k:List (Int×Bool)){b:ay}{y:V}{u:aw}(hb:fP H k b)(ry:aR y u) :
  gF H (fU kvs k y) (storedH xs (dM k) b u):=by
 have e:(kvs.any λkv=>decide (kv.1=k))=(atKey xs (dM k)).isSome:=by
  rw[M9,(r.val k).isSome_eq,Option.isSome_map]
 unfold fU storedH;rw[e];by_cases q:(atKey xs (dM k)).isSome=true
 ·rw[if_pos q,if_pos q];exact r.repl k ry
 ·rw[if_neg q,if_neg q];exact Paired.snoc r ⟨rfl,hb,ry⟩
theorem gF.keeps {H H':Hp}{kvs:List (List (Int×Bool)×V)}{xs:List (ae×ay×aw)}(r:gF H kvs xs)(ht:∀b ys,H b=some (.tup ys)->H' b=some (.tup ys)):gF H' kvs xs:=
 Paired.mapP r λ_ _ z=>⟨z.1,z.2.1.keeps ht,z.2.2⟩
section
variable {P:az}{w:bc}{H:Hp}{h:Heap}{a:ay}
theorem sN (P:az)(w:bc)(k:Int)(v:aw):(iX P w).is k v=lH k v:=rfl
theorem aB9 {c:ay}{p:Int×Bool}(ok:bT P w H h)(e:H c=some (.tup [.int p.1,.bl p.2])):IsTupleKey (iX P w) h [p.1,if p.2 then 1 else 0] c:=by
 obtain⟨_,its,r,⟨o,h1,h2,n,h3⟩,_⟩:=(show bI P w H h c (.tup [.int p.1,.bl p.2]) from ok c _ e)
 refine⟨o,its.toArray,n,h1,h2,h3,?_⟩;cases r with
 |@cons _ v1 _ vs1 r1 t1=>
  cases t1 with
  |@cons _ v2 _ vs2 r2 t2=>
   cases t2
   obtain⟨t,rfl⟩:=(show ∃t,v1=Value.int p.1 t from r1)
   cases (show v2=Value.bool p.2 from r2);exact .cons (by rw[sN];simp[lH]) (.cons (by rw[sN];simp[lH]) .nil)
theorem nD {k:List (Int×Bool)}{b:ay}(ok:bT P w H h)(e:fP H k b):(oT (iX P w)).is h (dM k) b:=by
 obtain⟨us,e,r⟩:=e
 obtain⟨lz,its,rv,⟨o,h1,h2,n,h3⟩,nd⟩:=(show bI P w H h b (.tup us) from ok b _ e)
 refine⟨o,its.toArray,n,h1,h2,h3,?_⟩;show Paired _ _ its.toArray.toList;have e2:its.toArray.toList=its:=by simp
 rw[e2];clear h3 e2 e lz nd h1 h2
 induction r generalizing its with
 |nil=>cases rv;exact .nil
 |@cons p u ps us hd t ih=>
  cases rv with
  |@cons _ v _ vs r1 t1=>
   obtain⟨c,rfl,hc⟩:=hd
   cases (show v=Value.ref c from r1);exact .cons ⟨c,rfl,aB9 ok hc⟩ (ih _ t1)
theorem nF {kvs:List (List (Int×Bool)×V)}(ok:bT P w H h)(e:Rd H a (.dA kvs)):kvs.length<=sizeLine/\(a==sysModules)=false/\
  ∃xs,gF H kvs xs/\h.DictOfH (oT (iX P w)) a xs:=by
 obtain⟨z,y,xs,r,o,es,ep,h1,h2,h3,h4,h5⟩:=(show bI P w H h a (.dA kvs) from w9 ok e)
 refine⟨z,y,xs,r,o,es,ep,h1,h2,h3,h4,λx hx=>?_,h5⟩;have all:∀{l:List (List (Int×Bool)×V)}{m:List (ae×ay×aw)},gF H l m->∀x∈m,(oT (iX P w)).is h x.1 x.2.1:=by
  intro l m q
  induction q with
  |nil=>intro x hx;exact nomatch hx
  |@cons p q ps qs hq t ih=>
   intro x hx;rcases br0.mp hx with e|hx
   ·subst e
    rw[<- hq.1];exact nD ok hq.2.1
   ·exact ih x hx
 exact all r x hx
theorem pH {kvs:List (Int×V)}(ok:bT P w H h)(e:Rd H a (.dB kvs)):kvs.length<=sizeLine/\(a==sysModules)=false/\∃vs,KV kvs vs/\h.DictOf (iX P w) a vs:=
 show bI P w H h a (.dB kvs) from w9 ok e
end
noncomputable def lR (k:Int)(y:V):Prop:=y = .int k∨∃b:Bool,y = .bl b/\k=if b then 1 else 0
theorem lR.is {k:Int}{y:V}{u:aw}{P:az}{w:bc}(n:lR k y)(r:aR y u):(iX P w).is k u=true:=by
 rcases n with rfl|⟨b,rfl,rfl⟩
 ·obtain⟨t,rfl⟩:=(show ∃t,u=Value.int k t from r)
  rw[sN];simp[lH]
 ·cases (show u=Value.bool b from r)
  rw[sN];simp[lH]
noncomputable def kR (H:Hp)(a:ay)(y:V)(r:Option V):Prop:=
 (∃kvs k b,Rd H a (.dA kvs)/\y = .ref b/\fP H k b/\r=gU kvs k)∨∃kvs k,Rd H a (.dB kvs)/\lR k y/\r=gU kvs k
noncomputable def O5 (H:Hp)(a:ay)(y v:V)(H':Hp):Prop:=
 (∃kvs k b,H a=some (.dA kvs)/\y = .ref b/\fP H k b/\kvs.length<sizeLine/\H'=upd H a (.dA (fU kvs k v))) ∨
 ∃kvs k,H a=some (.dB kvs)/\lR k y/\kvs.length<sizeLine/\H'=upd H a (.dB (fU kvs k v))
section
variable {X:Cx}{ai:List (ay×Obj)}{σ:St}{H:Hp}{s:ax}{a:ay}{y v:V}{u r:aw}{o:Option V}{A:ba}{E:aw→ax→Prop}
theorem aC0 (I:aA X ai σ H s)(g:kR H a y o):s.TypeIs (.ref a) "dict":=by
 rcases g with⟨kvs,k,b,e,_,_,_⟩|⟨kvs,k,e,_,_⟩
 ·obtain⟨_,_,xs,_,dd⟩:=nF I.hok e
  exact dd.typeIs
 ·obtain⟨_,_,vs,_,dd⟩:=pH I.hok e
  exact dd.typeIs
theorem aC1 {Q:aw->ax->Prop}(hu:A.units+16<cLine)(I:aA X ai σ H s)(g:kR H a y (some v))(ry:aR y u)(h:∀w' s',aA X ai σ H s'->aR v w'->Q w' s') :
  wpAny (model X.prog X.w) A (getItem (.ref a) u) Q E s:=by
 rcases g with⟨kvs,k,b,e,ey,eb,l⟩|⟨kvs,k,e,ey,l⟩
 ·subst ey
  cases (show u=Value.ref b from ry)
  obtain⟨z,hd,xs,rel,dd⟩:=nF I.hok e
  obtain⟨w',hw,rw'⟩:=iL.some_of (v:=v) (o:=(atKey xs (dM k)).map (·.2)) (by rw[l];exact rel.val k)
  obtain⟨p,hp,hp2⟩:=Option.map_eq_some_iff.mp hw
  refine wpAny_getItem_heap (show A.units+1+8<cLine by omega) (nD I.hok eb) dd hp ?_;rw[hp2];exact h w' _ (I.tok _) rw'
 ·obtain⟨z,hd,vs,rel,dd⟩:=pH I.hok e
  obtain⟨w',hw,rw'⟩:=iL.some_of (v:=v) (o:=valueAt vs k) (by rw[l];exact rel.val k)
  exact wpAny_getItem_of (ey.is ry) dd.mapOf hw (h w' _ (I.tok _) rw')
theorem aC2 {Q:aw->ax->Prop}(hu:A.units+16<cLine)(I:aA X ai σ H s)(g:kR H a y o)(ry:aR y u)(h:∀s',aA X ai σ H s'->Q (.bool o.isSome) s') :
  wpAny (model X.prog X.w) A (compareOp .In u (.ref a)) Q E s:=by
 rcases g with⟨kvs,k,b,e,ey,eb,l⟩|⟨kvs,k,e,ey,l⟩
 ·subst ey
  cases (show u=Value.ref b from ry)
  obtain⟨z,hd,xs,rel,dd⟩:=nF I.hok e
  refine wpAny_in_heap (show A.units+1+8<cLine by omega) (nD I.hok eb) hd dd ?_;have q:=(rel.val k).isSome_eq;rw[Option.isSome_map]at q;rw[<- q,<- l];exact h _ (I.tok _)
 ·obtain⟨z,hd,vs,rel,dd⟩:=pH I.hok e
  refine wpAny_in_of (ey.is ry) hd dd.mapOf ?_;rw[<- (rel.val k).isSome_eq,<- l];exact h _ (I.tok _)
theorem aC3 {Q:aw->ax->Prop}(hu:A.units+16<cLine)(I:aA X ai σ H s)(g:kR H a y o)(ry:aR y u)(h:∀s',aA X ai σ H s'->Q (.bool (!o.isSome)) s') :
  wpAny (model X.prog X.w) A (compareOp .NotIn u (.ref a)) Q E s:=by
 rcases g with⟨kvs,k,b,e,ey,eb,l⟩|⟨kvs,k,e,ey,l⟩
 ·subst ey
  cases (show u=Value.ref b from ry)
  obtain⟨z,hd,xs,rel,dd⟩:=nF I.hok e
  refine wpAny_notIn_heap (show A.units+1+8<cLine by omega) (nD I.hok eb) hd dd ?_;have q:=(rel.val k).isSome_eq;rw[Option.isSome_map]at q;rw[<- q,<- l];exact h _ (I.tok _)
 ·obtain⟨z,hd,vs,rel,dd⟩:=pH I.hok e
  refine wpAny_notIn_of (ey.is ry) hd dd.mapOf ?_;rw[<- (rel.val k).isSome_eq,<- l];exact h _ (I.tok _)
theorem aC4 {H':Hp}{Q:Unit->ax->Prop}(hu:A.units+16<cLine)(I:aA X ai σ H s)(g:O5 H a y v H')(ry:aR y u)(rv:aR v r)(h:∀s',aA X ai σ H' s'->Q () s') :
  wpAny (model X.prog X.w) A (setItem (.ref a) u r) Q E s:=by
 rcases g with⟨kvs,k,b,e,ey,eb,l,eH⟩|⟨kvs,k,e,ey,l,eH⟩
 ·subst ey eH
  cases (show u=Value.ref b from ry)
  obtain⟨z,hd,xs,rel,dd⟩:=nF I.hok (.inl e)
  have hz:xs.length<=sizeLine:=by rw[<- Paired.length rel];exact z
  have hl:(fU kvs k v).length<=sizeLine:=by have:=N0 kvs k v;omega
  refine wpAny_setItem_heap (hsz:=hz) (show A.units+1+8<cLine by omega) (nD I.hok eb) dd λh' dd' hs=>h _ ?_
  obtain⟨q,es,ep,hq,h2,h3,h4,_,h5⟩:=dd'
  refine wA I (by rw[e];exact bG8) hs ⟨q,hq⟩ ⟨hl,hd,_,(rel.put k eb rv).keeps λc ys ec=>?_,q,es,ep,hq,h2,h3,h4,h5⟩;rw[aK (C5 ec e (λz=>nomatch z))];exact ec
 ·subst eH
  obtain⟨z,hd,vs,rel,dd⟩:=pH I.hok (.inl e)
  have hz:vs.length<=sizeLine:=by rw[<- rel.length];exact z
  have hl:(fU kvs k v).length<=sizeLine:=by have:=N0 kvs k v;omega
  refine wpAny_setItem_pairs (hsz:=hz) (ey.is ry) dd λh' dd' hs=>h _ ?_
  have he:∃q,h'.get? a=some q:=let ⟨q,_,_,hq,_⟩:=dd';⟨q,hq⟩
  exact wA I (by rw[e];exact bG8) hs he ⟨hl,hd,_,rel.put k rv,dd'⟩
end
noncomputable def O6 (td ty:TE):TE:=λσ H Q=>td σ H λx H1=>ty σ H1 λy H2=>∃a v,x = .ref a/\kR H2 a y (some v)/\Q v H2
noncomputable def O7 (ty td:TE):TE:=λσ H Q=>ty σ H λy H1=>td σ H1 λx H2=>∃a o,x = .ref a/\kR H2 a y o/\Q (.bl o.isSome) H2
noncomputable def O8 (ty td:TE):TE:=λσ H Q=>ty σ H λy H1=>td σ H1 λx H2=>∃a o,x = .ref a/\kR H2 a y o/\Q (.bl (!o.isSome)) H2
noncomputable def nG (td ty tv:TE):TS:=λD σ H=>tv σ H λv H1=>td σ H1 λx H2=>ty σ H2 λy H3=>∃a H4,x = .ref a/\O5 H3 a y v H4/\D.nx σ H4
noncomputable def O9:TE:=λ_ H Q=>∀p,H p=none->Q (.ref p) (upd H p (.dA []))
noncomputable def P3:TE:=λ_ H Q=>∀p,H p=none->Q (.ref p) (upd H p (.dB []))
noncomputable def P4 (tk tv:TE):TE:=λσ H Q=>∀p,H p=none->tk σ (upd H p (.dA [])) λx H1=>tv σ H1 λy H2=>H2 p=some (.dA [])/\∃b k,x = .ref b/\fP H2 k b/\Q (.ref p) (upd H2 p (.dA [(k,y)]))
section
variable {X:Cx}{o i e value k v:Expr}{pos pos' tpos:Pos}{td ty tv tk:TE}
theorem aC5 (hu:X.A.units+16<cLine)(ho:PE X o td)(hi:PE X i ty)(hs:wB i):PE X (.Subscript o i pos) (O6 td ty):=by
 intro ai s σ H Q I h;refine ay9 PySem.F.slot_dict_getitem.lookup hs (aO (ho ai s σ H _ I h) λu s1 ⟨x,H1,I1,rx,q1⟩=>aO (hi ai s1 σ H1 _ I1 q1) λiv s2 ⟨y,H2,I2,ry,a,v,ex,g,q2⟩=>?_);subst ex;obtain rfl:u=Value.ref a:=rx
 exact⟨aC0 I2 g,aC1 hu I2 g ry λw' s3 I3 rw'=>⟨v,H2,I3,rw',q2⟩⟩
theorem aC6 (hu:X.A.units+16<cLine)(hi:PE X i ty)(ho:PE X o td):PC X .In i o (O7 ty td):=by
 intro ai s σ H Q I h;refine aO (hi ai s σ H _ I h) λiv s1 ⟨y,H1,I1,ry,q1⟩=>aO (ho ai s1 σ H1 _ I1 q1) λu s2 ⟨x,H2,I2,rx,a,ov,ex,g,q2⟩=>?_
 subst ex;obtain rfl:u=Value.ref a:=rx;exact aC2 hu I2 g ry λs3 I3=>⟨.bl ov.isSome,H2,I3,rfl,q2⟩
theorem aC7 (hu:X.A.units+16<cLine)(hi:PE X i ty)(ho:PE X o td):PC X .NotIn i o (O8 ty td):=by
 intro ai s σ H Q I h;refine aO (hi ai s σ H _ I h) λiv s1 ⟨y,H1,I1,ry,q1⟩=>aO (ho ai s1 σ H1 _ I1 q1) λu s2 ⟨x,H2,I2,rx,a,ov,ex,g,q2⟩=>?_
 subst ex;obtain rfl:u=Value.ref a:=rx;exact aC3 hu I2 g ry λs3 I3=>⟨.bl (!ov.isSome),H2,I3,rfl,q2⟩
theorem jR (hu:X.A.units+16<cLine)(ho:PE X o td)(hi:PE X i ty)(hv:PE X value tv)(hs:swapsWith value (some (.Subscript o i pos')) pos.line X.env=pure false) :
  PS X (.Assign [.Subscript o i pos'] value pos) (nG td ty tv):=by
 intro ai s σ H D I h;refine wpAny_Assign_Subscript (aO (hv ai s σ H _ I h) λr s1 ⟨v,H1,I1,rv,q1⟩=>aO (ho ai s1 σ H1 _ I1 q1) λu s2 ⟨x,H2,I2,rx,q2⟩=>aO (hi ai s2 σ H2 _ I2 q2) λiv s3 ⟨y,H3,I3,ry,a,H4,ex,g,q3⟩=>?_) hs;subst ex;obtain rfl:u=Value.ref a:=rx;exact aC4 hu I3 g ry rv λs4 I4=>⟨σ,H4,I4,q3⟩
theorem P5 {P:az}{w:bc}{H:Hp}(h:Heap)(hb:sysModules<h.objs.size):bI P w H (h.push { cls:=.type "dict",data:=.dict #[] }) h.objs.size (.dA []):=
 ⟨bu8 _,bB8.mpr (Ne.symm (bu3 hb)),[],.nil,_,#[],0,br7 _ rfl,⟨rfl,rfl,rfl⟩,rfl,rfl,bF0⟩
theorem aC8 {P:az}{w:bc}{H:Hp}(h:Heap)(hb:sysModules<h.objs.size):bI P w H (h.push { cls:=.type "dict",data:=.dict #[] }) h.objs.size (.dB []):=
 ⟨bu8 _,bB8.mpr (Ne.symm (bu3 hb)),[],.nil,Heap.DictOf.new h⟩
theorem aC9:PE X (.Dict [] [] pos) O9:=λai s σ H Q I h=>
 wpAny_Dict_empty ⟨.ref s.heap.objs.size,_,I.laid (a:=s.heap.objs.size) (o:=.dA []) (t':=s.toks) (λ_ _ q=>bq0 _ q) (bq4 _) (P5 s.heap I.big),rfl,h _ (I.hok.fresh (bq4 _))⟩
theorem aD0:PE X (.Dict [] [] pos) P3:=λai s σ H Q I h=>
 wpAny_Dict_empty ⟨.ref s.heap.objs.size,_,I.laid (a:=s.heap.objs.size) (o:=.dB []) (t':=s.toks) (λ_ _ q=>bq0 _ q) (bq4 _) (aC8 s.heap I.big),rfl,h _ (I.hok.fresh (bq4 _))⟩
theorem aD1 (hu:X.A.units+16<cLine)(hk:PE X k tk)(hv:PE X v tv):PE X (.Dict [some k] [v] pos) (P4 tk tv):=by
 intro ai s σ H Q I q;have hn:=I.hok.fresh (bq4 s.heap.objs.size);have I1:=I.laid (a:=s.heap.objs.size) (o:=.dA []) (h':=s.heap.push { cls:=.type "dict",data:=.dict #[] }) (t':=s.toks) (λ_ _ q=>bq0 _ q) (bq4 _) (P5 s.heap I.big);refine Raw.aB8 (knd:=oT (iX X.prog X.w)) (show X.A.units+8<cLine by omega) (aO (hk ai _ σ _ _ I1 (q _ hn)) λkv s1 ⟨x,H1,I2,rx,q1⟩=>aO (hv ai s1 σ H1 _ I2 q1) λvv s2 ⟨y,H2,I3,ry,e,b,κ,ex,nk,q2⟩=>?_);subst ex;obtain rfl:kv=Value.ref b:=rx
 obtain⟨z,hd,xs,rel,dd⟩:=nF I3.hok (.inl e)
 cases rel;refine⟨b,dM κ,rfl,nD I3.hok nk,dd,λh' dd' hs=>⟨.ref s.heap.objs.size,_,?_,rfl,q2⟩⟩
 obtain⟨ob,es,ep,hq,h2,h3,h4,_,h5⟩:=dd'
 refine wA I3 (by rw[e];exact bG8) hs ⟨ob,hq⟩ ⟨by show (1:Nat)<=sizeLine;rw[sizeLine_eq];omega,hd,_,gF.keeps (.cons ⟨rfl,nk,ry⟩ .nil) λc ys ec=>?_,ob,es,ep,hq,h2,h3,h4,h5⟩;rw[aK (C5 ec e (λz=>nomatch z))];exact ec
end
end L2
namespace PP
open PySem L2
inductive PV where
 |non|bl (b:Bool)|int (i:Int)|str (x:Str)|tup (xs:List PV)|lst (xs:List PV)
 |dK (kvs:List (bO×PV))|dT (kvs:List (List bO×PV))|scr (ns:ag)|kt (xs:List PV)|exc (c:Str)|fK (kvs:List (bO×PV))|fT (kvs:List (List bO×PV))|fL (xs:List PV)|fn (x:Str)|ob (a:ay)
 |lm (l:bC)|dA (kvs:List (List (Int×Bool)×PV))|dB (kvs:List (Int×PV))|fA (kvs:List (List (Int×Bool)×PV))
mutual
noncomputable def flat:PV->Bool
 |.tup xs=>flats xs
 |.lst _=>false
 |.dK _=>false
 |.dT _=>false
 |.non=>true
 |.bl _=>true
 |.int _=>true
 |.str _=>true
 |.scr _=>true
 |.kt xs=>flats xs
 |.exc _=>true
 |.fK _=>false
 |.fT _=>false
 |.fL xs=>flats xs
 |.fn _=>true
 |.ob _=>true
 |.lm _=>true
 |.dA _=>false
 |.dB _=>false
 |.fA _=>false
noncomputable def flats:List PV->Bool
 |[]=>true
 |x::r=>flat x&&flats r
end
noncomputable def jS (K:ad)(H:Hp)(a:ay)(ns:ag):Prop:=(∃o,H a=some (.frz o (.lst (ns.map V.int)))) ∨
  ∃(o:Obj) (its:Array aw) (n:Nat),K.lookup a=some o/\o.cls = .type "list"/\o.dict=none/\o.data = .seq its n/\its.size<=sizeLine/\aN (ns.map V.int) its.toList
noncomputable def pI (K:ad)(a:ay)(us:List V):Prop:=∃(o:Obj) (its:Array aw) (n:Nat),K.lookup a=some o/\o.cls = .type "tuple"/\o.data = .seq its n/\its.size<=sizeLine/\aN us its.toList
mutual
inductive aG (K:ad)(M:ay->Prop)(H:Hp):V->PV->Prop
 |non:aG K M H .non .non
 |bl (b:Bool):aG K M H (.bl b) (.bl b)
 |int (i:Int):aG K M H (.int i) (.int i)
 |str (x:Str):aG K M H (.str x) (.str x)
 |tup {a:ay}{us:List V}{xs:List PV}:H a=some (.tup us)->Reps K M H us xs->aG K M H (.ref a) (.tup xs)
 |lst {a:ay}{us:List V}{xs:List PV}:M a->H a=some (.lst us)->Reps K M H us xs->aG K M H (.ref a) (.lst xs)
 |dK {a:ay}{kvs:List (bO×V)}{ps:List (bO×PV)}:M a->H a=some (.dK kvs)->kvs.map (·.1)=ps.map (·.1)->Reps K M H (kvs.map (·.2)) (ps.map (·.2))->aG K M H (.ref a) (.dK ps)
 |dT {a:ay}{kvs:List (List bO×V)}{ps:List (List bO×PV)}:M a->H a=some (.dT kvs)->kvs.map (·.1)=ps.map (·.1)->Reps K M H (kvs.map (·.2)) (ps.map (·.2))->aG K M H (.ref a) (.dT ps)
 |scr {a:ay}{ns:ag}:jS K H a ns->aG K M H (.ref a) (.scr ns)
 |kt {a:ay}{us:List V}{xs:List PV}:pI K a us->Reps K M H us xs->aG K M H (.ref a) (.kt xs)
 |exc {a C:ay}{o:Obj}{c:Str}:H a=some (.frz o (.own a))->PySem.W.nsIn K mainGlobals c=some (some (.ref C))->o.cls = .ref C->aG K M H (.ref a) (.exc c)
 |fK {a:ay}{o:Obj}{kvs:List (bO×V)}{ps:List (bO×PV)}:H a=some (.frz o (.dK kvs))->kvs.map (·.1)=ps.map (·.1)->Reps K M H (kvs.map (·.2)) (ps.map (·.2))->aG K M H (.ref a) (.fK ps)
 |fT {a:ay}{o:Obj}{kvs:List (List bO×V)}{ps:List (List bO×PV)}:H a=some (.frz o (.dT kvs))->kvs.map (·.1)=ps.map (·.1)->Reps K M H (kvs.map (·.2)) (ps.map (·.2))->aG K M H (.ref a) (.fT ps)
 |fL {a:ay}{o:Obj}{us:List V}{xs:List PV}:H a=some (.frz o (.lst us))->Reps K M H us xs->aG K M H (.ref a) (.fL xs)
 |fn {f:ay}{x:Str}:PySem.W.nsIn K mainGlobals x=some (some (.ref f))->aG K M H (.ref f) (.fn x)
 |ob {a:ay}:aG K M H (.ref a) (.ob a)
 |lm {f:ay}{l:bC}:iB H f l->aG K M H (.ref f) (.lm l)
 |dA {a:ay}{kvs:List (List (Int×Bool)×V)}{ps:List (List (Int×Bool)×PV)}:M a->H a=some (.dA kvs)->kvs.map (·.1)=ps.map (·.1)->Reps K M H (kvs.map (·.2)) (ps.map (·.2))->aG K M H (.ref a) (.dA ps)
 |dB {a:ay}{kvs:List (Int×V)}{ps:List (Int×PV)}:M a->H a=some (.dB kvs)->kvs.map (·.1)=ps.map (·.1)->Reps K M H (kvs.map (·.2)) (ps.map (·.2))->aG K M H (.ref a) (.dB ps)
 |fA {a:ay}{o:Obj}{kvs:List (List (Int×Bool)×V)}{ps:List (List (Int×Bool)×PV)}:H a=some (.frz o (.dA kvs))->kvs.map (·.1)=ps.map (·.1)->Reps K M H (kvs.map (·.2)) (ps.map (·.2))->aG K M H (.ref a) (.fA ps)
inductive Reps (K:ad)(M:ay->Prop)(H:Hp):List V->List PV->Prop
 |nil:Reps K M H [] []
 |cons {v:V}{x:PV}{vs:List V}{xs:List PV}:aG K M H v x->Reps K M H vs xs->Reps K M H (v::vs) (x::xs)
end
noncomputable def wT:HO->Bool
 |.frz _ _=>true
 |_=>false
noncomputable def P6:HO->Bool
 |.frz _ u=>wT u
 |.ins _ _ _=>true
 |.ext _=>true
 |_=>false
noncomputable def aD2:HO->Bool
 |.dA _=>true
 |.dB _=>true
 |_=>false
structure fV (M M':ay->Prop)(H H':Hp):Prop where
 lst:∀a us,M a->H a=some (.lst us)->M' a/\H' a=some (.lst us)
 dK:∀a kvs,M a->H a=some (.dK kvs)->M' a/\H' a=some (.dK kvs)
 dT:∀a kvs,M a->H a=some (.dT kvs)->M' a/\H' a=some (.dT kvs)
 tup:∀a us,H a=some (.tup us)->H' a=some (.tup us)
 frz:∀a o u,H a=some (.frz o u)->wT u=false->H' a=some (.frz o u)
 dA:∀a u,aD2 u=true->M a->H a=some u->M' a/\H' a=some u
theorem jS.keep {K:ad}{H H':Hp}{a:ay}{ns:ag}(k:∀a o u,H a=some (.frz o u)->wT u=false->H' a=some (.frz o u))(h:jS K H a ns):jS K H' a ns:=
 h.elim (λ⟨o,e⟩=>.inl ⟨o,k _ _ _ e rfl⟩) .inr
mutual
theorem aG.keep {K:ad}{M M':ay->Prop}{H H':Hp}(k:fV M M' H H'):∀{v:V}{x:PV},aG K M H v x->aG K M' H' v x
 |_,_,.non=>.non
 |_,_,.bl b=>.bl b
 |_,_,.int i=>.int i
 |_,_,.str x=>.str x
 |_,_,.tup h r=>.tup (k.tup _ _ h) (Reps.keep k r)
 |_,_,.lst m h r=>.lst (k.lst _ _ m h).1 (k.lst _ _ m h).2 (Reps.keep k r)
 |_,_,.dK m h e r=>.dK (k.dK _ _ m h).1 (k.dK _ _ m h).2 e (Reps.keep k r)
 |_,_,.dT m h e r=>.dT (k.dT _ _ m h).1 (k.dT _ _ m h).2 e (Reps.keep k r)
 |_,_,.scr h=>.scr (h.keep k.frz)
 |_,_,.kt h r=>.kt h (Reps.keep k r)
 |_,_,.exc h e c=>.exc (k.frz _ _ _ h rfl) e c
 |_,_,.fK h e r=>.fK (k.frz _ _ _ h rfl) e (Reps.keep k r)
 |_,_,.fT h e r=>.fT (k.frz _ _ _ h rfl) e (Reps.keep k r)
 |_,_,.fL h r=>.fL (k.frz _ _ _ h rfl) (Reps.keep k r)
 |_,_,.fn h=>.fn h
 |_,_,.ob=>.ob
 |_,_,.lm h=>.lm (let ⟨pm,ctv,c,e1⟩:=h;⟨pm,ctv,c,k.frz _ _ _ e1 rfl⟩)
 |_,_,.dA m h e r=>.dA (k.dA _ _ rfl m h).1 (k.dA _ _ rfl m h).2 e (Reps.keep k r)
 |_,_,.dB m h e r=>.dB (k.dA _ _ rfl m h).1 (k.dA _ _ rfl m h).2 e (Reps.keep k r)
 |_,_,.fA h e r=>.fA (k.frz _ _ _ h rfl) e (Reps.keep k r)
theorem Reps.keep {K:ad}{M M':ay->Prop}{H H':Hp}(k:fV M M' H H'):∀{vs:List V}{xs:List PV},Reps K M H vs xs->Reps K M' H' vs xs
 |_,_,.nil=>.nil
 |_,_,.cons r t=>.cons (aG.keep k r) (Reps.keep k t)
end
mutual
theorem aG.flat {K:ad}{M M':ay->Prop}{H:Hp}{v:V}{x:PV}(f:flat x=true)(r:aG K M H v x):aG K M' H v x:=by
 cases r with
 |non=>exact .non
 |bl b=>exact .bl b
 |int i=>exact .int i
 |str x=>exact .str x
 |tup h r=>exact .tup h (Reps.flat (by unfold PP.flat at f;exact f) r)
 |lst m h r=>unfold PP.flat at f;cases f
 |dK m h e r=>unfold PP.flat at f;cases f
 |dT m h e r=>unfold PP.flat at f;cases f
 |scr h=>exact .scr h
 |kt h r=>exact .kt h (Reps.flat (by unfold PP.flat at f;exact f) r)
 |exc h e c=>exact .exc h e c
 |fK h e r=>unfold PP.flat at f;cases f
 |fT h e r=>unfold PP.flat at f;cases f
 |fL h r=>exact .fL h (Reps.flat (by unfold PP.flat at f;exact f) r)
 |fn h=>exact .fn h
 |ob=>exact .ob
 |lm h=>exact .lm h
 |dA m h e r=>unfold PP.flat at f;cases f
 |dB m h e r=>unfold PP.flat at f;cases f
 |fA h e r=>unfold PP.flat at f;cases f
theorem Reps.flat {K:ad}{M M':ay->Prop}{H:Hp}{vs:List V}{xs:List PV}(f:flats xs=true)(r:Reps K M H vs xs):Reps K M' H vs xs:=by
 cases r with
 |nil=>exact .nil
 |cons r t=>
  unfold PP.flats at f;rw[bt4]at f;exact .cons (aG.flat f.1 r) (Reps.flat f.2 t)
end
theorem fV.same {M M':ay->Prop}{H H':Hp}(s:aI H H')(m:∀a,M a->M' a):fV M M' H H':=
 ⟨λa _ h e=>⟨m a h,s _ _ e⟩,λa _ h e=>⟨m a h,s _ _ e⟩,λa _ h e=>⟨m a h,s _ _ e⟩,λ_ _ e=>s _ _ e,λ_ _ _ e _=>s _ _ e,λa _ _ h e=>⟨m a h,s _ _ e⟩⟩
theorem aG.same {K:ad}{M M':ay->Prop}{H H':Hp}{v:V}{x:PV}(r:aG K M H v x)(s:aI H H')(m:∀a,M a->M' a):aG K M' H' v x:=r.keep (.same s m)
theorem Reps.same {K:ad}{M M':ay->Prop}{H H':Hp}{v:List V}{x:List PV}(r:Reps K M H v x)(s:aI H H')(m:∀a,M a->M' a):Reps K M' H' v x:=r.keep (.same s m)
noncomputable def fE:HO->Bool
 |.lst _=>true
 |.dK _=>true
 |.dT _=>true
 |.dA _=>true
 |.dB _=>true
 |_=>false
theorem fV.upd {M M':ay->Prop}{H:Hp}{a:ay}{o o':HO}(h:H a=some o')(mu:fE o'=true)(m:∀b,M b->b≠a/\M' b):fV M M' H (upd H a o):=
 ⟨λb _ hb e=>⟨(m b hb).2,by rw[aK (m b hb).1];exact e⟩,λb _ hb e=>⟨(m b hb).2,by rw[aK (m b hb).1];exact e⟩,λb _ hb e=>⟨(m b hb).2,by rw[aK (m b hb).1];exact e⟩,
  λb _ e=>by rw[aK (λz=>by rw[z,h]at e;cases e;cases mu)];exact e,
  λb _ _ e _=>by rw[aK (λz=>by rw[z,h]at e;cases e;cases mu)];exact e,λb _ _ hb e=>⟨(m b hb).2,by rw[aK (m b hb).1];exact e⟩⟩
theorem Reps.length {K:ad}{M:ay->Prop}{H:Hp}:∀{vs:List V}{xs:List PV},Reps K M H vs xs->vs.length=xs.length
 |_,_,.nil=>rfl
 |_,_,.cons _ t=>congrArg (·+1) t.length
theorem Reps.get {K:ad}{M:ay->Prop}{H:Hp}:∀{vs:List V}{xs:List PV}{i:Nat}{v:V},Reps K M H vs xs->vs[i]? = some v->∃x,xs[i]? = some x/\aG K M H v x
 |_,_,_,_,.nil,e=>by simp at e
 |_,_,0,_,.cons r _,e=>by simp at e;subst e;exact⟨_,rfl,r⟩
 |_,_,i+1,v,.cons _ t,e=>by
  rw[bz3]at e
  obtain⟨x,h1,h2⟩:=t.get e
  exact⟨x,by rw[bz3];exact h1,h2⟩
theorem Reps.at {K:ad}{M:ay->Prop}{H:Hp}:∀{vs:List V}{xs:List PV}{i:Nat}{x:PV},Reps K M H vs xs->xs[i]? = some x->∃v,vs[i]? = some v/\aG K M H v x
 |_,_,_,_,.nil,e=>by simp at e
 |_,_,0,_,.cons r _,e=>by simp at e;subst e;exact⟨_,rfl,r⟩
 |_,_,i+1,v,.cons _ t,e=>by
  rw[bz3]at e
  obtain⟨x,h1,h2⟩:=t.at e
  exact⟨x,by rw[bz3];exact h1,h2⟩
theorem Reps.append {K:ad}{M:ay->Prop}{H:Hp}:∀{vs:List V}{xs:List PV}{us:List V}{ys:List PV},Reps K M H vs xs->Reps K M H us ys->Reps K M H (vs++us) (xs++ys)
 |_,_,_,_,.nil,s=>s
 |_,_,_,_,.cons r t,s=>.cons r (t.append s)
theorem Reps.set {K:ad}{M:ay->Prop}{H:Hp}{v:V}{x:PV}(q:aG K M H v x):∀(i:Nat) {vs:List V}{xs:List PV},Reps K M H vs xs->Reps K M H (vs.set i v) (xs.set i x)
 |_,_,_,.nil=>.nil
 |0,_,_,.cons r t=>.cons q t
 |i+1,_,_,.cons r t=>.cons r (Reps.set q i t)
theorem Reps.take {K:ad}{M:ay->Prop}{H:Hp}:∀(n:Nat) {vs:List V}{xs:List PV},Reps K M H vs xs->Reps K M H (vs.take n) (xs.take n)
 |0,_,_,_=>by simp;exact .nil
 |_+1,_,_,.nil=>.nil
 |n+1,_,_,.cons r t=>.cons r (Reps.take n t)
theorem Reps.drop {K:ad}{M:ay->Prop}{H:Hp}:∀(n:Nat) {vs:List V}{xs:List PV},Reps K M H vs xs->Reps K M H (vs.drop n) (xs.drop n)
 |0,_,_,r=>r
 |_+1,_,_,.nil=>.nil
 |n+1,_,_,.cons _ t=>Reps.drop n t
noncomputable abbrev intz (ns:ag):List PV:=ns.map PV.int
theorem Reps.intz {K:ad}{M:ay->Prop}{H:Hp}:∀(ns:ag),Reps K M H (ns.map V.int) (intz ns)
 |[]=>.nil
 |n::r=>.cons (.int n) (Reps.intz r)
theorem Reps.ofInts {K:ad}{M:ay->Prop}{H:Hp}:∀{ns:ag}{us:List V},Reps K M H us (PP.intz ns)->us=ns.map V.int
 |[],_,.nil=>rfl
 |n::r,_,.cons q t=>by
  cases q;rw[Reps.ofInts t];rfl
theorem j5:∀(ns:ag),flats (intz ns)=true
 |[]=>rfl
 |n::r=>by show (flat (.int n)&&flats (intz r))=true;rw[j5 r];rfl
inductive Tg|rd|sh|nw|fr
inductive Slot|sh (g:Bool) (x:PV)|own (x:PV)|kp (g:Bool) (x:PV) (ks:List (ay×List PV×List PV))
noncomputable def Slot.val:Slot->PV
 |.sh _ x=>x
 |.own x=>x
 |.kp _ x _=>x
noncomputable def Slot.tag:Slot->Tg
 |.sh true _=>.nw
 |.sh false _=>.sh
 |.own _=>.rd
 |.kp _ _ _=>.nw
noncomputable abbrev bR:=List (Option Slot)
noncomputable def Ms (H0:Hp)(W:ay->Prop):Bool->ay->Prop
 |false,a=>¬W a
 |true,a=>¬W a/\H0 a=none
noncomputable def Mg (H0:Hp)(W:ay->Prop)(Hs:Hp):Tg->ay->Prop
 |.rd,_=>True
 |.sh,a=>¬W a
 |.nw,a=>¬W a/\H0 a=none
 |.fr,a=>Hs a=none
noncomputable def iC (K:ad)(M:ay->Prop)(H:Hp)(a:ay):PV->Prop
 |.lst xs=>∃us,H a=some (.lst us)/\Reps K M H us xs
 |.dK ps=>∃kvs,H a=some (.dK kvs)/\kvs.map (·.1)=ps.map (·.1)/\Reps K M H (kvs.map (·.2)) (ps.map (·.2))
 |.dT ps=>∃kvs,H a=some (.dT kvs)/\kvs.map (·.1)=ps.map (·.1)/\Reps K M H (kvs.map (·.2)) (ps.map (·.2))
 |.dA ps=>∃kvs,H a=some (.dA kvs)/\kvs.map (·.1)=ps.map (·.1)/\Reps K M H (kvs.map (·.2)) (ps.map (·.2))
 |.dB ps=>∃kvs,H a=some (.dB kvs)/\kvs.map (·.1)=ps.map (·.1)/\Reps K M H (kvs.map (·.2)) (ps.map (·.2))
 |_=>False
noncomputable def kL (l:ay)(us:List V):HO:=.ext λh=>us.length<=sizeLine/\∃(its:List aw) (n:Nat),aN us its/\h.get? l=some { cls:=.type "list",data:=.seq its.toArray n }
noncomputable def lS (K:ad)(H0 H:Hp)(a:ay)(st un:List PV):Prop:=∃(C dx l1 l2:ay) (us1 us2:List V),PySem.W.nsIn K mainGlobals "Keeper" = some (some (.ref C))/\(H0 a=none/\H0 dx=none/\H0 l1=none/\H0 l2=none)/\l1≠l2/\H dx=some (.own a)/\
 H a=some (.ins C dx [("standing",.ref l1),("undone",.ref l2)])/\H l1=some (kL l1 us1)/\H l2=some (kL l2 us2)/\Reps K (λ_=>False) H us1 st/\Reps K (λ_=>False) H us2 un
theorem lS.keep {K:ad}{H0 H H':Hp}{a:ay}{st un:List PV}(k:fV (λ_=>False) (λ_=>False) H H')(f:∀b o,H b=some o->fE o=false->H' b=some o)(h:lS K H0 H a st un):lS K H0 H' a st un:=by
 obtain⟨C,dx,l1,l2,us1,us2,h1,h2,h3,h4,h5,h6,h7,r1,r2⟩:=h
 exact⟨C,dx,l1,l2,us1,us2,h1,h2,h3,f _ _ h4 rfl,f _ _ h5 rfl,f _ _ h6 rfl,f _ _ h7 rfl,r1.keep k,r2.keep k⟩
noncomputable def Ap2 (H:Hp)(a b:ay):Prop:=a≠b/\∀C D dx dy l1 l2 m1 m2,H a=some (.ins C dx [("standing",.ref l1),("undone",.ref l2)])->H b=some (.ins D dy [("standing",.ref m1),("undone",.ref m2)])->l1≠m1/\l1≠m2/\l2≠m1/\l2≠m2
noncomputable def gV (K:ad)(H0 H:Hp)(ks:List (ay×List PV×List PV)):Prop:=(∀k∈ks,lS K H0 H k.1 k.2.1 k.2.2)/\ks.Pairwise λk m=>Ap2 H k.1 m.1
theorem gV.keep {K:ad}{H0 H H':Hp}{ks:List (ay×List PV×List PV)}(k:fV (λ_=>False) (λ_=>False) H H')(f:∀b o,H b=some o->fE o=false->H' b=some o)(h:gV K H0 H ks):gV K H0 H' ks:=by
 refine⟨λx hx=>(h.1 x hx).keep k f,h.2.imp_of_mem λ{x y} hx hy r=>⟨r.1,λC D dx dy l1 l2 m1 m2 e1 e2=>?_⟩⟩
 obtain⟨C',dx',l1',l2',us1,us2,_,_,_,_,h5,_⟩:=h.1 x hx
 obtain⟨D',dy',m1',m2',ws1,ws2,_,_,_,_,g5,_⟩:=h.1 y hy
 have z1:=f _ _ h5 rfl;have z2:=f _ _ g5 rfl;rw[e1]at z1;rw[e2]at z2;cases z1;cases z2;exact r.2 _ _ _ _ _ _ _ _ h5 g5
theorem gV.same {K:ad}{H0 H H':Hp}{ks:List (ay×List PV×List PV)}(s:aI H H')(h:gV K H0 H ks):gV K H0 H' ks:=h.keep (.same s λ_ z=>z) λ_ _ e _=>s _ _ e
theorem gV.upd {K:ad}{H0 H:Hp}{c:ay}{o o':HO}{ks:List (ay×List PV×List PV)}(e:H c=some o')(mu:fE o'=true)(h:gV K H0 H ks):gV K H0 (upd H c o) ks:=
 h.keep (.upd e mu λ_ z=>z.elim) λb u e2 m2=>by rw[aK (λz=>by rw[z,e]at e2;cases e2;rw[mu]at m2;cases m2)];exact e2
noncomputable def sO (K:ad)(H0:Hp)(W:ay->Prop)(H:Hp)(v:V):Slot->Prop
 |.sh g x=>aG K (Ms H0 W g) H v x
 |.own x=>∃a,v = .ref a/\W a/\iC K (Ms H0 W true) H a x
 |.kp g x ks=>(aG K (λ_=>False) H v x/\flat x=true)/\gV K (cond g H0 λ_=>none) H ks
structure PX (K:ad)(H0:Hp)(W:ay->Prop)(σ:St)(ρ:bR)(H:Hp):Prop where
 len:ρ.length=σ.length
 same:aI H0 H
 wm:∀a,W a->H0 a=none/\∃o,H a=some o/\fE o=true
 sl:∀(i:Nat) (m:Slot),ρ[i]? = some (some m)->∃v,σ[i]? = some (some v)/\sO K H0 W H v m
 dis:∀(i j:Nat) (x y:PV) (a:ay),ρ[i]? = some (some (.own x))->ρ[j]? = some (some (.own y))->σ[i]? = some (some (.ref a))->σ[j]? = some (some (.ref a))->i=j
theorem iC.keep {K:ad}{M M':ay->Prop}{H H':Hp}{a:ay}(k:fV M M' H H')(ha:∀o,H a=some o->H' a=some o):∀{x:PV},iC K M H a x->iC K M' H' a x
 |.lst _,⟨us,e,r⟩=>⟨us,ha _ e,r.keep k⟩
 |.dK _,⟨us,e,q,r⟩=>⟨us,ha _ e,q,r.keep k⟩
 |.dT _,⟨us,e,q,r⟩=>⟨us,ha _ e,q,r.keep k⟩
 |.dA _,⟨us,e,q,r⟩=>⟨us,ha _ e,q,r.keep k⟩
 |.dB _,⟨us,e,q,r⟩=>⟨us,ha _ e,q,r.keep k⟩
theorem iC.at {K:ad}{M:ay->Prop}{H:Hp}{a:ay}:∀{x:PV},iC K M H a x->∃o,H a=some o/\fE o=true
 |.lst _,⟨us,e,r⟩=>⟨_,e,rfl⟩
 |.dK _,⟨us,e,q,r⟩=>⟨_,e,rfl⟩
 |.dT _,⟨us,e,q,r⟩=>⟨_,e,rfl⟩
 |.dA _,⟨us,e,q,r⟩=>⟨_,e,rfl⟩
 |.dB _,⟨us,e,q,r⟩=>⟨_,e,rfl⟩
theorem iC.rep {K:ad}{M M':ay->Prop}{H:Hp}{a:ay}(m:∀b,M b->M' b)(ha:M' a):∀{x:PV},iC K M H a x->aG K M' H (.ref a) x
 |.lst _,⟨us,e,r⟩=>.lst ha e (r.same (aI.refl _) m)
 |.dK _,⟨us,e,q,r⟩=>.dK ha e q (r.same (aI.refl _) m)
 |.dT _,⟨us,e,q,r⟩=>.dT ha e q (r.same (aI.refl _) m)
 |.dA _,⟨us,e,q,r⟩=>.dA ha e q (r.same (aI.refl _) m)
 |.dB _,⟨us,e,q,r⟩=>.dB ha e q (r.same (aI.refl _) m)
section
variable {K:ad}{H0:Hp}{W W':ay→Prop}{σ:St}{ρ:bR}{H H':Hp}
theorem PX.mono (p:PX K H0 W σ ρ H)(s:aI H H'):PX K H0 W σ ρ H':=by
 refine⟨p.len,p.same.trans s,λa h=>⟨(p.wm a h).1,let ⟨o,e,m⟩:=(p.wm a h).2;⟨o,s _ _ e,m⟩⟩,λi m h=>?_,p.dis⟩
 obtain⟨v,e,r⟩:=p.sl i m h
 refine⟨v,e,?_⟩;cases m with
 |sh g x=>exact aG.same r s λ_ z=>z
 |own x=>
  obtain⟨a,e1,e2,r⟩:=r
  exact⟨a,e1,e2,r.keep (.same s λ_ z=>z) λ_ z=>s _ _ z⟩
 |kp g x ks=>exact⟨⟨r.1.1.same s λ_ z=>z,r.1.2⟩,r.2.same s⟩
theorem PX.new (p:PX K H0 W σ ρ H){a:ay}(h:H a=none):¬W a/\H0 a=none:=
 ⟨λz=>(by obtain⟨_,o,e,_⟩:=p.wm a z;rw[h]at e;cases e),p.same.free h⟩
theorem Mg.back {g:Tg}{H1:Hp}(s:aI H H1){a:ay}(h:Mg H0 W H1 g a):Mg H0 W H g a:=by
 cases g with
 |fr=>exact s.free h
 |rd=>exact h
 |sh=>exact h
 |nw=>exact h
end
noncomputable abbrev PK:=PV->Tg->Prop
noncomputable abbrev aH:=bR->PK->Prop
noncomputable abbrev cO:=bR->(Bool->Prop)->Prop
noncomputable abbrev bX:=bR->(List (PV×Tg)->Prop)->Prop
inductive iQ (K:ad)(H0:Hp)(W:ay->Prop)(Hs H:Hp):List V->List (PV×Tg)->Prop
 |nil:iQ K H0 W Hs H [] []
 |cons {v:V}{x:PV}{g:Tg}{vs:List V}{xs:List (PV×Tg)}:aG K (Mg H0 W Hs g) H v x->iQ K H0 W Hs H vs xs->iQ K H0 W Hs H (v::vs) ((x,g)::xs)
noncomputable def sP (K:ad)(H0:Hp)(W:ay->Prop)(H:Hp)(Q:PK)(Q':VK):Prop:=∀v H' x g,aI H H'->aG K (Mg H0 W H g) H' v x->Q x g->Q' v H'
noncomputable def LE (X:Cx)(t:aH):TE:=λσ H Q'=>∃(W:ay->Prop) (ρ:bR) (Q:PK),PX X.K X.H₀ W σ ρ H/\t ρ Q/\sP X.K X.H₀ W H Q Q'
noncomputable def LT (X:Cx)(t:cO):TT:=λσ H Q'=>∃(W:ay->Prop) (ρ:bR) (Q:Bool->Prop),PX X.K X.H₀ W σ ρ H/\t ρ Q/\∀b H',aI H H'->Q b->Q' b H'
noncomputable def LA (X:Cx)(t:bX):TA:=λσ H Q'=>∃(W:ay->Prop) (ρ:bR) (Q:List (PV×Tg)->Prop),PX X.K X.H₀ W σ ρ H/\t ρ Q/\∀vs H' xs,aI H H'->iQ X.K X.H₀ W H H' vs xs->Q xs->Q' vs H'
theorem iQ.same {K:ad}{H0:Hp}{W:ay->Prop}{Hs Hs' H H':Hp}(s:aI H H')(b:aI Hs' Hs):∀{vs:List V}{xs:List (PV×Tg)},iQ K H0 W Hs H vs xs->iQ K H0 W Hs' H' vs xs
 |_,_,.nil=>.nil
 |_,_,.cons r t=>.cons (r.same s λ_ z=>Mg.back b z) (t.same s b)
theorem iQ.any {K:ad}{H0:Hp}{W:ay->Prop}{Hs H:Hp}:∀{vs:List V}{xs:List (PV×Tg)},iQ K H0 W Hs H vs xs->Reps K (λ_=>True) H vs (xs.map (·.1))
 |_,_,.nil=>.nil
 |_,_,.cons r t=>.cons (r.same (aI.refl _) λ_ _=>trivial) t.any
noncomputable def Nw:Tg->PV->Prop
 |.fr,_=>True
 |.nw,_=>True
 |_,x=>flat x=true
section
variable {K:ad}{H0 Hs H:Hp}{W:ay→Prop}{σ:St}{ρ:bR}
theorem Nw.rep {g:Tg}{x:PV}{v:V}(px:PX K H0 W σ ρ Hs)(n:Nw g x)(r:aG K (Mg H0 W Hs g) H v x):aG K (Ms H0 W true) H v x:=by
 cases g with
 |fr=>exact r.same (aI.refl _) λa z=>px.new z
 |nw=>exact r.same (aI.refl _) λa z=>z
 |sh=>exact r.flat n
 |rd=>exact r.flat n
theorem P7 {v:V}{m:Slot}(r:sO K H0 W H v m):aG K (Mg H0 W Hs m.tag) H v m.val:=by
 cases m with
 |sh g x=>
  cases g with
  |true=>exact aG.same r (aI.refl _) λ_ z=>z
  |false=>exact aG.same r (aI.refl _) λ_ z=>z
 |own x=>
  obtain⟨a,rfl,_,r⟩:=r
  exact r.rep (λ_ _=>trivial) trivial
 |kp g x ks=>exact r.1.1.flat r.1.2
end
section
variable {X:Cx}{σ:St}{H:Hp}{Q':VK}{ta tb:aH}
noncomputable def aB (i:Nat):aH:=λρ Q=>∃m,ρ[i]? = some (some m)/\Q m.val m.tag
noncomputable def qC (x:PV):aH:=λ_ Q=>Q x .fr
theorem aD3 {i:Nat}(h:LE X (aB i) σ H Q'):dF i σ H Q':=by
 obtain⟨W,ρ,Q,px,⟨m,e,q⟩,k⟩:=h
 obtain⟨v,ev,r⟩:=px.sl i m e
 exact⟨v,ev,k v H _ _ (aI.refl _) (P7 r) q⟩
theorem pJ {x:PV}{v:V}(hr:∀M,aG X.K M H v x)(h:LE X (qC x) σ H Q'):tC v σ H Q':=by
 obtain⟨W,ρ,Q,px,q,k⟩:=h
 exact k v H _ _ (aI.refl _) (hr _) q
noncomputable def gG (X:Cx)(R:PV->Tg->PV->Tg->PK->Prop)(r:R2):Prop:=∀(W:ay->Prop) (Hs H:Hp) (u v:V) (x y:PV) (g g':Tg) (Q:PK) (Q':VK),aI Hs H->
 (∀a,Hs a=none->¬W a/\X.H₀ a=none)->aG X.K (Mg X.H₀ W Hs g) H u x->aG X.K (Mg X.H₀ W Hs g') H v y->R x g y g' Q->(∀w H' z gz,aI H H'->aG X.K (Mg X.H₀ W Hs gz) H' w z->Q z gz->Q' w H')->r u v H Q'
noncomputable def q2 (R:PV->Tg->PV->Tg->PK->Prop)(ta tb:aH):aH:=λρ Q=>ta ρ λx g=>tb ρ λy g'=>R x g y g' Q
theorem sQ {R:PV->Tg->PV->Tg->PK->Prop}{r:R2}(c:gG X R r)(h:LE X (q2 R ta tb) σ H Q'):oY r (LE X ta) (LE X tb) σ H Q':=by
 obtain⟨W,ρ,Q,px,q,k⟩:=h
 refine⟨W,ρ,_,px,q,λu H1 x g s1 r1 q1=>⟨W,ρ,_,px.mono s1,q1,λv H2 y g' s2 r2 q2=>?_⟩⟩;exact c W H H2 u v x y g g' Q Q' (s1.trans s2) (λa z=>px.new z) (r1.same s2 λ_ z=>z) (r2.same (aI.refl _) λ_ z=>Mg.back s1 z) q2 λw H' z gz s3 r3 q3=>k w H' z gz ((s1.trans s2).trans s3) r3 q3
noncomputable def RI (C:Int->Int->Prop)(f:Int->Int->PV):PV->Tg->PV->Tg->PK->Prop:=λx _ y _ Q=>∃i j,x = .int i/\y = .int j/\C i j/\Q (f i j) .fr
noncomputable def eG (f:Int->Int->PV):PV->Tg->PV->Tg->PK->Prop:=λx _ y _ Q=>∃i j,x = .int i/\y = .int j/\Q (f i j) .fr
theorem pK {C:Int->Int->Prop}{f:Int->Int->Int}:gG X (RI C λi j=>.int (f i j)) (rI C λi j=>.int (f i j)):=by
 rintro W Hs H u v x y g g' Q Q' s n r1 r2 ⟨i,j,rfl,rfl,c,q⟩ k;cases r1;cases r2
 exact⟨i,j,rfl,rfl,c,k _ _ _ _ (aI.refl _) (.int _) q⟩
theorem sR {f:Int->Int->Int}:gG X (eG λi j=>.int (f i j)) (i7 λi j=>.int (f i j)):=by
 rintro W Hs H u v x y g g' Q Q' s n r1 r2 ⟨i,j,rfl,rfl,q⟩ k;cases r1;cases r2
 exact⟨i,j,rfl,rfl,k _ _ _ _ (aI.refl _) (.int _) q⟩
theorem sS {f:Int->Int->Bool}:gG X (eG λi j=>.bl (f i j)) (i7 λi j=>.bl (f i j)):=by
 rintro W Hs H u v x y g g' Q Q' s n r1 r2 ⟨i,j,rfl,rfl,q⟩ k;cases r1;cases r2
 exact⟨i,j,rfl,rfl,k _ _ _ _ (aI.refl _) (.bl _) q⟩
noncomputable def lT (neg:Bool):PV->Tg->PV->Tg->PK->Prop:=λx _ y _ Q=>(∃i j,x = .int i/\y = .int j/\Q (.bl (if neg=true then !decide (i=j) else decide (i=j))) .fr)∨(∃i j,x = .bl i/\y = .bl j/\Q (.bl (if neg=true then !decide (i=j) else decide (i=j))) .fr)
theorem P8 (i j:Int):decide (V.int i=V.int j)=decide (i=j):=by
 rw[bA4,bs4,bs4];exact⟨λz=>V.int.inj z,λz=>congrArg V.int z⟩
theorem P9 (i j:Bool):decide (V.bl i=V.bl j)=decide (i=j):=by
 rw[bA4,bs4,bs4];exact⟨λz=>V.bl.inj z,λz=>congrArg V.bl z⟩
theorem Q0:gG X (lT false) G6:=by
 rintro W Hs H u v x y g g' Q Q' s n r1 r2 (⟨i,j,rfl,rfl,q⟩|⟨i,j,rfl,rfl,q⟩) k
 ·cases r1;cases r2
  exact⟨rfl,by rw[P8];exact k _ _ _ _ (aI.refl _) (.bl _) q⟩
 ·cases r1;cases r2
  exact⟨rfl,by rw[P9];exact k _ _ _ _ (aI.refl _) (.bl _) q⟩
theorem aD4:gG X (lT true) G7:=by
 rintro W Hs H u v x y g g' Q Q' s n r1 r2 (⟨i,j,rfl,rfl,q⟩|⟨i,j,rfl,rfl,q⟩) k
 ·cases r1;cases r2
  exact⟨rfl,by rw[P8];exact k _ _ _ _ (aI.refl _) (.bl _) q⟩
 ·cases r1;cases r2
  exact⟨rfl,by rw[P9];exact k _ _ _ _ (aI.refl _) (.bl _) q⟩
noncomputable def bL (t:aH):cO:=λρ Q=>t ρ λx _=>∃b,x = .bl b/\Q b
theorem sT {t:aH}{Q':Bool->Hp->Prop}(h:LT X (bL t) σ H Q'):LE X t σ H λx H'=>∃k,x = .bl k/\Q' k H':=by
 obtain⟨W,ρ,Q,px,q,k⟩:=h
 refine⟨W,ρ,_,px,q,?_⟩;rintro v H1 x g s r ⟨b,rfl,q⟩;cases r
 exact⟨b,rfl,k _ _ s q⟩
noncomputable def wU (t u:cO):cO:=λρ Q=>t ρ λc=>if c=true then u ρ Q else Q false
noncomputable def jT (t u:cO):cO:=λρ Q=>t ρ λc=>if c=true then Q true else u ρ Q
noncomputable def jU (t:cO):cO:=λρ Q=>t ρ λc=>Q (!c)
variable {t u:cO}{Qb:Bool→Hp→Prop}
theorem aD5 (h:LT X (wU t u) σ H Qb):C9 (LT X t) (LT X u) σ H Qb:=by
 obtain⟨W,ρ,Q,px,q,k⟩:=h
 refine⟨W,ρ,_,px,q,λb H1 s1 q1=>?_⟩;cases b with
 |true=>exact bQ ⟨W,ρ,Q,px.mono s1,by simpa using q1,λb H2 s2 q2=>k _ _ (s1.trans s2) q2⟩
 |false=>exact bJ (k _ _ s1 (by simpa using q1))
theorem aD6 (h:LT X (jT t u) σ H Qb):D9 (LT X t) (LT X u) σ H Qb:=by
 obtain⟨W,ρ,Q,px,q,k⟩:=h
 refine⟨W,ρ,_,px,q,λb H1 s1 q1=>?_⟩;cases b with
 |false=>exact bJ ⟨W,ρ,Q,px.mono s1,by simpa using q1,λb H2 s2 q2=>k _ _ (s1.trans s2) q2⟩
 |true=>exact bQ (k _ _ s1 (by simpa using q1))
theorem aD7 (h:LT X (jU t) σ H Qb):E1 (LT X t) σ H Qb:=by
 obtain⟨W,ρ,Q,px,q,k⟩:=h
 exact⟨W,ρ,_,px,q,λb H1 s1 q1=>k _ _ s1 q1⟩
noncomputable def pL (ta tb:aH):aH:=λρ Q=>ta ρ λx _=>∃c,x = .bl c/\if c=true then tb ρ Q else Q (.bl false) .fr
noncomputable def wV (ta:aH):aH:=λρ Q=>ta ρ λx _=>∃c,x = .bl c/\Q (.bl (!c)) .fr
theorem sP.back {K:ad}{H0:Hp}{W:ay->Prop}{H H1:Hp}{Q:PK}(k:sP K H0 W H Q Q')(s:aI H H1):sP K H0 W H1 Q Q':=λv H' x g s' r q=>k v H' x g (s.trans s') (r.same (aI.refl _) λ_ z=>Mg.back s z) q
theorem aD8 (h:LE X (pL ta tb) σ H Q'):E2 (LE X ta) (LE X tb) σ H Q':=by
 obtain⟨W,ρ,Q,px,q,k⟩:=h
 refine⟨W,ρ,_,px,q,?_⟩;rintro v H1 x g s1 r ⟨c,rfl,q⟩;cases r;refine⟨c,rfl,?_⟩;cases c with
 |true=>exact bQ ⟨W,ρ,Q,px.mono s1,by simpa using q,k.back s1⟩
 |false=>exact bJ (k _ _ _ _ s1 (.bl _) (by simpa using q))
theorem aD9 (h:LE X (wV ta) σ H Q'):E3 (LE X ta) σ H Q':=by
 obtain⟨W,ρ,Q,px,q,k⟩:=h
 refine⟨W,ρ,_,px,q,?_⟩;rintro v H1 x g s1 r ⟨c,rfl,q⟩;cases r
 exact⟨c,rfl,k _ _ _ _ s1 (.bl _) q⟩
noncomputable def aM:bX:=λ_ Q=>Q []
noncomputable def aF (te:aH)(tr:bX):bX:=λρ Q=>te ρ λx g=>tr ρ λxs=>Q ((x,g)::xs)
variable {Qa:List V→Hp→Prop}{tr:bX}
theorem aE0 (h:LA X aM σ H Qa):kP σ H Qa:=by
 obtain⟨W,ρ,Q,px,q,k⟩:=h
 exact k _ _ _ (aI.refl _) .nil q
theorem aE1 (h:LA X (aF ta tr) σ H Qa):gD (LE X ta) (LA X tr) σ H Qa:=by
 obtain⟨W,ρ,Q,px,q,k⟩:=h
 refine⟨W,ρ,_,px,q,λv H1 x g s1 r1 q1=>⟨W,ρ,_,px.mono s1,q1,λvs H2 xs s2 r2 q2=>?_⟩⟩;exact k _ _ _ (s1.trans s2) (.cons (r1.same s2 λ_ z=>z) (r2.same (aI.refl _) s1)) q2
noncomputable def eU (t:bX):aH:=λρ Q=>t ρ λxs=>xs.length<=1000/\flats (xs.map (·.1))=true/\Q (.tup (xs.map (·.1))) .fr
noncomputable def pM (t:bX):aH:=λρ Q=>t ρ λxs=>xs.length<=1000/\flats (xs.map (·.1))=true/\Q (.lst (xs.map (·.1))) .fr
theorem iQ.length {K:ad}{H0:Hp}{W:ay->Prop}{Hs H:Hp}:∀{vs:List V}{xs:List (PV×Tg)},iQ K H0 W Hs H vs xs->vs.length=xs.length
 |_,_,.nil=>rfl
 |_,_,.cons _ t=>congrArg (·+1) t.length
theorem wW {n:Nat}(h:n<=1000):n<=sizeLine:=by9 (N4 h)
theorem aE2 (h:LE X (eU tr) σ H Q'):J4 (LA X tr) σ H Q':=by
 obtain⟨W,ρ,Q,px,q,k⟩:=h
 refine⟨W,ρ,_,px,q,?_⟩;rintro vs H1 xs s1 r ⟨hl,n,q⟩;refine⟨by rw[r.length];exact wW hl,λp hp=>k _ _ _ .fr (s1.trans (cS hp _)) (.tup bH ?_) q⟩;exact (r.any.flat n).same (cS hp _) λ_ z=>z
theorem aE3 (h:LE X (pM tr) σ H Q'):J5 (LA X tr) σ H Q':=by
 obtain⟨W,ρ,Q,px,q,k⟩:=h
 refine⟨W,ρ,_,px,q,?_⟩;rintro vs H1 xs s1 r ⟨hl,n,q⟩;refine⟨by rw[r.length];exact wW hl,λp hp=>k _ _ _ .fr (s1.trans (cS hp _)) (.lst (s1.free hp) bH ?_) q⟩;exact (r.any.flat n).same (cS hp _) λ_ z=>z
noncomputable def fW (X:Cx)(R:List PV->(PV->Prop)->Prop)(r:List V->Hp->VK->Prop):Prop:=∀(H:Hp) (vs:List V) (xs:List PV) (Q:PV->Prop) (Q':VK),Reps X.K (λ_=>True) H vs xs->R xs Q->
 (∀w H' z,aI H H'->aG X.K (λa=>H a=none) H' w z->Q z->Q' w H')->r vs H Q'
noncomputable def aP (R:List PV->(PV->Prop)->Prop)(t:bX):aH:=λρ Q=>t ρ λxs=>R (xs.map (·.1)) λz=>Q z .fr
theorem Q1 {R:List PV->(PV->Prop)->Prop}{r:List V->Hp->VK->Prop}(c:fW X R r)(h:LE X (aP R tr) σ H Q'):vT r (LA X tr) σ H Q':=by
 obtain⟨W,ρ,Q,px,q,k⟩:=h
 refine⟨W,ρ,_,px,q,λvs H1 xs s1 r1 q1=>c H1 vs _ _ Q' r1.any q1 λw H' z s2 r2 q2=>k w H' z .fr (s1.trans s2) (r2.same (aI.refl _) λ_ z=>s1.free z) q2⟩
end
structure sV where
 nx:bR->Prop
 rt:PV->Prop
 bk:bR->Prop:=λ_=>False
 ct:bR->Prop:=λ_=>False
noncomputable abbrev aX:=sV->bR->Prop
noncomputable def Ev (W:ay->Prop)(H:Hp)(W':ay->Prop)(H':Hp):Prop:=∀b o,H b=some o->¬W b->P6 o=false->H' b=some o/\¬W' b
theorem Ev.trans {W W1 W2:ay->Prop}{H H1 H2:Hp}(a:Ev W H W1 H1)(b:Ev W1 H1 W2 H2):Ev W H W2 H2:=λc o h n z=>let ⟨h1,n1⟩:=a c o h n z;b c o h1 n1 z
theorem Ev.same {W:ay->Prop}{H H':Hp}(s:aI H H'):Ev W H W H':=λc o h n _=>⟨s _ _ h,n⟩
theorem Ev.refl (W:ay->Prop)(H:Hp):Ev W H W H:=Ev.same (aI.refl _)
structure sW (X:Cx)(W:ay->Prop)(H:Hp)(D':sV)(D:dZ):Prop where
 nx:∀W' σ' H' ρ',Ev W H W' H'->PX X.K X.H₀ W' σ' ρ' H'->D'.nx ρ'->D.nx σ' H'
 rt:∀v H' x,aI X.H₀ H'->aG X.K (λa=>X.H₀ a=none) H' v x->D'.rt x->D.rt v H'
 bk:∀W' σ' H' ρ',Ev W H W' H'->PX X.K X.H₀ W' σ' ρ' H'->D'.bk ρ'->D.bk σ' H'
 ct:∀W' σ' H' ρ',Ev W H W' H'->PX X.K X.H₀ W' σ' ρ' H'->D'.ct ρ'->D.ct σ' H'
theorem sW.step {X:Cx}{W W1:ay->Prop}{H H1:Hp}{D':sV}{D:dZ}(k:sW X W H D' D)(e:Ev W H W1 H1):sW X W1 H1 D' D:=
 ⟨λW' σ' H' ρ' e'=>k.nx W' σ' H' ρ' (e.trans e'),k.rt,λW' σ' H' ρ' e'=>k.bk W' σ' H' ρ' (e.trans e'),λW' σ' H' ρ' e'=>k.ct W' σ' H' ρ' (e.trans e')⟩
noncomputable def LS (X:Cx)(t:aX):TS:=λD σ H=>∃(W:ay->Prop) (ρ:bR) (D':sV),PX X.K X.H₀ W σ ρ H/\t D' ρ/\sW X W H D' D
theorem gW {α:Type}{l:List α}{i j:Nat}{a b:α}(h:(l.set i a)[j]? = some b):(j=i/\i<l.length/\b=a)∨(j≠i/\l[j]? = some b):=by
 by_cases e:j=i
 ·subst e
  have hl:j<(l.set j a).length:=(bs1.mp h).1;rw[bx2]at hl;rw[bx6 hl]at h;exact .inl ⟨rfl,hl,(bt2 h).symm⟩
 ·rw[bt9 (Ne.symm e)]at h
  exact .inr ⟨e,h⟩
section
variable {K:ad}{H0:Hp}{W W':ay→Prop}{σ:St}{ρ:bR}{H H' Hs:Hp}
theorem PX.setSh {i:Nat}{v:V}{g:Bool}{x:PV}(p:PX K H0 W σ ρ H)(r:aG K (Ms H0 W g) H v x):PX K H0 W (σ.set i (some v)) (ρ.set i (some (.sh g x))) H:=by
 refine⟨by rw[bx2,bx2];exact p.len,p.same,p.wm,λj m h=>?_,λj k y z a h1 h2 h3 h4=>?_⟩
 ·rcases gW h with⟨rfl,hl,e⟩|⟨hne,h⟩
  ·cases e
   rw[p.len]at hl
   exact⟨v,bx6 hl,r⟩
  ·obtain⟨u,e,q⟩:=p.sl j m h
   exact⟨u,by rw[bt9 (Ne.symm hne)];exact e,q⟩
 ·rcases gW h1 with⟨_,_,e⟩|⟨n1,h1⟩
  ·cases e
  ·rcases gW h2 with⟨_,_,e⟩|⟨n2,h2⟩
   ·cases e
   ·rw[bt9 (Ne.symm n1)]at h3
    rw[bt9 (Ne.symm n2)]at h4;exact p.dis j k y z a h1 h2 h3 h4
noncomputable def nH (W:ay->Prop)(a:ay):ay->Prop:=λb=>W b∨b=a
theorem sX {g:Bool}{a b:ay}(n:b≠a)(h:Ms H0 W g b):Ms H0 (nH W a) g b:=by
 cases g with
 |true=>exact⟨λz=>z.elim h.1 n,h.2⟩
 |false=>exact λz=>z.elim h n
theorem PX.setOwn {i:Nat}{a:ay}{x:PV}(p:PX K H0 W σ ρ Hs)(s:aI Hs H)(ha:Hs a=none)(r:iC K (Ms H0 (nH W a) true) H a x):PX K H0 (nH W a) (σ.set i (some (.ref a))) (ρ.set i (some (.own x))) H:=by
 have old:∀b o,Hs b=some o->b≠a:=λb o e z=>by rw[z,ha]at e;cases e
 have kp:∀g,fV (Ms H0 W g) (Ms H0 (nH W a) g) Hs H:=λg=>⟨λb _ m e=>⟨sX (old _ _ e) m,s _ _ e⟩,λb _ m e=>⟨sX (old _ _ e) m,s _ _ e⟩,λb _ m e=>⟨sX (old _ _ e) m,s _ _ e⟩,λ_ _ e=>s _ _ e,λ_ _ _ e _=>s _ _ e,λb _ _ m e=>⟨sX (old _ _ e) m,s _ _ e⟩⟩
 have wa:¬W a:=(p.new ha).1;refine⟨by rw[bx2,bx2];exact p.len,p.same.trans s,λb z=>?_,λj m h=>?_,λj k y z b h1 h2 h3 h4=>?_⟩
 ·rcases z with z|rfl
  ·obtain⟨h1,o,h2,h3⟩:=p.wm b z
   exact⟨h1,o,s _ _ h2,h3⟩
  ·exact⟨(p.new ha).2,r.at⟩
 ·rcases gW h with⟨rfl,hl,e⟩|⟨hne,h⟩
  ·cases e
   rw[p.len]at hl
   exact⟨_,bx6 hl,a,rfl,.inr rfl,r⟩
  ·obtain⟨u,e,q⟩:=p.sl j m h
   refine⟨u,by rw[bt9 (Ne.symm hne)];exact e,?_⟩;cases m with
   |sh g y=>exact aG.keep (kp g) q
   |own y=>
    obtain⟨b,e1,e2,q⟩:=q
    exact⟨b,e1,.inl e2,q.keep (kp true) λo z=>s _ _ z⟩
   |kp g c ks=>exact⟨⟨q.1.1.same s λ_ z=>z,q.1.2⟩,q.2.same s⟩
 ·have ne:∀{j:Nat}{y:PV},ρ[j]? = some (some (.own y))->σ[j]?≠some (some (.ref a)):=λ{j y} h1 h2=>by
   obtain⟨u,e,c,e1,e2,_⟩:=p.sl j _ h1
   rw[h2]at e;cases e;cases e1;exact wa e2
  rcases gW h1 with⟨e1,l1,_⟩|⟨n1,h1⟩
  ·rcases gW h2 with⟨e2,_,_⟩|⟨n2,h2⟩
   ·rw[e1,e2]
   ·rw[e1,bx6 (by rw[<- p.len];exact l1)]at h3
    rw[bt9 (Ne.symm n2)]at h4;cases h3;exact absurd h4 (ne h2)
  ·rw[bt9 (Ne.symm n1)]at h3
   rcases gW h2 with⟨e2,l2,_⟩|⟨n2,h2⟩
   ·rw[e2,bx6 (by rw[<- p.len];exact l2)]at h4
    cases h4;exact absurd h3 (ne h1)
   ·rw[bt9 (Ne.symm n2)]at h4
    exact p.dis j k y z b h1 h2 h3 h4
theorem Ev.own {a:ay}(s:aI Hs H)(ha:Hs a=none):Ev W Hs (nH W a) H:=λb o e n _=>⟨s _ _ e,λz=>z.elim n λz=>by rw[z,ha]at e;cases e⟩
theorem j6 {g:Bool}{a b:ay}(wa:W a)(h:Ms H0 W g b):b≠a:=by
 cases g with
 |true=>exact λz=>h.1 (by rw[z];exact wa)
 |false=>exact λz=>h (by rw[z];exact wa)
theorem PX.updOwn {i:Nat}{a:ay}{x y:PV}{o:HO}(p:PX K H0 W σ ρ H)(hi:ρ[i]? = some (some (.own x)))(ha:σ[i]? = some (some (.ref a)))(wa:W a)(mu:fE o=true)(r:iC K (Ms H0 W true) (upd H a o) a y) :
  PX K H0 W σ (ρ.set i (some (.own y))) (upd H a o):=by
 obtain⟨w0,o',e',mu'⟩:=p.wm a wa
 have kp:∀g,fV (Ms H0 W g) (Ms H0 W g) H (upd H a o):=λg=>.upd e' mu' λb m=>⟨j6 wa m,m⟩
 refine⟨by rw[bx2];exact p.len,λb u e=>by rw[aK (λz=>by rw[z,w0]at e;cases e)];exact p.same _ _ e,λb z=>?_,λj m h=>?_,λj k y' z b h1 h2 h3 h4=>?_⟩
 ·by_cases e:b=a
  ·subst e;exact⟨w0,o,bH,mu⟩
  ·obtain⟨h1,o2,h2,h3⟩:=p.wm b z
   exact⟨h1,o2,by rw[aK e];exact h2,h3⟩
 ·rcases gW h with⟨rfl,hl,e⟩|⟨hne,h⟩
  ·cases e
   exact⟨_,ha,a,rfl,wa,r⟩
  ·obtain⟨u,e,q⟩:=p.sl j m h
   refine⟨u,e,?_⟩;cases m with
   |sh g y=>exact aG.keep (kp g) q
   |own y=>
    obtain⟨b,e1,e2,q⟩:=q
    have hb:b≠a:=λz=>by
     subst e1;rw[z]at e;exact hne (p.dis j i _ _ a h hi e ha)
    exact⟨b,e1,e2,q.keep (kp true) λo z=>by rw[aK hb];exact z⟩
   |kp g c ks=>exact⟨⟨q.1.1.keep (.upd e' mu' λ_ z=>z.elim),q.1.2⟩,q.2.upd e' mu'⟩
 ·have g1:∃y,ρ[j]? = some (some (.own y)):=by
   rcases gW h1 with⟨e,_,_⟩|⟨_,h⟩
   ·exact⟨x,by rw[e];exact hi⟩
   ·exact⟨_,h⟩
  have g2:∃y,ρ[k]? = some (some (.own y)):=by
   rcases gW h2 with⟨e,_,_⟩|⟨_,h⟩
   ·exact⟨x,by rw[e];exact hi⟩
   ·exact⟨_,h⟩
  obtain⟨y1,g1⟩:=g1
  obtain⟨y2,g2⟩:=g2
  exact p.dis j k y1 y2 b g1 g2 h3 h4
theorem Ev.upd {a:ay}{o:HO}(wa:W a):Ev W H W (upd H a o):=λb u e n _=>⟨by rw[aK (λz=>n (by rw[z];exact wa))];exact e,n⟩
noncomputable def nI (W:ay->Prop)(a:ay):ay->Prop:=λb=>W b/\b≠a
theorem Q2 {g:Bool}{a b:ay}(h:Ms H0 W g b):Ms H0 (nI W a) g b:=by
 cases g with
 |true=>exact⟨λz=>h.1 z.1,h.2⟩
 |false=>exact λz=>h z.1
end
section
variable {X:Cx}{σ:St}{H:Hp}{D:dZ}{te:aH}{t u:aX}
noncomputable def dP:aX:=λD ρ=>D.nx ρ
noncomputable def aY (t u:aX):aX:=λD ρ=>t { D with nx:=u D } ρ
theorem aE4 (h:LS X dP D σ H):E4 D σ H:=by
 obtain⟨W,ρ,D',px,q,k⟩:=h
 exact k.nx W σ H ρ (Ev.refl _ _) px q
theorem aE5 (h:LS X (aY t u) D σ H):E5 (LS X t) (LS X u) D σ H:=by
 obtain⟨W,ρ,D',px,q,k⟩:=h
 exact⟨W,ρ,_,px,q,λW' σ' H' ρ' e px' q'=>⟨W',ρ',D',px',q',k.step e⟩,k.rt,k.bk,k.ct⟩
noncomputable def Q3:Tg->PV->Bool
 |.fr,_=>true
 |.nw,_=>true
 |_,x=>flat x
noncomputable def Q4:Tg->PV->Prop
 |.rd,x=>flat x=true
 |_,_=>True
theorem aE6 {K:ad}{H0 Hs H:Hp}{W:ay->Prop}{σ:St}{ρ:bR}{g:Tg}{x:PV}{v:V}(px:PX K H0 W σ ρ Hs)(n:Q4 g x)(r:aG K (Mg H0 W Hs g) H v x):aG K (Ms H0 W (Q3 g x)) H v x:=by
 cases g with
 |fr=>exact Nw.rep (g:=.fr) px trivial r
 |nw=>exact Nw.rep (g:=.nw) px trivial r
 |sh=>
  show aG K (Ms H0 W (flat x)) H v x;cases e:flat x with
  |true=>exact r.flat e
  |false=>exact r.same (aI.refl _) λ_ z=>z
 |rd=>exact r.flat n
noncomputable def bZ (i:Nat)(te:aH):aX:=λD ρ=>te ρ λx g=>Q4 g x/\D.nx (ρ.set i (some (.sh (Q3 g x) x)))
theorem Q5 {i:Nat}(h:LS X (bZ i te) D σ H):iZ (LE X te) (dO i) D σ H:=by
 obtain⟨W,ρ,D',px,q,k⟩:=h
 refine⟨W,ρ,_,px,q,?_⟩;rintro v H1 x g s r ⟨n,q⟩;exact k.nx W _ H1 _ (Ev.same s) ((px.mono s).setSh (aE6 px n r)) q
noncomputable def Q6:PV->Bool
 |.lst xs=>flats xs
 |.dK ps=>flats (ps.map (·.2))
 |.dT ps=>flats (ps.map (·.2))
 |_=>false
theorem aE7 {K:ad}{M:ay->Prop}{H:Hp}{v:V}{x:PV}(r:aG K M H v x)(o:Q6 x=true):∃a,v = .ref a/\M a/\∀M',iC K M' H a x:=by
 cases r with
 |lst m e r=>exact⟨_,rfl,m,λ_=>⟨_,e,r.flat o⟩⟩
 |dK m e q r=>exact⟨_,rfl,m,λ_=>⟨_,e,q,r.flat o⟩⟩
 |dT m e q r=>exact⟨_,rfl,m,λ_=>⟨_,e,q,r.flat o⟩⟩
 |_=>cases o
noncomputable def nJ (i:Nat)(te:aH):aX:=λD ρ=>te ρ λx g=>g = .fr/\Q6 x=true/\D.nx (ρ.set i (some (.own x)))
theorem aE8 {i:Nat}(h:LS X (nJ i te) D σ H):iZ (LE X te) (dO i) D σ H:=by
 obtain⟨W,ρ,D',px,q,k⟩:=h
 refine⟨W,ρ,_,px,q,?_⟩;rintro v H1 x g s r ⟨rfl,o,q⟩
 obtain⟨a,rfl,m,w⟩:=aE7 r o
 exact k.nx _ _ H1 _ (Ev.own s m) (px.setOwn s m (w _)) q
noncomputable def kS (te:aH):aX:=λD ρ=>te ρ λ_ _=>D.nx ρ
theorem aE9 (h:LS X (kS te) D σ H):n4 (LE X te) D σ H:=by
 obtain⟨W,ρ,D',px,q,k⟩:=h
 exact⟨W,ρ,_,px,q,λv H1 x g s r q=>k.nx W σ H1 ρ (Ev.same s) (px.mono s) q⟩
noncomputable def cT (te:aH):aX:=λD ρ=>te ρ λx g=>Nw g x/\D.rt x
theorem aF0 (h:LS X (cT te) D σ H):vE (LE X te) D σ H:=by
 obtain⟨W,ρ,D',px,q,k⟩:=h
 refine⟨W,ρ,_,px,q,?_⟩;rintro v H1 x g s r ⟨n,q⟩;exact k.rt v H1 x (px.same.trans s) ((Nw.rep px n r).same (aI.refl _) λ_ z=>z.2) q
noncomputable def Slot.nw:Slot->Prop
 |.own _=>True
 |.kp _ _ _=>True
 |.sh true _=>True
 |.sh false x=>flat x=true
noncomputable def pN (i:Nat):aX:=λD ρ=>∃m,ρ[i]? = some (some m)/\m.nw/\D.rt m.val
theorem aF1 {i:Nat}(h:LS X (pN i) D σ H):vE (dF i) D σ H:=by
 obtain⟨W,ρ,D',px,⟨m,hi,n,q⟩,k⟩:=h
 obtain⟨v,ev,r⟩:=px.sl i _ hi
 refine⟨v,ev,k.rt v H _ px.same ?_ q⟩;cases m with
 |own x=>
  obtain⟨a,rfl,wa,r⟩:=r
  exact r.rep (λ_ z=>z.2) (px.wm a wa).1
 |sh g x=>
  cases g with
  |true=>exact aG.same r (aI.refl _) λ_ z=>z.2
  |false=>exact aG.flat n r
 |kp g x ks=>exact r.1.1.flat r.1.2
noncomputable def dQ (c:cO)(t u:aX):aX:=λD ρ=>c ρ λb=>if b=true then t D ρ else u D ρ
theorem aF2 {c:cO}(h:LS X (dQ c t u) D σ H):rV (LT X c) (LS X t) (LS X u) D σ H:=by
 obtain⟨W,ρ,D',px,q,k⟩:=h
 refine⟨W,ρ,_,px,q,λb H1 s q1=>?_⟩;cases b with
 |true=>exact bQ ⟨W,ρ,D',px.mono s,by simpa using q1,k.step (Ev.same s)⟩
 |false=>exact bJ ⟨W,ρ,D',px.mono s,by simpa using q1,k.step (Ev.same s)⟩
noncomputable def pO (c:cO)(tb:aX):aX:=λD ρ=>∃I:Nat->bR->Prop,(∃m,I m ρ)/\∀m ρ',I m ρ'->c ρ' λb=>if b=true then tb { D with nx:=λρ2=>∃m',m'<m/\I m' ρ2,ct:=λρ2=>∃m',m'<m/\I m' ρ2,bk:=D.nx } ρ' else D.nx ρ'
theorem aF3 {c:cO}{tb:aX}(h:LS X (pO c tb) D σ H):E7 (LT X c) (LS X tb) D σ H:=by
 obtain⟨W,ρ,D',px,⟨I,⟨m0,i0⟩,turn⟩,k⟩:=h
 refine⟨λm σ2 H2=>∃W2 ρ2,PX X.K X.H₀ W2 σ2 ρ2 H2/\Ev W H W2 H2/\I m ρ2,⟨m0,W,ρ,px,Ev.refl _ _,i0⟩,?_⟩;rintro m σ2 H2 ⟨W2,ρ2,px2,e2,i2⟩;refine⟨W2,ρ2,_,px2,turn m ρ2 i2,λb H3 s3 q3=>?_⟩;cases b with
 |true=>
  refine bQ ⟨λσ4 H4=>∃W4 ρ4,PX X.K X.H₀ W4 σ4 ρ4 H4/\Ev W H W4 H4/\∃m',m'<m/\I m' ρ4,λσ4 H4 ⟨W4,ρ4,a,b,m',c,d⟩=>⟨m',c,W4,ρ4,a,b,d⟩,W2,ρ2,_,px2.mono s3,by simpa using q3,?_⟩;have e3:Ev W H W2 H3:=e2.trans (Ev.same s3)
  exact⟨λW' σ' H' ρ' e p q=>⟨W',ρ',p,e3.trans e,q⟩,k.rt,λW' σ' H' ρ' e p q=>k.nx W' σ' H' ρ' (e3.trans e) p q,λW' σ' H' ρ' e p q=>⟨W',ρ',p,e3.trans e,q⟩⟩
 |false=>exact bJ (k.nx W2 σ2 H3 ρ2 (e2.trans (Ev.same s3)) (px2.mono s3) (by simpa using q3))
end
theorem lim {n:Nat}(h:n<=16000000):n<=sizeLine:=by9 (iO h)
theorem aG.sqT {K:ad}{M:ay->Prop}{H:Hp}{v:V}{xs:List PV}(r:aG K M H v (.tup xs)):∃a us,v = .ref a/\H a=some (.tup us)/\Reps K M H us xs:=by
 cases r with
 |tup e r=>exact⟨_,_,rfl,e,r⟩
theorem aG.sqL {K:ad}{M:ay->Prop}{H:Hp}{v:V}{xs:List PV}(r:aG K M H v (.lst xs)):∃a us,v = .ref a/\M a/\H a=some (.lst us)/\Reps K M H us xs:=by
 cases r with
 |lst m e r=>exact⟨_,_,rfl,m,e,r⟩
theorem jS.sqL {K:ad}{H:Hp}{a:ay}{ns:ag}(h:jS K H a ns):b8 K H a (ns.map V.int):=h.elim (λz=>.inl (.inr z)) .inr
noncomputable def kT:PV->Option (List PV)
 |.tup xs=>some xs
 |.lst xs=>some xs
 |.scr ns=>some (intz ns)
 |.kt xs=>some xs
 |.fL xs=>some xs
 |_=>none
theorem aG.seq {K:ad}{M:ay->Prop}{H:Hp}{v:V}{x:PV}{xs:List PV}(r:aG K M H v x)(e:kT x=some xs):∃a us,v = .ref a/\(b8 K H a us∨aQ K H a us)/\Reps K M H us xs:=by
 cases r with
 |tup h r=>cases e;exact⟨_,_,rfl,.inr (aQ.of h),r⟩
 |lst m h r=>cases e;exact⟨_,_,rfl,.inl (b8.of h),r⟩
 |scr h=>cases e;exact⟨_,_,rfl,.inl h.sqL,Reps.intz _⟩
 |kt h r=>cases e;exact⟨_,_,rfl,.inr (.inr h),r⟩
 |fL h r=>cases e;exact⟨_,_,rfl,.inl (.inl (.inr ⟨_,h⟩)),r⟩
 |_=>cases e
section
variable {X:Cx}{σ:St}{H:Hp}{D:dZ}{te ti to:aH}{t u:aX}{Q':VK}
theorem _root_.PP.PX.updL {K:ad}{H0:Hp}{W:ay->Prop}{σ:St}{ρ:bR}{H:Hp}{i:Nat}{a:ay}{x:PV}{us:List V}{ys:List PV}(p:PX K H0 W σ ρ H)(hi:ρ[i]? = some (some (.own x)))(ha:σ[i]? = some (some (.ref a)))(wa:W a)(r:Reps K (Ms H0 W true) (upd H a (.lst us)) us ys) :
  PX K H0 W σ (ρ.set i (some (.own (.lst ys)))) (upd H a (.lst us)):=p.updOwn hi ha wa rfl (y:=.lst ys) ⟨us,bH,r⟩
noncomputable def pP (i:Nat)(te:aH):aX:=λD ρ=>∃xs,ρ[i]? = some (some (.own (.lst xs)))/\te ρ λx g=>Nw g x/\xs.length<16000000/\D.nx (ρ.set i (some (.own (.lst (xs++[x])))))
theorem aF4 {i:Nat}(h:LS X (pP i te) D σ H):n4 (w4 X.K "list" M5 (dF i) (gD (LE X te) kP)) D σ H:=by
 obtain⟨W,ρ,D',px,⟨xs,hi,q⟩,k⟩:=h
 obtain⟨v,ev,a,rfl,wa,us,ea,r⟩:=px.sl i _ hi
 refine⟨_,ev,pG (b8.of ea),W,ρ,_,px,q,?_⟩;rintro w H1 x g s rx ⟨n,hl,q⟩;have ea1:=s _ _ ea;refine⟨a,us,w,rfl,rfl,ea1,iO (by rw[r.length];omega),?_⟩;refine k.nx W σ _ _ ((Ev.same s).trans (Ev.upd wa)) ((px.mono s).updL hi ev wa ?_) q;exact ((r.same s λ_ z=>z).append (.cons (Nw.rep px n rx) .nil)).keep (.upd ea1 rfl λb m=>⟨j6 wa m,m⟩)
noncomputable def Q7 (K:ad):V->List V->Hp->VK->Prop:=λx vs H Q=>M6 x vs H Q∨O2 K x vs H Q
noncomputable def sY (i:Nat)(te:aH):aX:=λD ρ=>∃xs,ρ[i]? = some (some (.own (.lst xs)))/\te ρ λy g=>∃ys,(y = .tup ys∨y = .lst ys)/\(Nw g y∨flats ys=true)/\xs.length+ys.length<=16000000/\D.nx (ρ.set i (some (.own (.lst (xs++ys)))))
theorem aF5 {i:Nat}(h:LS X (sY i te) D σ H):n4 (w4 X.K "list" (Q7 X.K) (dF i) (gD (LE X te) kP)) D σ H:=by
 obtain⟨W,ρ,D',px,⟨xs,hi,q⟩,k⟩:=h
 obtain⟨v,ev,a,rfl,wa,us,ea,r⟩:=px.sl i _ hi
 refine⟨_,ev,pG (b8.of ea),W,ρ,_,px,q,?_⟩;rintro w H1 y g s ry ⟨ys,hy,n,hl,q⟩;have ea1:=s _ _ ea;have key:∀(zs:List V),Reps X.K (Ms X.H₀ W true) H1 zs ys->D.nx σ (upd H1 a (.lst (us++zs))):=λzs rz=>by
  refine k.nx W σ _ _ ((Ev.same s).trans (Ev.upd wa)) ((px.mono s).updL hi ev wa ?_) q;exact ((r.same s λ_ z=>z).append rz).keep (.upd ea1 rfl λb m=>⟨j6 wa m,m⟩)
 have lr:=r.length;rcases hy with rfl|rfl
 ·obtain⟨b,zs,rfl,eb,rz⟩:=ry.sqT
  have lz:=rz.length;refine .inr ⟨a,b,us,zs,rfl,rfl,ea1,aQ.of eb,lim (by omega),key zs ?_⟩;rcases n with n|n
  ·obtain⟨b',zs',e1,e2,rz'⟩:=(Nw.rep px n ry).sqT
   cases e1;rw[eb]at e2;cases e2;exact rz'
  ·exact rz.flat n
 ·obtain⟨b,zs,rfl,_,eb,rz⟩:=ry.sqL
  have lz:=rz.length;refine .inl ⟨a,b,us,zs,rfl,rfl,ea1,eb,lim (by omega),key zs ?_⟩;rcases n with n|n
  ·obtain⟨b',zs',e1,_,e2,rz'⟩:=(Nw.rep px n ry).sqL
   cases e1;rw[eb]at e2;cases e2;exact rz'
  ·exact rz.flat n
noncomputable def wX (i:Nat)(tk te:aH):aX:=λD ρ=>te ρ λx g=>∃xs,ρ[i]? = some (some (.own (.lst xs)))/\tk ρ λy _=>∃n j,y = .int n/\i9 xs.length n=some j/\Nw g x/\D.nx (ρ.set i (some (.own (.lst (xs.set j x)))))
theorem aF6 {i:Nat}{tk:aH}(h:LS X (wX i tk te) D σ H):iZ (LE X te) (vJ (dF i) (LE X tk) vX) D σ H:=by
 obtain⟨W,ρ,D',px,q,k⟩:=h
 refine⟨W,ρ,_,px,q,?_⟩;rintro w H1 x g s rx ⟨xs,hi,q1⟩
 obtain⟨v,ev,a,rfl,wa,us,ea,r⟩:=(px.mono s).sl i _ hi
 refine⟨_,ev,W,ρ,_,px.mono s,q1,?_⟩;rintro kv H2 y gy s2 ry ⟨n,j,rfl,hj,nw,q2⟩;cases ry;have ea2:=s2 _ _ ea;refine⟨a,us,n,j,rfl,rfl,ea2,by rw[r.length];exact hj,?_⟩;refine k.nx W σ _ _ ((Ev.same (s.trans s2)).trans (Ev.upd wa)) ((px.mono (s.trans s2)).updL hi ev wa ?_) q2;exact (Reps.set ((Nw.rep px nw rx).same s2 λ_ z=>z) j (r.same s2 λ_ z=>z)).keep (.upd ea2 rfl λb m=>⟨j6 wa m,m⟩)
noncomputable def wY (i j:Nat):aX:=λD ρ=>∃xs y,ρ[i]? = some (some (.own (.lst (xs++[y]))))/\D.nx ((ρ.set i (some (.own (.lst xs)))).set j (some (.sh true y)))
theorem Reps.snoc_inv {K:ad}{M:ay->Prop}{H:Hp}{us:List V}{xs:List PV}{y:PV}(r:Reps K M H us (xs++[y])):∃vs v,us=vs++[v]/\Reps K M H vs xs/\aG K M H v y:=by
 have l:=r.length;have h1:=r.take xs.length;have h2:=r.drop xs.length;rw[List.take_left]at h1;rw[List.drop_left]at h2;generalize hd:us.drop xs.length=ds at h2;cases h2 with
 |cons q t=>
  cases t
  exact⟨_,_,by rw[<- hd,bu7],h1,q⟩
theorem aF7 {i j:Nat}(h:LS X (wY i j) D σ H):iZ (M0 X.K "list" M7 (dF i)) (dO j) D σ H:=by
 obtain⟨W,ρ,D',px,⟨xs,y,hi,q⟩,k⟩:=h
 obtain⟨v,ev,a,rfl,wa,us,ea,r⟩:=px.sl i _ hi
 obtain⟨vs,w,rfl,r1,ry⟩:=r.snoc_inv
 refine⟨_,ev,pG (b8.of ea),a,_,w,rfl,rfl,ea,by simp,?_⟩;rw[List.dropLast_concat];have kp:fV (Ms X.H₀ W true) (Ms X.H₀ W true) H (upd H a (.lst vs)):=.upd ea rfl λb m=>⟨j6 wa m,m⟩
 exact k.nx W _ _ _ (Ev.upd wa) ((px.updL hi ev wa (r1.keep kp)).setSh (ry.keep kp)) q
end
theorem Reps.atI {K:ad}{M:ay->Prop}{H:Hp}{us:List V}{xs:List PV}{i:Int}{z:PV}(r:Reps K M H us xs)(h:L2.atI xs i=some z):∃v,L2.atI us i=some v/\aG K M H v z:=by
 unfold L2.atI at h ⊢;rw[r.length];cases e:i9 xs.length i with
 |none=>rw[e]at h;cases h
 |some j=>rw[e]at h;exact r.at h
section
variable {X:Cx}{σ:St}{H:Hp}{Q':VK}{ta tb te:aH}{tr:bX}
noncomputable def wZ:PV->Tg->PV->Tg->PK->Prop:=λx g y _ Q=>∃xs i z,kT x=some xs/\y = .int i/\L2.atI xs i=some z/\Q z g
theorem aF8:gG X wZ (L6 X.K):=by
 rintro W Hs H u v x y g g' Q Q' s n r1 r2 ⟨xs,i,z,e,rfl,hz,q⟩ k;cases r2
 obtain⟨a,us,rfl,hs,r⟩:=r1.seq e
 obtain⟨v,hv,rv⟩:=r.atI hz
 rcases hs with hs|hs
 ·exact .inl ⟨a,us,i,v,rfl,rfl,hs,hv,k v H z g (aI.refl _) rv q⟩
 ·exact .inr (.inl ⟨a,us,i,v,rfl,rfl,hs,hv,k v H z g (aI.refl _) rv q⟩)
noncomputable def pQ:PV->Option Nat
 |.tup xs=>some xs.length
 |.lst xs=>some xs.length
 |.scr ns=>some ns.length
 |.dK ps=>some ps.length
 |.kt xs=>some xs.length
 |.fL xs=>some xs.length
 |_=>none
noncomputable def eI:List PV->(PV->Prop)->Prop:=λxs Q=>∃x n,xs = [x]/\pQ x=some n/\Q (.int n)
theorem Reps.one {K:ad}{M:ay->Prop}{H:Hp}{vs:List V}{x:PV}(r:Reps K M H vs [x]):∃v,vs = [v]/\aG K M H v x:=by
 cases r with
 |cons r t=>cases t;exact⟨_,rfl,r⟩
theorem Reps.two {K:ad}{M:ay->Prop}{H:Hp}{vs:List V}{x y:PV}(r:Reps K M H vs [x,y]):∃v w,vs = [v,w]/\aG K M H v x/\aG K M H w y:=by
 cases r with
 |cons r t=>
  obtain⟨w,rfl,q⟩:=t.one
  exact⟨_,_,rfl,r,q⟩
theorem aF9:fW X eI (λxs H Q=>(∃p ys,xs = [.ref p]/\(b8 X.K H p ys∨aQ X.K H p ys)/\Q (.int ys.length) H)∨∃a kvs,xs = [V.ref a]/\H a=some (.dK kvs)/\Q (.int kvs.length) H):=by
 rintro H vs xs Q Q' r ⟨x,n,rfl,e,q⟩ k
 obtain⟨v,rfl,r1⟩:=r.one
 have fin:∀{m:Nat},m=n->Q' (.int m) H:=λ{m} z=>by rw[z];exact k _ _ _ (aI.refl _) (.int _) q
 cases r1 with
 |tup h r2=>cases e;exact .inl ⟨_,_,rfl,.inr (aQ.of h),fin r2.length⟩
 |lst m h r2=>cases e;exact .inl ⟨_,_,rfl,.inl (b8.of h),fin r2.length⟩
 |scr h=>cases e;exact .inl ⟨_,_,rfl,.inl h.sqL,fin (by rw[bq6])⟩
 |kt h r2=>cases e;exact .inl ⟨_,_,rfl,.inr (.inr h),fin r2.length⟩
 |fL h r2=>cases e;exact .inl ⟨_,_,rfl,.inl (.inl (.inr ⟨_,h⟩)),fin r2.length⟩
 |dK m h e' r=>
  cases e;refine .inr ⟨_,_,rfl,h,fin ?_⟩
  have:=congrArg List.length e'
  rw[bq6,bq6]at this;exact this
 |_=>cases e
noncomputable def aG0:PV->Option (List PV)
 |.kt _=>none
 |x=>kT x
noncomputable def Q8:List PV->(PV->Prop)->Prop:=λxs Q=>∃x ys,xs = [x]/\aG0 x=some ys/\flats ys=true/\Q (.tup ys)
theorem aG1:fW X (λxs Q=>Q8 xs Q/\∀ns,xs≠[.scr ns]) (λxs H Q=>∃p ys,xs = [.ref p]/\((b8 X.K H p ys/\∀l,H l=none->Q (.ref l) (upd H l (.tup ys)))∨(aQ X.K H p ys/\Q (.ref p) H))):=by
 rintro H vs xs Q Q' r ⟨⟨x,ys,rfl,e,f,q⟩,nsc⟩ k
 obtain⟨v,rfl,r1⟩:=r.one
 cases r1 with
 |tup h r2=>cases e;exact⟨_,_,rfl,.inr ⟨aQ.of h,k _ _ _ (aI.refl _) (.tup h (r2.flat f)) q⟩⟩
 |lst m h r2=>cases e;exact⟨_,_,rfl,.inl ⟨b8.of h,λl hl=>k _ _ _ (cS hl _) (.tup bH ((r2.flat f).same (cS hl _) λ_ z=>z)) q⟩⟩
 |scr h=>exact absurd rfl (nsc _)
 |fL h r2=>cases e;exact⟨_,_,rfl,.inl ⟨.inl (.inr ⟨_,h⟩),λl hl=>k _ _ _ (cS hl _) (.tup bH ((r2.flat f).same (cS hl _) λ_ z=>z)) q⟩⟩
 |_=>cases e
noncomputable abbrev b9:=List PV->(PV->Prop)->Prop
noncomputable def nK (K:ad)(p:b9):Sp:=λvs H Q _=>∃xs Qp,Reps K (λ_=>True) H vs xs/\p xs Qp/\∀v H' x,aI H H'->aG K (λa=>H a=none) H' v x->Qp x->Q v H'
theorem aG2 {p:b9}{E:XK}(h:LE X (aP p tr) σ H Q'):nA (nK X.K p) [] E (LA X tr) σ H Q':=by
 obtain⟨W,ρ,Q,px,q,k⟩:=h
 refine⟨W,ρ,_,px,q,λvs H1 xs s1 r1 q1=>⟨_,_,by rw[bu0];exact r1.any,q1,λv H' x s2 r2 q2=>k v H' x .fr (s1.trans s2) (r2.same (aI.refl _) λ_ z=>s1.free z) q2⟩⟩
noncomputable def aG3:PV->Option Bool
 |.non=>some false
 |.bl b=>some b
 |.int i=>some (i != 0)
 |.tup xs=>some (!xs.isEmpty)
 |.lst xs=>some (!xs.isEmpty)
 |.dK ps=>some (!ps.isEmpty)
 |_=>none
noncomputable def jV (t:aH):cO:=λρ Q=>t ρ λx _=>∃b,aG3 x=some b/\Q b
theorem x3 {α β:Type}:∀{l:List α}{m:List β},l.length=m.length->l.isEmpty=m.isEmpty
 |[],[],_=>rfl
 |_::_,_::_,_=>rfl
theorem aG4 {t:aH}{Qb:Bool->Hp->Prop}(h:LT X (jV t) σ H Qb):LE X t σ H λx H'=>∃k,vO X.K x H' k/\Qb k H':=by
 obtain⟨W,ρ,Q,px,q,k⟩:=h
 refine⟨W,ρ,_,px,q,?_⟩;rintro v H1 x g s r ⟨b,e,q⟩;refine⟨b,?_,k _ _ s q⟩;cases r with
 |non=>cases e;rfl
 |bl b=>cases e;rfl
 |int i=>cases e;rfl
 |str x=>cases e
 |tup h r=>cases e;exact .inr (.inl ⟨_,aQ.of h,by rw[x3 r.length]⟩)
 |lst m h r=>cases e;exact .inl ⟨_,b8.of h,by rw[x3 r.length]⟩
 |dK m h e' r=>
  cases e;refine .inr (.inr ⟨_,h,?_⟩)
  have:=congrArg List.length e'
  rw[bq6,bq6]at this;rw[x3 this]
 |dT m h e' r=>cases e
 |scr h=>cases e
 |kt h r=>cases e
 |exc h e' c=>cases e
 |fK h e' r=>cases e
 |fT h e' r=>cases e
 |fL h r=>cases e
 |fn h=>cases e
 |ob=>cases e
 |lm h=>cases e
 |dA m h e' r=>cases e
 |dB m h e' r=>cases e
 |fA h e' r=>cases e
end
structure nL (K:ad)(H0:Hp)(W:ay->Prop)(g:Bool)(H1:Hp)(J:It)(xs:List PV):Prop where
 go:∀W' H' i,Ev W H1 W' H'->i<xs.length->J.go i H'
 yld:∀W' H' i v H2,Ev W H1 W' H'->J.yld i H' v H2->i<xs.length->aI H' H2/\∃x,xs[i]? = some x/\aG K (Ms H0 W' g) H2 v x
 stop:∀W' H',Ev W H1 W' H'->J.stop xs.length H'
noncomputable abbrev fX:=bR->(List PV->Bool->Prop)->Prop
noncomputable def LI (X:Cx)(t:fX):TI:=λσ H R=>∃(W:ay->Prop) (ρ:bR) (Q:List PV->Bool->Prop),PX X.K X.H₀ W σ ρ H/\t ρ Q/\∀J H1 xs g,aI H H1->nL X.K X.H₀ W g H1 J xs->Q xs g->R J H1
theorem Ev.keep {H0:Hp}{W W':ay->Prop}{H H':Hp}{g:Bool}(e:Ev W H W' H')(tw:∀a,W a->∃o,H a=some o/\fE o=true):fV (Ms H0 W g) (Ms H0 W' g) H H':=by
 have m:∀{a:ay}{o:HO},Ms H0 W g a->H a=some o->P6 o=false->Ms H0 W' g a/\H' a=some o:=λ{a o} z h hk=>by
  cases g with
  |true=>
   obtain⟨h1,h2⟩:=e a _ h z.1 hk
   exact⟨⟨h2,z.2⟩,h1⟩
  |false=>
   obtain⟨h1,h2⟩:=e a _ h z hk
   exact⟨h2,h1⟩
 refine⟨λa _ z h=>m z h rfl,λa _ z h=>m z h rfl,λa _ z h=>m z h rfl,λa _ h=>(e a _ h (λz=>?_) rfl).1,λa _ _ h f=>(e a _ h (λz=>?_) f).1,λa u d z h=>m z h (by cases u<;>first|rfl|cases d)⟩
 ·obtain⟨o,h',mu⟩:=tw a z;rw[h]at h';cases h';cases mu
 ·obtain⟨o,h',mu⟩:=tw a z;rw[h]at h';cases h';cases mu
section
variable {X:Cx}{σ:St}{H:Hp}{te:aH}{tr:bX}{R:It→Hp→Prop}
noncomputable def Q9 (K:ad)(tl:TE):TI:=λσ H R=>tl σ H λx H1=>∃a,x = .ref a/\((∃xs,b8 K H1 a xs/\R (n6 K a) H1)∨(∃xs,aQ K H1 a xs/\R (kO K a) H1))
noncomputable def x4:Tg->List PV->Bool
 |.fr,_=>true
 |.nw,_=>true
 |_,xs=>flats xs
noncomputable def kU (te:aH):fX:=λρ Q=>te ρ λx g=>∃xs,kT x=some xs/\(g = .rd->flat x=true)/\Q xs (x4 g xs)
theorem x5 {K:ad}{H0:Hp}{W:ay->Prop}{g:Bool}{H1:Hp}{a:ay}{us:List V}{xs:List PV}(tw:∀a,W a->∃o,H1 a=some o/\fE o=true)(ha:∀W' H',Ev W H1 W' H'->b8 K H' a us)(r:Reps K (Ms H0 W g) H1 us xs):nL K H0 W g H1 (n6 K a) xs:=by
 have lr:=r.length;refine⟨λW' H' i e hi=>⟨us,us[i]'(by omega),ha W' H' e,by simp⟩,λW' H' i v H2 e y hi=>?_,λW' H' e=>⟨us,ha W' H' e,by omega⟩⟩
 obtain⟨rfl,y⟩:=y
 obtain⟨x,hx,rx⟩:=r.get (y us (ha W' _ e))
 exact⟨aI.refl _,x,hx,rx.keep (e.keep tw)⟩
theorem R3 {K:ad}{H0:Hp}{W:ay->Prop}{g:Bool}{H1:Hp}{a:ay}{us:List V}{xs:List PV}(tw:∀a,W a->∃o,H1 a=some o/\fE o=true)(ha:∀W' H',Ev W H1 W' H'->aQ K H' a us)(r:Reps K (Ms H0 W g) H1 us xs):nL K H0 W g H1 (kO K a) xs:=by
 have lr:=r.length;refine⟨λW' H' i e hi=>⟨us,us[i]'(by omega),ha W' H' e,by simp⟩,λW' H' i v H2 e y hi=>?_,λW' H' e=>⟨us,ha W' H' e,by omega⟩⟩
 obtain⟨rfl,y⟩:=y
 obtain⟨x,hx,rx⟩:=r.get (y us (ha W' _ e))
 exact⟨aI.refl _,x,hx,rx.keep (e.keep tw)⟩
theorem lU {K:ad}{H0 Hs H:Hp}{W:ay->Prop}{σ:St}{ρ:bR}{g:Tg}{us:List V}{xs:List PV}(px:PX K H0 W σ ρ Hs)(hg:g = .rd->flats xs=true)(r:Reps K (Mg H0 W Hs g) H us xs):Reps K (Ms H0 W (x4 g xs)) H us xs:=by
 cases g with
 |fr=>exact r.same (aI.refl _) λ_ z=>px.new z
 |nw=>exact r.same (aI.refl _) λ_ z=>z
 |sh=>
  show Reps K (Ms H0 W (flats xs)) H us xs;cases e:flats xs with
  |true=>exact r.flat e
  |false=>exact r.same (aI.refl _) λ_ z=>z
 |rd=>exact r.flat (hg rfl)
theorem aG5 (h:LI X (kU te) σ H R):Q9 X.K (LE X te) σ H R:=by
 obtain⟨W,ρ,Q,px,q,k⟩:=h
 refine⟨W,ρ,_,px,q,?_⟩;rintro v H1 x g s r ⟨xs,e,hg,q⟩;have px1:=px.mono s;have tw:∀a,W a->∃o,H1 a=some o/\fE o=true:=λa z=>(px1.wm a z).2
 cases r with
 |tup h r=>
  cases e;refine⟨_,rfl,.inr ⟨_,aQ.of h,k _ _ _ _ s (R3 tw (λW' H' e=>aQ.of (e _ _ h (λz=>?_) rfl).1) (lU px (λz=>by have:=hg z;unfold flat at this;exact this) r)) q⟩⟩
  obtain⟨o,h',mu⟩:=tw _ z;rw[h]at h';cases h';cases mu
 |@lst a us xs' m h r=>
  cases e;have wa:¬W a:=by
   cases g with
   |fr=>exact (px.new m).1
   |nw=>exact m.1
   |sh=>exact m
   |rd=>have:=hg rfl;unfold flat at this;cases this
  exact⟨_,rfl,.inl ⟨_,b8.of h,k _ _ _ _ s (x5 tw (λW' H' e=>b8.of (e _ _ h wa rfl).1) (lU px (λz=>by have:=hg z;unfold flat at this;cases this) r)) q⟩⟩
 |scr h=>
  cases e;refine⟨_,rfl,.inl ⟨_,h.sqL,k _ _ _ _ s (x5 tw (λW' H' e=>(jS.keep (λa o u hz f=>(e _ _ hz (λz=>?_) f).1) h).sqL) (lU (g:=g) px (λz=>j5 _) (Reps.intz _))) q⟩⟩
  obtain⟨o,h',mu⟩:=tw _ z;rw[hz]at h';cases h';cases mu
 |kt h r=>
  cases e
  exact⟨_,rfl,.inr ⟨_,.inr h,k _ _ _ _ s (R3 tw (λW' H' e=>.inr h) (lU px (λz=>by have:=hg z;unfold flat at this;exact this) r)) q⟩⟩
 |fL h r=>
  cases e;refine⟨_,rfl,.inl ⟨_,.inl (.inr ⟨_,h⟩),k _ _ _ _ s (x5 tw (λW' H' e=>.inl (.inr ⟨_,(e _ _ h (λz=>?_) rfl).1⟩)) (lU px (λz=>by have:=hg z;unfold flat at this;exact this) r)) q⟩⟩
  obtain⟨o,h',mu⟩:=tw _ z;rw[h]at h';cases h';cases mu
 |_=>cases e
noncomputable def iD (lo:Int)(n:Nat):List PV:=(List.range n).map λ(i:Nat)=>PV.int (lo+(i:Int))
theorem dS (lo:Int)(n:Nat):(iD lo n).length=n:=by unfold iD;rw[bq6,bB6]
theorem pR {lo:Int}{n i:Nat}(h:i<n):(iD lo n)[i]? = some (.int (lo+i)):=by unfold iD;rw[br5,bE2 h];rfl
noncomputable def j7 (te:aH):fX:=λρ Q=>te ρ λx _=>∃j:Int,x = .int j/\-1000000<=j/\j<=1000000/\Q (iD 0 j.toNat) true
theorem aG6 {K:ad}{H0:Hp}{W:ay->Prop}{H1:Hp}(lo:Int)(n:Nat):nL K H0 W true H1 (sA lo n) (iD lo n):=by
 refine⟨λW' H' i e hi=>by rw[dS]at hi;exact hi,λW' H' i v H2 e y hi=>?_,λW' H' e=>by show n<=(iD lo n).length;rw[dS];exact bq4 _⟩;rw[dS]at hi
 obtain⟨rfl,rfl⟩:=y
 exact⟨aI.refl _,_,pR hi,.int _⟩
theorem aG7 (h:LI X (j7 te) σ H R):G2 (gD (LE X te) kP) σ H R:=by
 obtain⟨W,ρ,Q,px,q,k⟩:=h
 refine⟨W,ρ,_,px,q,?_⟩;rintro v H1 x g s r ⟨j,rfl,h1,h2,q⟩;cases r
 exact⟨j,rfl,by omega,by omega,k _ _ _ _ s (aG6 0 j.toNat) q⟩
end
noncomputable abbrev kW:=PV->Bool->bR->(bR->Prop)->Prop
noncomputable def pS (K:ad)(own:Nat->Prop)(p:kW)(t:TG):Prop:=∀(H0:Hp) (W:ay->Prop) (σ:St) (ρ:bR) (H:Hp) (v:V) (x:PV) (g:Bool) (Q:bR->Prop) (Q':St->Hp->Prop),
 PX K H0 W σ ρ H->aG K (Ms H0 W g) H v x->p x g ρ Q->(∀σ' ρ',PX K H0 W σ' ρ' H->(∀i,¬own i->σ'[i]? = σ[i]?)->σ'.length=σ.length->Q ρ'->Q' σ' H)->t v σ H Q'
noncomputable def dU (i:Nat):kW:=λx g ρ Q=>Q (ρ.set i (some (.sh (g||flat x) x)))
theorem sZ {K:ad}{H0 H:Hp}{W:ay->Prop}{v:V}{x:PV}{g:Bool}(r:aG K (Ms H0 W g) H v x):aG K (Ms H0 W (g||flat x)) H v x:=by
 cases g with
 |true=>exact r
 |false=>
  show aG K (Ms H0 W (flat x)) H v x;cases e:flat x with
  |true=>exact r.flat e
  |false=>exact r
theorem t5 (K:ad)(i:Nat):pS K (· = i) (dU i) (dO i):=by
 intro H0 W σ ρ H v x g Q Q' px r q k;exact k _ _ (px.setSh (sZ r)) (λj hj=>by rw[bt9 (Ne.symm hj)]) (bx2 ..) q
noncomputable def lV (i j:Nat):kW:=λx g ρ Q=>∃y z,x = .tup [y,z]/\Q ((ρ.set i (some (.sh (g||flat y) y))).set j (some (.sh (g||flat z) z)))
theorem R4 (K:ad)(i j:Nat):pS K (λk=>k=i∨k=j) (lV i j) (rY K 2 (lM (dO i) (lM (dO j) rX))):=by
 intro H0 W σ ρ H v x g Q Q' px r q k
 obtain⟨y,z,rfl,q⟩:=q
 obtain⟨a,us,rfl,h,r⟩:=r.sqT
 obtain⟨u1,u2,rfl,r1,r2⟩:=r.two
 refine⟨a,_,rfl,aQ.of h,rfl,u1,_,rfl,u2,_,rfl,rfl,k _ _ ((px.setSh (sZ r1)).setSh (sZ r2)) (λk hk=>?_) (by rw[bx2,bx2]) q⟩;rw[bt9 (λe=>hk (.inr e.symm)),bt9 (λe=>hk (.inl e.symm))]
section
variable {X:Cx}{σ:St}{H:Hp}{D:dZ}
noncomputable def gH (ti:fX)(p:kW)(tb:aX):aX:=λD ρ=>ti ρ λxs g=>∃I:Nat->bR->Prop,I 0 ρ/\(∀i x ρ',xs[i]? = some x->I i ρ'->p x g ρ' λρ2=>tb { D with nx:=I (i+1),ct:=I (i+1),bk:=D.nx } ρ2)/\∀ρ',I xs.length ρ'->D.nx ρ'
theorem aG8 {ti:fX}{p:kW}{g:TG}{tb:aX}{own:Nat->Prop}(hg:pS X.K own p g)(h:LS X (gH ti p tb) D σ H):G3 (LI X ti) g (LS X tb) D σ H:=by
 obtain⟨W,ρ,D',px,q,k⟩:=h
 refine⟨W,ρ,_,px,q,?_⟩;rintro J H1 xs gb s it ⟨I,i0,turn,fin⟩;refine⟨λi m σ2 H2=>m=xs.length-i/\i<=xs.length/\∃W2 ρ2,PX X.K X.H₀ W2 σ2 ρ2 H2/\Ev W H1 W2 H2/\I i ρ2,⟨xs.length,by omega,bu8 _,W,ρ,px.mono s,Ev.refl _ _,i0⟩,?_⟩;rintro i m σ2 H2 ⟨rfl,hi,W2,ρ2,px2,e2,i2⟩;have e0:Ev W H W2 H2:=(Ev.same s).trans e2;by_cases hlt:i<xs.length
 ·refine .inr ⟨it.go W2 H2 i e2 hlt,λσ3 H3=>∃W3 ρ3,PX X.K X.H₀ W3 σ3 ρ3 H3/\Ev W H1 W3 H3/\I (i+1) ρ3,λσ3 H3 ⟨W3,ρ3,a,b,c⟩=>⟨xs.length-(i+1),by omega,rfl,hlt,W3,ρ3,a,b,c⟩,λv H3 y=>?_⟩
  obtain⟨s3,x,hx,rx⟩:=it.yld W2 H2 i v H3 e2 y hlt
  refine hg X.H₀ W2 σ2 ρ2 H3 v x gb _ _ (px2.mono s3) rx (turn i x ρ2 hx i2) λσ4 ρ4 px4 _ _ q4=>?_
  have e3:Ev W H1 W2 H3:=e2.trans (Ev.same s3);have e3':Ev W H W2 H3:=e0.trans (Ev.same s3)
  exact⟨W2,ρ4,_,px4,q4,λW' σ' H' ρ' e p q=>⟨W',ρ',p,e3.trans e,q⟩,k.rt,λW' σ' H' ρ' e p q=>k.nx W' σ' H' ρ' (e3'.trans e) p q,λW' σ' H' ρ' e p q=>⟨W',ρ',p,e3.trans e,q⟩⟩
 ·have e:i=xs.length:=by omega
  subst e;exact .inl ⟨it.stop W2 H2 e2,k.nx W2 σ2 H2 ρ2 e0 px2 (fin ρ2 i2)⟩
end
noncomputable def Slot.blk:Slot->Slot
 |.kp _ x ks=>.kp false x ks
 |.sh _ x=>.sh false x
 |.own x=>.sh false x
noncomputable def nM (fr:List (Option Nat))(ρ:bR):bR:=fr.map λo=>o.bind λj=>(ρ[j]?).join.map Slot.blk
theorem lS.any {K:ad}{H0 H:Hp}{a:ay}{st un:List PV}(h:lS K H0 H a st un):lS K (λ_=>none) H a st un:=by
 obtain⟨C,dx,l1,l2,us1,us2,h1,h2,h⟩:=h
 exact⟨C,dx,l1,l2,us1,us2,h1,⟨rfl,rfl,rfl,rfl⟩,h⟩
theorem gV.any {K:ad}{H0 H:Hp}{ks:List (ay×List PV×List PV)}(h:gV K H0 H ks):gV K (λ_=>none) H ks:=⟨λk hk=>(h.1 k hk).any,h.2⟩
theorem Slot.blk_own {m:Slot}{x:PV}(h:m.blk = .own x):False:=by
 cases m<;>cases h
theorem aG9 {K:ad}{H0 H1 H1' H':Hp}{W W':ay->Prop}{v:V}{m:Slot}(r:sO K H0 W H1 v m)(k:fV (λ_=>False) (λ_=>False) H1 H')(f:∀b o,H1 b=some o->fE o=false->H' b=some o)(rv:aG K (λa=>¬W' a) H' v m.val):sO K H1' W' H' v m.blk:=by
 cases m with
 |sh g x=>exact rv
 |own x=>exact rv
 |kp g x ks=>exact⟨⟨r.1.1.keep k,r.1.2⟩,r.2.any.keep k f⟩
noncomputable def lW (D:ay):ay->Prop:=λa=>a=D
theorem aH0 {K:ad}{H0:Hp}{W:ay->Prop}{σ:St}{ρ:bR}{H1 H':Hp}{D:ay}{acc:List V}{fr:List (Option Nat)}(px:PX K H0 W σ ρ H1)(hD:H1 D=none)(s:aI H1 H')(ha:H' D=some (.lst acc)) :
  PX K H1 (lW D) (gE fr σ) (nM fr ρ) H':=by
 have old:∀{a:ay}{o:HO},H1 a=some o->a≠D:=λ{a o} e z=>by rw[z,hD]at e;cases e
 refine⟨by unfold gE nM;rw[bq6,bq6],s,λa z=>by cases z;exact⟨hD,_,ha,rfl⟩,λi m h=>?_,λi j x y a h1=>?_⟩
 ·unfold nM at h
  rw[br5]at h;cases ef:fr[i]? with
  |none=>rw[ef]at h;cases h
  |some o=>
   rw[ef]at h;cases o with
   |none=>cases h
   |some j=>
    have h:some ((ρ[j]?).join.map Slot.blk)=some (some m):=h;cases er:ρ[j]? with
    |none=>rw[er]at h;cases h
    |some o=>
     rw[er]at h;cases o with
     |none=>cases h
     |some m0=>
      cases h
      obtain⟨v,ev,r⟩:=px.sl j m0 er
      refine⟨v,?_,?_⟩
      ·unfold gE
       rw[br5,ef];show some ((σ[j]?).join)=_;rw[ev];rfl
      ·have r':aG K (λ_=>True) H1 v m0.val:=(P7 (Hs:=H1) r).same (aI.refl _) λ_ _=>trivial
       refine aG9 r (.same s λ_ z=>z) (λ_ _ e _=>s _ _ e) ?_;exact r'.keep ⟨λa _ _ e=>⟨old e,s _ _ e⟩,λa _ _ e=>⟨old e,s _ _ e⟩,λa _ _ e=>⟨old e,s _ _ e⟩,λ_ _ e=>s _ _ e,λ_ _ _ e _=>s _ _ e,λa _ _ _ e=>⟨old e,s _ _ e⟩⟩
 ·unfold nM at h1
  rw[br5]at h1;cases ef:fr[i]? with
  |none=>rw[ef]at h1;cases h1
  |some o=>
   rw[ef]at h1;cases o with
   |none=>cases h1
   |some j=>
    have h1:some ((ρ[j]?).join.map Slot.blk)=some (some (Slot.own x)):=h1;cases er:ρ[j]? with
    |none=>rw[er]at h1;cases h1
    |some o=>
     rw[er]at h1;cases o with
     |none=>cases h1
     |some m0=>exact (Slot.blk_own (bt2 (bt2 h1))).elim
section
variable {X:Cx}{σ:St}{H:Hp}{Q':VK}
noncomputable abbrev _root_.L2.Cx.frm (X:Cx)(H1:Hp):Cx:={ X with H₀:=H1 }
noncomputable def gX (ti:fX)(fr:List (Option Nat))(p:kW)(tc:cO)(te:aH):aH:=λρ Q=>ti ρ λxs g=>xs.length<=16000000/\∃I:Nat->List PV->Prop,I 0 []/\
 (∀i x acc,xs[i]? = some x->I i acc->p x false (nM fr ρ) λρ2=>tc ρ2 λb=>if b=true then te ρ2 λy gy=>Nw gy y/\I (i+1) (acc++[y]) else I (i+1) acc)/\∀acc,I xs.length acc->Q (.lst acc) .fr
theorem t6 {ti:fX}{fr:List (Option Nat)}{p:kW}{g:TG}{tc:cO}{te:aH}{own:Nat->Prop}(hg:pS X.K own p g)(ho:∀i,own i->fr[i]? = some none)(h:LE X (gX ti fr p tc te) σ H Q') :
  wL (LI X ti) fr (λ_=>g) (λH1=>LT (X.frm H1) tc) (λH1=>LE (X.frm H1) te) σ H Q':=by
 obtain⟨W,ρ,Q,px,q,k⟩:=h
 refine⟨W,ρ,_,px,q,?_⟩;rintro J H1 xs gb s it ⟨hl,I,i0,turn,fin⟩ D hD;have px1:=px.mono s;refine⟨λi m acc H'=>m=xs.length-i/\i<=xs.length/\aI H1 H'/\H' D=some (.lst acc)/\∃ys,Reps X.K (Ms H1 (lW D) true) H' acc ys/\ys.length<=i/\I i ys,⟨xs.length,by omega,bu8 _,cS hD _,bH,[],.nil,bq4 _,i0⟩,?_⟩;rintro i m acc H' ⟨rfl,hi,sm,ha,ys,ry,hy,iy⟩;refine⟨ha,?_⟩;have ev:Ev W H1 (nH W D) H':=Ev.own sm hD;by_cases hlt:i<xs.length
 ·refine .inr ⟨it.go _ H' i ev hlt,λv H2 y=>?_⟩
  obtain⟨s2,x,hx,rx⟩:=it.yld _ H' i v H2 ev y hlt
  have ha2:=s2 _ _ ha;have pxb:PX X.K H1 (lW D) (gE fr σ) (nM fr ρ) H2:=aH0 px1 hD (sm.trans s2) ha2;have rx':aG X.K (Ms H1 (lW D) false) H2 v x:=rx.same (aI.refl _) λa z=>by
   cases gb with
   |true=>exact λe=>z.1 (.inr e)
   |false=>exact λe=>z (.inr e)
  refine hg H1 (lW D) _ _ H2 v x false _ _ pxb rx' (turn i x ys hx iy) λσ2 ρ2 px2 hown ao q2=>⟨⟨ao.symm,λj w e=>?_⟩,?_⟩
  ·by_cases oj:own j
   ·have:=ho j oj
    unfold gE at e;rw[br5,this]at e;cases e
   ·rw[hown j oj];exact e
  ·refine⟨lW D,ρ2,_,px2,q2,λb H4 s4 q4=>?_⟩
   have ha4:=s4 _ _ ha2;have sm4:=(sm.trans s2).trans s4;cases b with
   |false=>
    refine bJ ⟨xs.length-(i+1),by omega,rfl,hlt,sm4,ha4,ys,ry.same (s2.trans s4) λ_ z=>z,by omega,by simpa using q4⟩
   |true=>
    refine bQ ⟨lW D,ρ2,_,px2.mono s4,by simpa using q4,?_⟩;rintro w H5 y gy s5 ryy ⟨nw,q5⟩;have ha5:=s5 _ _ ha4;have lr:=ry.length;refine⟨ha5,iO (by omega),xs.length-(i+1),by omega,rfl,hlt,λb o e=>?_,bH,ys++[y],?_,by rw[br4,List.length_singleton];omega,q5⟩
    ·rw[aK (λz=>by rw[z,hD]at e;cases e)]
     exact s5 _ _ (sm4 _ _ e)
    ·exact ((ry.same ((s2.trans s4).trans s5) λ_ z=>z).append (.cons (Nw.rep (px2.mono s4) nw ryy) .nil)).keep (.upd ha5 rfl λb m=>⟨m.1,m⟩)
 ·have e:i=xs.length:=by omega
  subst e;refine .inl ⟨it.stop _ H' ev,k _ H' _ .fr (s.trans sm) (.lst (s.free hD) ha (ry.same (aI.refl _) λ_ z=>s.free z.2)) (fin ys iy)⟩
noncomputable def iE:cO:=λ_ Q=>Q true
theorem aH1 {Qb:Bool->Hp->Prop}(h:LT X iE σ H Qb):wH σ H Qb:=by
 obtain⟨W,ρ,Q,px,q,k⟩:=h
 exact k _ _ (aI.refl _) q
end
section
variable {κ:Type}[DecidableEq κ]
noncomputable def dJ (ps:List (κ×PV))(k:κ):Option PV:=(ps.find? λp=>decide (p.1=k)).map (·.2)
noncomputable def fY (ps:List (κ×PV))(k:κ)(x:PV):List (κ×PV):=if (ps.any λp=>decide (p.1=k))=true then ps.map (λp=>if p.1=k then (p.1,x) else p) else ps++[(k,x)]
variable {K:ad}{M:ay→Prop}{H:Hp}
theorem lX (k:κ):∀{kvs:List (κ×V)}{ps:List (κ×PV)},kvs.map (·.1)=ps.map (·.1)->Reps K M H (kvs.map (·.2)) (ps.map (·.2))->(dJ ps k=none->gU kvs k=none)/\∀x,dJ ps k=some x->∃v,gU kvs k=some v/\aG K M H v x
 |[],[],_,_=>⟨λ_=>rfl,λx h=>by cases h⟩
 |[],_::_,e,_=>by cases e
 |_::_,[],e,_=>by cases e
 |(k1,v)::kvs,(k2,x)::ps,e,r=>by
  injection e with e1 e2
  have e1:k1=k2:=e1;subst e1;cases r with
  |cons r t=>
   obtain⟨h1,h2⟩:=lX k e2 t
   unfold dJ gU at h1 h2 ⊢;by_cases e:k1=k
   ·simp only[bv4,e,decide_true,Option.map_some]
    exact⟨λz=>(by cases z),λy z=>(by cases z;exact⟨v,rfl,r⟩)⟩
   ·simp only[bv4,e,decide_false]
    exact⟨h1,h2⟩
theorem aH2 (k:κ){kvs:List (κ×V)}{ps:List (κ×PV)}(e:kvs.map (·.1)=ps.map (·.1)):(kvs.any λp=>decide (p.1=k))=ps.any λp=>decide (p.1=k):=by
 have h1:(kvs.any λp=>decide (p.1=k))=(kvs.map (·.1)).any λz=>decide (z=k):=by rw[List.any_map];rfl
 have h2:(ps.any λp=>decide (p.1=k))=(ps.map (·.1)).any λz=>decide (z=k):=by rw[List.any_map];rfl
 rw[h1,h2,e]
theorem R5 (k:κ){w:V}{y:PV}(q:aG K M H w y):∀{kvs:List (κ×V)}{ps:List (κ×PV)},kvs.map (·.1)=ps.map (·.1)->Reps K M H (kvs.map (·.2)) (ps.map (·.2))->
  (kvs.map λkv=>if kv.1=k then (kv.1,w) else kv).map (·.1)=(ps.map λkv=>if kv.1=k then (kv.1,y) else kv).map (·.1)/\Reps K M H ((kvs.map λkv=>if kv.1=k then (kv.1,w) else kv).map (·.2)) ((ps.map λkv=>if kv.1=k then (kv.1,y) else kv).map (·.2))
 |[],[],_,_=>⟨rfl,.nil⟩
 |[],_::_,e,_=>by cases e
 |_::_,[],e,_=>by cases e
 |(k1,v)::kvs,(k2,x)::ps,e,r=>by
  injection e with e1 e2
  have e1:k1=k2:=e1;subst e1;cases r with
  |cons r t=>
   obtain⟨h1,h2⟩:=R5 k q e2 t
   by_cases e:k1=k
   ·simp only[bt3,e,if_true]
    exact⟨by rw[h1],.cons q h2⟩
   ·simp only[bt3,e,bx3]
    exact⟨by rw[h1],.cons r h2⟩
theorem x6 (k:κ){w:V}{y:PV}(q:aG K M H w y){kvs:List (κ×V)}{ps:List (κ×PV)}(e:kvs.map (·.1)=ps.map (·.1))(r:Reps K M H (kvs.map (·.2)) (ps.map (·.2))) :
  (fU kvs k w).map (·.1)=(fY ps k y).map (·.1)/\Reps K M H ((fU kvs k w).map (·.2)) ((fY ps k y).map (·.2)):=by
 unfold fU fY;rw[aH2 k e];split
 ·exact R5 k q e r
 ·rw[bs9,bs9,bs9,bs9,e]
  exact⟨rfl,r.append (.cons q .nil)⟩
end
section
variable {X:Cx}{σ:St}{H:Hp}{D:dZ}{tk td te:aH}{Q':VK}
theorem R6 {α β:Type}{o:Option α}{o':Option β}{P:β->α->Prop}(h1:o=none->o'=none)(h2:∀z,o=some z->∃u,o'=some u/\P u z):o'.isSome=o.isSome:=by
 cases o with
 |none=>rw[h1 rfl];rfl
 |some z=>obtain⟨u,e,_⟩:=h2 z rfl;rw[e];rfl
theorem nN {κ α β:Type}{l:List (κ×α)}{m:List (κ×β)}(e:l.map (·.1)=m.map (·.1)):l.length=m.length:=by
 have:=congrArg List.length e
 rw[bq6,bq6]at this;exact this
end
noncomputable def eV:Nat->PV->PV->Bool
 |_,.non,.non=>true
 |_,.bl a,.bl b=>a==b
 |_,.int a,.int b=>a==b
 |_,.str a,.str b=>a==b
 |n+1,.tup xs,.tup ys=>(xs.zip ys).all (λp=>eV n p.1 p.2)&&xs.length==ys.length
 |n+1,.lst xs,.lst ys=>(xs.zip ys).all (λp=>eV n p.1 p.2)&&xs.length==ys.length
 |n+1,.kt xs,.kt ys=>(xs.zip ys).all (λp=>eV n p.1 p.2)&&xs.length==ys.length
 |_,_,_=>false
noncomputable def iF:Nat->PV->PV->Bool
 |_,.non,.non=>true
 |_,.bl _,.bl _=>true
 |_,.int _,.int _=>true
 |_,.str _,.str _=>true
 |_,.non,.int _=>true
 |_,.int _,.non=>true
 |n+1,.tup xs,.tup ys=>(xs.zip ys).all (λp=>iF n p.1 p.2)
 |n+1,.lst xs,.lst ys=>(xs.zip ys).all (λp=>iF n p.1 p.2)
 |n+1,.kt xs,.kt ys=>(xs.zip ys).all (λp=>iF n p.1 p.2)
 |_+1,.non,.tup _=>true
 |_+1,.tup _,.non=>true
 |_,_,_=>false
theorem aH3 (n:Nat)(a b:Int):eV n (.int a) (.int b)=(a==b):=by cases n<;>rfl
theorem R7 (n:Nat):∀(a b:ag),((((intz a).zip (intz b)).all λp=>eV n p.1 p.2)&&(intz a).length==(intz b).length)=decide (a=b)
 |[],[]=>rfl
 |[],_::_=>by simp
 |_::_,[]=>by simp
 |x::a,y::b=>by
  have ih:=R7 n a b;simp only[bt3,bC4,List.all_cons,bu9,aH3]at ih ⊢;by_cases e:x=y
  ·subst e
   have:((intz a).length+1==(intz b).length+1)=((intz a).length==(intz b).length):=by simp
   rw[this,bz7,bz6,ih];simp
  ·have:(x==y)=false:=bB8.mpr e
   rw[this,Bool.false_and,Bool.false_and];simp[e]
theorem aH4 (n:Nat)(a b:ag):eV (n+1) (.tup (intz a)) (.tup (intz b))=decide (a=b):=R7 n a b
theorem R8 (n:Nat):∀(a b:ag),(((intz a).zip (intz b)).all λp=>iF n p.1 p.2)=true
 |[],_=>by simp
 |_::_,[]=>by simp
 |x::a,y::b=>by
  simp only[bt3,bC4,List.all_cons,R8 n a b,Bool.and_true];cases n<;>rfl
theorem aH5 (n:Nat)(a b:ag):iF (n+1) (.tup (intz a)) (.tup (intz b))=true:=R8 n a b
noncomputable def x8 (ta:aH):aH:=λρ Q=>ta ρ λx _=>∃i,x = .int i/\Q (.int (-i)) .fr
noncomputable def x9 (neg:Bool):PV->Tg->PV->Tg->PK->Prop:=λx _ y _ Q=>∃i ns,x = .int i/\kT y=some (intz ns)/\Q (.bl (if neg=true then !decide (i∈ns) else decide (i∈ns))) .fr
noncomputable def R9:PV->Option String
 |.non=>some "NoneType"
 |.bl _=>some "bool"
 |.int _=>some "int"
 |.str _=>some "str"
 |.tup _=>some "tuple"
 |.kt _=>some "tuple"
 |.lst _=>some "list"
 |_=>none
noncomputable def lY (K:ad)(n:String)(te:aH):aH:=λρ Q=>te ρ λx _=>∃T b,R9 x=some T/\PySem.W.kitOne K (.type T) (.type n)=some b/\Q (.bl b) .fr
noncomputable abbrev PTO:=bR->(Option Int->Prop)->Prop
noncomputable def bG (N:List Str)(xs:List PV):bR:=xs.map (λx=>some (.sh (flat x) x))++List.replicate (N.length-xs.length) none
noncomputable abbrev fZ (ta tb:aH):aH:=q2 (eG λi j=>.int (i+j)) ta tb
noncomputable abbrev S0 (ta tb:aH):aH:=q2 (eG λi j=>.int (i-j)) ta tb
noncomputable abbrev S2 (ta tb:aH):aH:=q2 (RI p5 λi j=>.int (i*j)) ta tb
noncomputable abbrev jW (ta tb:aH):aH:=q2 (RI vM λi j=>.int (i/j)) ta tb
noncomputable abbrev j8 (ta tb:aH):aH:=q2 (RI (λ_ j=>0<j) λi j=>.int (i%j)) ta tb
noncomputable abbrev S3 (ta tb:aH):aH:=q2 (RI vN λi j=>.int (i*2^j.toNat)) ta tb
noncomputable abbrev lZ (ta tb:aH):aH:=q2 (eG λi j=>.bl (decide (i<j))) ta tb
noncomputable abbrev qLe (ta tb:aH):aH:=q2 (eG λi j=>.bl (decide (i<=j))) ta tb
noncomputable abbrev xA (ta tb:aH):aH:=q2 (eG λi j=>.bl (decide (j<i))) ta tb
noncomputable abbrev xB (ta tb:aH):aH:=q2 (eG λi j=>.bl (decide (j<=i))) ta tb
noncomputable abbrev mB (ta tb:aH):aH:=q2 (lT false) ta tb
noncomputable abbrev S4 (ta tb:aH):aH:=q2 (lT true) ta tb
noncomputable abbrev d8 (ta tb:aH):aH:=q2 wZ ta tb
noncomputable def pT:List PV->(PV->Prop)->Prop:=λxs Q=>Q8 xs Q/\∀ns,xs≠[.scr ns]
noncomputable def QE (X:Cx)(e:Expr)(t:aH):Prop:=PE X e (LE X t)
noncomputable def QT (X:Cx)(e:Expr)(t:cO):Prop:=PT X e (LT X t)
noncomputable def QW (X:Cx)(e:Expr)(t:cO):Prop:=PW X e (LT X t)
noncomputable def QA (X:Cx)(es:List Expr)(t:bX):Prop:=PA X es (LA X t)
noncomputable def QS (X:Cx)(st:Stmt)(t:aX):Prop:=PS X st (LS X t)
noncomputable def g8 (X:Cx)(st:List Stmt)(t:aX):Prop:=dN X st (LS X t)
noncomputable def QI (X:Cx)(tg iter:Expr)(t:fX):Prop:=PI X tg iter (LI X t)
section
variable {X:Cx}
theorem bV {e:Expr}{t t':TE}(h:PE X e t)(m:∀σ H Q,t' σ H Q->t σ H Q):PE X e t':=λai s σ H Q I q=>h ai s σ H Q I (m σ H Q q)
theorem nO {e:Expr}{t t':TT}(h:PT X e t)(m:∀σ H Q,t' σ H Q->t σ H Q):PT X e t':=λai s σ H Q I q=>h ai s σ H Q I (m σ H Q q)
theorem S5 {e:Expr}{t t':TT}(h:PW X e t)(m:∀σ H Q,t' σ H Q->t σ H Q):PW X e t':=λwh ai s σ H Q I q=>h wh ai s σ H Q I (m σ H Q q)
theorem S6 {e:List Expr}{t t':TA}(h:PA X e t)(m:∀σ H Q,t' σ H Q->t σ H Q):PA X e t':=λpos ai s σ H Q I q=>h pos ai s σ H Q I (m σ H Q q)
theorem e9 {e:Stmt}{t t':TS}(h:PS X e t)(m:∀D σ H,t' D σ H->t D σ H):PS X e t':=λai s σ H D I q=>h ai s σ H D I (m D σ H q)
theorem S7 {e:List Stmt}{t t':TS}(h:dN X e t)(m:∀D σ H,t' D σ H->t D σ H):dN X e t':=λai s σ H D I q=>h ai s σ H D I (m D σ H q)
theorem t7 {tg e:Expr}{t t':TI}(h:PI X tg e t)(m:∀σ H R,t' σ H R->t σ H R):PI X tg e t':=λai s σ H R I q=>h ai s σ H R I (m σ H R q)
variable {a b c e o:Expr}{es rest:List Expr}{ta tb te to tk:aH}{tr:bX}{tA tB' tc:cO}{pos p2 px:Pos}{st:Stmt}{sts:List Stmt}{t u:aX}
theorem qv (i:Nat){x:Str}{pos:Pos}(hN:X.N[i]? = some x:=by rfl)(hv:eQ X.env.scope x:=by first|exact Or.inl rfl|exact Or.inr (Or.inl rfl)|exact Or.inr (Or.inr rfl))(hd:(x==("__debug__":Str))=false:=by decide)(hcd:(x==("__classdict__":Str))=false:=by decide):QE X (.Name x pos) (aB i):=bV (i6 hN hv hd hcd) λ_ _ _=>aD3
theorem aV {i j}:QE X (.Constant (.int i) j pos) (qC (.int i)):=bV vD λ_ _ _=>pJ λ_=>.int i
theorem g9 {i j}:QE X (.Constant (.bool i) j pos) (qC (.bl i)):=bV ar1 λ_ _ _=>pJ λ_=>.bl i
theorem xC {i j}:QE X (.Constant (.str i) j pos) (qC (.str i)):=bV ar2 λ_ _ _=>pJ λ_=>.str i
theorem iG {op:Operator}{R:PV->Tg->PV->Tg->PK->Prop}{r:R2}(ho:cE X (binaryOp op) r)(cv:gG X R r)(ha:QE X a ta)(hb:QE X b tb):QE X (.BinOp a op b pos) (q2 R ta tb):=bV (at8 ho ha hb) λ_ _ _=>sQ cv
theorem gI (ha:QE X a ta)(hb:QE X b tb):QE X (.BinOp a .Add b pos) (q2 (eG λi j=>.int (i+j)) ta tb):=iG au1 sR ha hb
theorem S8 (ha:QE X a ta)(hb:QE X b tb):QE X (.BinOp a .Sub b pos) (q2 (eG λi j=>.int (i-j)) ta tb):=iG au2 sR ha hb
theorem S9 (ha:QE X a ta)(hb:QE X b tb):QE X (.BinOp a .Mult b pos) (q2 (RI p5 λi j=>.int (i*j)) ta tb):=iG au3 pK ha hb
theorem jX (ha:QE X a ta)(hb:QE X b tb):QE X (.BinOp a .FloorDiv b pos) (q2 (RI vM λi j=>.int (i/j)) ta tb):=iG au4 pK ha hb
theorem j9 (ha:QE X a ta)(hb:QE X b tb):QE X (.BinOp a .Mod b pos) (q2 (RI (λ_ j=>0<j) λi j=>.int (i%j)) ta tb):=iG au5 pK ha hb
theorem xD (ha:QE X a ta)(hb:QE X b tb):QE X (.BinOp a .LShift b pos) (q2 (RI vN λi j=>.int (i*2^j.toNat)) ta tb):=iG au6 pK ha hb
theorem aH6 (ha:QE X a ta)(hb:QE X b tb):QE X (.BinOp a .RShift b pos) (q2 (RI (λ_ j=>0<=j) λi j=>.int (i/2^j.toNat)) ta tb):=iG au7 pK ha hb
theorem T0 {op:CmpOp}{R:PV->Tg->PV->Tg->PK->Prop}{r:R2}(ho:cE X (compareOp op) r)(cv:gG X R r)(ha:QE X a ta)(hb:QE X b tb)(hm:behindInMarks op b=false):QE X (.Compare a [op] [b] pos) (q2 R ta tb):=bV (av6 ho ha hb hm) λ_ _ _=>sQ cv
theorem nQ {op:CmpOp}{R:PV->Tg->PV->Tg->PK->Prop}{r:R2}(ho:cE X (compareOp op) r)(cv:gG X R r)(ha:QE X a ta)(hb:QE X b tb)(hm:behindInMarks op b=false):QT X (.Compare a [op] [b] pos) (bL (q2 R ta tb)):=nO (av8 ho ha hb hm) λ_ _ _ h=>sQ cv (sT h)
theorem t8 (ha:QE X a ta)(hb:QE X b tb):QE X (.Compare a [.Eq] [b] pos) (q2 (lT false) ta tb):=T0 J2 Q0 ha hb (lN _)
theorem nR (ha:QE X a ta)(hb:QE X b tb):QT X (.Compare a [.Lt] [b] pos) (bL (q2 (eG λi j=>.bl (decide (i<j))) ta tb)):=nQ av2 sS ha hb (lN _)
theorem aH7 (ha:QE X a ta)(hb:QE X b tb):QT X (.Compare a [.LtE] [b] pos) (bL (q2 (eG λi j=>.bl (decide (i<=j))) ta tb)):=nQ av3 sS ha hb (lN _)
theorem xE (ha:QE X a ta)(hb:QE X b tb):QT X (.Compare a [.Gt] [b] pos) (bL (q2 (eG λi j=>.bl (decide (j<i))) ta tb)):=nQ av4 sS ha hb (lN _)
theorem xF (ha:QE X a ta)(hb:QE X b tb):QT X (.Compare a [.GtE] [b] pos) (bL (q2 (eG λi j=>.bl (decide (j<=i))) ta tb)):=nQ av5 sS ha hb (lN _)
theorem xG (ha:QE X a ta)(hb:QE X b tb):QT X (.Compare a [.Eq] [b] pos) (bL (q2 (lT false) ta tb)):=nQ J2 Q0 ha hb (lN _)
theorem T1 (ha:QE X a ta)(hb:QE X b tb):QT X (.Compare a [.NotEq] [b] pos) (bL (q2 (lT true) ta tb)):=nQ av1 aD4 ha hb (lN _)
theorem nT (h:QE X e te)(he:∀whole,isTrue e X.env whole=(do let v <- whole;standAt e.pos;holding [v] (truthy v)):=by intro _;rfl):QT X e (bL te):=nO (ar5 h he) λ_ _ _ h=>sT h
theorem kX (h:QE X e te)(he:∀whole,isTrue e X.env whole=(do let v <- whole;standAt e.pos;holding [v] (truthy v)):=by intro _;rfl):QT X e (jV te):=nO (aw1 h he) λ_ _ _ h=>aG4 h
theorem aH8 (ha:QT X a tA):QW X (.BoolOp .And [a] pos) tA:=ar6 ha
theorem t9 (ha:QT X a tA):QW X (.BoolOp .Or [a] pos) tA:=ar7 ha
theorem aH9 (ha:QT X a tA)(hb:QW X (.BoolOp .And (b::rest) pos) tB'):QW X (.BoolOp .And (a::b::rest) pos) (wU tA tB'):=S5 (ar8 ha hb) λ_ _ _=>aD5
theorem mC (ha:QT X a tA)(hb:QW X (.BoolOp .Or (b::rest) pos) tB'):QW X (.BoolOp .Or (a::b::rest) pos) (jT tA tB'):=S5 (ar9 ha hb) λ_ _ _=>aD6
theorem pU (h:QW X e tA):QT X e tA:=PW.pt h
theorem mD (ha:QT X a tA):QT X (.UnaryOp .Not a pos) (jU tA):=nO (as0 ha) λ_ _ _=>aD7
theorem xH {op}(h:QE X a ta):QE X (.BoolOp op [a] pos) ta:=as1 h
theorem xI (ha:QE X a ta)(hb:QE X (.BoolOp .And (b::rest) pos) tb):QE X (.BoolOp .And (a::b::rest) pos) (pL ta tb):=bV (as2 ha hb) λ_ _ _=>aD8
theorem aI0 (ha:QE X a ta):QE X (.UnaryOp .Not a pos) (wV ta):=bV (as3 ha) λ_ _ _=>aD9
theorem aL:QA X [] aM:=S6 iM λ_ _ _=>aE0
theorem aE (ha:QE X e te)(hr:QA X es tr)(hs:starEach (e::es) X.env=(false,eval e X.env)::starEach es X.env:=by rfl):QA X (e::es) (aF te tr):=S6 (eR ha hr hs) λ_ _ _=>aE1
theorem fG {x1}(h:QA X es tr):QE X (.Tuple es x1 pos) (eU tr):=bV (aw5 h) λ_ _ _=>aE2
theorem xJ (h:QA X es tr):QE X (.List es pos) (pM tr):=bV (J6 h) λ_ _ _=>aE3
theorem cU (ha:QE X a ta)(hb:QE X b tb)(hs:L0 b:=by exact λ_ _=>rfl):QE X (.Subscript a b pos) (q2 wZ ta tb):=bV (p9 ax6 ha hb hs) λ_ _ _=>sQ aF8
theorem pV {x:Str}{id:String}{R:List PV->(PV->Prop)->Prop}{r:List V->Hp->VK->Prop}(hc:e8 X (.builtin id) r)(cv:fW X R r)(hg:Gl X x)(hm:X.mg x=none)(hv:bootBuiltins x=some (.builtin id))(ha:QA X (e::es) tr)(hn:x≠"__name__":=by decide)(hdb:(x==("__debug__":Str))=false:=by decide)(he:starEach (e::es) X.env=(false,eval e X.env)::starEach es X.env:=by rfl)(hpl:(backTo pos (starEach es X.env)).any (·.1)=false:=by rfl):QE X (.Call (.Name x p2) (e::es) [] pos) (aP R tr):=bV (K4 hc hg hm hv ha hn hdb he hpl) λ_ _ _=>Q1 cv
theorem aI1 {x:Str}{T:String}{R:List PV->(PV->Prop)->Prop}{r:List V->Hp->VK->Prop}(hc:e8 X (.type T) r)(cv:fW X R r)(hg:Gl X x)(hm:X.mg x=none)(hv:bootBuiltins x=some (.type T))(ha:QA X (e::es) tr)(hn:x≠"__name__":=by decide)(hdb:(x==("__debug__":Str))=false:=by decide)(he:starEach (e::es) X.env=(false,eval e X.env)::starEach es X.env:=by rfl)(hpl:(backTo pos (starEach es X.env)).any (·.1)=false:=by rfl):QE X (.Call (.Name x p2) (e::es) [] pos) (aP R tr):=bV (aw6 hc hg hm hv ha hn hdb he hpl) λ_ _ _=>Q1 cv
theorem eJ:g8 X [] dP:=S7 as5 λ_ _ _=>aE4
theorem aU (h1:QS X st t)(h2:g8 X sts u):g8 X (st::sts) (aY t u):=S7 (rT h1 h2) λ_ _ _=>aE5
theorem aZ (h1:QS X st t):g8 X [st] t:=fQ h1
theorem cH {i:Nat}{x:Str}(hN:X.N.Nodup)(he:QE X e te)(hi:X.N[i]? = some x:=by rfl)(hx:i5 X.env.scope x:=by first|exact Or.inl rfl|exact Or.inr rfl)(hs:swapsWith e (some (.Name x p2)) pos.line X.env=pure false:=by rfl)(hf:X.fn x=true∨X.env.scope.names.lookup x=some .local:=by first|exact .inl rfl|exact .inr rfl) :
  QS X (.Assign [.Name x p2] e pos) (bZ i te):=e9 (oW hN hi hx he hs hf) λ_ _ _=>Q5
theorem tD {i:Nat}{x:Str}(hN:X.N.Nodup)(he:QE X e te)(hi:X.N[i]? = some x:=by rfl)(hx:i5 X.env.scope x:=by first|exact Or.inl rfl|exact Or.inr rfl)(hs:swapsWith e (some (.Name x p2)) pos.line X.env=pure false:=by rfl)(hf:X.fn x=true∨X.env.scope.names.lookup x=some .local:=by first|exact .inl rfl|exact .inr rfl) :
  QS X (.Assign [.Name x p2] e pos) (nJ i te):=e9 (oW hN hi hx he hs hf) λ_ _ _=>aE8
theorem nU (he:QE X e te)(hs:swapsWith e none pos.line X.env=pure false:=by rfl):QS X (.Expr e pos) (kS te):=e9 (lJ he hs) λ_ _ _=>aE9
theorem d0 (he:QE X e te):QS X (.Return (some e) pos) (cT te):=e9 (vF he) λ_ _ _=>aF0
theorem xK (i:Nat){x:Str}(hN:X.N[i]? = some x:=by rfl)(hv:eQ X.env.scope x:=by first|exact Or.inl rfl|exact Or.inr (Or.inl rfl)|exact Or.inr (Or.inr rfl))(hd:(x==("__debug__":Str))=false:=by decide)(hcd:(x==("__classdict__":Str))=false:=by decide) :
  QS X (.Return (some (.Name x p2)) pos) (pN i):=e9 (vF (i6 hN hv hd hcd)) λ_ _ _=>aF1
theorem eL {sa sb:List Stmt}(hc:QT X c tc)(ha:g8 X sa t)(hb:g8 X sb u):QS X (.If c sa sb pos) (dQ tc t u):=e9 (oV hc ha hb) λ_ _ _=>aF2
theorem xL {body:List Stmt}(hp:PassesOwn (model X.prog X.w) X.A X.env X.xe)(hc:QT X c tc)(hb:g8 X body t):QS X (.While c body [] pos) (pO tc t):=e9 (as8 hp hc hb) λ_ _ _=>aF3
theorem T4 (i:Nat){x:Str}{aj am xpos:Pos}(he:QE X e te)(hN:X.N[i]? = some x:=by rfl)(hv:eQ X.env.scope x:=by first|exact Or.inl rfl|exact Or.inr (Or.inl rfl)|exact Or.inr (Or.inr rfl))(hd:(x==("__debug__":Str))=false:=by decide)(hcd:(x==("__classdict__":Str))=false:=by decide)(hbase:attributeBase (.Name x xpos) "append" X.env (eval (.Name x xpos) X.env)=eval (.Name x xpos) X.env:=by rfl)(hfew:((backTo am (starEach [e] X.env)).all (λx=>!x.1)&&(backToKw am (keywordEach [] X.env)).all (λx=>x.1.isSome)&&decide (([e]:List Expr).length+([]:List Keyword).length+(if ([]:List Keyword).isEmpty then 0 else 1)<30))=true:=by rfl)(hline:(aj.endLine==am.line)=true:=by rfl)(hs:starEach [e] X.env=(false,eval e X.env)::starEach [] X.env:=by rfl)(av:(backTo am (starEach [] X.env)).any (·.1)=false:=by rfl)(hsw:swapsWith (.Call (.Attribute (.Name x xpos) "append" aj) [e] [] am) none pos.line X.env=pure false:=by rfl) :
  QS X (.Expr (.Call (.Attribute (.Name x xpos) "append" aj) [e] [] am) pos) (pP i te):=
 e9 (lJ (sF bD7 PySem.F.slot_list_append PySem.F.type_list_append sG (i6 hN hv hd hcd) (eR he iM hs) hbase hfew hline hs av) hsw) λ_ _ _=>aF4
theorem aI2 {tg l:Expr}{tl:TE}(hl:PE X l tl):PI X tg l (Q9 X.K tl):=by
 intro ai s σ H R I h;refine aO (hl ai s σ H _ I h) λv s1 ⟨x,H1,I1,r1,q1⟩=>?_
 obtain⟨a,e,q⟩:=q1
 subst e;cases r1;rcases q with⟨xs,hq,q⟩|⟨xs,hq,q⟩
 ·obtain⟨its,rv,p,hz⟩:=I1.list hq
  refine wpAny_pyIter_list p.isList ?_;refine⟨s1.heap.objs.size,[s1.heap.objs.size],_,_,H1,rfl,I1.kept (t':=s1.toks) λb o e=>bq0 _ e,as9 a _,⟨_,br7 _ rfl,rfl,rfl⟩,λb hb=>?_,q⟩;have e:b=s1.heap.objs.size:=by simpa using hb
  subst e;exact I1.fpOk (bq4 _) (I1.hok.fresh (bq4 _))
 ·obtain⟨its,rv,p,hz⟩:=I1.tuple hq
  refine bE8 (show s1.heap.IsTuple a its.toArray from p) ?_;refine⟨s1.heap.objs.size,[s1.heap.objs.size],_,_,H1,rfl,I1.kept (t':=s1.toks) λb o e=>bq0 _ e,E9 a _,⟨_,br7 _ rfl,rfl,rfl⟩,λb hb=>?_,q⟩;have e:b=s1.heap.objs.size:=by simpa using hb
  subst e;exact I1.fpOk (bq4 _) (I1.hok.fresh (bq4 _))
theorem mF {tg l:Expr}(hl:QE X l te):QI X tg l (kU te):=t7 (aI2 hl) λ_ _ _=>aG5
theorem jY {tg:Expr}(hg:Gl X "range")(hm:X.mg "range" = none)(ha:QE X a ta)(hs:starEach [a] X.env = [(false,eval a X.env)]:=by rfl):QI X tg (.Call (.Name "range" p2) [a] [] pos) (j7 ta):=t7 (at4 hg hm (eR ha iM hs) hs) λ_ _ _=>aG7
theorem T5 {tg:Expr}{body:List Stmt}{ti:fX}{p:kW}{g:TG}{own:Nat->Prop}(hp:PassesOwn (model X.prog X.w) X.A X.env X.xe)(hc:X.calm=true)(hi:QI X tg e ti)(hg:PG X tg g)(ht:pS X.K own p g)(hb:g8 X body t)(hs:∀x,foldedSetIterable e X.env x=pure x:=by intro _;rfl):QS X (.For tg e body [] pos) (gH ti p t):=e9 (G4 hp hc hi hg hb hs) λ_ _ _=>aG8 ht
end
section
variable {X:Cx}{ai:List (ay×Obj)}{σ:St}{H:Hp}{s:ax}{K:ad}{M M':ay→Prop}
theorem pI.inj {a:ay}{us ws:List V}(h:pI K a us)(h':pI K a ws):us=ws:=by
 obtain⟨o,its,n,e1,_,e2,_,v⟩:=h
 obtain⟨o',its',n',e1',_,e2',_,v'⟩:=h'
 rw[e1]at e1';cases e1';rw[e2]at e2';cases e2';exact v.inj v'
theorem Reps.self_of {n:Nat}(ih:∀{v:V}{x y:PV},aG K M H v x->aG K M' H v y->iF n x y=true->eV n x y=true):∀{vs:List V}{xs ys:List PV},Reps K M H vs xs->Reps K M' H vs ys->((xs.zip ys).all λp=>iF n p.1 p.2)=true->(((xs.zip ys).all λp=>eV n p.1 p.2)&&xs.length==ys.length)=true
 |_,_,_,.nil,.nil,_=>rfl
 |_,_,_,.cons r t,.cons r' t',o=>by
  simp only[bC4,List.all_cons,bt4]at o;have h1:=ih r r' o.1;have h2:=Reps.self_of ih t t' o.2;simp only[bC4,List.all_cons,h1,bz6,bu9]at h2 ⊢;rw[<- h2];congr 1;simp
theorem aG.self:∀(n:Nat) {v:V}{x y:PV},aG K M H v x->aG K M' H v y->iF n x y=true->eV n x y=true:=by
 intro n
 induction n with
 |zero=>
  intro v x y r r' o;cases r with
  |non=>cases r';rfl
  |bl b=>cases r';exact bz7 b
  |int i=>cases r';exact bz7 i
  |str z=>cases r';exact bz7 z
  |_=>cases o
 |succ n ih=>
  intro v x y r r' o;cases r with
  |non=>cases r';rfl
  |bl b=>cases r';exact bz7 b
  |int i=>cases r';exact bz7 i
  |str z=>cases r';exact bz7 z
  |tup h rr=>
   cases r' with
   |tup h' rr'=>rw[h]at h';cases h';exact Reps.self_of ih rr rr' o
   |_=>cases o
  |lst _ h rr=>
   cases r' with
   |lst _ h' rr'=>rw[h]at h';cases h';exact Reps.self_of ih rr rr' o
   |_=>cases o
  |kt h rr=>
   cases r' with
   |kt h' rr'=>cases pI.inj h h';exact Reps.self_of ih rr rr' o
   |_=>cases o
  |_=>cases o
theorem Reps.self (n:Nat){vs:List V}{xs ys:List PV}(r:Reps K M H vs xs)(r':Reps K M' H vs ys)(o:((xs.zip ys).all λp=>iF n p.1 p.2)=true):(((xs.zip ys).all λp=>eV n p.1 p.2)&&xs.length==ys.length)=true:=Reps.self_of (aG.self n) r r' o
theorem xM (n:Nat)(xs ys:List PV):(List.range (min xs.length ys.length)).all (λj=>eV n (xs.getD j .non) (ys.getD j .non))=(xs.zip ys).all λp=>eV n p.1 p.2:=by
 rw[bA4];simp only[bC7,bz5];constructor
 ·intro h p hp
  obtain⟨j,hj,e⟩:=List.getElem_of_mem hp
  have hj':j<min xs.length ys.length:=by simpa using hj
  have:=h j hj'
  rw[List.getElem_zip]at e;subst e;have h1:j<xs.length:=by omega
  have h2:j<ys.length:=by omega
  simpa[br6,h1,h2] using this
 ·intro h j hj
  have h1:j<xs.length:=by omega
  have h2:j<ys.length:=by omega
  have hz:j<(xs.zip ys).length:=by simp;omega
  have:=h _ (by6 hz)
  rw[List.getElem_zip]at this;simpa[br6,h1,h2] using this
theorem aI3 (I:aA X ai σ H s):∀(n:Nat) {A:ba}{v w:V}{x y:PV}{a b:aw},A.units+n<cLine->aG X.K M H v x->aG X.K M' H w y->aR v a->aR w b->iF n x y=true->SeqAt.EqAt A s a b (eV n x y):=by
 intro n
 induction n with
 |zero=>
  intro A v w x y a b hu rx ry ra rb o;cases rx with
  |non=>
   cases ra;cases ry with
   |non=>cases rb;exact SeqAt.EqAt.same _
   |int i=>obtain⟨t',rfl⟩:=rb;exact SeqAt.EqAt.none_int _ _
   |_=>cases o
  |bl i=>
   cases ra;cases ry with
   |bl j=>cases rb;exact SeqAt.EqAt.bool_bool _ _
   |_=>cases o
  |int i=>
   obtain⟨t,rfl⟩:=ra
   cases ry with
   |int j=>obtain⟨t',rfl⟩:=rb;exact SeqAt.EqAt.int_int _ _ _ _
   |non=>cases rb;exact SeqAt.EqAt.int_none _ _
   |_=>cases o
  |str i=>
   obtain⟨t,rfl⟩:=ra
   cases ry with
   |str j=>obtain⟨t',rfl⟩:=rb;exact SeqAt.EqAt.str_str _ _ _ _
   |_=>cases o
  |_=>cases o
 |succ n ih=>
  intro A v w x y a b hu rx ry ra rb o;have items:∀{us ws:List V}{xs ys:List PV}{its aq:List aw},Reps X.K M H us xs->Reps X.K M' H ws ys->aN us its->aN ws aq->((xs.zip ys).all λp=>iF n p.1 p.2)=true->
    ∀j (h1:j<its.toArray.size) (h2:j<aq.toArray.size),SeqAt.EqAt A.in1 s its.toArray[j] aq.toArray[j] (eV n (xs.getD j .non) (ys.getD j .non)):=λ{us ws xs ys its aq} r1 r2 v1 v2 ok j h1 h2=>by
   have l1:=v1.length;have l2:=v2.length;have m1:=r1.length;have m2:=r2.length;have k1:j<its.length:=by simpa using h1
   have k2:j<aq.length:=by simpa using h2
   have j1:j<us.length:=by omega
   have j2:j<ws.length:=by omega
   have i1:j<xs.length:=by omega
   have i2:j<ys.length:=by omega
   obtain⟨u,hu',ru⟩:=v1.get (br2 j1)
   obtain⟨u2,hu2',ru2⟩:=v2.get (br2 j2)
   obtain⟨x,hx,rx⟩:=r1.get (br2 j1)
   obtain⟨y,hy,ry⟩:=r2.get (br2 j2)
   have e1:its.toArray[j]=u:=by
    rw[br2 k1]at hu';simpa using hu'
   have e2:aq.toArray[j]=u2:=by
    rw[br2 k2]at hu2';simpa using hu2'
   have ok':iF n x y=true:=by
    rw[bC7]at ok;have hz:j<(xs.zip ys).length:=by simp;omega
    have:=ok _ (by6 hz)
    rw[List.getElem_zip]at this;rw[br2 i1]at hx;rw[br2 i2]at hy;cases hx;cases hy;exact this
   rw[e1,e2];have g1:xs.getD j .non=x:=by rw[br6,hx];rfl
   have g2:ys.getD j .non=y:=by rw[br6,hy];rfl
   rw[g1,g2];exact ih (by show A.units+1+n<cLine;omega) rx ry ru ru2 ok'
  have huA:A.units<cLine:=by omega
  cases rx with
  |@kt p us xs h1 r1=>
   obtain⟨its,v1,p1,_⟩:=I.tuple (.inr h1)
   cases (show a=Value.ref p from ra);cases ry with
   |@kt p2 ws ys h2 r2=>
    obtain⟨aq,v2,p2',_⟩:=I.tuple (.inr h2)
    cases (show b=Value.ref p2 from rb);by_cases e:p=p2
    ·subst e
     have:=aG.self (K:=X.K) (M:=M) (M':=M') (n+1) (.kt h1 r1) (.kt h2 r2) o
     rw[this];exact SeqAt.EqAt.same _
    ·have:=SeqAt.RcAt.tuples p1 p2' huA (items r1 r2 v1 v2 o)
     refine .of_refs e ?_;have l1:=v1.length;have l2:=v2.length;have m1:=r1.length;have m2:=r2.length;rw[bq9,bq9,<- l1,<- l2,m1,m2,xM]at this;exact this
   |_=>cases o
  |@tup p us xs h1 r1=>
   obtain⟨its,v1,p1,_⟩:=I.tuple (aQ.of (K:=X.K) h1)
   cases (show a=Value.ref p from ra);cases ry with
   |@tup p2 ws ys h2 r2=>
    obtain⟨aq,v2,p2',_⟩:=I.tuple (aQ.of (K:=X.K) h2)
    cases (show b=Value.ref p2 from rb);by_cases e:p=p2
    ·subst e
     have:=aG.self (K:=X.K) (M:=M) (M':=M') (n+1) (.tup h1 r1) (.tup h2 r2) o
     rw[this];exact SeqAt.EqAt.same _
    ·have:=SeqAt.RcAt.tuples p1 p2' huA (items r1 r2 v1 v2 o)
     refine .of_refs e ?_;have l1:=v1.length;have l2:=v2.length;have m1:=r1.length;have m2:=r2.length;rw[bq9,bq9,<- l1,<- l2,m1,m2,xM]at this;exact this
   |non=>cases rb;exact SeqAt.EqAt.tuple_none p1 huA
   |_=>cases o
  |@lst p us xs _ h1 r1=>
   obtain⟨its,v1,p1,_⟩:=I.list (b8.of (K:=X.K) h1)
   cases (show a=Value.ref p from ra);cases ry with
   |@lst p2 ws ys _ h2 r2=>
    obtain⟨aq,v2,p2',_⟩:=I.list (b8.of (K:=X.K) h2)
    cases (show b=Value.ref p2 from rb);have l1:=v1.length;have l2:=v2.length;have m1:=r1.length;have m2:=r2.length;by_cases e:p=p2
    ·subst e
     rw[h1]at h2;cases h2
     have:=Reps.self n r1 r2 o
     show SeqAt.EqAt A s _ _ ((xs.zip ys).all (λp=>eV n p.1 p.2)&&xs.length==ys.length);rw[this];exact SeqAt.EqAt.same _
    ·refine .of_refs e ?_
     by_cases hl:xs.length=ys.length
     ·have:=SeqAt.RcAt.lists p1.isList p2'.isList (by rw[bq9,bq9];omega) huA (items r1 r2 v1 v2 o)
      have hm:min xs.length ys.length=its.length:=by omega
      rw[bq9,<- hm,xM]at this;show SeqAt.RcAt A s _ _ ((xs.zip ys).all (λp=>eV n p.1 p.2)&&xs.length==ys.length);rw[show (xs.length==ys.length)=true by simpa using hl,Bool.and_true];exact this
     ·have:=SeqAt.RcAt.lists_lengths (A:=A) p1.isList p2'.isList (by rw[bq9,bq9];simp;omega) huA
      show SeqAt.RcAt A s _ _ ((xs.zip ys).all (λp=>eV n p.1 p.2)&&xs.length==ys.length);rw[show (xs.length==ys.length)=false by simpa using hl,Bool.and_false];exact this
   |_=>cases o
  |non=>
   cases ra;cases ry with
   |non=>cases rb;exact SeqAt.EqAt.same _
   |int i=>obtain⟨t',rfl⟩:=rb;exact SeqAt.EqAt.none_int _ _
   |@tup p2 ws ys h2 r2=>
    obtain⟨aq,v2,p2',_⟩:=I.tuple (aQ.of (K:=X.K) h2)
    cases (show b=Value.ref p2 from rb);exact SeqAt.EqAt.none_tuple p2' huA
   |_=>cases o
  |bl i=>
   cases ra;cases ry with
   |bl j=>cases rb;exact SeqAt.EqAt.bool_bool _ _
   |_=>cases o
  |int i=>
   obtain⟨t,rfl⟩:=ra
   cases ry with
   |int j=>obtain⟨t',rfl⟩:=rb;exact SeqAt.EqAt.int_int _ _ _ _
   |non=>cases rb;exact SeqAt.EqAt.int_none _ _
   |_=>cases o
  |str i=>
   obtain⟨t,rfl⟩:=ra
   cases ry with
   |str j=>obtain⟨t',rfl⟩:=rb;exact SeqAt.EqAt.str_str _ _ _ _
   |_=>cases o
  |_=>cases o
end
structure Bt (mg:Str->Option aw):Prop where
 len:mg "len" = none
 range:mg "range" = none
 tuple:mg "tuple" = none
 list:mg "list" = none
 sorted:mg "sorted" = none
 all:mg "all" = none
 any:mg "any" = none
 zip:mg "zip" = none
 min:mg "min" = none
 max:mg "max" = none
 sum:mg "sum" = none
 isinst:mg "isinstance" = none
 int:mg "int" = none
 bool:mg "bool" = none
 enum:mg "enumerate" = none
section
variable {X:Cx}{a b c e o:Expr}{es rest:List Expr}{ta tb te to tk:aH}{tr:bX}{tA tB' tc:cO}{pos p2 px:Pos}{st:Stmt}{sts:List Stmt}{t u:aX}
theorem eW (B:Bt X.mg)(ha:QA X [e] tr)(hg:Gl X "len":=by rfl)(he:starEach [e] X.env=(false,eval e X.env)::starEach [] X.env:=by rfl)(hpl:(backTo pos (starEach [] X.env)).any (·.1)=false:=by rfl):QE X (.Call (.Name "len" p2) [e] [] pos) (aP eI tr):=
 pV (ay1.or az2) aF9 hg B.len PySem.boot_len ha (he:=he) (hpl:=hpl)
theorem tE (B:Bt X.mg)(ha:QA X [e] tr)(hg:Gl X "tuple":=by rfl)(he:starEach [e] X.env=(false,eval e X.env)::starEach [] X.env:=by rfl)(hpl:(backTo pos (starEach [] X.env)).any (·.1)=false:=by rfl):QE X (.Call (.Name "tuple" p2) [e] [] pos) (aP pT tr):=
 aI1 ay2 aG1 hg B.tuple PyProof.Rows.boot_tuple ha (he:=he) (hpl:=hpl)
theorem T6 (ha:QE X a ta):QE X (.UnaryOp .USub a pos) (x8 ta):=bV (at9 av0 ha) λσ H Q' h=>by
 obtain⟨W,ρ,Q,px,q,k⟩:=h
 refine⟨W,ρ,_,px,q,?_⟩;rintro v H1 x g s r ⟨i,rfl,q⟩;cases r
 exact⟨i,rfl,k _ _ _ .fr s (.int _) q⟩
theorem T7 (x:Int):∀(xs:ag),pA (.int x) (xs.map V.int)=decide (x∈xs)
 |[]=>by simp[pA]
 |y::r=>by
  have ih:=T7 x r;unfold pA at ih ⊢;rw[bt3,List.any_cons,ih];by_cases e:y=x
  ·subst e;simp[iN]
  ·have:iN (.int y) (.int x)=false:=by simpa[iN] using e
   rw[this,Bool.false_or,bA4];simp[Ne.symm e]
theorem T8:∀(xs:ag),(xs.map V.int).all jN=true
 |[]=>rfl
 |_::r=>by rw[bt3,List.all_cons,T8 r];rfl
theorem aI4 (neg:Bool):gG X (x9 neg) (L8 X.K neg):=by
 rintro W Hs H u v x y g g' Q Q' s n r1 r2 ⟨i,ns,rfl,e,q⟩ k;cases r1
 obtain⟨a,us,rfl,hs,r⟩:=r2.seq e
 obtain rfl:=r.ofInts;refine⟨a,_,rfl,hs,rfl,T8 ns,?_⟩
 have:=k _ _ _ .fr (aI.refl _) (.bl _) q
 rw[T7];cases neg<;>exact this
theorem aI5 (ha:QE X a ta)(hb:QE X b tb)(hm:behindInMarks .In b=false:=by rfl):QE X (.Compare a [.In] [b] pos) (q2 (x9 false) ta tb):=T0 ay0 (aI4 false) ha hb hm
noncomputable def T9 (K:ad)(H:Hp)(x:V)(t:aw):Prop:=gC K H x t∨∃a us,x = .ref a/\aQ K H a us/\t = .type "tuple"
theorem aI6:e8 X (.builtin "isinstance") (λxs H Q=>∃x t n b,xs = [x,.ty n]/\T9 X.K H x t/\PySem.W.kitOne X.K t (.type n)=some b/\Q (.bl b) H):=by
 intro ai s σ H xs us Q I r h
 obtain⟨x,t,n,b,rfl,ty,e,q⟩:=h
 rcases ty with ty|⟨a,ws,rfl,hs,rfl⟩
 ·exact aA6 ai s σ H _ us Q I r ⟨x,t,n,b,rfl,ty,e,q⟩
 obtain⟨u,u',rfl,ru,ru'⟩:=vP r
 cases ru';cases (show u=Value.ref a from ru)
 obtain⟨its,_,⟨o,h1,h2,_⟩,_⟩:=I.tuple hs
 exact by1 PySem.W.kitx_tuple I.kIn ⟨o,h1,h2⟩ e (λz=>nomatch z) λtk=>⟨.bl b,H,I.tok tk,rfl,q⟩
theorem aI7 {K:ad}{M:ay->Prop}{H:Hp}{v:V}{x:PV}{T:String}(r:aG K M H v x)(e:R9 x=some T):T9 K H v (.type T):=by
 cases r with
 |non=>cases e;exact .inl .non
 |bl b=>cases e;exact .inl (.bl b)
 |int i=>cases e;exact .inl (.int i)
 |str i=>cases e;exact .inl (.str i)
 |tup h _=>cases e;exact .inl (.tup h)
 |lst _ h _=>cases e;exact .inl (.lst h)
 |kt h _=>cases e;exact .inr ⟨_,_,rfl,.inr h,rfl⟩
 |_=>cases e
theorem xN {x:Str}{n:String}(B:Bt X.mg)(hn:bootBuiltins x=some (.type n))(hm:X.mg x=none)(ha:QE X a ta)(hg:Gl X "isinstance":=by rfl)(hgx:Gl X x:=by rfl)(hx:x≠"__name__":=by decide)(hdx:(x==("__debug__":Str))=false:=by decide)(he:starEach [a,.Name x px] X.env=(false,eval a X.env)::starEach [.Name x px] X.env:=by rfl)(he2:starEach [.Name x px] X.env=(false,eval (.Name x px) X.env)::starEach [] X.env:=by rfl)(hpl:(backTo pos (starEach [.Name x px] X.env)).any (·.1)=false:=by rfl):QE X (.Call (.Name "isinstance" p2) [a,.Name x px] [] pos) (lY X.K n ta):=
 bV (K4 aI6 hg B.isinst PyProof.Rows.boot_isinstance (eR ha (eR (ar4 (v:=.ty n) hgx hm hn rfl hx hdx) iM he2) he) (he:=he) (hpl:=hpl)) λσ H Q' h=>by
  obtain⟨W,ρ,Q,px,q,k⟩:=h
  refine⟨W,ρ,_,px,q,?_⟩;rintro v H1 x g s r ⟨T,b,e,kt,q⟩
  exact⟨v,_,n,b,rfl,aI7 r e,kt,k _ _ _ .fr s (.bl _) q⟩
theorem aI8 (B:Bt X.mg)(ha:QE X a ta)(hg:Gl X "isinstance":=by rfl)(hgx:Gl X "int":=by rfl)(he:starEach [a,.Name "int" px] X.env=(false,eval a X.env)::starEach [.Name "int" px] X.env:=by rfl)(he2:starEach [.Name "int" px] X.env=(false,eval (.Name "int" px) X.env)::starEach [] X.env:=by rfl)(hpl:(backTo pos (starEach [.Name "int" px] X.env)).any (·.1)=false:=by rfl):QE X (.Call (.Name "isinstance" p2) [a,.Name "int" px] [] pos) (lY X.K "int" ta):=xN B PyProof.Rows.boot_int B.int ha (hg:=hg) (hgx:=hgx) (he:=he) (he2:=he2) (hpl:=hpl)
theorem aI9 (B:Bt X.mg)(ha:QE X a ta)(hg:Gl X "isinstance":=by rfl)(hgx:Gl X "bool":=by rfl)(he:starEach [a,.Name "bool" px] X.env=(false,eval a X.env)::starEach [.Name "bool" px] X.env:=by rfl)(he2:starEach [.Name "bool" px] X.env=(false,eval (.Name "bool" px) X.env)::starEach [] X.env:=by rfl)(hpl:(backTo pos (starEach [.Name "bool" px] X.env)).any (·.1)=false:=by rfl):QE X (.Call (.Name "isinstance" p2) [a,.Name "bool" px] [] pos) (lY X.K "bool" ta):=xN B PyProof.Rows.boot_bool B.bool ha (hg:=hg) (hgx:=hgx) (he:=he) (he2:=he2) (hpl:=hpl)
theorem aJ0 (B:Bt X.mg)(ha:QE X a ta)(hg:Gl X "isinstance":=by rfl)(hgx:Gl X "tuple":=by rfl)(he:starEach [a,.Name "tuple" px] X.env=(false,eval a X.env)::starEach [.Name "tuple" px] X.env:=by rfl)(he2:starEach [.Name "tuple" px] X.env=(false,eval (.Name "tuple" px) X.env)::starEach [] X.env:=by rfl)(hpl:(backTo pos (starEach [.Name "tuple" px] X.env)).any (·.1)=false:=by rfl):QE X (.Call (.Name "isinstance" p2) [a,.Name "tuple" px] [] pos) (lY X.K "tuple" ta):=xN B PyProof.Rows.boot_tuple B.tuple ha (hg:=hg) (hgx:=hgx) (he:=he) (he2:=he2) (hpl:=hpl)
end
end PP
namespace PP
open PySem L2 PyProof.Rows
noncomputable def LO (X:Cx)(t:PTO):TO:=λσ H Q'=>∃(W:ay->Prop) (ρ:bR) (Q:Option Int->Prop),PX X.K X.H₀ W σ ρ H/\t ρ Q/\∀o H',aI H H'->Q o->Q' o H'
section
variable {X:Cx}{a b c e o:Expr}{es rest:List Expr}{ta tb te to tk:aH}{tr:bX}{tA tB' tc:cO}{pos p2 px:Pos}{st:Stmt}{sts:List Stmt}{t u:aX}
structure Df (P:az)(w:bc)(K:ad)(mg:Str->Option aw)(base:Heap)(k:Nat)(x:Str)(ps:List Str)(p:b9):Prop where
 ex:∃f fd,d7 P w K mg base cG k f fd ps (nK K p)/\i8 K fd ps []/\PySem.W.keepIn K (.ref f)=true/\mg x=some (.ref f)
theorem cQ {k j:Nat}{x:Str}{ps:List Str}{p:b9}(d:Df X.prog X.w X.K X.mg X.base k x ps p)(hr:bM j X.A)(ha:QA X (e::es) tr)(hkj:k<=j:=by decide)(hg:Gl X x:=by rfl)(hdb:(x==("__debug__":Str))=false:=by decide)(he:starEach (e::es) X.env=(false,eval e X.env)::starEach es X.env:=by rfl)(hpl:(backTo pos (starEach es X.env)).any (·.1)=false:=by rfl):QE X (.Call (.Name x p2) (e::es) [] pos) (aP p tr):=by
 obtain⟨f,fd,F,b,kp,m⟩:=d.ex
 exact bV (p8 F (hr.mono hkj) hg m kp b .nil nB ha hdb he hpl) λ_ _ _=>aG2
theorem kY {K:ad}{H:Hp}{N:List Str}{vs:List V}{xs:List PV}(r:Reps K (λ_=>True) H vs xs):PX K H (λ_=>False) (L2.fR N vs) (bG N xs) H:=by
 have lr:=r.length;have own:∀{i:Nat}{m:Slot},(bG N xs)[i]? = some (some m)->∃x,xs[i]? = some x/\m = .sh (flat x) x:=λ{i m} h=>by
  unfold bG at h;by_cases hi:i<xs.length
  ·rw[bz9 (by simpa using hi),br5]at h
   rw[br2 hi]at h ⊢;cases h
   exact⟨_,rfl,rfl⟩
  ·rw[bB2 (by simpa using hi),List.getElem?_replicate]at h
   split at h<;>cases h
 refine⟨by unfold L2.fR bG;simp[lr],aI.refl _,λa z=>z.elim,λi m h=>?_,λi j x y a h1=>?_⟩
 ·obtain⟨x,hx,rfl⟩:=own h
  obtain⟨v,hv,rx⟩:=r.at hx
  refine⟨v,?_,sZ (g:=false) (rx.same (aI.refl _) λ_ _ z=>z)⟩;have hi:i<vs.length:=(bs1.mp hv).1;unfold L2.fR;rw[bz9 (by simpa using hi),br5,hv];rfl
 ·obtain⟨x,_,e⟩:=own h1
  cases e
theorem Df.of {P:az}{w:bc}{K:ad}{mg:Str->Option aw}{base:Heap}{k:Nat}{x:Str}{ps N:List Str}{p:b9}{st:Stmt}{f:ay}{fd:FuncData}(F:bK K x x st f fd)(m:mg x=some (.ref f))(S:FnScope N ps (aJ st))(hb:∀(kV doc pm:aw) (an:Option ay) (cdv ct:aw) (us:List aw),us.length=ps.length->bindArgs (PySem.W.fnOf x x (bE st) (bA st) (aJ st) .none kV doc pm an cdv ct) ⟨us,[]⟩=pure (ps.zip us))(len:∀xs Q,p xs Q->xs.length=ps.length)(body:∀(cdv:aw) (A:ba) (outer:List Env) (s:ax) (H:Hp) (E:XK),bM k (A.deeper (envOfC x (aJ st) s.heap.objs.size f cdv))->
   ∃t,g8 (cJ cG P w K mg base N x (aJ st) f cdv A outer s H E).nox (bA st) t/\∀xs Q,p xs Q->t { nx:=λ_=>Q .non,rt:=Q } (bG N xs)):Df P w K mg base (k+1) x ps p:=by
 refine⟨f,fd,F.ok S (λvs H Q E h=>?_) (λcdv A outer s H vs Q E hr h=>?_),F.binds hb,F.kp,m⟩
 ·obtain⟨xs,Qp,r,q,_⟩:=h
  rw[r.length];exact len xs Qp q
 ·obtain⟨xs,Qp,r,q,k⟩:=h
  obtain⟨t,ht,hq⟩:=body cdv A outer s H E hr
  refine⟨_,ht,λ_=>False,bG N xs,_,kY r,hq xs Qp q,?_,?_,?_,?_⟩
  ·exact λW' σ' H' ρ' e px q=>k _ _ _ px.same .non q
  ·exact λv H' x s r q=>k _ _ _ s r q
  ·exact λW' σ' H' ρ' e px q=>q
  ·exact λW' σ' H' ρ' e px q=>q
theorem jC (i:Nat){x:Str}{tp:Pos}{body:List Stmt}{ti:fX}(hN:X.N.Nodup)(hi:QI X (.Name x tp) e ti)(hb:g8 X body t)(hx:X.N[i]? = some x:=by rfl)(hl:i5 X.env.scope x:=by first|exact Or.inl rfl|exact Or.inr rfl)(hf:X.fn x=true∨X.env.scope.names.lookup x=some .local:=by first|exact .inl rfl|exact .inr rfl)(hp:PassesOwn (model X.prog X.w) X.A X.env X.xe:=by exact PassesOwn.never)(hc:X.calm=true:=by rfl)(hs:∀x,foldedSetIterable e X.env x=pure x:=by intro _;rfl):QS X (.For (.Name x tp) e body [] pos) (gH ti (dU i) t):=
 T5 hp hc hi (jJ hN hx hl hf) (t5 _ i) hb hs
theorem tF (i j:Nat){x y:Str}{tp xp yp:Pos}{kt:Nat}{body:List Stmt}{ti:fX}(hN:X.N.Nodup)(hi:QI X (.Tuple [.Name x xp,.Name y yp] kt tp) e ti)(hb:g8 X body t)(hx:X.N[i]? = some x:=by rfl)(hy:X.N[j]? = some y:=by rfl)(hlx:i5 X.env.scope x:=by first|exact Or.inl rfl|exact Or.inr rfl)(hly:i5 X.env.scope y:=by first|exact Or.inl rfl|exact Or.inr rfl)(hfx:X.fn x=true∨X.env.scope.names.lookup x=some .local:=by first|exact .inl rfl|exact .inr rfl)(hfy:X.fn y=true∨X.env.scope.names.lookup y=some .local:=by first|exact .inl rfl|exact .inr rfl)(hp:PassesOwn (model X.prog X.w) X.A X.env X.xe:=by exact PassesOwn.never)(hc:X.calm=true:=by rfl)(hs:∀x,foldedSetIterable e X.env x=pure x:=by intro _;rfl):QS X (.For (.Tuple [.Name x xp,.Name y yp] kt tp) e body [] pos) (gH ti (lV i j) t):=
 T5 hp hc hi (vI hc (n5 (jJ hN hx hlx hfx) (n5 (jJ hN hy hly hfy) vH))) (R4 _ i j) hb hs
noncomputable abbrev dL:aw->ax->Prop:=λ_ _=>False
section
variable {scope:Scope}{N:List Str}{fr:List (Option Nat)}{x y:Str}{tp xp yp:Pos}{kt:Nat}{iter elt:Expr}{ti:fX}
theorem xO {ifs:List Expr}{tcs:cO}(he:∀(s:ax) (H:Hp) (C:ay) (fp:List ay),QE (bY X scope N s H C fp dL) elt te)(hi:∀(s:ax) (H:Hp) (C:ay) (fp:List ay),kQ (bY X scope N s H C fp dL) ifs (LT (bY X scope N s H C fp dL) tcs))(hN:N.Nodup)(h0:N[0]? = some x)(hl:∀(s:ax) (H:Hp) (C:ay) (fp:List ay),(bY X scope N s H C fp dL).env.scope.names.lookup x=some .local)(s:ax)(H:Hp) :
  nC X scope N (.Name x tp) ifs elt s H (dO 0) (LT (X.frm H) tcs) (LE (X.frm H) te):=
 ⟨λC fp=>jJ (X:=bY X scope N s H C fp dL) hN h0 (.inl (hl s H C fp)) (.inr (hl s H C fp)),λC fp=>hi s H C fp,λC fp=>he s H C fp⟩
theorem xP {Y:Cx}:kQ Y [] (LT Y iE):=λai s σ H Q I h=>N6 ai s σ H Q I (aH1 h)
theorem U0 (hi:QI X (.Name x tp) iter ti)(he:∀(s:ax) (H:Hp) (C:ay) (fp:List ay),QE (bY X scope N s H C fp dL) elt te)(hc:X.calm=true:=by rfl)(S:eF X scope N fr:=by exact eF.of rfl rfl)(hN:N.Nodup:=by decide +kernel)(h0:N[0]? = some x:=by rfl)(hl:∀(s:ax) (H:Hp) (C:ay) (fp:List ay),(bY X scope N s H C fp dL).env.scope.names.lookup x=some .local:=by intro _ _ _ _;rfl)(hf:fr[0]? = some none:=by rfl)(hs:∀x,foldedSetIterable iter X.env x=pure x:=by intro _;rfl):QE X (.ListComp elt [⟨.Name x tp,iter,[],0⟩] scope pos) (gX ti fr (dU 0) iE te):=
 bV (wM (gh:=λ_=>dO 0) (tch:=λH=>LT (X.frm H) iE) (teh:=λH=>LE (X.frm H) te) hc S hi (xO he (λ_ _ _ _=>xP) hN h0 hl) hs) λ_ _ _=>t6 (t5 _ 0) (λi e=>by subst e;exact hf)
theorem tG {c:Expr}{tcs:cO}(hi:QI X (.Name x tp) iter ti)(ht:∀(s:ax) (H:Hp) (C:ay) (fp:List ay),QT (bY X scope N s H C fp dL) c tcs)(he:∀(s:ax) (H:Hp) (C:ay) (fp:List ay),QE (bY X scope N s H C fp dL) elt te)(hc:X.calm=true:=by rfl)(S:eF X scope N fr:=by exact eF.of rfl rfl)(hN:N.Nodup:=by decide +kernel)(h0:N[0]? = some x:=by rfl)(hl:∀(s:ax) (H:Hp) (C:ay) (fp:List ay),(bY X scope N s H C fp dL).env.scope.names.lookup x=some .local:=by intro _ _ _ _;rfl)(hf:fr[0]? = some none:=by rfl)(hs:∀x,foldedSetIterable iter X.env x=pure x:=by intro _;rfl):QE X (.ListComp elt [⟨.Name x tp,iter,[c],0⟩] scope pos) (gX ti fr (dU 0) tcs te):=
 bV (wM (gh:=λ_=>dO 0) (tch:=λH=>LT (X.frm H) tcs) (teh:=λH=>LE (X.frm H) te) hc S hi (xO he (λs H C fp=>az5 (ht s H C fp)) hN h0 hl) hs) λ_ _ _=>t6 (t5 _ 0) (λi e=>by subst e;exact hf)
theorem aJ1 {i:Nat}{z:Str}{zp:Pos}(nd:X.N.Nodup)(hi:QI X (.Name x tp) iter ti)(he:∀(s:ax) (H:Hp) (C:ay) (fp:List ay),QE (bY X scope N s H C fp dL) elt te)(hz:X.N[i]? = some z:=by rfl)(hzl:X.env.scope.names.lookup z=some .local:=by rfl)(hsw:swapsWith (.ListComp elt [⟨.Name x tp,iter,[],0⟩] scope p2) (some (.Name z zp)) pos.line X.env=pure true:=by rfl)(hc:X.calm=true:=by rfl)(S:eF X scope N fr:=by exact eF.of rfl rfl)(hN:N.Nodup:=by decide +kernel)(h0:N[0]? = some x:=by rfl)(hl:∀(s:ax) (H:Hp) (C:ay) (fp:List ay),(bY X scope N s H C fp dL).env.scope.names.lookup x=some .local:=by intro _ _ _ _;rfl)(hf:fr[0]? = some none:=by rfl)(hs:∀x,foldedSetIterable iter X.env x=pure x:=by intro _;rfl):QS X (.Assign [.Name z zp] (.ListComp elt [⟨.Name x tp,iter,[],0⟩] scope p2) pos) (bZ i (gX ti fr (dU 0) iE te)):=
 e9 (aA1 (gh:=λ_=>dO 0) (tch:=λH=>LT (X.frm H) iE) (teh:=λH=>LE (X.frm H) te) hc S hi (xO he (λ_ _ _ _=>xP) hN h0 hl) nd hz hzl hsw hs) λD σ H h=>t6 (t5 _ 0) (λi e=>by subst e;exact hf) (Q5 h)
end
theorem aJ2:pC X "list.extend" (Q7 X.K):=λai s σ H x xs v us Q I rx rs h=>h.elim (ay5 ai s σ H x xs v us Q I rx rs) (aB3 ai s σ H x xs v us Q I rx rs)
theorem U1 (i:Nat){x:Str}{aj am xpos:Pos}(he:QE X e te)(hN:X.N[i]? = some x:=by rfl)(hv:eQ X.env.scope x:=by first|exact Or.inl rfl|exact Or.inr (Or.inl rfl)|exact Or.inr (Or.inr rfl))(hd:(x==("__debug__":Str))=false:=by decide)(hcd:(x==("__classdict__":Str))=false:=by decide)(hbase:attributeBase (.Name x xpos) "extend" X.env (eval (.Name x xpos) X.env)=eval (.Name x xpos) X.env:=by rfl)(hfew:((backTo am (starEach [e] X.env)).all (λx=>!x.1)&&(backToKw am (keywordEach [] X.env)).all (λx=>x.1.isSome)&&decide (([e]:List Expr).length+([]:List Keyword).length+(if ([]:List Keyword).isEmpty then 0 else 1)<30))=true:=by rfl)(hline:(aj.endLine==am.line)=true:=by rfl)(hs:starEach [e] X.env=(false,eval e X.env)::starEach [] X.env:=by rfl)(av:(backTo am (starEach [] X.env)).any (·.1)=false:=by rfl)(hsw:swapsWith (.Call (.Attribute (.Name x xpos) "extend" aj) [e] [] am) none pos.line X.env=pure false:=by rfl) :
  QS X (.Expr (.Call (.Attribute (.Name x xpos) "extend" aj) [e] [] am) pos) (sY i te):=
 e9 (lJ (sF bD7 PySem.F.slot_list_extend PySem.F.type_list_extend aJ2 (i6 hN hv hd hcd) (eR he iM hs) hbase hfew hline hs av) hsw) λ_ _ _=>aF5
theorem aJ3 {i:Nat}{x:Str}{xpos tpos:Pos}(hk:QE X a tk)(he:QE X e te)(hN:X.N[i]? = some x:=by rfl)(hv:eQ X.env.scope x:=by first|exact Or.inl rfl|exact Or.inr (Or.inl rfl)|exact Or.inr (Or.inr rfl))(hd:(x==("__debug__":Str))=false:=by decide)(hcd:(x==("__classdict__":Str))=false:=by decide)(hp:∀(tx:TE) (tg:TE),PE X (.Name x xpos) tx->PE X a tg->PG X (.Subscript (.Name x xpos) a tpos) (vJ tx tg vX):=by intro _ _ h1 h2;exact as6 h1 h2 ax8)(hs:swapsWithSole [.Subscript (.Name x xpos) a tpos] e pos.line X.env=pure false:=by rfl)(hw:swappedStores [.Subscript (.Name x xpos) a tpos] e X.env=pure none:=by rfl) :
  QS X (.Assign [.Subscript (.Name x xpos) a tpos] e pos) (wX i tk te):=e9 (as7 he (hp _ _ (i6 hN hv hd hcd) hk) hs hw) λ_ _ _=>aF6
end
end PP
namespace SO
open PySem PyProof.Rows
section
variable (rk:Keyed→Int)
noncomputable def Kr (xs:Array Keyed)(i:Nat):Int:=((xs[i]?).map rk).getD 0
noncomputable def Up (xs:Array Keyed)(lo hi:Nat):Prop:=∀i j,lo<=i->i<=j->j<hi->Kr rk xs i<=Kr rk xs j
noncomputable def Dn (xs:Array Keyed)(lo hi:Nat):Prop:=∀i j,lo<=i->i<=j->j<hi->Kr rk xs j<=Kr rk xs i
end
variable {rk:Keyed→Int}
theorem mG {xs ys:Array Keyed}{i j:Nat}(h:xs[i]? = ys[j]?):Kr rk xs i=Kr rk ys j:=by unfold Kr;rw[h]
theorem tH {xs:Array Keyed}{i j:Nat}(hj:j<=xs.size)(k:Nat):Kr rk (mirror xs i j ((j-i)/2)) k=Kr rk xs (if i<=k/\k<j then i+j-1-k else k):=by
 refine mG ?_;rw[getElem?_mirror_all hj];split<;>rfl
theorem xQ {xs:Array Keyed}{i j:Nat}(hj:j<=xs.size)(e:∀k,i<=k->k<j->Kr rk xs k=Kr rk xs (j-1))(k:Nat):Kr rk (mirror xs i j ((j-i)/2)) k=Kr rk xs k:=by
 rw[tH hj];split
 ·rename_i h;rw[e k h.1 h.2,e _ (by omega) (by omega)]
 ·rfl
theorem aJ4 {xs:Array Keyed}{src d:Nat}(hs:src<xs.size)(hd:d<=src)(k:Nat):Kr rk (bubble xs src d) k=Kr rk xs (if k=src-d then src else if src-d<k/\k<=src then k-1 else k):=by
 refine mG ?_;rw[getElem?_bubble hs d hd]
 repeat' split
 all_goals rfl
structure SB (κ:SortKind)(a0:Array Keyed)(pd:Array (Nat×Nat×Nat))(st:SortSt):Prop where
 pm:(arrOf st).Perm a0
 kd:kindOf st=κ
 ok:failedOf st=none
 pd:pendingOf st=pd
section
variable {κ:SortKind}{a0:Array Keyed}{pd:Array (Nat×Nat×Nat)}{st:SortSt}{prog:az}{w:bc}{A:ba}{E:aw→ax→Prop}{s:ax}{Ok:Keyed→Prop}
theorem SB.sz (h:SB κ a0 pd st):(arrOf st).size=a0.size:=h.pm.size_eq
theorem SB.put (h:SB κ a0 pd st){xs:Array Keyed}(hp:xs.Perm (arrOf st)):SB κ a0 pd (setArr st xs):=⟨hp.trans h.pm,h.kd,h.ok,h.pd⟩
noncomputable def cR (prog:az)(w:bc)(A:ba)(E:aw->ax->Prop)(s:ax)(κ:SortKind)(Ok:Keyed->Prop)(rk:Keyed->Int):Prop:=
 ∀(x y:Keyed),Ok x->Ok y->∀(st:SortSt) (Q:Option Bool->SortSt->Prop),kindOf st=κ->Q (some (decide (rk x<rk y))) st->wpS (model prog w) A E s (lt' x y) Q st
noncomputable def bS (Ok:Keyed->Prop)(xs:Array Keyed):Prop:=∀x∈xs,Ok x
theorem SB.all (h:SB κ a0 pd st)(o:bS Ok a0):bS Ok (arrOf st):=λx hx=>o x (h.pm.mem_iff.mp hx)
theorem dG {xs:Array Keyed}{i:Nat}{Q:Keyed->SortSt->Prop}(hi:i<xs.size)(h:Q xs[i] st):wpS (model prog w) A E s (elem' xs i) Q st:=by
 rw[elem'_eq,getElem?_pos xs i hi];exact bs0 h
theorem cI {xs:Array Keyed}{i:Nat}(hi:i<xs.size):Kr rk xs i=rk xs[i]:=by unfold Kr;rw[getElem?_pos xs i hi];rfl
theorem pW (c:cR prog w A E s κ Ok rk)(o:bS Ok a0)(b:SB κ a0 pd st){i j:Nat}{Q:Option Bool->SortSt->Prop}(hi:i<a0.size)(hj:j<a0.size)(h:Q (some (decide (Kr rk (arrOf st) i<Kr rk (arrOf st) j))) st):wpS (model prog w) A E s (ltAt' i j) Q st:=by
 have hi':i<(arrOf st).size:=by rw[b.sz];exact hi
 have hj':j<(arrOf st).size:=by rw[b.sz];exact hj
 rw[ltAt'_eq];refine br1 (wpS_get (br1 (dG hi' (br1 (dG hj' ?_)))));refine c _ _ (b.all o _ (bv3 hi')) (b.all o _ (bv3 hj')) st Q b.kd ?_;rw[<- cI (rk:=rk) hi',<- cI (rk:=rk) hj'];exact h
theorem tI {i j:Nat}{Q:Unit->SortSt->Prop}(h:Q () (setArr st (mirror (arrOf st) i j ((j-i)/2)))):wpS (model prog w) A E s (reverseSlice' i j) Q st:=by
 rw[reverseSlice'_eq];exact wpS_modify h
noncomputable abbrev CS:=Option (Option Nat)×Nat
noncomputable abbrev DS:=Option (Option Nat)×Nat×Nat
noncomputable def pX (lo b ap:Nat):StateT SortSt Sem CS:=forIn [b:ap] ((none,b):CS) λ_ r=>do
 match <- ltAt' (lo+r.2) (lo+r.2-1) with
 |some q=>if q=true then pure (ForInStep.done (none,r.2)) else pure (ForInStep.yield (none,r.2+1))
 |_=>pure (ForInStep.done (some none,r.2))
noncomputable def xR (lo b ap:Nat):StateT SortSt Sem DS:=forIn [b:ap] ((none,b,0):DS) λ_ r=>do
 match <- ltAt' (lo+r.2.1) (lo+r.2.1-1) with
 |some q=>
  if q=true then (if r.2.2>0 then do reverseSlice' (lo+r.2.1-(r.2.2+1)) (lo+r.2.1);pure (ForInStep.yield (none,r.2.1+1,0)) else pure (ForInStep.yield (none,r.2.1+1,0)))
  else do
   match <- ltAt' (lo+r.2.1-1) (lo+r.2.1) with
   |some q=>if q=true then pure (ForInStep.done (none,r.2.1,r.2.2)) else pure (ForInStep.yield (none,r.2.1+1,r.2.2+1))
   |_=>pure (ForInStep.done (some none,r.2.1,r.2.2))
 |_=>pure (ForInStep.done (some none,r.2.1,r.2.2))
theorem U2 (c:cR prog w A E s κ Ok rk)(o:bS Ok a0)(b:SB κ a0 pd st){lo n ap:Nat}{Q:CS->SortSt->Prop}(hz:lo+ap<=a0.size)(h1:1<=n)(hn:n<=ap)(u:Up rk (arrOf st) lo (lo+n))(h:∀m,n<=m->m<=ap->Up rk (arrOf st) lo (lo+m)->(m=ap∨Kr rk (arrOf st) (lo+m)<Kr rk (arrOf st) (lo+m-1))->Q (none,m) st):wpS (model prog w) A E s (pX lo n ap) Q st:=by
 unfold pX;refine bx9 (I:=λx r st'=>st'=st/\r=(none,x)/\Up rk (arrOf st) lo (lo+x)) ?_ ?_ ⟨rfl,rfl,u⟩
 ·rintro x r st' hx hx' ⟨rfl,rfl,u'⟩
  refine br1 (pW c o b (by omega) (by omega) ?_);by_cases hq:Kr rk (arrOf st') (lo+x)<Kr rk (arrOf st') (lo+x-1)
  ·rw[bq2 hq]
   exact bs0 (h x hx (by omega) u' (.inr hq))
  ·rw[bp9 hq]
   refine bs0 ⟨rfl,rfl,λi j hi hij hj=>?_⟩;rcases bw2 j (lo+x) with z|z
   ·exact u' i j hi hij z
   ·have ej:j=lo+x:=by omega
    subst ej;rcases bF1 hij with z|z
    ·rw[z];exact bD4 _
    ·have:=u' i (lo+x-1) hi (by omega) (by omega)
     omega
 ·rintro r st' ⟨rfl,rfl,u'⟩
  have em:max n ap=ap:=by omega
  rw[em]at u' ⊢;exact h ap hn (bq4 _) u' (.inl rfl)
structure pY (rk:Keyed->Int)(xs ys:Array Keyed)(lo m q:Nat):Prop where
 dn:Dn rk ys lo (lo+m)
 le:q+1<=m
 eq:∀i,lo+m-(q+1)<=i->i<lo+m->Kr rk ys i=Kr rk ys (lo+m-1)
 low:∀i,i<lo->Kr rk ys i=Kr rk xs i
theorem aJ5 (c:cR prog w A E s κ Ok rk)(o:bS Ok a0)(b:SB κ a0 pd st){lo n ap:Nat}{xs:Array Keyed}{Q:DS->SortSt->Prop}(hz:lo+ap<=a0.size)(h1:1<=n)(hn:n<=ap)(u:pY rk xs (arrOf st) lo n 0)(h:∀m q st',SB κ a0 pd st'->n<=m->m<=ap->pY rk xs (arrOf st') lo m q->Q (none,m,q) st'):wpS (model prog w) A E s (xR lo n ap) Q st:=by
 unfold xR;refine bx9 (I:=λx r st'=>∃q,r=(none,x,q)/\SB κ a0 pd st'/\pY rk xs (arrOf st') lo x q) ?_ ?_ ⟨0,rfl,b,u⟩
 ·rintro x r st' hx hx' ⟨q,rfl,b',f⟩
  have sz:=b'.sz;dsimp only;refine br1 (pW c o b' (by omega) (by omega) ?_);by_cases hq:Kr rk (arrOf st') (lo+x)<Kr rk (arrOf st') (lo+x-1)
  ·rw[bq2 hq]
   have nx:∀ys:Array Keyed,(∀k,Kr rk ys k=Kr rk (arrOf st') k)->pY rk xs ys lo (x+1) 0:=λys e=>by
    refine⟨λi j hi hij hj=>?_,by omega,λi h1 h2=>by rw[show i=lo+(x+1)-1 by omega],λi hi=>(e i).trans (f.low i hi)⟩;rw[e,e];rcases bw2 j (lo+x) with z|z
    ·exact f.dn i j hi hij z
    ·have ej:j=lo+x:=by omega
     subst ej;rcases bF1 hij with z|z
     ·rw[z];exact bD4 _
     ·have:=f.dn i (lo+x-1) hi (by omega) (by omega)
      omega
   dsimp only;rw[if_pos rfl];by_cases hp:q>0
   ·rw[if_pos hp]
    exact br1 (tI (bs0 ⟨0,rfl,b'.put (mirror_perm _ _ _ _),nx _ (xQ (by omega) f.eq)⟩))
   ·rw[if_neg hp]
    exact bs0 ⟨0,rfl,b',nx _ λ_=>rfl⟩
  ·rw[bp9 hq]
   dsimp only;rw[if_neg bq7];refine br1 (pW c o b' (by omega) (by omega) ?_);by_cases hl:Kr rk (arrOf st') (lo+x-1)<Kr rk (arrOf st') (lo+x)
   ·rw[bq2 hl]
    exact bs0 (h x q st' b' hx (by omega) f)
   ·rw[bp9 hl]
    have ex:Kr rk (arrOf st') (lo+x)=Kr rk (arrOf st') (lo+x-1):=by omega
    refine bs0 ⟨q+1,rfl,b',λi j hi hij hj=>?_,by have:=f.le;omega,λi h1 h2=>?_,f.low⟩
    ·rcases bw2 j (lo+x) with z|z
     ·exact f.dn i j hi hij z
     ·have ej:j=lo+x:=by omega
      subst ej;rcases bF1 hij with z|z
      ·rw[z];exact bD4 _
      ·rw[ex];exact f.dn i (lo+x-1) hi (by omega) (by omega)
    ·rw[show lo+(x+1)-1=lo+x by omega]
     rcases bw2 i (lo+x) with z|z
     ·rw[ex];exact f.eq i (by omega) z
     ·rw[show i=lo+x by omega]
 ·rintro r st' ⟨q,rfl,b',f⟩
  have em:max n ap=ap:=by omega
  rw[em]at f ⊢;exact h ap q st' b' hn (bq4 _) f
theorem U3 (c:cR prog w A E s κ Ok rk)(o:bS Ok a0)(b:SB κ a0 pd st){lo ap:Nat}(n:Nat){xs:Array Keyed}{Q:Option Nat->SortSt->Prop}{K:DS->StateT SortSt Sem (Option Nat)}{k:CS->StateT SortSt Sem (Option Nat)}(hz:lo+ap<=a0.size)(hn:n+1<=ap)(hK:∀m q,K (none,m,q)=if q>0 then reverseSlice' (lo+m-(q+1)) (lo+m) >>= λ_=>reverseSlice' lo (lo+m) >>= λ_=>pX lo m ap >>= k else reverseSlice' lo (lo+m) >>= λ_=>pX lo m ap >>= k)(hk:∀m,k (none,m)=pure (some m))(u:pY rk xs (arrOf st) lo (n+1) 0)(h:∀m st',SB κ a0 pd st'->1<=m->m<=ap->Up rk (arrOf st') lo (lo+m)->(∀i,i<lo->Kr rk (arrOf st') i=Kr rk xs i)->Q (some m) st'):wpS (model prog w) A E s (liftM (rule "list.sort.descending-run") >>= λ_=>xR lo (n+1) ap >>= K) Q st:=by
 refine br1 (wpS_lift (bE7 ⟨rfl,?_⟩));refine br1 (aJ5 c o b hz (by omega) hn u λm q st1 b1 m1 m2 f=>?_);have fin:∀st2:SortSt,SB κ a0 pd st2->(∀k,Kr rk (arrOf st2) k=Kr rk (arrOf st1) k)->
   wpS (model prog w) A E s (reverseSlice' lo (lo+m) >>= λ_=>pX lo m ap >>= k) Q st2:=λst2 b2 e=>by
  have sz:=b2.sz;have low:∀i,i<lo->Kr rk (mirror (arrOf st2) lo (lo+m) ((lo+m-lo)/2)) i=Kr rk xs i:=λi hi=>by
   rw[tH (by omega),if_neg (by omega),e];exact f.low i hi
  refine br1 (tI (br1 (U2 (κ:=κ) c o (b2.put (mirror_perm _ _ _ _)) hz (by omega) m2 ?_ λm' h1 h2 up _=>by rw[hk];exact bs0 (h m' _ (b2.put (mirror_perm _ _ _ _)) (by omega) h2 up low))))
  ·intro i j hi hij hj
   show Kr rk (mirror (arrOf st2) lo (lo+m) _) i<=Kr rk (mirror (arrOf st2) lo (lo+m) _) j;rw[tH (by omega),tH (by omega),if_pos (by omega),if_pos (by omega),e,e];exact f.dn _ _ (by omega) (by omega) (by omega)
 rw[hK];by_cases hp:q>0
 ·rw[if_pos hp]
  have sz:=b1.sz;exact br1 (tI (fin _ (b1.put (mirror_perm _ _ _ _)) (xQ (by omega) f.eq)))
 ·rw[if_neg hp]
  exact fin st1 b1 λ_=>rfl
theorem aJ6 (c:cR prog w A E s κ Ok rk)(o:bS Ok a0)(b:SB κ a0 pd st){lo ap:Nat}{Q:Option Nat->SortSt->Prop}(hz:lo+ap<=a0.size)(h1:1<=ap)(h:∀m st',SB κ a0 pd st'->1<=m->m<=ap->Up rk (arrOf st') lo (lo+m)->(∀i,i<lo->Kr rk (arrOf st') i=Kr rk (arrOf st) i)->Q (some m) st'):wpS (model prog w) A E s (countRun' lo ap) Q st:=by
 rw[countRun'_eq];refine br1 (U2 (n:=1) c o b hz (bq4 _) h1 (λi j hi hij hj=>by rw[show i=j by omega];exact bD4 _) λn n1 n2 un on=>?_);dsimp only;by_cases en:(n==ap)=true
 ·rw[if_pos en]
  exact bs0 (h n st b n1 n2 un λ_ _=>rfl)
 ·rw[if_neg en]
  have en':n≠ap:=by simpa using en
  have lt:=on.resolve_left en';have sz:=b.sz;by_cases g:n>1
  ·rw[if_pos g]
   refine br1 (pW c o b (by omega) (by omega) ?_);by_cases hq:Kr rk (arrOf st) lo<Kr rk (arrOf st) (lo+n-1)
   ·rw[bq2 hq]
    exact bs0 (h n st b n1 n2 un λ_ _=>rfl)
   ·rw[bp9 hq]
    dsimp only;rw[if_neg bq7];have all:∀k,lo<=k->k<lo+n->Kr rk (arrOf st) k=Kr rk (arrOf st) (lo+n-1):=λk k1 k2=>by
     have a1:=un lo k (bq4 _) k1 k2;have a2:=un k (lo+n-1) k1 (by omega) (by omega);omega
    have sm:=xQ (rk:=rk) (xs:=arrOf st) (i:=lo) (j:=lo+n) (by omega) all;refine br1 (tI (U3 (xs:=arrOf st) (κ:=κ) c o (b.put (mirror_perm _ _ _ _)) n hz (by omega) (λ_ _=>rfl) (λ_=>rfl) ⟨λi j hi hij hj=>?_,by omega,λi h1 h2=>by rw[show i=lo+(n+1)-1 by omega],λi _=>sm i⟩ h));show Kr rk (mirror (arrOf st) lo (lo+n) _) j<=Kr rk (mirror (arrOf st) lo (lo+n) _) i;rw[sm,sm];rcases bw2 j (lo+n) with z|z
    ·rw[all i hi (by omega),all j (by omega) z];exact bD4 _
    ·have ej:j=lo+n:=by omega
     subst ej;rcases bF1 hij with z|z
     ·rw[z];exact bD4 _
     ·rw[all i hi (by omega)];exact Int.le_of_lt lt
  ·rw[if_neg g]
   have e1:n=1:=by omega
   subst e1;refine U3 (xs:=arrOf st) c o b 1 hz (by omega) (λ_ _=>rfl) (λ_=>rfl) ⟨λi j hi hij hj=>?_,by omega,λi h1 h2=>by rw[show i=lo+(1+1)-1 by omega],λi _=>rfl⟩ h;rcases bF1 hij with z|z
   ·rw[z];exact bD4 _
   ·have ei:i=lo+1-1:=by omega
    have ej:j=lo+1:=by omega
    rw[ei,ej];exact Int.le_of_lt lt
theorem aJ7 (c:cR prog w A E s κ Ok rk)(o:bS Ok a0)(b:SB κ a0 pd st){lo n q:Nat}{Q:Bool->SortSt->Prop}(hz:lo+n<=a0.size)(hq:q<=n)(u:Up rk (arrOf st) lo (lo+q))(h:∀st',SB κ a0 pd st'->Up rk (arrOf st') lo (lo+n)->(∀i,i<lo->Kr rk (arrOf st') i=Kr rk (arrOf st) i)->Q true st'):wpS (model prog w) A E s (binarySort' lo n q) Q st:=by
 rw[binarySort'_eq]
 refine br1 (bF9 (bx9 (I:=λk r st'=>r=(none,())/\SB κ a0 pd st'/\Up rk (arrOf st') lo (lo+min k n)/\∀i,i<lo->Kr rk (arrOf st') i=Kr rk (arrOf st) i)
  (Q:=λr st'=>r=(none,())/\SB κ a0 pd st'/\Up rk (arrOf st') lo (lo+n)/\∀i,i<lo->Kr rk (arrOf st') i=Kr rk (arrOf st) i) ?_ ?_ ?_) ?_)
 ·rintro k r st1 hk hkn ⟨rfl,b1,u1,l1⟩
  rw[show min k n=k by omega]at u1;have hk0:lo+k<a0.size:=by omega
  have sz:=b1.sz
  refine br1 (bF9 (bx9 (I:=λx r st'=>st'=st1/\∃l g,r=(none,l,g)/\l<=g/\g<=k/\g-l<=k-x/\(∀i,i<l->Kr rk (arrOf st1) (lo+i)<=Kr rk (arrOf st1) (lo+k))/\∀i,g<=i->i<k->Kr rk (arrOf st1) (lo+k)<Kr rk (arrOf st1) (lo+i))
   (Q:=λr st'=>st'=st1/\∃l g,r=(none,l,g)/\l<=k/\(∀i,i<l->Kr rk (arrOf st1) (lo+i)<=Kr rk (arrOf st1) (lo+k))/\∀i,l<=i->i<k->Kr rk (arrOf st1) (lo+k)<Kr rk (arrOf st1) (lo+i)) ?_ ?_ ?_) ?_)
  ·rintro x r st2 _ hx ⟨rfl,l,g,rfl,d1,d2,d3,f1,f2⟩
   dsimp only;by_cases hlg:l >= g
   ·rw[if_pos hlg]
    have e:g=l:=by omega
    subst e;exact bs0 ⟨rfl,g,g,rfl,d2,f1,f2⟩
   ·rw[if_neg hlg]
    refine br1 (pW c o b1 hk0 (by omega) ?_);by_cases hc:Kr rk (arrOf st2) (lo+k)<Kr rk (arrOf st2) (lo+(l+g)/2)
    ·rw[bq2 hc]
     refine bs0 ⟨rfl,l,(l+g)/2,rfl,by omega,by omega,by omega,f1,λi i1 i2=>?_⟩
     have:=u1 (lo+(l+g)/2) (lo+i) (by omega) (by omega) (by omega)
     omega
    ·rw[bp9 hc]
     refine bs0 ⟨rfl,(l+g)/2+1,g,rfl,by omega,d2,by omega,λi i1=>?_,f2⟩
     have:=u1 (lo+i) (lo+(l+g)/2) (by omega) (by omega) (by omega)
     omega
  ·rintro r st2 ⟨rfl,l,g,rfl,d1,d2,d3,f1,f2⟩
   have e:g=l:=by omega
   subst e
   exact⟨rfl,g,g,rfl,d2,f1,f2⟩
  ·exact⟨rfl,0,k,rfl,by omega,by omega,by omega,λi hi=>absurd hi (by omega),λi i1 i2=>absurd i1 (by omega)⟩
  ·rintro r st2 ⟨rfl,l,g,rfl,d,f1,f2⟩
   dsimp only;rw[moveDown'_eq];have kb:∀i,Kr rk (bubble (arrOf st2) (lo+k) (lo+k-(lo+l))) i=Kr rk (arrOf st2) (if i=lo+l then lo+k else if lo+l<i/\i<=lo+k then i-1 else i):=λi=>by
    rw[aJ4 (by omega) (by omega),show lo+k-(lo+k-(lo+l))=lo+l by omega]
   refine br1 (wpS_modify (bs0 ⟨rfl,b1.put (bubble_perm _ _ _),λi j hi hij hj=>?_,λi hi=>?_⟩))
   ·show Kr rk (bubble (arrOf st2) (lo+k) (lo+k-(lo+l))) i<=Kr rk (bubble (arrOf st2) (lo+k) (lo+k-(lo+l))) j
    rw[kb,kb];rw[show min (k+1) n=k+1 by omega]at hj;have v1:∀p,lo<=p->p<lo+l->Kr rk (arrOf st2) p<=Kr rk (arrOf st2) (lo+k):=λp p1 p2=>by have:=f1 (p-lo) (by omega);rwa [show lo+(p-lo)=p by omega]at this
    have v2:∀p,lo+l<=p->p<lo+k->Kr rk (arrOf st2) (lo+k)<Kr rk (arrOf st2) p:=λp p1 p2=>by have:=f2 (p-lo) (by omega) (by omega);rwa [show lo+(p-lo)=p by omega]at this
    repeat' split
    all_goals first
     |(exfalso;omega)
     |exact bD4 _
     |exact v1 _ (by omega) (by omega)
     |exact Int.le_of_lt (v2 _ (by omega) (by omega))
     |exact u1 _ _ (by omega) (by omega) (by omega)
   ·show Kr rk (bubble (arrOf st2) (lo+k) (lo+k-(lo+l))) i=_
    rw[kb,if_neg (by omega),if_neg (by omega)];exact l1 i hi
 ·rintro r st1 ⟨rfl,b1,u1,l1⟩
  rw[show min (max (max q 1) n) n=n by omega]at u1
  exact⟨rfl,b1,u1,l1⟩
 ·refine⟨rfl,b,λi j hi hij hj=>?_,λ_ _=>rfl⟩
  rcases bw2 j (lo+q) with z|z
  ·exact u i j hi hij z
  ·rw[show i=j by omega];exact bD4 _
 ·rintro r st1 ⟨rfl,b1,u1,l1⟩
  exact bs0 (h st1 b1 u1 l1)
end
noncomputable def kZ:Bool->Keyed->Array Keyed->Nat->Nat->Nat->StateT SortSt Sem (Option Nat):=sortPriv% PySem.Builtin.gallop
noncomputable def mH (lf:Bool)(key:Keyed)(xs:Array Keyed)(bs i:Nat):StateT SortSt Sem (Option Bool):=do
 let z <- elem' xs (bs+i)
 if lf then lt' z key else return (<- lt' key z).map (!·)
theorem aJ8 (lf:Bool)(key:Keyed)(xs:Array Keyed)(bs n h:Nat):kZ lf key xs bs n h=(do
 let mut la:=0
 let mut of:=1
 let mut l:=0
 let mut g:=0
 let some rt <- mH lf key xs bs h|return none
 if rt then
  let mx:=n-h
  for _ in [0:n] do
   if of >= mx then break
   let some mr <- mH lf key xs bs (h+of)|return none
   if !mr then break
   la:=of
   of:=2*of+1
  l:=h+la+1
  g:=h+min of mx
 else
  let mx:=h+1
  for _ in [0:n] do
   if of >= mx then break
   let some fd <- mH lf key xs bs (h-of)|return none
   if fd then break
   la:=of
   of:=2*of+1
  l:=h+1-min of mx
  g:=h-la
 for _ in [0:n] do
  if l >= g then break
  let m:=l+(g-l)/2
  let some mr <- mH lf key xs bs m|return none
  if mr then l:=m+1 else g:=m
 return some g):=rfl
section
variable {rk:Keyed→Int}{κ:SortKind}{st:SortSt}{prog:az}{w:bc}{A:ba}{E:aw→ax→Prop}{s:ax}{Ok:Keyed→Prop}
noncomputable def cB (rk:Keyed->Int)(lf:Bool)(key:Keyed)(xs:Array Keyed)(bs i:Nat):Bool:=if lf then decide (Kr rk xs (bs+i)<rk key) else decide (Kr rk xs (bs+i)<=rk key)
theorem tJ (c:cR prog w A E s κ Ok rk)(hk:kindOf st=κ){lf:Bool}{key:Keyed}{xs:Array Keyed}{bs i:Nat}{Q:Option Bool->SortSt->Prop}(ok:Ok key)(o:bS Ok xs)(hi:bs+i<xs.size)(h:Q (some (cB rk lf key xs bs i)) st):wpS (model prog w) A E s (mH lf key xs bs i) Q st:=by
 unfold mH;refine br1 (dG hi ?_);unfold cB at h;rw[cI hi]at h;cases lf with
 |true=>
  simp only[if_true]at h ⊢;exact c _ _ (o _ (bv3 hi)) ok st Q hk h
 |false=>
  simp only[bs8,bx3]at h ⊢;refine br1 (c _ _ ok (o _ (bv3 hi)) st _ hk (bs0 ?_));have e:(!decide (rk key<rk xs[bs+i]))=decide (rk xs[bs+i]<=rk key):=by
   by_cases z:rk xs[bs+i]<=rk key
   ·rw[bq2 z,bp9 (by omega)];rfl
   ·rw[bp9 z,bq2 (by omega)];rfl
  show Q (some (!decide (rk key<rk xs[bs+i]))) st;rw[e];exact h
noncomputable abbrev GS:=Option (Option Nat)×Nat×Nat
noncomputable def U4 (lf:Bool)(key:Keyed)(xs:Array Keyed)(bs n l g:Nat):StateT SortSt Sem GS:=forIn [0:n] ((none,l,g):GS) λ_ r=>
 if r.2.1 >= r.2.2 then pure (ForInStep.done (none,r.2.1,r.2.2)) else do
  match <- mH lf key xs bs (r.2.1+(r.2.2-r.2.1)/2) with
  |some q=>if q=true then pure (ForInStep.yield (none,r.2.1+(r.2.2-r.2.1)/2+1,r.2.2)) else pure (ForInStep.yield (none,r.2.1,r.2.1+(r.2.2-r.2.1)/2))
  |_=>pure (ForInStep.done (some none,r.2.1,r.2.2))
theorem U5 (c:cR prog w A E s κ Ok rk)(hk:kindOf st=κ){lf:Bool}{key:Keyed}{xs:Array Keyed}{bs n l g:Nat}{Q:GS->SortSt->Prop}(ok:Ok key)(o:bS Ok xs)(hz:bs+n<=xs.size)(mono:∀i j,i<=j->j<n->cB rk lf key xs bs j=true->cB rk lf key xs bs i=true)(hlg:l<=g)(hg:g<=n)(h1:∀i,i<l->cB rk lf key xs bs i=true)(h2:∀i,g<=i->i<n->cB rk lf key xs bs i=false)(hq:∀k,k<=n->(∀i,i<k->cB rk lf key xs bs i=true)->(∀i,k<=i->i<n->cB rk lf key xs bs i=false)->Q (none,k,k) st):wpS (model prog w) A E s (U4 lf key xs bs n l g) Q st:=by
 unfold U4;refine bx9 (I:=λx r st'=>st'=st/\∃l g,r=(none,l,g)/\l<=g/\g<=n/\g-l<=n-x/\(∀i,i<l->cB rk lf key xs bs i=true)/\∀i,g<=i->i<n->cB rk lf key xs bs i=false) ?_ ?_ ⟨rfl,l,g,rfl,hlg,hg,by omega,h1,h2⟩
 ·rintro x r st' _ hx ⟨rfl,l,g,rfl,d1,d2,d3,f1,f2⟩
  dsimp only;by_cases hc:l >= g
  ·rw[if_pos hc]
   have e:g=l:=by omega
   subst e;exact bs0 (hq g d2 f1 f2)
  ·rw[if_neg hc]
   refine br1 (tJ c hk ok o (by omega) ?_);cases z:cB rk lf key xs bs (l+(g-l)/2) with
   |true=>exact bs0 ⟨rfl,_,_,rfl,by omega,d2,by omega,λi hi=>mono i (l+(g-l)/2) (by omega) (by omega) z,f2⟩
   |false=>
    refine bs0 ⟨rfl,_,_,rfl,by omega,by omega,by omega,f1,λi i1 i2=>?_⟩;cases y:cB rk lf key xs bs i with
    |false=>rfl
    |true=>rw[mono _ i i1 i2 y]at z;cases z
 ·rintro r st' ⟨rfl,l,g,rfl,d1,d2,d3,f1,f2⟩
  have e:g=l:=by omega
  subst e;exact hq g d2 f1 f2
theorem nV (c:cR prog w A E s κ Ok rk)(hk:kindOf st=κ){lf:Bool}{key:Keyed}{xs:Array Keyed}{bs n h:Nat}{Q:Option Nat->SortSt->Prop}(ok:Ok key)(o:bS Ok xs)(hh:h<n)(hz:bs+n<=xs.size)(u:Up rk xs bs (bs+n))(hq:∀k,k<=n->(∀i,i<k->cB rk lf key xs bs i=true)->(∀i,k<=i->i<n->cB rk lf key xs bs i=false)->Q (some k) st):wpS (model prog w) A E s (kZ lf key xs bs n h) Q st:=by
 have mono:∀i j,i<=j->j<n->cB rk lf key xs bs j=true->cB rk lf key xs bs i=true:=λi j hij hj e=>by
  have:=u (bs+i) (bs+j) (by omega) (by omega) (by omega)
  unfold cB at e ⊢;cases lf with
  |true=>simp only[if_true,bs4]at e ⊢;omega
  |false=>simp only[bs8,bx3,bs4]at e ⊢;omega
 have monf:∀i j,i<=j->j<n->cB rk lf key xs bs i=false->cB rk lf key xs bs j=false:=λi j hij hj e=>by
  cases z:cB rk lf key xs bs j with
  |false=>rfl
  |true=>rw[mono i j hij hj z]at e;cases e
 rw[aJ8];refine br1 (tJ c hk ok o (by omega) ?_);dsimp only;cases z:cB rk lf key xs bs h with
 |true=>
  rw[if_pos rfl]
  refine br1 (bF9 (bx9 (I:=λx r st'=>st'=st/\∃la of,r=(none,la,of)/\la<of/\x<of/\h+la<n/\cB rk lf key xs bs (h+la)=true)
   (Q:=λr st'=>st'=st/\∃la of,r=(none,la,of)/\la<of/\h+la<n/\cB rk lf key xs bs (h+la)=true/\(of<n-h->cB rk lf key xs bs (h+of)=false)) ?_ ?_ ⟨rfl,0,1,rfl,by omega,by omega,by omega,z⟩) ?_)
  ·rintro x r st' _ hx ⟨rfl,la,of,rfl,d1,d2,d3,f⟩
   dsimp only;by_cases hc:of >= n-h
   ·rw[if_pos hc]
    exact bs0 ⟨rfl,la,of,rfl,d1,d3,f,λy=>absurd y (by omega)⟩
   ·rw[if_neg hc]
    refine br1 (tJ c hk ok o (by omega) ?_);cases y:cB rk lf key xs bs (h+of) with
    |true=>exact bs0 ⟨rfl,of,2*of+1,rfl,by omega,by omega,by omega,y⟩
    |false=>exact bs0 ⟨rfl,la,of,rfl,d1,d3,f,λ_=>y⟩
  ·rintro r st' ⟨rfl,la,of,rfl,d1,d2,d3,f⟩
   exact⟨rfl,la,of,rfl,d1,d3,f,λy=>absurd y (by omega)⟩
  ·rintro r st' ⟨rfl,la,of,rfl,d1,d3,f,ft⟩
   dsimp only;refine br1 (U5 (l:=h+la+1) (g:=h+min of (n-h)) c hk ok o hz mono (by omega) (by omega) (λi hi=>mono i (h+la) (by omega) d3 f) (λi i1 i2=>?_) λk k1 k2 k3=>bs0 (hq k k1 k2 k3));rcases bw2 of (n-h) with y|y
   ·exact monf (h+of) i (by omega) i2 (ft y)
   ·exact absurd i1 (by omega)
 |false=>
  rw[if_neg bq7]
  refine br1 (bF9 (bx9 (I:=λx r st'=>st'=st/\∃la of,r=(none,la,of)/\la<of/\x<of/\la<=h/\cB rk lf key xs bs (h-la)=false)
   (Q:=λr st'=>st'=st/\∃la of,r=(none,la,of)/\la<of/\la<=h/\cB rk lf key xs bs (h-la)=false/\(of<h+1->cB rk lf key xs bs (h-of)=true)) ?_ ?_ ⟨rfl,0,1,rfl,by omega,by omega,by omega,z⟩) ?_)
  ·rintro x r st' _ hx ⟨rfl,la,of,rfl,d1,d2,d3,f⟩
   dsimp only;by_cases hc:of >= h+1
   ·rw[if_pos hc]
    exact bs0 ⟨rfl,la,of,rfl,d1,d3,f,λy=>absurd y (by omega)⟩
   ·rw[if_neg hc]
    refine br1 (tJ c hk ok o (by omega) ?_);cases y:cB rk lf key xs bs (h-of) with
    |false=>exact bs0 ⟨rfl,of,2*of+1,rfl,by omega,by omega,by omega,y⟩
    |true=>exact bs0 ⟨rfl,la,of,rfl,d1,d3,f,λ_=>y⟩
  ·rintro r st' ⟨rfl,la,of,rfl,d1,d2,d3,f⟩
   exact⟨rfl,la,of,rfl,d1,d3,f,λy=>absurd y (by omega)⟩
  ·rintro r st' ⟨rfl,la,of,rfl,d1,d3,f,ft⟩
   dsimp only;refine br1 (U5 (l:=h+1-min of (h+1)) (g:=h-la) c hk ok o hz mono (by omega) (by omega) (λi hi=>?_) (λi i1 i2=>monf (h-la) i i1 i2 f) λk k1 k2 k3=>bs0 (hq k k1 k2 k3));rcases bw2 of (h+1) with y|y
   ·exact mono i (h-of) (by omega) (by omega) (ft y)
   ·exact absurd hi (by omega)
end
noncomputable def nW:Nat->StateT SortSt Sem Unit:=sortPriv% PySem.Builtin.setMinGallop
noncomputable def xS:Array Keyed->Array Keyed->StateT SortSt Sem (Array Keyed):=sortPriv% PySem.Builtin.mergeLo
theorem aJ9 (g:Nat):nW g=modify (λst=>SortSt.mk' (kindOf st) (arrOf st) (pendingOf st) g (failedOf st)):=rfl
noncomputable abbrev LS:=Option (Array Keyed)×Array Keyed×Nat×Nat×Nat×Nat×Nat
noncomputable abbrev xT:=Option (Array Keyed)×Array Keyed×Nat×Nat×Nat×Nat
noncomputable abbrev LO:=Option (Array Keyed)×Array Keyed×Nat×Nat×Nat
noncomputable def tK (x y o:Array Keyed)(i j mg p q:Nat):StateT SortSt Sem (ForInStep LS):=do
 let v <- elem' x i
 if (i+1+1==x.size)=true then pure (.done (some (o.push v++y.extract j y.size++x.extract (i+1) x.size),o.push v,i+1,j,mg,p,q))
 else if (decide (p<7)&&decide (q<7))=true then pure (.done (none,o.push v,i+1,j,mg,p,q)) else pure (.yield (none,o.push v,i+1,j,mg,p,q))
noncomputable def tL (x y o:Array Keyed)(i j mg p q:Nat):StateT SortSt Sem (ForInStep LS):=do
 let v <- elem' y j
 if (j+1==y.size)=true then pure (.done (some (o.push v++x.extract i x.size++y.extract (j+1) y.size),o.push v,i,j+1,mg,p,q)) else do
  let u <- elem' x i
  match <- kZ true u y (j+1) (y.size-(j+1)) 0 with
  |some k=>
   if k>0 then
    if (j+1+k==y.size)=true then pure (.done (some (o.push v++y.extract (j+1) (j+1+k)++x.extract i x.size++y.extract (j+1+k) y.size),o.push v++y.extract (j+1) (j+1+k),i,j+1+k,mg,p,k))
    else tK x y (o.push v++y.extract (j+1) (j+1+k)) i (j+1+k) mg p k
   else tK x y (o.push v) i (j+1) mg p k
  |_=>pure (.done (some (o.push v++x.extract i x.size++y.extract (j+1) y.size),o.push v,i,j+1,mg,p,q))
noncomputable def tM (x y o:Array Keyed)(i j mg p q:Nat):StateT SortSt Sem (ForInStep LS):=do
 nW mg
 let v <- elem' y j
 match <- kZ false v x i (x.size-i) 0 with
 |some k=>
  if k>0 then
   if (i+k+1==x.size)=true then pure (.done (some (o++x.extract i (i+k)++y.extract j y.size++x.extract (i+k) x.size),o++x.extract i (i+k),i+k,j,mg,k,q))
   else if (i+k==x.size)=true then pure (.done (some (o++x.extract i (i+k)++x.extract (i+k) x.size++y.extract j y.size),o++x.extract i (i+k),i+k,j,mg,k,q))
   else tL x y (o++x.extract i (i+k)) (i+k) j mg k q
  else tL x y o i j mg k q
 |_=>pure (.done (some (o++x.extract i x.size++y.extract j y.size),o,i,j,mg,p,q))
noncomputable def xU (x y o:Array Keyed)(i j mg p q:Nat):StateT SortSt Sem LS:=forIn [0:x.size+y.size] ((none,o,i,j,mg,p,q):LS) λ_ r=>
 if r.2.2.2.2.1>1 then tM x y r.2.1 r.2.2.1 r.2.2.2.1 (r.2.2.2.2.1-1) r.2.2.2.2.2.1 r.2.2.2.2.2.2 else tM x y r.2.1 r.2.2.1 r.2.2.2.1 r.2.2.2.2.1 r.2.2.2.2.2.1 r.2.2.2.2.2.2
noncomputable def xV (x y o:Array Keyed)(i j mg:Nat):StateT SortSt Sem xT:=forIn [0:x.size+y.size] ((none,o,i,j,0,0):xT) λ_ r=>do
 let v <- elem' y r.2.2.2.1
 let u <- elem' x r.2.2.1
 match <- lt' v u with
 |some q=>
  if q=true then do
   let v <- elem' y r.2.2.2.1
   if (r.2.2.2.1+1==y.size)=true then pure (.done (some (r.2.1.push v++x.extract r.2.2.1 x.size++y.extract (r.2.2.2.1+1) y.size),r.2.1.push v,r.2.2.1,r.2.2.2.1+1,0,r.2.2.2.2.2+1))
   else if r.2.2.2.2.2+1 >= mg then pure (.done (none,r.2.1.push v,r.2.2.1,r.2.2.2.1+1,0,r.2.2.2.2.2+1)) else pure (.yield (none,r.2.1.push v,r.2.2.1,r.2.2.2.1+1,0,r.2.2.2.2.2+1))
  else do
   let u <- elem' x r.2.2.1
   if (r.2.2.1+1+1==x.size)=true then pure (.done (some (r.2.1.push u++y.extract r.2.2.2.1 y.size++x.extract (r.2.2.1+1) x.size),r.2.1.push u,r.2.2.1+1,r.2.2.2.1,r.2.2.2.2.1+1,0))
   else if r.2.2.2.2.1+1 >= mg then pure (.done (none,r.2.1.push u,r.2.2.1+1,r.2.2.2.1,r.2.2.2.2.1+1,0)) else pure (.yield (none,r.2.1.push u,r.2.2.1+1,r.2.2.2.1,r.2.2.2.2.1+1,0))
 |_=>pure (.done (some (r.2.1++x.extract r.2.2.1 x.size++y.extract r.2.2.2.1 y.size),r.2.1,r.2.2.1,r.2.2.2.1,r.2.2.2.2.1,r.2.2.2.2.2))
noncomputable def U6 (x y o:Array Keyed)(i j mg:Nat):StateT SortSt Sem LO:=forIn [0:x.size+y.size] ((none,o,i,j,mg):LO) λ_ r=>do
 let u <- xV x y r.2.1 r.2.2.1 r.2.2.2.1 r.2.2.2.2
 match u.1 with
 |some z=>pure (.done (some z,u.2.1,u.2.2.1,u.2.2.2.1,r.2.2.2.2))
 |none=>do
  liftM (rule "list.sort.gallop")
  let v <- xU x y u.2.1 u.2.2.1 u.2.2.2.1 (r.2.2.2.2+1) u.2.2.2.2.1 u.2.2.2.2.2
  match v.1 with
  |some z=>pure (.done (some z,v.2.1,v.2.2.1,v.2.2.2.1,v.2.2.2.2.1))
  |none=>do
   nW (v.2.2.2.2.1+1)
   pure (.yield (none,v.2.1,v.2.2.1,v.2.2.2.1,v.2.2.2.2.1+1))
theorem aK0 (x y:Array Keyed):xS x y=(do
 liftM (rule "list.sort.merge-lo")
 let v <- elem' y 0
 if (1==y.size)=true then pure (#[v]++x.extract 0 x.size++y.extract 1 y.size)
 else if (0+1==x.size)=true then pure (#[v]++y.extract 1 y.size++x.extract 0 x.size)
 else do
  let z <- get
  let r <- U6 x y #[v] 0 1 (gallopOf z)
  match r.1 with
  |some z=>pure z
  |none=>unsupported "internal:list.sort.merge-bound"):=by kernel_rfl
section
variable (rk:Keyed→Int)
noncomputable def Sd (l:List Keyed):Prop:=l.Pairwise λa b=>rk a<=rk b
structure MI (xs ys o:List Keyed)(i j:Nat):Prop where
 pm:o.Perm (xs.take i++ys.take j)
 sx:Sd rk (o++xs.drop i)
 sy:Sd rk (o++ys.drop j)
end
variable {rk:Keyed→Int}{xs ys o:List Keyed}{i j:Nat}
theorem Sd.ins {o a b d:List Keyed}(h1:Sd rk (o++a))(h2:Sd rk (o++(b++d)))(h:∀u∈b,∀t∈a,rk u<=rk t):Sd rk ((o++b)++a):=by
 unfold Sd at *;rw[bs6]
 obtain⟨p1,p2,p3⟩:=bv2.mp h1
 obtain⟨q1,q2,q3⟩:=bv2.mp h2
 obtain⟨r1,r2,r3⟩:=bv2.mp q2
 refine bv2.mpr ⟨p1,bv2.mpr ⟨r1,p2,h⟩,λu hu t ht=>?_⟩;rcases bs3.mp ht with z|z
 ·exact q3 u hu t (bt5 _ z)
 ·exact p3 u hu t z
theorem MI.ofy (m:MI rk xs ys o i j)(k:Nat)(h:∀u∈(ys.drop j).take k,∀t∈xs.drop i,rk u<=rk t):MI rk xs ys (o++(ys.drop j).take k) i (j+k):=by
 have e:(ys.drop j).take k++ys.drop (j+k)=ys.drop j:=by rw[<- List.drop_drop];exact bu7 k _
 refine⟨?_,Sd.ins m.sx (d:=ys.drop (j+k)) (by rw[e];exact m.sy) h,by rw[bs6,e];exact m.sy⟩;rw[List.take_add,<- bs6];exact m.pm.append_right _
theorem MI.ofx (m:MI rk xs ys o i j)(k:Nat)(h:∀u∈(xs.drop i).take k,∀t∈ys.drop j,rk u<=rk t):MI rk xs ys (o++(xs.drop i).take k) (i+k) j:=by
 have e:(xs.drop i).take k++xs.drop (i+k)=xs.drop i:=by rw[<- List.drop_drop];exact bu7 k _
 refine⟨?_,by rw[bs6,e];exact m.sx,Sd.ins m.sy (d:=xs.drop (i+k)) (by rw[e];exact m.sx) h⟩;rw[List.take_add];refine (m.pm.append_right _).trans ?_;rw[bs6,bs6];exact (List.perm_append_comm).append_left _
theorem MI.fin (m:MI rk xs ys o i j)(h:xs.length<=i∨ys.length<=j):(o++xs.drop i++ys.drop j).Perm (xs++ys)/\Sd rk (o++xs.drop i++ys.drop j):=by
 refine⟨?_,?_⟩
 ·rw[bs6]
  refine (m.pm.append_right _).trans ?_;have e1:xs=xs.take i++xs.drop i:=(bu7 i xs).symm;have e2:ys=ys.take j++ys.drop j:=(bu7 j ys).symm
  conv=>rhs;rw[e1,e2]
  rw[bs6,bs6];refine List.Perm.append_left _ ?_;rw[<- bs6,<- bs6];exact (List.perm_append_comm).append_right _
 ·rcases h with h|h
  ·rw[List.drop_eq_nil_of_le h,bu0];exact m.sy
  ·rw[List.drop_eq_nil_of_le h,bu0];exact m.sx
theorem MI.lst (m:MI rk xs ys o i j)(h:∀u∈ys,∀t∈xs.drop i,rk u<=rk t):(o++ys.drop j++xs.drop i).Perm (xs++ys)/\Sd rk (o++ys.drop j++xs.drop i):=by
 have m2:=m.ofy ys.length λu hu t ht=>h u (List.mem_of_mem_drop (bD5 hu)) t ht
 have e:(ys.drop j).take ys.length=ys.drop j:=bB7 (by simp);rw[e]at m2;have f:=m2.fin (.inr (by omega));rw[List.drop_eq_nil_of_le (as:=ys) (i:=j+ys.length) (by omega),bu0]at f;exact f
theorem U7 {x:Array Keyed}{i k:Nat}{u:Keyed}(h:u∈(x.toList.drop i).take k):∃t,t<k/\i+t<x.size/\rk u=Kr rk x (i+t):=by
 obtain⟨t,ht,e⟩:=List.getElem_of_mem h
 have h1:t<k/\i+t<x.size:=by simp at ht;omega
 refine⟨t,h1.1,h1.2,?_⟩;rw[cI h1.2,<- e];simp
theorem pZ {x:Array Keyed}{i:Nat}{u:Keyed}(h:u∈x.toList.drop i):∃t,i+t<x.size/\rk u=Kr rk x (i+t):=by
 obtain⟨t,ht,e⟩:=List.getElem_of_mem h
 have h1:i+t<x.size:=by simp at ht;omega
 refine⟨t,h1,?_⟩;rw[cI h1,<- e];simp
theorem Sd.up {x:Array Keyed}(h:Sd rk x.toList)(lo hi:Nat)(hh:hi<=x.size):Up rk x lo hi:=λi j _ hij hj=>by
 rw[cI (by omega:i<x.size),cI (by omega:j<x.size)];rcases bF1 hij with z|z
 ·subst z;exact bD4 _
 ·have:=bw4.mp h i j (by simp;omega) (by simp;omega) z
  simpa using this
theorem U8 (x:Array Keyed)(i k:Nat):(x.extract i (i+k)).toList=(x.toList.drop i).take k:=by
 simp[List.extract]
theorem tN (x:Array Keyed)(i:Nat):(x.extract i x.size).toList=x.toList.drop i:=by
 simp[List.extract];exact bB7 (by simp)
theorem mI {x:Array Keyed}{i:Nat}(h:i<x.size):[x[i]]=(x.toList.drop i).take 1:=by
 rw[List.drop_eq_getElem_cons (by simpa using h)];simp
structure Gq (st st':SortSt):Prop where
 kd:kindOf st'=kindOf st
 ar:arrOf st'=arrOf st
 pd:pendingOf st'=pendingOf st
 ok:failedOf st'=failedOf st
theorem Gq.refl (st:SortSt):Gq st st:=⟨rfl,rfl,rfl,rfl⟩
section
variable {κ:SortKind}{st:SortSt}{prog:az}{w:bc}{A:ba}{E:aw→ax→Prop}{s:ax}{Ok:Keyed→Prop}
theorem tO {st0:SortSt}{g:Nat}{Q:Unit->SortSt->Prop}(q:Gq st0 st)(h:∀st',Gq st0 st'->Q () st'):wpS (model prog w) A E s (nW g) Q st:=by
 rw[aJ9];exact wpS_modify (h _ ⟨q.kd,q.ar,q.pd,q.ok⟩)
noncomputable def eM (rk:Keyed->Int)(x y r:Array Keyed):Prop:=r.toList.Perm (x.toList++y.toList)/\Sd rk r.toList
theorem MI.y1 {x y o:Array Keyed}(m:MI rk x.toList y.toList o.toList i j)(hj:j<y.size)(h:∀t,i+t<x.size->rk y[j]<=Kr rk x (i+t)):MI rk x.toList y.toList (o.push y[j]).toList i (j+1):=by
 have:=m.ofy 1 λu hu t ht=>?_
 ·rw[<- mI hj]at this;simpa using this
 ·rw[<- mI hj,bq1]at hu
  subst hu
  obtain⟨q,q1,q2⟩:=pZ (rk:=rk) ht
  rw[q2];exact h q q1
theorem MI.x1 {x y o:Array Keyed}(m:MI rk x.toList y.toList o.toList i j)(hi:i<x.size)(h:∀t,j+t<y.size->rk x[i]<=Kr rk y (j+t)):MI rk x.toList y.toList (o.push x[i]).toList (i+1) j:=by
 have:=m.ofx 1 λu hu t ht=>?_
 ·rw[<- mI hi]at this;simpa using this
 ·rw[<- mI hi,bq1]at hu
  subst hu
  obtain⟨q,q1,q2⟩:=pZ (rk:=rk) ht
  rw[q2];exact h q q1
theorem MI.yk {x y o:Array Keyed}(m:MI rk x.toList y.toList o.toList i j)(k:Nat)(h:∀p t,p<k->j+p<y.size->i+t<x.size->Kr rk y (j+p)<=Kr rk x (i+t)):MI rk x.toList y.toList (o++y.extract j (j+k)).toList i (j+k):=by
 have:=m.ofy k λu hu t ht=>?_
 ·rw[<- U8]at this;rw[bv7];exact this
 ·obtain⟨p,p1,p2,p3⟩:=U7 (rk:=rk) hu
  obtain⟨q,q1,q2⟩:=pZ (rk:=rk) ht
  rw[q2,p3];exact h p q p1 p2 q1
theorem MI.xk {x y o:Array Keyed}(m:MI rk x.toList y.toList o.toList i j)(k:Nat)(h:∀p t,p<k->i+p<x.size->j+t<y.size->Kr rk x (i+p)<=Kr rk y (j+t)):MI rk x.toList y.toList (o++x.extract i (i+k)).toList (i+k) j:=by
 have:=m.ofx k λu hu t ht=>?_
 ·rw[<- U8]at this;rw[bv7];exact this
 ·obtain⟨p,p1,p2,p3⟩:=U7 (rk:=rk) hu
  obtain⟨q,q1,q2⟩:=pZ (rk:=rk) ht
  rw[q2,p3];exact h p q p1 p2 q1
theorem nX {key:Keyed}{xs:Array Keyed}{bs i:Nat}:cB rk false key xs bs i=decide (Kr rk xs (bs+i)<=rk key):=rfl
theorem nY {key:Keyed}{xs:Array Keyed}{bs i:Nat}:cB rk true key xs bs i=decide (Kr rk xs (bs+i)<rk key):=rfl
noncomputable def GI (rk:Keyed->Int)(x y:Array Keyed)(lb:Nat)(st:SortSt)(c:LS)(st':SortSt):Prop:=Gq st st'/\∃o i j mg p q,c=(none,o,i,j,mg,p,q)/\MI rk x.toList y.toList o.toList i j/\i+1<x.size/\j<y.size/\lb<=i+j
noncomputable def GQ (rk:Keyed->Int)(x y:Array Keyed)(lb:Nat)(st:SortSt)(c:LS)(st':SortSt):Prop:=Gq st st'/\((∃r o i j mg p q,c=(some r,o,i,j,mg,p,q)/\eM rk x y r)∨∃o i j mg p q,c=(none,o,i,j,mg,p,q)/\MI rk x.toList y.toList o.toList i j/\i+1<x.size/\j<y.size/\lb<=i+j)
noncomputable def GR (rk:Keyed->Int)(x y:Array Keyed)(lb:Nat)(st:SortSt)(r:ForInStep LS)(st':SortSt):Prop:=match r with|.done c=>GQ rk x y lb st c st'|.yield c=>GI rk x y lb st c st'
theorem MI.done {x y o:Array Keyed}(m:MI rk x.toList y.toList o.toList i j)(hh:x.size<=i∨y.size<=j):eM rk x y (o++x.extract i x.size++y.extract j y.size):=by
 unfold eM;rw[bv7,bv7,tN,tN];exact m.fin (by simpa using hh)
theorem MI.last {x y o:Array Keyed}(m:MI rk x.toList y.toList o.toList i j)(x0:0<x.size)(hl:∀u∈y.toList,rk u<=rk x[x.size-1])(hh:i+1=x.size):eM rk x y (o++y.extract j y.size++x.extract i x.size):=by
 unfold eM;rw[bv7,bv7,tN,tN];refine m.lst λu hu t ht=>?_
 obtain⟨q,q1,q2⟩:=pZ (rk:=rk) ht
 have e:i+q=x.size-1:=by omega
 rw[q2,e,cI (by omega)];exact hl u hu
theorem U9 {st0:SortSt}{x y o:Array Keyed}{mg p q lb:Nat}(x0:0<x.size)(hl:∀u∈y.toList,rk u<=rk x[x.size-1])(g:Gq st0 st)(m:MI rk x.toList y.toList o.toList i j)(hi:i+1<x.size)(hj:j<y.size)(hb:lb<=i+j)(hm:∀t,j+t<y.size->rk x[i]<=Kr rk y (j+t)):wpS (model prog w) A E s (tK x y o i j mg p q) (GR rk x y lb st0) st:=by
 unfold tK;have hi':i<x.size:=by omega
 have m':=m.x1 hi' hm;refine br1 (dG hi' ?_);by_cases he:(i+1+1==x.size)=true
 ·rw[if_pos he]
  have he:i+1+1=x.size:=by simpa using he
  exact bs0 ⟨g,.inl ⟨_,_,_,_,_,_,_,rfl,m'.last x0 hl he⟩⟩
 ·rw[if_neg he]
  have he:i+1+1≠x.size:=by simpa using he
  split
  ·exact bs0 ⟨g,.inr ⟨_,_,_,_,_,_,rfl,m',by omega,hj,by omega⟩⟩
  ·exact bs0 ⟨g,_,_,_,_,_,_,rfl,m',by omega,hj,by omega⟩
theorem V0 (c:cR prog w A E s κ Ok rk){st0:SortSt}(hk:kindOf st0=κ){x y o:Array Keyed}{mg p q lb:Nat}(ox:bS Ok x)(oy:bS Ok y)(sx:Sd rk x.toList)(sy:Sd rk y.toList)(x0:0<x.size)(hl:∀u∈y.toList,rk u<=rk x[x.size-1])(g:Gq st0 st)(m:MI rk x.toList y.toList o.toList i j)(hi:i+1<x.size)(hj:j<y.size)(hb:lb<=i+j)(hm:∀t,i+t<x.size->rk y[j]<=Kr rk x (i+t)):wpS (model prog w) A E s (tL x y o i j mg p q) (GR rk x y lb st0) st:=by
 unfold tL;have hi':i<x.size:=by omega
 have m':=m.y1 hj hm;refine br1 (dG hj ?_);by_cases he:(j+1==y.size)=true
 ·rw[if_pos he]
  have he:j+1=y.size:=by simpa using he
  exact bs0 ⟨g,.inl ⟨_,_,_,_,_,_,_,rfl,m'.done (.inr (by omega))⟩⟩
 ·rw[if_neg he]
  have he:j+1≠y.size:=by simpa using he
  refine br1 (dG hi' (br1 (nV c (g.kd.trans hk) (ox _ (bv3 hi')) oy (by omega) (by omega) (sy.up _ _ (by omega)) λk k1 k2 k3=>?_)));dsimp only;have ux:=sx.up 0 _ (bq4 x.size);have mk:=m'.yk k λp t hp _ ht=>by
   have a1:=k2 p hp;rw[nY,bs4]at a1;have a2:=ux i (i+t) (by omega) (by omega) ht;rw[cI hi']at a2;omega
  have km:∀t,j+1+k+t<y.size->rk x[i]<=Kr rk y (j+1+k+t):=λt ht=>by
   have a1:=k3 (k+t) (by omega) (by omega);rw[nY,bA8,<- Nat.add_assoc]at a1;omega
  by_cases hk0:k>0
  ·rw[if_pos hk0]
   by_cases hf:(j+1+k==y.size)=true
   ·rw[if_pos hf]
    have hf:j+1+k=y.size:=by simpa using hf
    exact bs0 ⟨g,.inl ⟨_,_,_,_,_,_,_,rfl,mk.done (.inr (by omega))⟩⟩
   ·rw[if_neg hf]
    have hf:j+1+k≠y.size:=by simpa using hf
    exact U9 x0 hl g mk hi (by omega) (by omega) km
  ·rw[if_neg hk0]
   have e0:k=0:=by omega
   subst e0;exact U9 x0 hl g m' hi (by omega) (by omega) km
theorem V1 (c:cR prog w A E s κ Ok rk){st0:SortSt}(hk:kindOf st0=κ){x y o:Array Keyed}{mg p q lb:Nat}(ox:bS Ok x)(oy:bS Ok y)(sx:Sd rk x.toList)(sy:Sd rk y.toList)(x0:0<x.size)(hl:∀u∈y.toList,rk u<=rk x[x.size-1])(g:Gq st0 st)(m:MI rk x.toList y.toList o.toList i j)(hi:i+1<x.size)(hj:j<y.size)(hb:lb<=i+j) :
  wpS (model prog w) A E s (tM x y o i j mg p q) (GR rk x y lb st0) st:=by
 unfold tM;refine br1 (tO g λst4 q4=>br1 (dG hj (br1 (nV c (q4.kd.trans hk) (oy _ (bv3 hj)) ox (by omega) (by omega) (sx.up _ _ (by omega)) λk k1 k2 k3=>?_))));dsimp only;have uy:=sy.up 0 _ (bq4 y.size);have mk:=m.xk k λp t hp _ ht=>by
  have a1:=k2 p hp;rw[nX,bs4]at a1;have a2:=uy j (j+t) (by omega) (by omega) ht;rw[cI hj]at a2;omega
 have km:∀t,i+k+t<x.size->rk y[j]<=Kr rk x (i+k+t):=λt ht=>by
  have a1:=k3 (k+t) (by omega) (by omega);rw[nX,bA8,<- Nat.add_assoc]at a1;omega
 by_cases hk0:k>0
 ·rw[if_pos hk0]
  by_cases he:(i+k+1==x.size)=true
  ·rw[if_pos he]
   exact bs0 ⟨q4,.inl ⟨_,_,_,_,_,_,_,rfl,mk.last x0 hl (by simpa using he)⟩⟩
  ·rw[if_neg he]
   have he:i+k+1≠x.size:=by simpa using he
   by_cases hf:(i+k==x.size)=true
   ·rw[if_pos hf]
    have hf:i+k=x.size:=by simpa using hf
    exact bs0 ⟨q4,.inl ⟨_,_,_,_,_,_,_,rfl,mk.done (.inl (by omega))⟩⟩
   ·rw[if_neg hf]
    have hf:i+k≠x.size:=by simpa using hf
    exact V0 c hk ox oy sx sy x0 hl q4 mk (by omega) hj (by omega) km
 ·rw[if_neg hk0]
  have e0:k=0:=by omega
  subst e0;exact V0 c hk ox oy sx sy x0 hl q4 m hi hj hb km
theorem aK1 (c:cR prog w A E s κ Ok rk){st0:SortSt}(hk:kindOf st0=κ){x y o:Array Keyed}{mg p q lb:Nat}(ox:bS Ok x)(oy:bS Ok y)(sx:Sd rk x.toList)(sy:Sd rk y.toList)(x0:0<x.size)(hl:∀u∈y.toList,rk u<=rk x[x.size-1])(g:Gq st0 st)(m:MI rk x.toList y.toList o.toList i j)(hi:i+1<x.size)(hj:j<y.size)(hb:lb<=i+j) :
  wpS (model prog w) A E s (xU x y o i j mg p q) (GQ rk x y lb st0) st:=by
 unfold xU;refine bx9 (I:=λ_=>GI rk x y lb st0) ?_ ?_ ⟨g,o,i,j,_,p,q,rfl,m,hi,hj,hb⟩
 ·rintro t c3 st3 _ _ ⟨q3,o,i,j,mg,p,q,rfl,m,hi,hj,pr3⟩
  dsimp only;split
  ·exact bF9 (V1 c hk ox oy sx sy x0 hl q3 m hi hj pr3) λr _ hr=>by cases r<;>exact hr
  ·exact bF9 (V1 c hk ox oy sx sy x0 hl q3 m hi hj pr3) λr _ hr=>by cases r<;>exact hr
 ·rintro c3 st3 ⟨q3,o,i,j,mg,p,q,rfl,m,hi,hj,pr3⟩
  exact⟨q3,.inr ⟨_,_,_,_,_,_,rfl,m,hi,hj,pr3⟩⟩
theorem aK2 (c:cR prog w A E s κ Ok rk){st0:SortSt}(hk:kindOf st0=κ){x y o:Array Keyed}{mg:Nat}{Q:xT->SortSt->Prop}(ox:bS Ok x)(oy:bS Ok y)(sx:Sd rk x.toList)(sy:Sd rk y.toList)(x0:0<x.size)(hl:∀u∈y.toList,rk u<=rk x[x.size-1])(g:Gq st0 st)(m:MI rk x.toList y.toList o.toList i j)(hi:i+1<x.size)(hj:j<y.size)(h1:∀r o' i' j' p q st',Gq st0 st'->eM rk x y r->Q (some r,o',i',j',p,q) st')(h2:∀o' i' j' p q st',Gq st0 st'->MI rk x.toList y.toList o'.toList i' j'->i'+1<x.size->j'<y.size->i+j+1<=i'+j'->Q (none,o',i',j',p,q) st') :
  wpS (model prog w) A E s (xV x y o i j mg) Q st:=by
 have ux:Up rk x 0 x.size:=sx.up 0 _ (bq4 _);have uy:Up rk y 0 y.size:=sy.up 0 _ (bq4 _);unfold xV;refine bx9 (I:=λt c st'=>Gq st0 st'/\∃o i' j' p q,c=(none,o,i',j',p,q)/\MI rk x.toList y.toList o.toList i' j'/\i'+1<x.size/\j'<y.size/\i+j+t<=i'+j') ?_ ?_ ⟨g,o,i,j,0,0,rfl,m,hi,hj,by omega⟩
 ·rintro t c2 st2 _ ht ⟨q2,o,i',j',p,q,rfl,m,hi,hj,pr2⟩
  dsimp only;have hi':i'<x.size:=by omega
  refine br1 (dG hj (br1 (dG hi' (br1 (c _ _ (oy _ (bv3 hj)) (ox _ (bv3 hi')) st2 _ (q2.kd.trans hk) ?_)))));by_cases hc:rk y[j']<rk x[i']
  ·rw[bq2 hc]
   dsimp only;rw[if_pos rfl];have m':=m.y1 hj λt ht=>by
    have:=ux i' (i'+t) (by omega) (by omega) ht
    rw[cI hi']at this;omega
   refine br1 (dG hj ?_);by_cases he:(j'+1==y.size)=true
   ·rw[if_pos he]
    have he:j'+1=y.size:=by simpa using he
    exact bs0 (h1 _ _ _ _ _ _ _ q2 (m'.done (.inr (by omega))))
   ·rw[if_neg he]
    have he:j'+1≠y.size:=by simpa using he
    split
    ·exact bs0 (h2 _ _ _ _ _ _ q2 m' hi (by omega) (by omega))
    ·exact bs0 ⟨q2,_,_,_,_,_,rfl,m',hi,by omega,by omega⟩
  ·rw[bp9 hc]
   dsimp only;rw[if_neg bq7];have m':=m.x1 hi' λt ht=>by
    have:=uy j' (j'+t) (by omega) (by omega) ht
    rw[cI hj]at this;omega
   refine br1 (dG hi' ?_);by_cases he:(i'+1+1==x.size)=true
   ·rw[if_pos he]
    exact bs0 (h1 _ _ _ _ _ _ _ q2 (m'.last x0 hl (by simpa using he)))
   ·rw[if_neg he]
    have he:i'+1+1≠x.size:=by simpa using he
    split
    ·exact bs0 (h2 _ _ _ _ _ _ q2 m' (by omega) hj (by omega))
    ·exact bs0 ⟨q2,_,_,_,_,_,rfl,m',by omega,hj,by omega⟩
 ·rintro c2 st2 ⟨q2,o,i',j',p,q,rfl,m,hi,hj,pr2⟩
  exact h2 _ _ _ _ _ _ q2 m hi hj (by omega)
theorem aK3 (c:cR prog w A E s κ Ok rk)(hk:kindOf st=κ){x y:Array Keyed}{Q:Array Keyed->SortSt->Prop}(ox:bS Ok x)(oy:bS Ok y)(sx:Sd rk x.toList)(sy:Sd rk y.toList)(x0:0<x.size)(y0:0<y.size)(hf:∀t∈x.toList,rk y[0]<=rk t)(hl:∀u∈y.toList,rk u<=rk x[x.size-1])(h:∀r st',Gq st st'->eM rk x y r->Q r st'):wpS (model prog w) A E s (xS x y) Q st:=by
 rw[aK0];refine br1 (wpS_lift (bE7 ⟨rfl,br1 (dG y0 ?_)⟩));have m0:MI rk x.toList y.toList (#[y[0]]:Array Keyed).toList 0 1:=by
  have mm:MI rk x.toList y.toList [] 0 0:=⟨by simp,sx,sy⟩
  have:=mm.ofy 1 λu hu t ht=>?_
  ·rw[<- mI y0]at this;exact this
  ·rw[<- mI y0,bq1]at hu
   subst hu;exact hf t ht
 by_cases e1:(1==y.size)=true
 ·rw[if_pos e1]
  have e1:1=y.size:=by simpa using e1
  exact bs0 (h _ st (Gq.refl st) (m0.done (.inr (by omega))))
 ·rw[if_neg e1]
  have e1:1≠y.size:=by simpa using e1
  by_cases e2:(0+1==x.size)=true
  ·rw[if_pos e2]
   exact bs0 (h _ st (Gq.refl st) (m0.last x0 hl (by simpa using e2)))
  ·rw[if_neg e2]
   have e2:0+1≠x.size:=by simpa using e2
   refine br1 (wpS_get ?_);unfold U6
   refine br1 (bF9 (bx9
    (I:=λn c st'=>Gq st st'/\∃o i j mg,c=(none,o,i,j,mg)/\MI rk x.toList y.toList o.toList i j/\i+1<x.size/\j<y.size/\n+1<=i+j)
    (Q:=λc st'=>Gq st st'/\∃r o i j mg,c=(some r,o,i,j,mg)/\eM rk x y r) ?_ ?_ ⟨Gq.refl st,_,0,1,_,rfl,m0,by omega,by omega,by omega⟩) ?_)
   ·rintro n c1 st1 _ hn ⟨q1,o,i,j,mg,rfl,m,hi,hj,pr⟩
    dsimp only;refine br1 (aK2 c hk ox oy sx sy x0 hl q1 m hi hj (λr o' i' j' p q st' g md=>bs0 ⟨g,r,_,_,_,_,rfl,md⟩) λo' i' j' p q st' g m' hi' hj' pr'=>?_);refine br1 (wpS_lift (bE7 ⟨rfl,?_⟩));refine br1 (bF9 (aK1 c hk ox oy sx sy x0 hl g m' hi' hj' pr') ?_);rintro c3 st3 ⟨q3,⟨r,o,i3,j3,mg,p,q,rfl,md⟩|⟨o,i3,j3,mg,p,q,rfl,m,hi,hj,pr3⟩⟩
    ·exact bs0 ⟨q3,r,_,_,_,_,rfl,md⟩
    ·exact br1 (tO q3 λst4 q4=>bs0 ⟨q4,o,i3,j3,_,rfl,m,hi,hj,by omega⟩)
   ·rintro c1 st1 ⟨q1,o,i,j,mg,rfl,m,hi,hj,pr⟩
    exact absurd pr (by omega)
   ·rintro c1 st1 ⟨q1,r,o,i,j,mg,rfl,md⟩
    exact bs0 (h r _ q1 md)
end
noncomputable def xW:Array Keyed->Array Keyed->StateT SortSt Sem (Array Keyed):=sortPriv% PySem.Builtin.mergeHi
noncomputable abbrev LH:=Option (Array Keyed)×Nat×Nat×Array Keyed×Nat×Nat×Nat
noncomputable abbrev xX:=Option (Array Keyed)×Nat×Nat×Array Keyed×Nat×Nat
noncomputable abbrev LP:=Option (Array Keyed)×Nat×Nat×Array Keyed×Nat
noncomputable def tP (x y o:Array Keyed)(i j mg p q:Nat):StateT SortSt Sem (ForInStep LH):=do
 let v <- elem' x (i-1)
 if (i-1==0)=true then pure (.done (some (x.extract 0 (i-1)++y.extract 0 j++(o.push v).reverse),i-1,j,o.push v,mg,p,q))
 else if (decide (p<7)&&decide (q<7))=true then pure (.done (none,i-1,j,o.push v,mg,p,q)) else pure (.yield (none,i-1,j,o.push v,mg,p,q))
noncomputable def tQ (x y o:Array Keyed)(i j mg p q:Nat):StateT SortSt Sem (ForInStep LH):=do
 let v <- elem' y (j-1)
 if (j-1==1)=true then pure (.done (some (y.extract 0 (j-1)++x.extract 0 i++(o.push v).reverse),i,j-1,o.push v,mg,p,q)) else do
  let u <- elem' x (i-1)
  match <- kZ true u y 0 (j-1) (j-1-1) with
  |some z=>
   if j-1-z>0 then
    if (z==1)=true then pure (.done (some (y.extract 0 z++x.extract 0 i++(o.push v++(y.extract z (j-1)).reverse).reverse),i,z,o.push v++(y.extract z (j-1)).reverse,mg,p,j-1-z))
    else if (z==0)=true then pure (.done (some (x.extract 0 i++y.extract 0 z++(o.push v++(y.extract z (j-1)).reverse).reverse),i,z,o.push v++(y.extract z (j-1)).reverse,mg,p,j-1-z))
    else tP x y (o.push v++(y.extract z (j-1)).reverse) i z mg p (j-1-z)
   else tP x y (o.push v) i (j-1) mg p (j-1-z)
  |_=>pure (.done (some (x.extract 0 i++y.extract 0 (j-1)++(o.push v).reverse),i,j-1,o.push v,mg,p,q))
noncomputable def tR (x y o:Array Keyed)(i j mg p q:Nat):StateT SortSt Sem (ForInStep LH):=do
 nW mg
 let v <- elem' y (j-1)
 match <- kZ false v x 0 i (i-1) with
 |some z=>
  if i-z>0 then
   if (z==0)=true then pure (.done (some (x.extract 0 z++y.extract 0 j++(o++(x.extract z i).reverse).reverse),z,j,o++(x.extract z i).reverse,mg,i-z,q))
   else tQ x y (o++(x.extract z i).reverse) z j mg (i-z) q
  else tQ x y o i j mg (i-z) q
 |_=>pure (.done (some (x.extract 0 i++y.extract 0 j++o.reverse),i,j,o,mg,p,q))
noncomputable def xY (x y o:Array Keyed)(i j mg p q:Nat):StateT SortSt Sem LH:=forIn [0:x.size+y.size] ((none,i,j,o,mg,p,q):LH) λ_ r=>
 if r.2.2.2.2.1>1 then tR x y r.2.2.2.1 r.2.1 r.2.2.1 (r.2.2.2.2.1-1) r.2.2.2.2.2.1 r.2.2.2.2.2.2 else tR x y r.2.2.2.1 r.2.1 r.2.2.1 r.2.2.2.2.1 r.2.2.2.2.2.1 r.2.2.2.2.2.2
noncomputable def xZ (x y o:Array Keyed)(i j mg:Nat):StateT SortSt Sem xX:=forIn [0:x.size+y.size] ((none,i,j,o,0,0):xX) λ_ r=>do
 let v <- elem' y (r.2.2.1-1)
 let u <- elem' x (r.2.1-1)
 match <- lt' v u with
 |some q=>
  if q=true then do
   let u <- elem' x (r.2.1-1)
   if (r.2.1-1==0)=true then pure (.done (some (x.extract 0 (r.2.1-1)++y.extract 0 r.2.2.1++(r.2.2.2.1.push u).reverse),r.2.1-1,r.2.2.1,r.2.2.2.1.push u,r.2.2.2.2.1+1,0))
   else if r.2.2.2.2.1+1 >= mg then pure (.done (none,r.2.1-1,r.2.2.1,r.2.2.2.1.push u,r.2.2.2.2.1+1,0)) else pure (.yield (none,r.2.1-1,r.2.2.1,r.2.2.2.1.push u,r.2.2.2.2.1+1,0))
  else do
   let v <- elem' y (r.2.2.1-1)
   if (r.2.2.1-1==1)=true then pure (.done (some (y.extract 0 (r.2.2.1-1)++x.extract 0 r.2.1++(r.2.2.2.1.push v).reverse),r.2.1,r.2.2.1-1,r.2.2.2.1.push v,0,r.2.2.2.2.2+1))
   else if r.2.2.2.2.2+1 >= mg then pure (.done (none,r.2.1,r.2.2.1-1,r.2.2.2.1.push v,0,r.2.2.2.2.2+1)) else pure (.yield (none,r.2.1,r.2.2.1-1,r.2.2.2.1.push v,0,r.2.2.2.2.2+1))
 |_=>pure (.done (some (x.extract 0 r.2.1++y.extract 0 r.2.2.1++r.2.2.2.1.reverse),r.2.1,r.2.2.1,r.2.2.2.1,r.2.2.2.2.1,r.2.2.2.2.2))
noncomputable def V2 (x y o:Array Keyed)(i j mg:Nat):StateT SortSt Sem LP:=forIn [0:x.size+y.size] ((none,i,j,o,mg):LP) λ_ r=>do
 let u <- xZ x y r.2.2.2.1 r.2.1 r.2.2.1 r.2.2.2.2
 match u.1 with
 |some z=>pure (.done (some z,u.2.1,u.2.2.1,u.2.2.2.1,r.2.2.2.2))
 |none=>do
  liftM (rule "list.sort.gallop")
  let v <- xY x y u.2.2.2.1 u.2.1 u.2.2.1 (r.2.2.2.2+1) u.2.2.2.2.1 u.2.2.2.2.2
  match v.1 with
  |some z=>pure (.done (some z,v.2.1,v.2.2.1,v.2.2.2.1,v.2.2.2.2.1))
  |none=>do
   nW (v.2.2.2.2.1+1)
   pure (.yield (none,v.2.1,v.2.2.1,v.2.2.2.1,v.2.2.2.2.1+1))
theorem aK4 (x y:Array Keyed):xW x y=(do
 liftM (rule "list.sort.merge-hi")
 let v <- elem' x (x.size-1)
 if (x.size-1==0)=true then pure (x.extract 0 (x.size-1)++y.extract 0 y.size++(#[v]:Array Keyed).reverse)
 else if (y.size==1)=true then pure (y.extract 0 y.size++x.extract 0 (x.size-1)++(#[v]:Array Keyed).reverse)
 else do
  let z <- get
  let r <- V2 x y #[v] (x.size-1) y.size (gallopOf z)
  match r.1 with
  |some z=>pure z
  |none=>unsupported "internal:list.sort.merge-bound"):=by kernel_rfl
structure MH (rk:Keyed->Int)(xs ys o:List Keyed)(i j:Nat):Prop where
 pm:o.Perm (xs.drop i++ys.drop j)
 sx:Sd rk (xs.take i++o)
 sy:Sd rk (ys.take j++o)
variable {rk:Keyed→Int}{xs ys o:List Keyed}{i j:Nat}
theorem Sd.insR {o a b d:List Keyed}(h1:Sd rk (a++o))(h2:Sd rk ((d++b)++o))(h:∀t∈a,∀u∈b,rk t<=rk u):Sd rk (a++(b++o)):=by
 unfold Sd at *
 obtain⟨p1,p2,p3⟩:=bv2.mp h1
 obtain⟨q1,q2,q3⟩:=bv2.mp h2
 obtain⟨r1,r2,r3⟩:=bv2.mp q1
 refine bv2.mpr ⟨p1,bv2.mpr ⟨r2,p2,λu hu t ht=>q3 u (bs2 _ hu) t ht⟩,λu hu t ht=>?_⟩;rcases bs3.mp ht with z|z
 ·exact h u hu t z
 ·exact p3 u hu t z
theorem tS (l:List Keyed){z j:Nat}(h:z<=j):l.take z++(l.take j).drop z=l.take j:=by
 have e:l.take z=(l.take j).take z:=by rw[List.take_take,Nat.min_eq_left h]
 rw[e];exact bu7 z _
theorem y7 (l:List Keyed){z j:Nat}(h:z<=j):(l.take j).drop z++l.drop j=l.drop z:=by
 rw[bG6,show l.drop j=(l.drop z).drop (j-z) by rw[List.drop_drop,Nat.add_sub_cancel' h]];exact bu7 _ _
theorem MH.ofy (m:MH rk xs ys o i j){z:Nat}(hz:z<=j)(h:∀t∈xs.take i,∀u∈(ys.take j).drop z,rk t<=rk u):MH rk xs ys ((ys.take j).drop z++o) i z:=by
 refine⟨?_,Sd.insR m.sx (d:=ys.take z) (by rw[tS _ hz];exact m.sy) h,by rw[<- bs6,tS _ hz];exact m.sy⟩;rw[<- y7 ys hz];refine (m.pm.append_left _).trans ?_;rw[<- bs6,<- bs6];exact (List.perm_append_comm).append_right _
theorem MH.ofx (m:MH rk xs ys o i j){z:Nat}(hz:z<=i)(h:∀t∈ys.take j,∀u∈(xs.take i).drop z,rk t<=rk u):MH rk xs ys ((xs.take i).drop z++o) z j:=by
 refine⟨?_,by rw[<- bs6,tS _ hz];exact m.sx,Sd.insR m.sy (d:=xs.take z) (by rw[tS _ hz];exact m.sx) h⟩;rw[<- y7 xs hz,bs6];exact m.pm.append_left _
theorem MH.fin (m:MH rk xs ys o i j)(h:i=0∨j=0):(xs.take i++ys.take j++o).Perm (xs++ys)/\Sd rk (xs.take i++ys.take j++o):=by
 refine⟨?_,?_⟩
 ·have e1:xs=xs.take i++xs.drop i:=(bu7 i xs).symm
  have e2:ys=ys.take j++ys.drop j:=(bu7 j ys).symm
  conv=>rhs;rw[e1,e2]
  rw[bs6,bs6];refine List.Perm.append_left _ ((m.pm.append_left _).trans ?_);rw[<- bs6,<- bs6];exact (List.perm_append_comm).append_right _
 ·rcases h with h|h
  ·subst h;simpa using m.sy
  ·subst h;simpa using m.sx
theorem MH.fst (m:MH rk xs ys o i j)(h:∀t∈ys.take j,∀u∈xs,rk t<=rk u):(ys.take j++xs.take i++o).Perm (xs++ys)/\Sd rk (ys.take j++xs.take i++o):=by
 have m2:=m.ofx (bu8 i) λt ht u hu=>h t ht u (bD5 (List.mem_of_mem_drop hu))
 have f:=m2.fin (.inl rfl);simpa using f
theorem qA {x:Array Keyed}{i:Nat}{u:Keyed}(h:u∈x.toList.take i):∃t,t<i/\t<x.size/\rk u=Kr rk x t:=by
 obtain⟨t,ht,e⟩:=List.getElem_of_mem h
 have h1:t<i/\t<x.size:=by simp at ht;omega
 refine⟨t,h1.1,h1.2,?_⟩;rw[cI h1.2,<- e];simp
theorem qB {x:Array Keyed}{z i:Nat}{u:Keyed}(h:u∈(x.toList.take i).drop z):∃t,z<=t/\t<i/\t<x.size/\rk u=Kr rk x t:=by
 obtain⟨t,ht,e⟩:=List.getElem_of_mem h
 have h1:z+t<i/\z+t<x.size:=by simp at ht;omega
 refine⟨z+t,by omega,h1.1,h1.2,?_⟩;rw[cI h1.2,<- e];simp
theorem mJ (x:Array Keyed)(z i:Nat):(x.extract z i).toList=(x.toList.take i).drop z:=by
 rw[bG6];simp[List.extract]
theorem tT (x:Array Keyed)(i:Nat):(x.extract 0 i).toList=x.toList.take i:=by
 simp[List.extract]
theorem qD {x:Array Keyed}{i:Nat}(h:i<x.size):[x[i]]=(x.toList.take (i+1)).drop i:=by
 rw[bG6,mI h,show i+1-i=1 by omega]
section
variable {κ:SortKind}{st:SortSt}{prog:az}{w:bc}{A:ba}{E:aw→ax→Prop}{s:ax}{Ok:Keyed→Prop}
theorem MH.y1 {x y o:Array Keyed}(m:MH rk x.toList y.toList o.toList.reverse i (j+1))(hj:j<y.size)(h:∀t,t<i->t<x.size->Kr rk x t<=rk y[j]):MH rk x.toList y.toList (o.push y[j]).toList.reverse i j:=by
 have:=m.ofy (Nat.le_succ j) λt ht u hu=>?_
 ·rw[<- qD hj]at this;simpa using this
 ·rw[<- qD hj,bq1]at hu
  subst hu
  obtain⟨q,q1,q2,q3⟩:=qA (rk:=rk) ht
  rw[q3];exact h q q1 q2
theorem MH.x1 {x y o:Array Keyed}(m:MH rk x.toList y.toList o.toList.reverse (i+1) j)(hi:i<x.size)(h:∀t,t<j->t<y.size->Kr rk y t<=rk x[i]):MH rk x.toList y.toList (o.push x[i]).toList.reverse i j:=by
 have:=m.ofx (Nat.le_succ i) λt ht u hu=>?_
 ·rw[<- qD hi]at this;simpa using this
 ·rw[<- qD hi,bq1]at hu
  subst hu
  obtain⟨q,q1,q2,q3⟩:=qA (rk:=rk) ht
  rw[q3];exact h q q1 q2
theorem MH.yk {x y o:Array Keyed}(m:MH rk x.toList y.toList o.toList.reverse i j){z:Nat}(hz:z<=j)(h:∀t p,t<i->t<x.size->z<=p->p<j->p<y.size->Kr rk x t<=Kr rk y p):MH rk x.toList y.toList (o++(y.extract z j).reverse).toList.reverse i z:=by
 have:=m.ofy hz λt ht u hu=>?_
 ·rw[<- mJ]at this;simpa using this
 ·obtain⟨q,q1,q2,q3⟩:=qA (rk:=rk) ht
  obtain⟨p,p1,p2,p3,p4⟩:=qB (rk:=rk) hu
  rw[q3,p4];exact h q p q1 q2 p1 p2 p3
theorem MH.xk {x y o:Array Keyed}(m:MH rk x.toList y.toList o.toList.reverse i j){z:Nat}(hz:z<=i)(h:∀t p,t<j->t<y.size->z<=p->p<i->p<x.size->Kr rk y t<=Kr rk x p):MH rk x.toList y.toList (o++(x.extract z i).reverse).toList.reverse z j:=by
 have:=m.ofx hz λt ht u hu=>?_
 ·rw[<- mJ]at this;simpa using this
 ·obtain⟨q,q1,q2,q3⟩:=qA (rk:=rk) ht
  obtain⟨p,p1,p2,p3,p4⟩:=qB (rk:=rk) hu
  rw[q3,p4];exact h q p q1 q2 p1 p2 p3
theorem MH.done {x y o:Array Keyed}(m:MH rk x.toList y.toList o.toList.reverse i j)(hh:i=0∨j=0):eM rk x y (x.extract 0 i++y.extract 0 j++o.reverse):=by
 unfold eM;rw[bv7,bv7,tT,tT,Array.toList_reverse];exact m.fin hh
theorem MH.frst {x y o:Array Keyed}(m:MH rk x.toList y.toList o.toList.reverse i j)(y0:0<y.size)(hf:∀t∈x.toList,rk y[0]<=rk t)(hh:j=1):eM rk x y (y.extract 0 j++x.extract 0 i++o.reverse):=by
 unfold eM;rw[bv7,bv7,tT,tT,Array.toList_reverse];refine m.fst λt ht u hu=>?_
 subst hh
 obtain⟨q,q1,q2,q3⟩:=qA (rk:=rk) ht
 have e:q=0:=by omega
 subst e;rw[q3,cI y0];exact hf u hu
structure HB (rk:Keyed->Int)(x y:Array Keyed)(lb i j:Nat)(o:Array Keyed):Prop where
 m:MH rk x.toList y.toList o.toList.reverse i j
 i0:0<i
 i1:i<x.size
 j0:1<j
 j1:j<=y.size
 pr:i+j+lb<=x.size+y.size
noncomputable def HI (rk:Keyed->Int)(x y:Array Keyed)(lb:Nat)(st:SortSt)(c:LH)(st':SortSt):Prop:=Gq st st'/\∃i j o mg p q,c=(none,i,j,o,mg,p,q)/\HB rk x y lb i j o
noncomputable def HQ (rk:Keyed->Int)(x y:Array Keyed)(lb:Nat)(st:SortSt)(c:LH)(st':SortSt):Prop:=Gq st st'/\((∃r i j o mg p q,c=(some r,i,j,o,mg,p,q)/\eM rk x y r)∨∃i j o mg p q,c=(none,i,j,o,mg,p,q)/\HB rk x y lb i j o)
noncomputable def HR (rk:Keyed->Int)(x y:Array Keyed)(lb:Nat)(st:SortSt)(r:ForInStep LH)(st':SortSt):Prop:=match r with|.done c=>HQ rk x y lb st c st'|.yield c=>HI rk x y lb st c st'
theorem V3 {st0:SortSt}{x y o:Array Keyed}{i j mg p q lb:Nat}(g:Gq st0 st)(b:HB rk x y lb (i+1) j o)(hm:∀(hi:i<x.size) t,t<j->t<y.size->Kr rk y t<=rk x[i]):wpS (model prog w) A E s (tP x y o (i+1) j mg p q) (HR rk x y lb st0) st:=by
 unfold tP
 obtain⟨m,i0,i1,j0,j1,pr⟩:=b
 have hi':i<x.size:=by omega
 have m':=m.x1 hi' (hm hi');simp only[Nat.add_sub_cancel];refine br1 (dG hi' ?_);by_cases he:(i==0)=true
 ·rw[if_pos he]
  have he:i=0:=by simpa using he
  exact bs0 ⟨g,.inl ⟨_,_,_,_,_,_,_,rfl,m'.done (.inl he)⟩⟩
 ·rw[if_neg he]
  have he:i≠0:=by simpa using he
  split
  ·exact bs0 ⟨g,.inr ⟨_,_,_,_,_,_,rfl,m',by omega,by omega,j0,j1,by omega⟩⟩
  ·exact bs0 ⟨g,_,_,_,_,_,_,rfl,m',by omega,by omega,j0,j1,by omega⟩
theorem V4 (c:cR prog w A E s κ Ok rk){st0:SortSt}(hk:kindOf st0=κ){x y o:Array Keyed}{i j mg p q lb:Nat}(ox:bS Ok x)(oy:bS Ok y)(sx:Sd rk x.toList)(sy:Sd rk y.toList)(y0:0<y.size)(hf:∀t∈x.toList,rk y[0]<=rk t)(g:Gq st0 st)(b:HB rk x y lb (i+1) (j+1) o)(hm:∀(hj:j<y.size) t,t<i+1->t<x.size->Kr rk x t<=rk y[j]):wpS (model prog w) A E s (tQ x y o (i+1) (j+1) mg p q) (HR rk x y lb st0) st:=by
 unfold tQ
 obtain⟨m,i0,i1,j0,j1,pr⟩:=b
 have hi':i<x.size:=by omega
 have hj:j<y.size:=by omega
 have m':=m.y1 hj (hm hj);simp only[Nat.add_sub_cancel];refine br1 (dG hj ?_);by_cases he:(j==1)=true
 ·rw[if_pos he]
  have he:j=1:=by simpa using he
  exact bs0 ⟨g,.inl ⟨_,_,_,_,_,_,_,rfl,m'.frst y0 hf he⟩⟩
 ·rw[if_neg he]
  have he:j≠1:=by simpa using he
  refine br1 (dG hi' (br1 (nV c (g.kd.trans hk) (ox _ (bv3 hi')) oy (by omega) (by omega) (sy.up _ _ (by omega)) λz k1 k2 k3=>?_)));dsimp only;have ux:=sx.up 0 _ (bq4 x.size);have mk:=m'.yk k1 λt p ht ht' hp hp' _=>by
   have a1:=k3 p hp hp';rw[nY,bA8,bE4]at a1;have a2:=ux t i (by omega) (by omega) hi';rw[cI (i:=i) hi']at a2;omega
  have km:∀(hi:i<x.size) t,t<z->t<y.size->Kr rk y t<=rk x[i]:=λ_ t ht _=>by
   have a1:=k2 t ht;rw[nY,bs4,bE4]at a1;omega
  by_cases hk0:j-z>0
  ·rw[if_pos hk0]
   by_cases h1:(z==1)=true
   ·rw[if_pos h1]
    have h1:z=1:=by simpa using h1
    exact bs0 ⟨g,.inl ⟨_,_,_,_,_,_,_,rfl,mk.frst y0 hf h1⟩⟩
   ·rw[if_neg h1]
    have h1:z≠1:=by simpa using h1
    by_cases h0:(z==0)=true
    ·rw[if_pos h0]
     have h0:z=0:=by simpa using h0
     exact bs0 ⟨g,.inl ⟨_,_,_,_,_,_,_,rfl,mk.done (.inr h0)⟩⟩
    ·rw[if_neg h0]
     have h0:z≠0:=by simpa using h0
     exact V3 g ⟨mk,by omega,i1,by omega,by omega,by omega⟩ km
  ·rw[if_neg hk0]
   have e0:z=j:=by omega
   subst e0;exact V3 g ⟨m',by omega,i1,by omega,by omega,by omega⟩ km
theorem V5 (c:cR prog w A E s κ Ok rk){st0:SortSt}(hk:kindOf st0=κ){x y o:Array Keyed}{i j mg p q lb:Nat}(ox:bS Ok x)(oy:bS Ok y)(sx:Sd rk x.toList)(sy:Sd rk y.toList)(y0:0<y.size)(hf:∀t∈x.toList,rk y[0]<=rk t)(g:Gq st0 st)(b:HB rk x y lb i (j+1) o) :
  wpS (model prog w) A E s (tR x y o i (j+1) mg p q) (HR rk x y lb st0) st:=by
 unfold tR
 obtain⟨m,i0,i1,j0,j1,pr⟩:=b
 have hj:j<y.size:=by omega
 simp only[Nat.add_sub_cancel];refine br1 (tO g λst4 q4=>br1 (dG hj (br1 (nV c (q4.kd.trans hk) (oy _ (bv3 hj)) ox (by omega) (by omega) (sx.up _ _ (by omega)) λz k1 k2 k3=>?_))));dsimp only;have uy:=sy.up 0 _ (bq4 y.size);have mk:=m.xk k1 λt p ht ht' hp hp' _=>by
  have a1:=k3 p hp hp';rw[nX,bA8,bE4]at a1;have a2:=uy t j (by omega) (by omega) hj;rw[cI (i:=j) hj]at a2;omega
 have km:∀(hj:j<y.size) t,t<z->t<x.size->Kr rk x t<=rk y[j]:=λ_ t ht _=>by
  have a1:=k2 t ht;rw[nX,bs4,bE4]at a1;exact a1
 by_cases hk0:i-z>0
 ·rw[if_pos hk0]
  by_cases he:(z==0)=true
  ·rw[if_pos he]
   exact bs0 ⟨q4,.inl ⟨_,_,_,_,_,_,_,rfl,mk.done (.inl (by simpa using he))⟩⟩
  ·rw[if_neg he]
   have he:z≠0:=by simpa using he
   obtain⟨z2,rfl⟩:∃z2,z=z2+1:=⟨z-1,by omega⟩
   exact V4 c hk ox oy sx sy y0 hf q4 ⟨mk,by omega,by omega,j0,j1,by omega⟩ km
 ·rw[if_neg hk0]
  have e0:z=i:=by omega
  subst e0
  obtain⟨z2,rfl⟩:∃z2,z=z2+1:=⟨z-1,by omega⟩
  exact V4 c hk ox oy sx sy y0 hf q4 ⟨m,i0,i1,j0,j1,pr⟩ km
theorem aK5 (c:cR prog w A E s κ Ok rk){st0:SortSt}(hk:kindOf st0=κ){x y o:Array Keyed}{i j mg p q lb:Nat}(ox:bS Ok x)(oy:bS Ok y)(sx:Sd rk x.toList)(sy:Sd rk y.toList)(y0:0<y.size)(hf:∀t∈x.toList,rk y[0]<=rk t)(g:Gq st0 st)(b:HB rk x y lb i j o) :
  wpS (model prog w) A E s (xY x y o i j mg p q) (HQ rk x y lb st0) st:=by
 unfold xY;refine bx9 (I:=λ_=>HI rk x y lb st0) ?_ ?_ ⟨g,i,j,o,_,p,q,rfl,b⟩
 ·rintro t c3 st3 _ _ ⟨q3,i,j,o,mg,p,q,rfl,b3⟩
  obtain⟨j3,rfl⟩:∃j3,j=j3+1:=⟨j-1,by have:=b3.j0;omega⟩
  dsimp only;split
  ·exact bF9 (V5 c hk ox oy sx sy y0 hf q3 b3) λr _ hr=>by cases r<;>exact hr
  ·exact bF9 (V5 c hk ox oy sx sy y0 hf q3 b3) λr _ hr=>by cases r<;>exact hr
 ·rintro c3 st3 ⟨q3,i,j,o,mg,p,q,rfl,b3⟩
  exact⟨q3,.inr ⟨_,_,_,_,_,_,rfl,b3⟩⟩
theorem aK6 (c:cR prog w A E s κ Ok rk){st0:SortSt}(hk:kindOf st0=κ){x y o:Array Keyed}{i j mg n:Nat}{Q:xX->SortSt->Prop}(ox:bS Ok x)(oy:bS Ok y)(sx:Sd rk x.toList)(sy:Sd rk y.toList)(y0:0<y.size)(hf:∀t∈x.toList,rk y[0]<=rk t)(g:Gq st0 st)(b:HB rk x y n i j o)(h1:∀r i' j' o' p q st',Gq st0 st'->eM rk x y r->Q (some r,i',j',o',p,q) st')(h2:∀i' j' o' p q st',Gq st0 st'->HB rk x y (n+1) i' j' o'->Q (none,i',j',o',p,q) st') :
  wpS (model prog w) A E s (xZ x y o i j mg) Q st:=by
 have ux:Up rk x 0 x.size:=sx.up 0 _ (bq4 _);have uy:Up rk y 0 y.size:=sy.up 0 _ (bq4 _);unfold xZ;refine bx9 (I:=λt c st'=>Gq st0 st'/\∃i j o p q,c=(none,i,j,o,p,q)/\HB rk x y (n+t) i j o) ?_ ?_ ⟨g,i,j,o,0,0,rfl,b⟩
 ·rintro t c2 st2 _ ht ⟨q2,i',j',o,p,q,rfl,m,i0,i1,j0,j1,pr⟩
  obtain⟨i2,rfl⟩:∃i2,i'=i2+1:=⟨i'-1,by omega⟩
  obtain⟨j2,rfl⟩:∃j2,j'=j2+1:=⟨j'-1,by omega⟩
  simp only[Nat.add_sub_cancel];have hi:i2<x.size:=by omega
  have hj:j2<y.size:=by omega
  refine br1 (dG hj (br1 (dG hi (br1 (c _ _ (oy _ (bv3 hj)) (ox _ (bv3 hi)) st2 _ (q2.kd.trans hk) ?_)))));by_cases hc:rk y[j2]<rk x[i2]
  ·rw[bq2 hc]
   dsimp only;rw[if_pos rfl];have m':=m.x1 hi λt ht _=>by
    have:=uy t j2 (by omega) (by omega) hj
    rw[cI hj]at this;omega
   refine br1 (dG hi ?_);by_cases he:(i2==0)=true
   ·rw[if_pos he]
    exact bs0 (h1 _ _ _ _ _ _ _ q2 (m'.done (.inl (by simpa using he))))
   ·rw[if_neg he]
    have he:i2≠0:=by simpa using he
    split
    ·exact bs0 (h2 _ _ _ _ _ _ q2 ⟨m',by omega,by omega,j0,j1,by omega⟩)
    ·exact bs0 ⟨q2,_,_,_,_,_,rfl,m',by omega,by omega,j0,j1,by omega⟩
  ·rw[bp9 hc]
   dsimp only;rw[if_neg bq7];have m':=m.y1 hj λt ht _=>by
    have:=ux t i2 (by omega) (by omega) hi
    rw[cI hi]at this;omega
   refine br1 (dG hj ?_);by_cases he:(j2==1)=true
   ·rw[if_pos he]
    exact bs0 (h1 _ _ _ _ _ _ _ q2 (m'.frst y0 hf (by simpa using he)))
   ·rw[if_neg he]
    have he:j2≠1:=by simpa using he
    split
    ·exact bs0 (h2 _ _ _ _ _ _ q2 ⟨m',i0,i1,by omega,by omega,by omega⟩)
    ·exact bs0 ⟨q2,_,_,_,_,_,rfl,m',i0,i1,by omega,by omega,by omega⟩
 ·rintro c2 st2 ⟨q2,i',j',o,p,q,rfl,m,i0,i1,j0,j1,pr⟩
  exact h2 _ _ _ _ _ _ q2 ⟨m,i0,i1,j0,j1,by omega⟩
theorem aK7 (c:cR prog w A E s κ Ok rk)(hk:kindOf st=κ){x y:Array Keyed}{Q:Array Keyed->SortSt->Prop}(ox:bS Ok x)(oy:bS Ok y)(sx:Sd rk x.toList)(sy:Sd rk y.toList)(x0:0<x.size)(y0:0<y.size)(hf:∀t∈x.toList,rk y[0]<=rk t)(hl:∀u∈y.toList,rk u<=rk x[x.size-1])(h:∀r st',Gq st st'->eM rk x y r->Q r st'):wpS (model prog w) A E s (xW x y) Q st:=by
 rw[aK4];refine br1 (wpS_lift (bE7 ⟨rfl,br1 (dG (by omega:x.size-1<x.size) ?_)⟩));have m0:MH rk x.toList y.toList (#[x[x.size-1]]:Array Keyed).toList.reverse (x.size-1) y.size:=by
  have mm:MH rk x.toList y.toList [] x.size y.size:=⟨by simp,by rw[bB7 (by simp),bu0];exact sx,by rw[bB7 (by simp),bu0];exact sy⟩;have e:=qD (x:=x) (i:=x.size-1) (by omega);rw[show x.size-1+1=x.size by omega]at e
  have:=mm.ofx (Nat.sub_le x.size 1) λt ht u hu=>?_
  ·rw[<- e]at this;simpa using this
  ·rw[<- e,bq1]at hu
   subst hu;exact hl t (bD5 ht)
 by_cases e1:(x.size-1==0)=true
 ·rw[if_pos e1]
  exact bs0 (h _ st (Gq.refl st) (m0.done (.inl (by simpa using e1))))
 ·rw[if_neg e1]
  have e1:x.size-1≠0:=by simpa using e1
  by_cases e2:(y.size==1)=true
  ·rw[if_pos e2]
   exact bs0 (h _ st (Gq.refl st) (m0.frst y0 hf (by simpa using e2)))
  ·rw[if_neg e2]
   have e2:y.size≠1:=by simpa using e2
   refine br1 (wpS_get ?_);unfold V2
   refine br1 (bF9 (bx9
    (I:=λn c st'=>Gq st st'/\∃i j o mg,c=(none,i,j,o,mg)/\HB rk x y (n+1) i j o)
    (Q:=λc st'=>Gq st st'/\∃r i j o mg,c=(some r,i,j,o,mg)/\eM rk x y r) ?_ ?_ ⟨Gq.refl st,_,_,_,_,rfl,m0,by omega,by omega,by omega,by omega,by omega⟩) ?_)
   ·rintro n c1 st1 _ hn ⟨q1,i,j,o,mg,rfl,b⟩
    dsimp only;refine br1 (aK6 c hk ox oy sx sy y0 hf q1 b (λr o' i' j' p q st' g md=>bs0 ⟨g,r,_,_,_,_,rfl,md⟩) λi' j' o' p q st' g b'=>?_);refine br1 (wpS_lift (bE7 ⟨rfl,?_⟩));refine br1 (bF9 (aK5 c hk ox oy sx sy y0 hf g b') ?_);rintro c3 st3 ⟨q3,⟨r,i3,j3,o,mg,p,q,rfl,md⟩|⟨i3,j3,o,mg,p,q,rfl,b3⟩⟩
    ·exact bs0 ⟨q3,r,_,_,_,_,rfl,md⟩
    ·exact br1 (tO q3 λst4 q4=>bs0 ⟨q4,i3,j3,o,_,rfl,b3⟩)
   ·rintro c1 st1 ⟨q1,i,j,o,mg,rfl,b⟩
    have:=b.pr
    exact absurd this (by omega)
   ·rintro c1 st1 ⟨q1,r,i,j,o,mg,rfl,md⟩
    exact bs0 (h r _ q1 md)
end
theorem aK8 (i:Nat):mergeAt' i=(do
 let z <- get
 let (some (sa,na,pw),some (sb,nb,_)):=((pendingOf z)[i]?,(pendingOf z)[i+1]?)|unsupported "internal:list.sort.pending"
 set (SortSt.mk' (kindOf z) (arrOf z) (((pendingOf z).setIfInBounds i (sa,na+nb,pw)).eraseIdxIfInBounds (i+1)) (gallopOf z) (failedOf z))
 let some k <- kZ false (<- elem' (arrOf z) sb) (arrOf z) sa na 0|return false
 let (sa,na):=(sa+k,na-k)
 if na==0 then return true
 let some nb <- kZ true (<- elem' (arrOf z) (sa+na-1)) (arrOf z) sb nb (nb-1)|return false
 if nb==0 then return true
 let x:=(arrOf z).extract sa sb
 let y:=(arrOf z).extract sb (sb+nb)
 let m <- if na<=nb then xS x y else xW x y
 modify λz=>setArr z (m.toList.zipIdx.foldl (λa (p,j)=>a.setIfInBounds (sa+j) p) (arrOf z))
 return (failedOf (<- get)).isNone):=rfl
variable {rk:Keyed→Int}
theorem aK9 {σ:Type}{M:Model}{A:ba}{E:aw->ax->Prop}{s:ax}{a b:σ}{Q:PUnit->σ->Prop}(h:Q ⟨⟩ a):wpS M A E s (set a:StateT σ Sem PUnit) Q b:=by
 unfold wpS;rw[StateT.run_set];exact bq5 ⟨rfl,h⟩
theorem V6 (o:Nat):∀(m:List Keyed) (n:Nat) (a:Array Keyed) (t:Nat),o+n+m.length<=a.size->
  ((m.zipIdx n).foldl (λa (p,j)=>a.setIfInBounds (o+j) p) a)[t]? = if o+n<=t/\t<o+n+m.length then m[t-(o+n)]? else a[t]?
 |[],n,a,t,_=>by
  show a[t]? = _;rw[if_neg (λz=>Nat.not_lt_of_ge z.1 z.2)]
 |p::m,n,a,t,h=>by
  rw[List.zipIdx_cons,List.foldl_cons];have h':o+(n+1)+m.length<=(a.setIfInBounds (o+n) p).size:=by rw[Array.size_setIfInBounds];simp at h;omega
  have ih:=V6 o m (n+1) (a.setIfInBounds (o+n) p) t h';refine ih.trans ?_;have hs:o+n<a.size:=by simp at h;omega
  rw[Array.getElem?_setIfInBounds];by_cases e:o+n=t
  ·subst e
   rw[if_neg (by omega),if_pos rfl,if_pos hs,if_pos (by simp),Nat.sub_self];rfl
  ·rw[if_neg e]
   by_cases c:o+n<=t/\t<o+n+(p::m).length
   ·rw[if_pos c,if_pos (by simp at c;omega)]
    rw[show t-(o+n)=(t-(o+(n+1)))+1 by omega];rfl
   ·rw[if_neg c,if_neg (by simp at c ⊢;omega)]
theorem V7 {a:Array Keyed}{lo hi:Nat}(u:Up rk a lo hi)(hh:hi<=a.size):Sd rk (a.extract lo hi).toList:=by
 unfold Sd;rw[bw4];intro i j hi' hj hij;have h2:lo+j<hi:=by simp at hj;omega
 have:=u (lo+i) (lo+j) (by omega) (by omega) h2
 rw[cI (by omega:lo+i<a.size),cI (by omega:lo+j<a.size)]at this;simpa using this
theorem V8 {a:Array Keyed}{lo mid hi:Nat}(u:Up rk a lo mid)(v:Up rk a mid hi)(h0:lo<mid)(h1:mid<hi)(h:Kr rk a (mid-1)<=Kr rk a mid):Up rk a lo hi:=λi j hi' hij hj=>by
 rcases bw2 j mid with z|z
 ·exact u i j hi' hij z
 ·rcases bw2 i mid with y|y
  ·have a1:=u i (mid-1) hi' (by omega) (by omega)
   have a2:=v mid j (bq4 _) z hj;omega
  ·exact v i j y hij hj
theorem V9 {a:Array Keyed}{lo hi t:Nat}(h:t<hi-lo)(hh:hi<=a.size):Kr rk (a.extract lo hi) t=Kr rk a (lo+t):=by
 refine mG ?_;rw[Array.getElem?_extract_of_lt (by omega)];exact (getElem?_pos a (lo+t) (by omega)).symm
section
variable {κ:SortKind}{a0:Array Keyed}{pd:Array (Nat×Nat×Nat)}{st:SortSt}{prog:az}{w:bc}{A:ba}{E:aw→ax→Prop}{s:ax}{Ok:Keyed→Prop}
theorem aL0 {a m:Array Keyed}{p x e:Nat}(hpx:p<=x)(hxe:x<=e)(he:e<=a.size)(md:eM rk (a.extract p x) (a.extract x e) m) :
  let r:=m.toList.zipIdx.foldl (λa (q,j)=>a.setIfInBounds (p+j) q) a
  r.Perm a/\(∀t,(t<p∨e<=t)->Kr rk r t=Kr rk a t)/\(∀t t',p<=t->t<=t'->t'<e->Kr rk r t<=Kr rk r t')/\∀t,p<=t->t<e->∃t',p<=t'/\t'<e/\Kr rk r t=Kr rk a t':=by
 intro r;have ml:m.toList.length=e-p:=by
  rw[md.1.length_eq];simp;omega
 have g:∀t,r[t]? = if p<=t/\t<e then m[t-p]? else a[t]?:=λt=>by
  have:=V6 p m.toList 0 a t (by omega)
  rw[show r=(m.toList.zipIdx 0).foldl (λa (q,j)=>a.setIfInBounds (p+j) q) a from rfl,this];simp only[Nat.add_zero,ml,show p+(e-p)=e by omega,by8]
 have ex:(a.extract p x).toList++(a.extract x e).toList=(a.toList.take e).drop p:=by
  rw[mJ,mJ,bG6,bG6,bG6];rw[show x=p+(x-p) by omega,<- List.drop_drop,show p+(x-p)-p=x-p by omega,show e-(p+(x-p))=(e-p)-(x-p) by omega]
  have:=bu7 (x-p) ((a.toList.drop p).take (e-p))
  rw[List.take_take,bG6,Nat.min_eq_left (by omega)]at this;exact this
 have rl:r.toList=a.toList.take p++(m.toList++a.toList.drop e):=by
  apply List.ext_getElem?;intro t;rw[by8,g];rcases bw2 t p with z|z
  ·rw[if_neg (by omega),bz9 (by simp;omega),List.getElem?_take_of_lt z,by8]
  ·rw[bB2 (by simp;omega)]
   have lp:(a.toList.take p).length=p:=by simp;omega
   rw[lp];rcases bw2 t e with y|y
   ·rw[if_pos ⟨z,y⟩,bz9 (by omega),by8]
   ·rw[if_neg (by omega),bB2 (by omega),ml,List.getElem?_drop,by8]
    congr 1;omega
 have mp:m.toList.Perm ((a.toList.take e).drop p):=ex▸md.1;refine⟨?_,λt ht=>mG (by rw[g,if_neg (by omega)]),λt t' h1 h2 h3=>?_,λt h1 h2=>?_⟩
 ·refine Array.perm_iff_toList_perm.mpr ?_
  rw[rl]
  have:a.toList=a.toList.take p++((a.toList.take e).drop p++a.toList.drop e):=by
   rw[y7 _ (by omega:p<=e)];exact (bu7 p _).symm
  conv=>rhs;rw[this]
  exact (mp.append_right _).append_left _
 ·have e1:Kr rk r t=Kr rk m (t-p):=mG (by rw[g,if_pos (by omega)])
  have e2:Kr rk r t'=Kr rk m (t'-p):=mG (by rw[g,if_pos (by omega)]);rw[e1,e2];have ms:m.size=e-p:=by rw[<- ml];simp
  exact md.2.up 0 m.size (bq4 _) (t-p) (t'-p) (by omega) (by omega) (by omega)
 ·have e1:Kr rk r t=Kr rk m (t-p):=mG (by rw[g,if_pos (by omega)])
  have ms:m.size=e-p:=by rw[<- ml];simp
  have hm:t-p<m.size:=by omega
  have mm:m[t-p]∈(a.toList.take e).drop p:=mp.mem_iff.mp (by simp)
  obtain⟨t',q1,q2,q3,q4⟩:=qB (rk:=rk) mm
  exact⟨t',q1,q2,by rw[e1,cI hm];exact q4⟩
theorem aL1 (c:cR prog w A E s κ Ok rk)(o:bS Ok a0)(b:SB κ a0 pd st){i sa na pw sb nb pw':Nat}{Q:Bool->SortSt->Prop}(e1:pd[i]? = some (sa,na,pw))(e2:pd[i+1]? = some (sb,nb,pw'))(hs:sb=sa+na)(n0:0<na)(m0:0<nb)(hz:sb+nb<=a0.size)(u:Up rk (arrOf st) sa sb)(v:Up rk (arrOf st) sb (sb+nb))(h:∀st',SB κ a0 ((pd.setIfInBounds i (sa,na+nb,pw)).eraseIdxIfInBounds (i+1)) st'->Up rk (arrOf st') sa (sb+nb)->(∀t,(t<sa∨sb+nb<=t)->Kr rk (arrOf st') t=Kr rk (arrOf st) t)->Q true st'):wpS (model prog w) A E s (mergeAt' i) Q st:=by
 have sz:=b.sz;rw[aK8];refine br1 (wpS_get ?_);rw[b.pd,e1,e2];dsimp only;refine br1 (aK9 ?_);generalize hst:SortSt.mk' (kindOf st) (arrOf st) ((pd.setIfInBounds i (sa,na+nb,pw)).eraseIdxIfInBounds (i+1)) (gallopOf st) (failedOf st)=st1;have b1:SB κ a0 ((pd.setIfInBounds i (sa,na+nb,pw)).eraseIdxIfInBounds (i+1)) st1:=by rw[<- hst];exact⟨b.pm,b.kd,b.ok,rfl⟩
 have ar:arrOf st1=arrOf st:=by rw[<- hst]
 have oa:=b.all o;have hsb:sb<(arrOf st).size:=by omega
 refine br1 (dG hsb (br1 (nV c b1.kd (oa _ (bv3 hsb)) oa n0 (by omega) (hs▸u) λk k1 k2 k3=>?_)));dsimp only;have k2':∀t,sa<=t->t<sa+k->Kr rk (arrOf st) t<=Kr rk (arrOf st) sb:=λt t1 t2=>by
  have:=k2 (t-sa) (by omega)
  rw[nX,bs4,show sa+(t-sa)=t by omega]at this;rw[cI hsb];exact this
 have k3':∀t,sa+k<=t->t<sb->Kr rk (arrOf st) sb<Kr rk (arrOf st) t:=λt t1 t2=>by
  have:=k3 (t-sa) (by omega) (by omega)
  rw[nX,bA8,show sa+(t-sa)=t by omega]at this;rw[cI hsb];omega
 by_cases ek:(na-k==0)=true
 ·rw[if_pos ek]
  have ek:na-k=0:=by simpa using ek
  refine bs0 (h st1 b1 ?_ λt _=>by rw[ar]);rw[ar];exact V8 u v (by omega) (by omega) (k2' (sb-1) (by omega) (by omega))
 ·rw[if_neg ek]
  have ek:na-k≠0:=by simpa using ek
  have el:sa+k+(na-k)-1=sb-1:=by omega
  rw[el];have hsl:sb-1<(arrOf st).size:=by omega
  refine br1 (dG hsl (br1 (nV c b1.kd (oa _ (bv3 hsl)) oa (by omega) (by omega) v λl l1 l2 l3=>?_)));dsimp only;have l2':∀t,sb<=t->t<sb+l->Kr rk (arrOf st) t<Kr rk (arrOf st) (sb-1):=λt t1 t2=>by
   have:=l2 (t-sb) (by omega)
   rw[nY,bs4,show sb+(t-sb)=t by omega]at this;rw[cI hsl];exact this
  have l3':∀t,sb+l<=t->t<sb+nb->Kr rk (arrOf st) (sb-1)<=Kr rk (arrOf st) t:=λt t1 t2=>by
   have:=l3 (t-sb) (by omega) (by omega)
   rw[nY,bA8,show sb+(t-sb)=t by omega]at this;rw[cI hsl];omega
  by_cases en:(l==0)=true
  ·rw[if_pos en]
   have en:l=0:=by simpa using en
   subst en;refine bs0 (h st1 b1 ?_ λt _=>by rw[ar]);rw[ar];exact V8 u v (by omega) (by omega) (l3' sb (by omega) (by omega))
  ·rw[if_neg en]
   have en:l≠0:=by simpa using en
   have sub:∀p e,bS Ok ((arrOf st).extract p e):=λp e z hz=>oa z (by
    have:z∈((arrOf st).extract p e).toList:=Array.mem_toList_iff.mpr hz
    rw[mJ]at this
    exact Array.mem_toList_iff.mp (bD5 (List.mem_of_mem_drop this)))
   have sx:Sd rk ((arrOf st).extract (sa+k) sb).toList:=V7 (λi j h1 h2 h3=>u i j (by omega) h2 h3) (by omega);have sy:Sd rk ((arrOf st).extract sb (sb+l)).toList:=V7 (λi j h1 h2 h3=>v i j h1 h2 (by omega)) (by omega);have x0:0<((arrOf st).extract (sa+k) sb).size:=by simp;omega
   have y0:0<((arrOf st).extract sb (sb+l)).size:=by simp;omega
   have hf:∀t∈((arrOf st).extract (sa+k) sb).toList,rk ((arrOf st).extract sb (sb+l))[0]<=rk t:=λt ht=>by
    rw[mJ]at ht
    obtain⟨t',q1,q2,q3,q4⟩:=qB (rk:=rk) ht
    rw[q4,<- cI (rk:=rk) y0,V9 (by omega) (by omega)];exact Int.le_of_lt (k3' t' q1 q2)
   have hl:∀t∈((arrOf st).extract sb (sb+l)).toList,rk t<=rk ((arrOf st).extract (sa+k) sb)[((arrOf st).extract (sa+k) sb).size-1]:=λt ht=>by
    rw[mJ]at ht
    obtain⟨t',q1,q2,q3,q4⟩:=qB (rk:=rk) ht
    have e:((arrOf st).extract (sa+k) sb).size=sb-(sa+k):=by simp;omega
    rw[q4,<- cI (rk:=rk) (by omega),V9 (by omega) (by omega),e,show sa+k+(sb-(sa+k)-1)=sb-1 by omega];exact Int.le_of_lt (l2' t' q1 q2)
   have fin:∀(m:Array Keyed) (st2:SortSt),Gq st1 st2->eM rk ((arrOf st).extract (sa+k) sb) ((arrOf st).extract sb (sb+l)) m->
     wpS (model prog w) A E s (do modify (λz=>setArr z (m.toList.zipIdx.foldl (λa (p,j)=>a.setIfInBounds (sa+k+j) p) (arrOf z)));return (failedOf (<- get)).isNone) Q st2:=λm st2 g md=>by
    have b2:SB κ a0 ((pd.setIfInBounds i (sa,na+nb,pw)).eraseIdxIfInBounds (i+1)) st2:=⟨by rw[g.ar];exact b1.pm,g.kd.trans b1.kd,g.ok.trans b1.ok,g.pd.trans b1.pd⟩;have a2:arrOf st2=arrOf st:=g.ar.trans ar
    obtain⟨r1,r2,r3,r4⟩:=aL0 (by omega) (by omega) (by omega) md
    generalize hr:m.toList.zipIdx.foldl (λa (q,j)=>a.setIfInBounds (sa+k+j) q) (arrOf st)=r at r1 r2 r3 r4;refine br1 (wpS_modify (br1 (wpS_get (bs0 ?_))));have b3:=b2.put (xs:=m.toList.zipIdx.foldl (λa (q,j)=>a.setIfInBounds (sa+k+j) q) (arrOf st2)) (by rw[a2,hr];exact r1);have er:arrOf (setArr st2 (m.toList.zipIdx.foldl (λa (q,j)=>a.setIfInBounds (sa+k+j) q) (arrOf st2)))=r:=by rw[<- hr,a2]
    have tr:(failedOf (setArr st2 (m.toList.zipIdx.foldl (λa (q,j)=>a.setIfInBounds (sa+k+j) q) (arrOf st2)))).isNone=true:=by rw[b3.ok];rfl
    rw[tr];refine h _ b3 (λi j hi hij hj=>?_) λt ht=>?_
    ·rw[er]
     have bl:∀t,sa<=t->t<sa+k->∀t',sa+k<=t'->t'<sb+l->Kr rk (arrOf st) t<=Kr rk (arrOf st) t':=λt t1 t2 t' t3 t4=>by
      rcases bw2 t' sb with z|z
      ·exact u t t' t1 (by omega) z
      ·have a1:=k2' t t1 t2
       have a2:=v sb t' (bq4 _) z (by omega);omega
     have br:∀t,sb+l<=t->t<sb+nb->∀t',sa+k<=t'->t'<sb+l->Kr rk (arrOf st) t'<=Kr rk (arrOf st) t:=λt t1 t2 t' t3 t4=>by
      rcases bw2 t' sb with z|z
      ·have a1:=u t' (sb-1) (by omega) (by omega) (by omega)
       have a2:=l3' t t1 t2;omega
      ·exact v t' t z (by omega) t2
     have blr:∀t,sa<=t->t<sa+k->∀t',sb+l<=t'->t'<sb+nb->Kr rk (arrOf st) t<=Kr rk (arrOf st) t':=λt t1 t2 t' t3 t4=>by
      have a1:=bl t t1 t2 (sb-1) (by omega) (by omega);have a2:=l3' t' t3 t4;omega
     rcases bw2 i (sa+k) with z|z
     ·rw[r2 i (.inl z)]
      rcases bw2 j (sa+k) with y|y
      ·rw[r2 j (.inl y)];exact u i j hi hij (by omega)
      ·rcases bw2 j (sb+l) with x|x
       ·obtain⟨t',q1,q2,q3⟩:=r4 j y x
        rw[q3];exact bl i hi z t' q1 q2
       ·rw[r2 j (.inr x)];exact blr i hi z j x hj
     ·rcases bw2 j (sb+l) with x|x
      ·exact r3 i j z hij x
      ·rw[r2 j (.inr x)]
       rcases bw2 i (sb+l) with y|y
       ·obtain⟨t',q1,q2,q3⟩:=r4 i z y
        rw[q3];exact br j x hj t' q1 q2
       ·rw[r2 i (.inr y)];exact v i j (by omega) hij hj
    ·rw[er];exact r2 t (by omega)
   by_cases hle:na-k<=l
   ·rw[if_pos hle]
    exact br1 (aK3 c b1.kd (sub _ _) (sub _ _) sx sy x0 y0 hf hl λm st2 g md=>fin m st2 g md)
   ·rw[if_neg hle]
    exact br1 (aK7 c b1.kd (sub _ _) (sub _ _) sx sy x0 y0 hf hl λm st2 g md=>fin m st2 g md)
end
noncomputable def Ch:Nat->List (Nat×Nat)->Nat->Prop
 |a,[],b=>a=b
 |a,(p,n)::r,b=>p=a/\0<n/\Ch (a+n) r b
theorem Ch.split:∀{l l':List (Nat×Nat)}{a b:Nat},Ch a (l++l') b->∃m,Ch a l m/\Ch m l' b
 |[],_,a,_,h=>⟨a,rfl,h⟩
 |(p,n)::l,l',a,b,h=>by
  obtain⟨h1,h2,h3⟩:=h
  obtain⟨m,q1,q2⟩:=Ch.split h3
  exact⟨m,⟨h1,h2,q1⟩,q2⟩
theorem Ch.join:∀{l l':List (Nat×Nat)}{a m b:Nat},Ch a l m->Ch m l' b->Ch a (l++l') b
 |[],_,a,m,_,h,h'=>by cases (show a=m from h);exact h'
 |(p,n)::l,l',a,m,b,h,h'=>⟨h.1,h.2.1,Ch.join h.2.2 h'⟩
theorem Ch.len:∀{l:List (Nat×Nat)}{a b:Nat},Ch a l b->a+l.length<=b
 |[],a,b,h=>by cases (show a=b from h);simp
 |(p,n)::l,a,b,h=>by
  have:=Ch.len h.2.2
  have:=h.2.1
  simp;omega
theorem Ch.mem:∀{l:List (Nat×Nat)}{a b:Nat}{r:Nat×Nat},Ch a l b->r∈l->a<=r.1/\r.1+r.2<=b/\0<r.2
 |(p,n)::l,a,b,r,h,hr=>by
  obtain⟨h1,h2,h3⟩:=h
  have hb:=Ch.len h3;rcases br0.mp hr with e|e
  ·subst e
   have h1:p=a:=h1;refine⟨?_,?_,h2⟩
   ·show a<=p;omega
   ·show p+n<=b;omega
  ·have:=Ch.mem h3 e
   exact⟨by omega,this.2.1,this.2.2⟩
noncomputable def sk (pd:Array (Nat×Nat×Nat)):List (Nat×Nat):=pd.toList.map λr=>(r.1,r.2.1)
theorem tU (pd:Array (Nat×Nat×Nat)):(sk pd).length=pd.size:=by simp[sk]
structure Rn (rk:Keyed->Int)(a:Array Keyed)(l:List (Nat×Nat))(lo:Nat):Prop where
 ch:Ch 0 l lo
 up:∀r∈l,Up rk a r.1 (r.1+r.2)
variable {rk:Keyed→Int}{κ:SortKind}{a0:Array Keyed}{pd:Array (Nat×Nat×Nat)}{st:SortSt}{prog:az}{w:bc}{A:ba}{E:aw→ax→Prop}{s:ax}{Ok:Keyed→Prop}
theorem Rn.same {a b:Array Keyed}{l:List (Nat×Nat)}{lo:Nat}(h:Rn rk a l lo)(e:∀t,t<lo->Kr rk b t=Kr rk a t):Rn rk b l lo:=⟨h.ch,λr hr i j hi hij hj=>by
 have:=(h.ch.mem hr).2.1
 rw[e i (by omega),e j (by omega)]
 exact h.up r hr i j hi hij hj⟩
theorem W0 (c:cR prog w A E s κ Ok rk)(o:bS Ok a0)(b:SB κ a0 pd st){i lo:Nat}{Q:Bool->SortSt->Prop}(hi:i+1<pd.size)(hz:lo<=a0.size)(rn:Rn rk (arrOf st) (sk pd) lo)(h:∀pd' st',SB κ a0 pd' st'->pd'.size+1=pd.size->Rn rk (arrOf st') (sk pd') lo->(∀t,lo<=t->Kr rk (arrOf st') t=Kr rk (arrOf st) t)->Q true st'):wpS (model prog w) A E s (mergeAt' i) Q st:=by
 obtain⟨⟨sa,na,pw⟩,e1⟩:∃r,pd[i]? = some r:=⟨pd[i],getElem?_pos pd i (by omega)⟩
 obtain⟨⟨sb,nb,pw'⟩,e2⟩:∃r,pd[i+1]? = some r:=⟨pd[i+1],getElem?_pos pd (i+1) hi⟩
 have d1:pd.toList=pd.toList.take i++(sa,na,pw)::(sb,nb,pw')::pd.toList.drop (i+2):=by
  have hl:i<pd.toList.length:=by simp;omega
  have hl2:i+1<pd.toList.length:=by simpa using hi
  have g1:pd.toList[i]=(sa,na,pw):=by rw[getElem?_pos pd i (by omega)]at e1;simpa using e1
  have g2:pd.toList[i+1]=(sb,nb,pw'):=by rw[getElem?_pos pd (i+1) hi]at e2;simpa using e2
  have:=bu7 i pd.toList
  rw[List.drop_eq_getElem_cons hl,List.drop_eq_getElem_cons hl2,g1,g2]at this;exact this.symm
 have li:(pd.toList.take i).length=i:=by simp;omega
 have d2:((pd.setIfInBounds i (sa,na+nb,pw)).eraseIdxIfInBounds (i+1)).toList=pd.toList.take i++(sa,na+nb,pw)::pd.toList.drop (i+2):=by
  have e:((pd.setIfInBounds i (sa,na+nb,pw)).eraseIdxIfInBounds (i+1)).toList=(pd.toList.set i (sa,na+nb,pw)).eraseIdx (i+1):=by
   unfold Array.eraseIdxIfInBounds;rw[dif_pos (by rw[Array.size_setIfInBounds];exact hi),Array.toList_eraseIdx,Array.toList_setIfInBounds]
  rw[e]
  conv=>lhs;rw[d1]
  rw[List.set_append_right _ _ (by omega),li,Nat.sub_self,List.set_cons_zero,List.eraseIdx_append_of_length_le (by omega),li,show i+1-i=1 by omega];rfl
 have k1:sk pd=(pd.toList.take i).map (λr=>(r.1,r.2.1))++(sa,na)::(sb,nb)::(pd.toList.drop (i+2)).map (λr=>(r.1,r.2.1)):=by
  unfold sk;conv=>lhs;rw[d1]
  simp
 have k2:sk ((pd.setIfInBounds i (sa,na+nb,pw)).eraseIdxIfInBounds (i+1))=(pd.toList.take i).map (λr=>(r.1,r.2.1))++(sa,na+nb)::(pd.toList.drop (i+2)).map (λr=>(r.1,r.2.1)):=by
  unfold sk;rw[d2];simp
 have ch:=rn.ch;rw[k1]at ch
 obtain⟨m,c1,c2⟩:=ch.split
 obtain⟨f1,f2,f3,f4,f5⟩:=c2
 have f1:sa=m:=f1;have f3:sb=m+na:=f3;have up:=rn.up;rw[k1]at up;have lo2:=f5.len;refine aL1 c o b e1 e2 (by omega) f2 f4 (by omega) (by have:=up (sa,na) (by simp);rw[f3,<- f1];exact this) (up (sb,nb) (by simp)) λst' b' u' fr=>h _ st' b' ?_ ⟨?_,?_⟩ λt ht=>fr t (by omega)
 ·rw[<- tU,<- tU,k1,k2];simp;omega
 ·rw[k2]
  refine c1.join ⟨f1,by omega,?_⟩;rw[<- Nat.add_assoc];exact f5
 ·intro r hr
  rw[k2]at hr;rcases bs3.mp hr with z|z
  ·intro p q h1 h2 h3
   have:=(c1.mem z).2.1
   rw[fr p (by omega),fr q (by omega)];exact up r (bt5 _ z) p q h1 h2 h3
  ·rcases br0.mp z with z|z
   ·subst z
    show Up rk (arrOf st') sa (sa+(na+nb));rw[show sa+(na+nb)=sb+nb by omega];exact u'
   ·intro p q h1 h2 h3
    have:=(f5.mem z).1
    rw[fr p (by omega),fr q (by omega)];exact up r (bs2 _ (bq8 _ (bq8 _ z))) p q h1 h2 h3
noncomputable abbrev RS:=Option Unit×Nat
noncomputable def W5 (sz pw:Nat):StateT SortSt Sem (Option Unit×Unit):=forIn [0:sz] ((none,()):Option Unit×Unit) λ_ _=>do
 let z <- get
 match (if (pendingOf z).size>1 then (pendingOf z)[(pendingOf z).size-2]? else none) with
 |some (_,_,o)=>if o<=pw then pure (.done (none,())) else do
   let q <- mergeAt' ((pendingOf z).size-2)
   if (!q)=true then pure (.done (some (),())) else pure (.yield (none,()))
 |_=>pure (.done (none,()))
noncomputable def jn (sz lo n:Nat):StateT SortSt Sem (ForInStep RS):=do
 let z <- get
 match (pendingOf z).back? with
 |some (s1,n1,_)=>do
  let r <- W5 sz (power' sz (2*s1+n1) (2*s1+n1+n1+n) sz)
  match r.1 with
  |some u=>pure (.done (some u,lo))
  |none=>do
   modify λs=>setPending s ((pendingOf s).modify ((pendingOf s).size-1) λx=>(x.1,x.2.1,power' sz (2*s1+n1) (2*s1+n1+n1+n) sz))
   modify λs=>setPending s ((pendingOf s).push (lo,n,0))
   pure (.yield (none,lo+n))
 |_=>do
  modify λs=>setPending s ((pendingOf s).push (lo,n,0))
  pure (.yield (none,lo+n))
noncomputable def W6 (sz mr lo:Nat):StateT SortSt Sem (ForInStep RS):=if lo >= sz then pure (.done (none,lo)) else do
 match <- countRun' lo (sz-lo) with
 |some n=>
  if n<mr then
   liftM (rule "list.sort.binary-insertion")
   let q <- binarySort' lo (min (sz-lo) mr) n
   if (!q)=true then pure (.done (some (),lo)) else jn sz lo (min (sz-lo) mr)
  else jn sz lo n
 |_=>pure (.done (some (),lo))
noncomputable def W7 (sz:Nat):StateT SortSt Sem (Option Unit×Unit):=forIn [0:sz] ((none,()):Option Unit×Unit) λ_ _=>do
 let z <- get
 if (pendingOf z).size<=1 then pure (.done (none,())) else do
  let q <- mergeAt' (if ((if (pendingOf z).size-2>0 then (pendingOf z)[(pendingOf z).size-2-1]?.map (·.2.1) else none).any (·<((pendingOf z)[(pendingOf z).size-2+1]?.elim 0 (·.2.1))))=true then (pendingOf z).size-2-1 else (pendingOf z).size-2)
  if (!q)=true then pure (.done (some (),())) else pure (.yield (none,()))
theorem aL2:sortRuns'=(do
 let z <- get
 let r <- (forIn [0:(arrOf z).size] ((none,0):RS) λ_ r=>W6 (arrOf z).size (minRun' (arrOf z).size (arrOf z).size 0) r.2)
 match r.1 with
 |some u=>pure u
 |none=>do
  let q <- W7 (arrOf z).size
  match q.1 with
  |some u=>pure u
  |none=>pure ()):=by kernel_rfl
theorem W8 {lo nn:Nat}(n1:0<nn){pd:Array (Nat×Nat×Nat)}{a:Array Keyed}(r:Rn rk a (sk pd) lo)(u:Up rk a lo (lo+nn)):Rn rk a (sk (pd.push (lo,nn,0))) (lo+nn):=by
 have e:sk (pd.push (lo,nn,0))=sk pd++[(lo,nn)]:=by simp[sk]
 refine⟨by rw[e];exact r.ch.join ⟨rfl,n1,rfl⟩,λq hq=>?_⟩;rw[e]at hq;rcases bs3.mp hq with z|z
 ·exact r.up q z
 ·rw[bq1]at z
  subst z;exact u
theorem W9 (c:cR prog w A E s κ Ok rk)(o:bS Ok a0)(b:SB κ a0 pd st){lo n:Nat}{Q:ForInStep RS->SortSt->Prop}(n1:1<=n)(n2:lo+n<=a0.size)(rn:Rn rk (arrOf st) (sk pd) lo)(u:Up rk (arrOf st) lo (lo+n))(h:∀pd' st',SB κ a0 pd' st'->Rn rk (arrOf st') (sk pd') (lo+n)->Q (.yield (none,lo+n)) st'):wpS (model prog w) A E s (jn a0.size lo n) Q st:=by
 unfold jn;refine br1 (wpS_get ?_);rw[b.pd];cases hb:pd.back? with
 |none=>exact br1 (wpS_modify (bs0 (h (pd.push (lo,n,0)) _ ⟨b.pm,b.kd,b.ok,by show (pendingOf st).push _=_;rw[b.pd]⟩ (W8 n1 rn u))))
 |some q=>
  obtain⟨s1,m1,q3⟩:=q
  dsimp only;generalize power' a0.size (2*s1+m1) (2*s1+m1+m1+n) a0.size=pw;unfold W5
  refine br1 (bF9 (bx9
   (I:=λ_ r st'=>r=(none,())/\∃pd,SB κ a0 pd st'/\Rn rk (arrOf st') (sk pd) lo/\Up rk (arrOf st') lo (lo+n))
   (Q:=λr st'=>r=(none,())/\∃pd,SB κ a0 pd st'/\Rn rk (arrOf st') (sk pd) lo/\Up rk (arrOf st') lo (lo+n)) ?_ (λ_ _ z=>z) ⟨rfl,pd,b,rn,u⟩) ?_)
  ·rintro t r st4 _ ht ⟨rfl,pd4,b4,r4,u4⟩
   refine br1 (wpS_get ?_);rw[b4.pd];cases ho:(if pd4.size>1 then pd4[pd4.size-2]? else none) with
   |none=>exact bs0 ⟨rfl,pd4,b4,r4,u4⟩
   |some z=>
    obtain⟨z1,z2,z3⟩:=z
    have h1:pd4.size>1:=by
     by_cases y:pd4.size>1
     ·exact y
     ·rw[if_neg y]at ho;cases ho
    dsimp only;by_cases hp:z3<=pw
    ·rw[if_pos hp]
     exact bs0 ⟨rfl,pd4,b4,r4,u4⟩
    ·rw[if_neg hp]
     refine br1 (W0 c o b4 (by omega) (by omega) r4 λpd5 st5 b5 _ r5 f5=>?_);exact bs0 ⟨rfl,pd5,b5,r5,λi j hi hij hj=>by rw[f5 i hi,f5 j (by omega)];exact u4 i j hi hij hj⟩
  ·rintro r st4 ⟨rfl,pd4,b4,r4,u4⟩
   refine br1 (wpS_modify (br1 (wpS_modify (bs0 ?_))));have e:sk (pd4.modify (pd4.size-1) λx=>(x.1,x.2.1,pw))=sk pd4:=by
    unfold sk;rw[Array.toList_modify];apply List.ext_getElem?;intro t;rw[br5,br5,List.getElem?_modify];cases pd4.toList[t]? with
    |none=>simp
    |some v=>by_cases y:pd4.size-1=t<;>simp[y]
   refine h ((pd4.modify (pd4.size-1) λx=>(x.1,x.2.1,pw)).push (lo,n,0)) _ ⟨b4.pm,b4.kd,b4.ok,?_⟩ (W8 n1 (by rw[e];exact r4) u4);show ((pendingOf st4).modify ((pendingOf st4).size-1) λx=>(x.1,x.2.1,pw)).push _=_;rw[b4.pd]
theorem aL3 (c:cR prog w A E s κ Ok rk)(o:bS Ok a0)(b:SB κ a0 #[] st){Q:Unit->SortSt->Prop}(h2:1<=a0.size)(h:∀st',(arrOf st').Perm a0->failedOf st'=none->Up rk (arrOf st') 0 a0.size->Q () st'):wpS (model prog w) A E s sortRuns' Q st:=by
 rw[aL2];refine br1 (wpS_get ?_);rw[b.sz];generalize minRun' a0.size a0.size 0=mr
 refine br1 (bF9 (bx9
  (I:=λx r st'=>∃lo pd,r=(none,lo)/\x<=lo/\lo<=a0.size/\SB κ a0 pd st'/\Rn rk (arrOf st') (sk pd) lo)
  (Q:=λr st'=>∃pd,r=(none,a0.size)/\SB κ a0 pd st'/\Rn rk (arrOf st') (sk pd) a0.size) ?_ ?_ ⟨0,#[],rfl,bq4 _,bu8 _,b,⟨rfl,λr hr=>absurd hr (by simp[sk])⟩⟩) ?_)
 ·rintro x r st1 _ hx ⟨lo,pd,rfl,xl,lz,b1,rn⟩
  unfold W6;dsimp only;by_cases hd:lo >= a0.size
  ·rw[if_pos hd]
   have e:lo=a0.size:=by omega
   subst e;exact bs0 ⟨pd,rfl,b1,rn⟩
  ·rw[if_neg hd]
   refine br1 (aJ6 c o b1 (by omega) (by omega) λn st2 b2 n1 n2 u2 l2=>?_);have rn2:=rn.same l2;dsimp only;by_cases hmr:n<mr
   ·rw[if_pos hmr]
    refine br1 (wpS_lift (bE7 ⟨rfl,?_⟩));refine br1 (aJ7 c o b2 (by omega) (by omega) u2 λst3 b3 u3 l3=>?_);rw[if_neg (by decide)];exact W9 c o b3 (by omega) (by omega) (rn2.same l3) u3 λpd' st' b' r'=>⟨_,pd',rfl,by omega,by omega,b',r'⟩
   ·rw[if_neg hmr]
    exact W9 c o b2 n1 (by omega) rn2 u2 λpd' st' b' r'=>⟨lo+n,pd',rfl,by omega,by omega,b',r'⟩
 ·rintro r st1 ⟨lo,pd,rfl,xl,lz,b1,rn⟩
  have e:lo=a0.size:=by omega
  subst e
  exact⟨pd,rfl,b1,rn⟩
 ·rintro r st1 ⟨pd,rfl,b1,rn⟩
  dsimp only;unfold W7
  refine br1 (bF9 (bx9
   (I:=λt r st'=>r=(none,())/\∃pd,SB κ a0 pd st'/\Rn rk (arrOf st') (sk pd) a0.size/\(pd.size+t<=a0.size∨pd.size<=1))
   (Q:=λr st'=>r=(none,())/\∃pd,SB κ a0 pd st'/\Rn rk (arrOf st') (sk pd) a0.size/\pd.size<=1) ?_ ?_ ⟨rfl,pd,b1,rn,.inl (by have:=rn.ch.len;rw[tU]at this;omega)⟩) ?_)
  ·rintro t r st2 _ ht ⟨rfl,pd,b2,rn2,pr⟩
   refine br1 (wpS_get ?_);rw[b2.pd];by_cases h1:pd.size<=1
   ·rw[if_pos h1]
    exact bs0 ⟨rfl,pd,b2,rn2,h1⟩
   ·rw[if_neg h1]
    refine br1 (W0 c o b2 ?_ (bq4 _) rn2 λpd' st3 b3 sz3 rn3 _=>?_)
    ·split<;>split<;>omega
    ·exact bs0 ⟨rfl,pd',b3,rn3,by omega⟩
  ·rintro r st2 ⟨rfl,pd,b2,rn2,pr⟩
   exact⟨rfl,pd,b2,rn2,by omega⟩
  ·rintro r st2 ⟨rfl,pd,b2,rn2,pr⟩
   refine bs0 (h st2 b2.pm b2.ok ?_);have ch:=rn2.ch;have up:=rn2.up;rw[<- tU]at pr;cases e:sk pd with
   |nil=>rw[e]at ch;exact absurd (show 0=a0.size from ch) (by omega)
   |cons r l=>
    rw[e]at ch up pr;have el:l = []:=bx4 (by have:=pr;rw[bu9]at this;omega);subst el
    obtain⟨p,n⟩:=r
    obtain⟨q1,q2,q3⟩:=ch
    have q1:p=0:=q1;have q3:0+n=a0.size:=q3;subst q1
    have:=up (0,n) (by simp)
    rw[<- q3];exact this
end SO
namespace L2
open PySem PySem.Spec PyProof.Rows SO
noncomputable abbrev gA (h:Heap)(a:ay)(vs:List aw):Heap:=((h.update a (Obj.mapSeq λ_=>#[])).push (seqObj "tuple" vs.toArray 0)).push (seqObj "list" #[] 0)
noncomputable abbrev gK (h:Heap)(vs:List aw):Heap:=((h.push (seqObj "list" #[] 0)).update h.objs.size (Obj.mapSeq (·++vs.toArray))).push (seqObj "list" vs.toArray 0)
theorem aL4 {h:Heap}{vs:List aw}{b:ay}{o:Obj}(e:h.get? b=some o):(gK h vs).get? b=some o:=by
 have l:=br9 e;refine bq0 _ ?_;rw[Heap.get?_update_ne _ _ _ _ (bu3 l)];exact bq0 _ e
theorem aL5 {h:Heap}{vs:List aw}{a b:ay}{o:Obj}(hb:b≠a)(e:h.get? b=some o):(gA h a vs).get? b=some o:=by
 refine bq0 _ (bq0 _ ?_);rw[Heap.get?_update_ne _ _ _ _ hb];exact e
theorem aL6 {prog:az}{w:bc}{A:ba}{E:aw->ax->Prop}{s:ax}{a:ay}{vs:List aw}{n:Nat}{P:PySem.Fin->ax->Prop}{κ:SortKind}{Ok:Keyed->Prop}{rk:Keyed->Int}(e:s.heap.get? a=some (seqObj "list" vs.toArray n))(h2:2<=vs.length)(big:vs.length<=sizeLine)(hk:∀Q:SortKind->ax->Prop,Q κ { s with heap:=gA s.heap a vs }->wpAny (model prog w) A (keyKind' vs.toArray) Q E { s with heap:=gA s.heap a vs })(c:cR prog w A E { s with heap:=gA s.heap a vs } κ Ok rk)(o:∀v∈vs,Ok (v,v))(q:∀out:List aw,out.Perm vs->out.Pairwise (λu v=>rk (u,u)<=rk (v,v))->P (.done (.ret .none)) { s with heap:=sortedHeap s.heap a vs out.toArray }):wpAny (model prog w) A (Builtin.«list.sort» ⟨[.ref a],[]⟩) P E s:=by
 have la:=br9 e;have cc:¬vs.toArray.size<2:=by simpa using h2
 obtain⟨k,ek⟩:∃k,(s.heap.update a (Obj.mapSeq λ_=>#[])).get? a=some (seqObj "list" #[] k):=⟨_,get?_update_seq e λ_=>#[]⟩
 have there:(gA s.heap a vs).get? a=some (seqObj "list" #[] k):=bq0 _ (bq0 _ ek);rw[list_sort_plain];apply bp7;apply listItems_at e rfl;apply bp7;refine listUpdate_at e rfl ?_ (by simpa using big) (bu8 _);apply bp7;apply seqEpoch_at ek rfl;apply bp7;refine wpAny_newTuple ?_ big;apply bp7;refine wpAny_newList ?_ (bu8 _);apply by3;simp only[cc,bx3];apply bp7;refine hk _ ?_;have zl:(vs.toArray.zip vs.toArray).toList=vs.zip vs:=by simp
 apply bp7;refine bw0 (aL3 (a0:=vs.toArray.zip vs.toArray) (Q:=λ_ st'=>(arrOf st').Perm (vs.toArray.zip vs.toArray)/\failedOf st'=none/\Up rk (arrOf st') 0 (vs.toArray.zip vs.toArray).size) c (λx hx=>?_) ⟨Array.Perm.refl _,rfl,rfl,rfl⟩ (by simp;omega) λst' a1 a2 a3=>⟨a1,a2,a3⟩) ?_ λ_ _ z=>z
 ·have hx':x∈vs.zip vs:=by rw[<- zl];exact Array.mem_toList_iff.mpr hx
  obtain⟨y1,y2⟩:=mem_zip_self hx'
  have:=o x.1 y2
  have ex:x=(x.1,x.1):=Prod.ext rfl y1.symm;rw[ex];exact this
 ·rintro⟨⟨⟩,st'⟩ s' ⟨rfl,pm,ok,up⟩
  have lp:(arrOf st').toList.Perm (vs.zip vs):=by rw[<- zl];exact Array.perm_iff_toList_perm.mp pm
  have out:(arrOf st').map (·.2)=((arrOf st').toList.map (·.2)).toArray:=by apply Array.toList_inj.mp;rw[Array.toList_map]
  have op:((arrOf st').toList.map (·.2)).Perm vs:=by
   have:=lp.map (·.2)
   rw[wP]at this;exact this
  have sz:(arrOf st').size=vs.length:=by rw[pm.size_eq];simp
  dsimp only;apply bp7;apply seqEpoch_at there rfl;apply bp7;refine listUpdate_at there rfl ?_ (bu8 _) (by rw[Array.size_map,sz];exact Nat.le_succ_of_le big);rw[ok];simp only[bne_self_eq_false,bs8,bx3];refine bq5 ?_;have hq:=q _ op ?_
  ·rw[<- out]at hq;exact hq
  ·rw[List.pairwise_map,bw4]
   intro i j hi hj hij;have hi':i<(arrOf st').size:=by simpa using hi
   have hj':j<(arrOf st').size:=by simpa using hj
   have h1:=up i j (bu8 _) (by9 hij) (by simp;omega);rw[cI hi',cI hj']at h1;have dg:∀x∈(arrOf st').toList,(x.2,x.2)=x:=λx hx=>Prod.ext (mem_zip_self (lp.mem_iff.mp hx)).1.symm rfl
   rw[dg _ (by6 hi),dg _ (by6 hj)];simpa using h1
theorem aL7 {prog:az}{w:bc}{A:ba}{E:aw->ax->Prop}{s:ax}{l:ay}{vs:List aw}{Q:aw->ax->Prop}{κ:SortKind}{Ok:Keyed->Prop}{rk:Keyed->Int}(hl:s.heap.IsList l vs.toArray)(h2:2<=vs.length)(big:vs.length<=sizeLine)(hk:∀(A:ba) (E:aw->ax->Prop) (Q:SortKind->ax->Prop),Q κ { s with heap:=gA (gK s.heap vs) (s.heap.objs.size+1) vs }->wpAny (model prog w) A (keyKind' vs.toArray) Q E { s with heap:=gA (gK s.heap vs) (s.heap.objs.size+1) vs })(c:∀(A:ba) (E:aw->ax->Prop),cR prog w A E { s with heap:=gA (gK s.heap vs) (s.heap.objs.size+1) vs } κ Ok rk)(o:∀v∈vs,Ok (v,v))(q:∀out:List aw,out.Perm vs->out.Pairwise (λu v=>rk (u,u)<=rk (v,v))->Q (.ref (s.heap.objs.size+1)) { s with heap:=sortedAll s.heap vs out.toArray }):wpAny (model prog w) A (call (.builtin "sorted") [.ref l]) Q E s:=by
 apply Calls.call_function_entry kind_sorted plain_sorted entry_sorted (args_sorted1 _);simp only[Builtin.«sorted»];apply bp7 (m:=checkCount "sorted" 1 1 _);apply bq5;apply bp7;refine collect_list hl ?_ big;apply bp7;refine wpAny_newList ?_ big;have one:((s.heap.push (seqObj "list" #[] 0)).update s.heap.objs.size (Obj.mapSeq (·++vs.toArray))).objs.size=s.heap.objs.size+1:=(Heap.size_update _ _ _).trans (size_push' _ _);have at1:(gK s.heap vs).get? (s.heap.objs.size+1)=some (seqObj "list" vs.toArray 0):=one▸br7 _ rfl
 change wpAny _ _ _ _ _ { s with heap:=gK s.heap vs }
 rw[one];apply bp7;apply by3;refine bw6 slot_list_sort ⟨_,at1,rfl⟩ entry_list_sort ?_ (args_list_sort _);exact aL6 (s:={ s with heap:=gK s.heap vs }) at1 h2 big (hk _ _) (c _ _) o λout a1 a2=>⟨_,rfl,bq5 ⟨_,rfl,q out a1 a2⟩⟩
noncomputable def tV (h:Heap)(B:Int)(x:Keyed):Int:=match x.1 with
 |.ref b=>match h.get? b with
  |some ob=>match ob.data with
   |.seq us _=>numOf (us.getD 0 .none)*B+numOf (us.getD 1 .none)
   |_=>0
  |none=>0
 |_=>0
structure jZ (h:Heap)(M:Int)(v:aw)(p q:Int):Prop where
 at_:∃b ob us n,v = .ref b/\h.get? b=some ob/\ob.cls = .type "tuple"/\ob.data = .seq (List.toArray us) n/\IntsAre us [p,q]
 lo:-M<=q
 hi:q<=M
theorem jZ.rk {h:Heap}{M B:Int}{x:Keyed}{p q:Int}(z:jZ h M x.1 p q):tV h B x=p*B+q:=by
 obtain⟨b,ob,us,n,e1,e2,_,e4,e5⟩:=z.at_
 cases e5 with
 |cons _ t e6=>cases e6 with
  |cons _ u e7=>cases e7;unfold tV;rw[e1];dsimp only;rw[e2];dsimp only;rw[e4];rfl
theorem X0 {p q p' q' M:Int}(h1:-M<=q)(h2:q<=M)(h3:-M<=q')(h4:q'<=M):HT.cK [p,q] [p',q']=decide (p*(2*M+1)+q<p'*(2*M+1)+q'):=by
 rw[HT.jL];have mm:∀{a b:Int},a<b->a*(2*M+1)+(2*M+1)<=b*(2*M+1):=λ{a b} z=>by
  have:=Int.mul_le_mul_of_nonneg_right (show a+1<=b by omega) (show 0<=2*M+1 by omega)
  rw[Int.add_mul,Int.one_mul]at this;exact this
 by_cases e:p=p'
 ·subst e
  rw[if_pos rfl,HT.jL];by_cases e2:q=q'
  ·subst e2
   rw[if_pos rfl,HT.K5,bp9 (by omega)]
  ·rw[if_neg e2]
   by_cases l:q<q'
   ·rw[bq2 l,bq2 (by omega)]
   ·rw[bp9 l,bp9 (by omega)]
 ·rw[if_neg e]
  by_cases l:p<p'
  ·have:=mm l
   rw[bq2 l,bq2 (by omega)]
  ·have:=mm (show p'<p by omega)
   rw[bp9 l,bp9 (by omega)]
theorem aL8 {prog:az}{w:bc}{A:ba}{E:aw->ax->Prop}{s:ax}{M:Int}:cR prog w A E s (tuples' true) (λx=>∃p q,jZ s.heap M x.1 p q) (tV s.heap (2*M+1)):=by
 rintro x y ⟨p,q,z⟩ ⟨p',q',z'⟩ st Q hk hq;rw[z.rk,z'.rk]at hq;rw[<- X0 z.lo z.hi z'.lo z'.hi]at hq
 obtain⟨b,ob,us,n,e1,e2,e3,e4,e5⟩:=z.at_
 obtain⟨b',ob',us',n',e1',e2',e3',e4',e5'⟩:=z'.at_
 rw[lt'_eq];refine br1 (wpS_get ?_);rw[hk,e1,e1'];refine br1 (wpS_lift (bG2 (PySem.W.kat_lt e2 e4 e2' e4' ?_)))
 have:=N9 (prog:=prog) (w:=w) (A:=A) (s:=s) (Q:=λa s'=>s'=s/\wpS (model prog w) A E s (pure (some a)) Q st) 0 e5 e5' ⟨rfl,bs0 hq⟩
 simpa using this
theorem aL9 {vs vs':List aw}(h:vs.Perm vs'):∀{xs:List V},aN xs vs->∃xs',xs'.Perm xs/\aN xs' vs':=by
 induction h with
 |nil=>intro xs r;exact⟨xs,List.Perm.refl _,r⟩
 |cons v _ ih=>
  intro xs r;cases r with
  |cons r t=>
   obtain⟨xs',p,r'⟩:=ih t
   exact⟨_::xs',p.cons _,.cons r r'⟩
 |swap u v l=>
  intro xs r;cases r with
  |cons r t=>cases t with
   |cons r2 t2=>exact⟨_,List.Perm.swap _ _ _,.cons r2 (.cons r t2)⟩
 |trans _ _ ih1 ih2=>
  intro xs r
  obtain⟨x1,p1,r1⟩:=ih1 r
  obtain⟨x2,p2,r2⟩:=ih2 r1
  exact⟨x2,p2.trans p1,r2⟩
theorem X1 {α:Type}(f:α->Int):∀l:List α,∃M:Int,∀y∈l,-M<=f y/\f y<=M
 |[]=>⟨0,λ_ h=>nomatch h⟩
 |x::l=>by
  obtain⟨M,h⟩:=X1 f l
  refine⟨max M (max (f x) (- f x)),λy hy=>?_⟩;rcases br0.mp hy with e|e
  ·subst e;omega
  ·have:=h y e;omega
noncomputable def X2 (K:ad):List V->Hp->VK->Prop:=λxs H Q=>∃(a:ay) (ys:List V) (key:V->ag),xs = [.ref a]/\b8 K H a ys/\ys.length<=4096/\(∀y∈ys,∃b,y = .ref b/\aQ K H b ((key y).map V.int)/\(key y).length=2)/\
 ∀l (zs:List V),H l=none->zs.Perm ys->zs.Pairwise (λu v=>HT.cK (key v) (key u)=false)->Q (.ref l) (upd H l (.lst zs))
theorem aM0 {X:Cx}:e8 X (.builtin "sorted") (X2 X.K):=by
 intro ai s σ H xs us Q I r h
 obtain⟨a,ys,key,rfl,hs,hz4,hk,q⟩:=h
 obtain⟨u,rfl,ru⟩:=jK r
 cases ru
 obtain⟨its,rv,p,hz⟩:=I.list hs
 have hl:=rv.length;have hn:s.heap.objs.size<=s.heap.objs.size+1:=Nat.le_succ _;by_cases h2:its.length<2
 ·refine aA5 p.isList h2 ?_
  obtain⟨e,he⟩:=sortedAll_at s.heap its its.toArray
  refine⟨.ref (s.heap.objs.size+1),upd H (s.heap.objs.size+1) (.lst ys),I.laid (t':=s.toks) (λ_ _=>sortedAll_old) hn ⟨hz,its,e,rv,he⟩,rfl,q _ ys (I.hok.fresh hn) (List.Perm.refl _) ?_⟩
  match ys,hl with
  |[],_=>exact List.Pairwise.nil
  |[_],_=>exact bA9 _ _
  |_::_::_,hl=>simp at hl;omega
 ·obtain⟨M,hM⟩:=X1 (λy=>(key y).getD 1 0) ys
  have pv:∀{y:V}{v:aw},aR y v->y∈ys->∃pp qq,key y = [pp,qq]/\jZ (gA (gK s.heap its) (s.heap.objs.size+1) its) M v pp qq:=λ{y v} ry hy=>by
   obtain⟨b,rfl,sq,l2⟩:=hk y hy
   cases ry
   obtain⟨us,ru,⟨ob,e1,c1,n1,d1⟩,_⟩:=I.tuple sq
   have ia:=lP ru;have mm:=hM _ hy
   match hkk:key (V.ref b),l2 with
   |[pp,qq],_=>
    rw[hkk]at ia mm
    exact⟨pp,qq,rfl,⟨b,ob,us,n1,rfl,aL5 (bu3 (Nat.lt_succ_of_lt (br9 e1))) (aL4 e1),c1,d1,ia⟩,mm.1,mm.2⟩
  have pvs:∀{xs:List V}{vs:List aw},aN xs vs->(∀y∈xs,y∈ys)->∀v∈vs,∃pp qq,jZ (gA (gK s.heap its) (s.heap.objs.size+1) its) M v pp qq:=by
   intro xs vs r
   induction r with
   |nil=>intro _ v hv;cases hv
   |cons rx rt ih=>
    intro hh v hv;rcases br0.mp hv with z|z
    ·subst z
     obtain⟨pp,qq,_,z⟩:=pv rx (hh _ bq3)
     exact⟨pp,qq,z⟩
    ·exact ih (λy hy=>hh y (bq8 _ hy)) v z
  have firsts:∀{vs:List aw},(∀v∈vs,∃pp qq,jZ (gA (gK s.heap its) (s.heap.objs.size+1) its) M v pp qq)->∃fs:List aw,PySem.W.KatTups (gA (gK s.heap its) (s.heap.objs.size+1) its) vs fs/\fs.length=vs.length/\∀v∈fs,∃i t,v=Value.int i t:=by
   intro vs
   induction vs with
   |nil=>intro _;exact⟨[],PySem.W.KatTups.nil,rfl,λ_ z=>nomatch z⟩
   |cons v vs ih=>
    intro hh
    obtain⟨fs,t1,t2,t3⟩:=ih λy hy=>hh y (bq8 _ hy)
    obtain⟨pp,qq,z⟩:=hh v bq3
    obtain⟨b,ob,us,n,rfl,e2,e3,e4,e5⟩:=z.at_
    cases e5 with
    |cons _ t e6=>exact⟨Value.int pp t::fs,PySem.W.KatTups.cons e2 e3 e4 (by simp) t1,by simp[t2],λv hv=>(br0.mp hv).elim (λz=>⟨pp,t,z⟩) (t3 v)⟩
  have allp:=pvs rv λ_ h=>h
  obtain⟨fs,t1,t2,t3⟩:=firsts allp
  refine aL7 (κ:=tuples' true) (Ok:=λx=>∃pp qq,jZ (gA (gK s.heap its) (s.heap.objs.size+1) its) M x.1 pp qq) (rk:=tV (gA (gK s.heap its) (s.heap.objs.size+1) its) (2*M+1)) p.isList (by omega) (by rw[<- hl];exact hz)
   (λA E Q hQ=>?_) (λA E=>aL8 (s:={ s with heap:=gA (gK s.heap its) (s.heap.objs.size+1) its })) (λv hv=>allp v hv) λout pm so=>?_
  ·refine PySem.W.kat_kind (T:=.type "int") t1 (by omega) (λv hv=>?_) (by decide) ?_
   ·obtain⟨i,t,rfl⟩:=t3 v hv
    exact PySem.W.Looks.now
   ·have eT:(Value.type "int" != Value.type "tuple")=true:=by decide
    rw[eT];exact hQ
  ·obtain⟨zs,pz,rz⟩:=aL9 pm.symm rv
   obtain⟨e,he⟩:=sortedAll_at s.heap its out.toArray
   refine⟨.ref (s.heap.objs.size+1),upd H (s.heap.objs.size+1) (.lst zs),I.laid (t':=s.toks) (λ_ _=>sortedAll_old) hn ⟨by rw[pz.length_eq];exact hz,out,e,rz,he⟩,rfl,q _ zs (I.hok.fresh hn) pz ?_⟩;have lz:=rz.length;rw[bw4];intro i j hi hj hij;have s1:=bw4.mp so i j (by omega) (by omega) hij;have gi:=wO i hi rz;have gj:=wO j hj rz;simp only[br6,br2 hi,br2 hj,br2 (show i<out.length by omega),br2 (show j<out.length by omega),Option.getD_some]at gi gj
   obtain⟨pi,qi,ki,vi⟩:=pv gi (pz.mem_iff.mp (by6 hi))
   obtain⟨pj,qj,kj,vj⟩:=pv gj (pz.mem_iff.mp (by6 hj))
   rw[jZ.rk (x:=(out[i],out[i])) vi,jZ.rk (x:=(out[j],out[j])) vj]at s1;rw[ki,kj,X0 vj.lo vj.hi vi.lo vi.hi];exact bp9 (by omega)
end L2
namespace L2
open PySem PySem.Spec PyProof.Rows
theorem bI.at {P:az}{w:bc}{H:Hp}{h:Heap}{a:ay}{o:HO}(x:bI P w H h a o):∃ob,h.get? a=some ob:=by
 cases o with
 |lst xs=>obtain⟨_,_,_,_,e⟩:=x;exact⟨_,e⟩
 |tup xs=>obtain⟨_,_,_,⟨_,e,_⟩,_⟩:=x;exact⟨_,e⟩
 |dK kvs=>obtain⟨_,_,_,_,_,_,_,e,_⟩:=x;exact⟨_,e⟩
 |dT kvs=>obtain⟨_,_,_,_,_,_,_,e,_⟩:=x;exact⟨_,e⟩
 |set S n=>obtain⟨_,_,_,_,e,_⟩:=x;exact⟨_,e⟩
 |ins C dx fs=>obtain⟨_,_,_,e,_⟩:=x;exact⟨_,e⟩
 |own y=>exact x
 |xd fs=>obtain⟨_,⟨_,_,_,e,_⟩,_⟩:=x;exact⟨_,e⟩
 |rng lo hi=>obtain⟨_,_,_,e⟩:=x;exact⟨_,e⟩
 |frz ob u=>obtain⟨e,_⟩:=x;exact⟨_,e⟩
 |tbl ps=>obtain⟨_,e,_⟩:=x;exact⟨_,e⟩
 |code q=>obtain⟨_,_,_,e,_⟩:=x;exact⟨_,e⟩
 |cd c q=>exact x.1
 |dA kvs=>obtain⟨_,_,_,_,_,_,_,e,_⟩:=x;exact⟨_,e⟩
 |dB kvs=>obtain⟨_,_,_,_,_,_,_,e,_⟩:=x;exact⟨_,e⟩
 |met f y=>exact⟨_,x⟩
 |ext φ=>exact x.2.1
structure yA (P:az)(w:bc)(outer:List Env)(H:Hp)(s:ax)(H':Hp)(B:Heap)(a C:ay)(s':ax):Prop where
 os:s'.os=s.os
 bare:AllBare s'.gens
 un:Un (cD outer) [] H H' s.heap s'.heap
 hok:bT P w H' s'.heap
 fly:∃a0,Heap.FlyingW B outer a (.ref C) a0 s'.heap
 b0:∀b o,s.heap.get? b=some o->b∉cD outer->∃o',B.get? b=some o'
 b1:∀b o,s.heap.get? b=some o->H b=none->b∉cD outer->B.get? b=some o
 b2:∀b u o,H' b=some u->s'.heap.get? b=some o->B.get? b=some o
noncomputable def gL (P:az)(w:bc):fD:=λouter H s E e s'=>∃(H':Hp) (B:Heap) (a C:ay),e = .ref a/\yA P w outer H s H' B a C s'/\E (.ref C) none H'
section
variable {P:az}{w:bc}{outer:List Env}{H H':Hp}{s s':ax}{B h2:Heap}{a C:ay}
theorem yA.hok2 (f:yA P w outer H s H' B a C s')(k:B.StaysIn h2):bT P w H' h2:=λb u e=>
 (f.hok b u e).stay (λc v hc q=>by
  rcases hc with z|z
  ·subst z;exact k _ _ (f.b2 _ _ _ e q)
  ·exact k _ _ (f.b2 _ _ _ z q)) (λ_ q=>q) λ_ _ q=>q
end
section
variable {P:az}{w:bc}{K:ad}{mg:Str→Option aw}{base:Heap}{N:List Str}{qual:Str}{scope:Scope}{f:ay}{cd:aw}{A:ba}{outer:List Env}{s₀:ax}{H₀:Hp}{E₀ E₁:XK}
theorem tW {ai:List (ay×Obj)}{σ:St}{H:Hp}{s:ax}(I:aA (cJ (gL P w) P w K mg base N qual scope f cd A outer s₀ H₀ E₀) ai σ H s){b:ay}{o:Obj}(e:s₀.heap.get? b=some o)(n:b∉cD outer) :
  b∉cD (envOfC qual scope s₀.heap.objs.size f cd::outer):=λz=>by
 rcases br0.mp (I.stkSub b z) with y|y
 ·have l:=br9 e
  have y:b=s₀.heap.objs.size:=y;exact absurd l (by rw[y];exact bw3 _)
 ·exact n y
theorem aM1 (hE:∀c d H',E₁ c d H'->E₀ c d H'):lO (gL P w) (cJ (gL P w) P w K mg base N qual scope f cd A outer s₀ H₀ E₀) E₁:=by
 intro ai σ H s e s' I hx
 obtain⟨H',B,a,C,e1,fl,q⟩:=hx
 subst e1;have I':=I.call' fl.os fl.un fl.hok fl.bare (ch:=[]) (λb z=>absurd z (by simp))
 obtain⟨a0,fly⟩:=fl.fly
 refine wpAny_leaves_onW I.ok.frames rfl fly λh' fly' up=>?_
 have slot:∀b o,s₀.heap.get? b=some o->b∈cD outer->∃sl,h'.get? b=some { o with slots:=sl }:=λb o e hb=>by
  obtain⟨sl,e1⟩:=I'.base.slot b o e (I.ok.frf b hb) hb (λz=>nomatch z)
  obtain⟨_,o2,e2,nf⟩:=I.ok.funs.mem hb
  rw[show (cJ (gL P w) P w K mg base N qual scope f cd A outer s₀ H₀ E₀).s₀=s₀ from rfl,e]at e2;cases e2
  obtain⟨sl',e3⟩:=up b _ e1 nf
  exact⟨sl',e3⟩
 have old:∀b o,s₀.heap.get? b=some o->H₀ b=none->b∉cD outer->B.get? b=some o:=λb o e n hb=>
  fl.b1 b o (I.base.keep b o e n hb (λz=>nomatch z)) (I.base.free b o e n (λz=>nomatch z)) (tW I e hb)
 have old0:∀b o,s₀.heap.get? b=some o->b∉cD outer->∃o',B.get? b=some o':=λb o e hb=>by
  obtain⟨o1,e1⟩:=I.base.there b o e (λz=>nomatch z)
  exact fl.b0 b o1 e1 (tW I e hb)
 refine⟨H',B,a,C,rfl,⟨I'.os,I'.bare,⟨λb o e n hb _=>fly'.1 _ _ (old b o e n hb),λb o e n hb _=>slot b o e hb,λb o e n hx=>I'.base.free b o e n hx,λb o e _=>?_,I'.base.tups,I'.base.frzs,I'.base.tbls⟩,fl.hok2 fly'.1,⟨a0,fly'⟩,old0,old,λb u o e h=>?_⟩,hE _ _ _ q⟩
 ·by_cases hb:b∈cD outer
  ·obtain⟨sl,e1⟩:=slot b o e hb
   exact⟨_,e1⟩
  ·obtain⟨o',e1⟩:=old0 b o e hb
   exact⟨o',fly'.1 _ _ e1⟩
 ·obtain⟨ob,e1⟩:=(fl.hok b u e).at
  have e2:=fl.b2 b u ob e e1;have e3:=fly'.1 _ _ e2;have h:h'.get? b=some o:=h;rw[h]at e3;cases e3;exact e2
theorem aM2 {ai:List (ay×Obj)}{σ:St}{H:Hp}{s:ax}{h':Heap}{e C:ay}{args:List aw}(I:aA (cJ (gL P w) P w K mg base N qual scope f cd A outer s₀ H₀ E₀) ai σ H s)(mx:Heap.MadeExcOf s.heap h' e (.ref C) args)(q:E₀ (.ref C) none H) :
  (cJ (gL P w) P w K mg base N qual scope f cd A outer s₀ H₀ E₀).xe (.ref e) { s with heap:=h' }:=by
 have tr:∀b u,H b=some u->b∉cD (envOfC qual scope s₀.heap.objs.size f cd::outer):=λb u z n=>by
  rw[I.stkFree b n]at z;cases z
 have inB:∀b o,s.heap.get? b=some o->b∉cD (envOfC qual scope s₀.heap.objs.size f cd::outer)->(PySem.W.hideAll s.heap (cD (envOfC qual scope s₀.heap.objs.size f cd::outer))).get? b=some o:=λb o z n=>PySem.W.hideAll_get _ z n
 refine wpAny_leaves_madeW (base:=PySem.W.hideAll s.heap (cD (envOfC qual scope s₀.heap.objs.size f cd::outer))) I.ok.frames rfl (λb o z=>PySem.W.of_hideAll _ z) (PySem.W.funFrames_hide I.stack λenv he b hb=>List.mem_filterMap.mpr ⟨env,he,hb⟩) mx λh'' t fly _ _ up=>?_
 have slot:∀b o,s₀.heap.get? b=some o->b∈cD outer->∃sl,h''.get? b=some { o with slots:=sl }:=λb o e hb=>by
  obtain⟨sl,e1⟩:=I.base.slot b o e (I.ok.frf b hb) hb (λz=>nomatch z)
  obtain⟨_,o2,e2,nf⟩:=I.ok.funs.mem hb
  rw[show (cJ (gL P w) P w K mg base N qual scope f cd A outer s₀ H₀ E₀).s₀=s₀ from rfl,e]at e2;cases e2
  obtain⟨sl',e3⟩:=up b _ (mx.keeps _ _ e1) nf
  exact⟨sl',e3⟩
 have old:∀b o,s₀.heap.get? b=some o->H₀ b=none->b∉cD outer->(PySem.W.hideAll s.heap (cD (envOfC qual scope s₀.heap.objs.size f cd::outer))).get? b=some o:=λb o e n hb=>
  inB b o (I.base.keep b o e n hb (λz=>nomatch z)) (tW I e hb)
 have old0:∀b o,s₀.heap.get? b=some o->b∉cD outer->∃o',(PySem.W.hideAll s.heap (cD (envOfC qual scope s₀.heap.objs.size f cd::outer))).get? b=some o':=λb o e hb=>by
  obtain⟨o1,e1⟩:=I.base.there b o e (λz=>nomatch z)
  exact⟨o1,inB b o1 e1 (tW I e hb)⟩
 refine⟨H,_,e,C,rfl,⟨I.os,I.bare,⟨λb o e n hb _=>fly.1 _ _ (old b o e n hb),λb o e n hb _=>slot b o e hb,λb o e n hx=>I.base.free b o e n hx,λb o e _=>?_,I.base.tups,I.base.frzs,I.base.tbls⟩,λb u z=>?_,⟨_,fly⟩,old0,old,λb u o z h=>?_⟩,q⟩
 ·by_cases hb:b∈cD outer
  ·obtain⟨sl,e1⟩:=slot b o e hb
   exact⟨_,e1⟩
  ·obtain⟨o',e1⟩:=old0 b o e hb
   exact⟨o',fly.1 _ _ e1⟩
 ·refine (I.hok b u z).stay (λc v hc y=>?_) (λ_ y=>y) λ_ _ y=>y
  rcases hc with z'|z'
  ·subst z';exact fly.1 _ _ (inB _ _ y (tr _ _ z))
  ·exact fly.1 _ _ (inB _ _ y (tr _ _ z'))
 ·obtain⟨ob,e1⟩:=(I.hok b u z).at
  have e2:=inB b ob e1 (tr b u z);have e3:=fly.1 _ _ e2;have h:h''.get? b=some o:=h;rw[h]at e3;cases e3;exact e2
end
structure tX (X:Cx)(E:XK):Prop where
 pass:lO (gL X.prog X.w) X E
 made:∀(ai:List (ay×Obj)) (σ:St) (H:Hp) (s:ax) (h':Heap) (e C:ay) (args:List aw),aA X ai σ H s->Heap.MadeExcOf s.heap h' e (.ref C) args->E (.ref C) none H->X.xe (.ref e) { s with heap:=h' }
 own:PassesOwn (model X.prog X.w) X.A X.env X.xe
theorem aM3 {P:az}{w:bc}{K:ad}{mg:Str->Option aw}{base:Heap}{N:List Str}{qual:Str}{scope:Scope}{f:ay}{cd:aw}{A:ba}{outer:List Env}{s₀:ax}{H₀:Hp}{E₀ E₁:XK}(hE:∀c d H',E₁ c d H'->E₀ c d H') :
  tX (cJ (gL P w) P w K mg base N qual scope f cd A outer s₀ H₀ E₀) E₁:=
 ⟨aM1 hE,λ_ _ _ _ _ _ _ _ I mx q=>aM2 I mx (hE _ _ _ q),PassesOwn.leaving⟩
noncomputable def X3 (E:XK)(C:ay)(t:TA):TS:=λ_ σ H=>t σ H λvs H1=>vs.length<=sizeLine/\E (.ref C) none H1
theorem aM4 {X:Cx}{E:XK}{x:Str}{C:ay}{bm:List aw}{B newId initId:String}{np am pos:Pos}{e:Expr}{es:List Expr}{t:TA}(hX:tX X E)(hc:X.calm=true)(O:OwnCls x C bm newId X.mg X.base)(FB:ExcBaseFacts B newId initId bm)(ha:PA X (e::es) t)(hg:Gl X x)(hd:(x==("__debug__":Str))=false:=by decide)(he:starEach (e::es) X.env=(false,eval e X.env)::starEach es X.env:=by rfl)(hpl:(backTo am (starEach es X.env)).any (·.1)=false:=by rfl) :
  PS X (.Raise (some (.Call (.Name x np) (e::es) [] am)) none pos) (X3 E C t):=by
 intro ai s σ H D I h
 obtain⟨tl,Na,nm,qn,bs,hx,sn,sub,ab,col,dd,k0,k1,k2,k3,k5,mN,hC,hN,hni,T⟩:=O.obj
 refine wpAny_Raise_call_subT (nm:=nm) (q:=qn) (N:=Na) (bs:=bs) (bm:=tl) (hdct:=hx) (sn:=sn) (sub:=sub) (ab:=ab) (col:=col) (dd:=dd) (k0:=k0) (k1:=k1) (k2:=k2) (k3:=k3) (k5:=k5) FB (C:=C) (mN:=mN) (T.hasType FB.hasBase) (I.ok.hd hc) (by rw[he];show (false||(backTo am (starEach es X.env)).any (·.1))=false;rw[hpl];rfl) hni (rS I hg O.bound ⟨rfl,?_⟩ hd);have h1:=ha am ai s σ H _ I h;rw[he]at h1 ⊢;refine Calls.evalArgs_plain (bw0 h1 (λus s2 h2=>?_) λ_ _ y=>y)
 obtain⟨vs,H2,I2,r,hl,q⟩:=h2
 have r:aN vs us:=r
 exact⟨rfl,by show us.length<=sizeLine;rw[<- r.length];exact hl,I2.bk _ _ hC,hN.keeps I2.bk,T.keeps I2.bk,λh' e' mx=>hX.made ai σ H2 s2 h' e' C _ I2 mx q⟩
theorem bK.okX {P:az}{w:bc}{K:ad}{mg:Str->Option aw}{base:Heap}{x qual:Str}{st:Stmt}{f:ay}{fd:FuncData}{N ps:List Str}{k:Nat}{sp:Sp}(F:bK K x qual st f fd)(S:FnScope N ps (aJ st))(len:∀vs H Q E,sp vs H Q E->vs.length=ps.length)(hbody:∀(cdv:aw) (A:ba) (outer:List Env) (s:ax) (H:Hp) (vs:List V) (Q:VK) (E:XK),bM k (A.deeper (envOfC qual (aJ st) s.heap.objs.size f cdv))->sp vs H Q E->
   ∃t,dN (cJ (gL P w) P w K mg base N qual (aJ st) f cdv A outer s H E) (bA st) t/\t { nx:=λ_ H'=>Q .non H',rt:=Q } (fR N vs) H):d7 P w K mg base (gL P w) (k+1) f fd ps sp:=by
 obtain⟨oc,od,kV,doc,pm,an,cdv,ct,osl,rfl,lk,hcd⟩:=F.ex
 exact vS lk hcd S len λA outer s H vs Q E hr hsp=>hbody cdv A outer s H vs Q E hr hsp
section
variable {X:Cx}{ai:List (ay×Obj)}{σ:St}{H H1 H':Hp}{s s1 s':ax}{B h2:Heap}{a C:ay}
noncomputable abbrev Cx.suite (X:Cx)(a:ay):Cx:={ X with A:=X.A.mark (some (.ref a)),calm:=false,xe:=λ_ _=>False }
end
noncomputable abbrev TB:=dZ->XK->St->Hp->Prop
section
variable {X:Cx}{ai:List (ay×Obj)}{σ:St}{H H':Hp}{s:ax}{a:ay}
theorem aA.reH (I:aA X ai σ H s)(d:∀b,b≠a->H' b=H b)(ha:∃x,H a=some x)(tup:∀xs,H a≠some (.tup xs))(frz:∀o v,X.H₀ a≠some (.frz o v))(tbl:∀ps,H a≠some (.tbl ps))(hok:bT X.prog X.w H' s.heap):aA X ai σ H' s:=by
 have none:∀b,H b=none->H' b=none:=λb e=>by
  rw[d b λz=>?_];exact e
  obtain⟨x,hx⟩:=ha
  rw[z,hx]at e;cases e
 refine⟨I.ok,I.os,I.bare,⟨I.base.keep,I.base.slot,λb o e n hx=>none b (I.base.free b o e n hx),I.base.there,λb xs q=>?_,λb o u q=>?_,λb ps q=>?_⟩,I.loc,I.cell,none _ I.free,λx c e=>none c (I.freeC x c e),λp hp=>?_,hok,I.len⟩
 ·have e:=I.base.tups b xs q
  rw[d b λz=>tup xs (by rw[<- z];exact e)];exact e
 ·rw[d b λz=>frz o u (by rw[<- z];exact q)];exact I.base.frzs b o u q
 ·obtain⟨more,e⟩:=I.base.tbls b ps q
  exact⟨more,by rw[d b λz=>tbl _ (by rw[<- z];exact e)];exact e⟩
 ·obtain⟨e,n,r⟩:=I.pin p hp
  exact⟨e,none _ n,r⟩
end
noncomputable def X4 (a:ay)(o:Obj)(ys:List V):It:=
 ⟨λi H=>(∃u,H a=some (.frz o u))/\i<ys.length,λi H v H'=>H'=H/\ys[i]? = some v,λi H=>(∃u,H a=some (.frz o u))/\i=ys.length⟩
theorem aM5 {P:az}{w:bc}{K:ad}{tg:Expr}{o:Obj}{es:Array DictEntry}{ep:Nat}{ys:List V}(a it:ay)(od:o.ExactDict/\o.data = .dict es ep)(vl:aN ys (es.toList.map (·.key))) :
  kN P w K tg (X4 a o ys) [it] it (λi h=>h.IsKeyIter it a i es.size ep):=by
 have hs:es.size=ys.length:=by
  have:=vl.length
  rw[bq6,bB9]at this;exact this.symm
 refine⟨by simp,λi h st b hb=>?_,λi h h' st k=>st.at λo e=>k it (by simp) o e,?_,?_,λ_ _ _ _ _ st q=>wpAny_pyIter_keyiter st q⟩
 ·obtain rfl:b=it:=by simpa using hb
  obtain⟨o,e,c,d⟩:=st
  exact⟨o,e,λv z=>by rw[d]at z;cases z⟩
 ·intro X hP hw hK hc i ai s σ H E I hf st hg
  subst hP hw hK
  obtain⟨⟨u,hu⟩,hi⟩:=hg
  obtain⟨f0,f1,f2,f3,f4,f5⟩:=hf it (by simp)
  refine Raw.turn (I.ok.hd hc) st ⟨o,(I.hok a _ hu).1,od.1,od.2⟩ (λlt h' again sb=>?_) (λge=>absurd ge (by omega));have I1:aA X ai σ H { s with heap:=h' }:=I.turned (t':=s.toks) (λb o hb e=>(sb.2 b hb).trans e) f0 f1 f3 f4 f5;have hv:=br2 hi
  obtain⟨key,hk,rv⟩:=vl.get hv
  obtain rfl:key=es[i].key:=by
   rw[br5]at hk;simp[lt]at hk;exact hk.symm
  obtain⟨o',e,c,d⟩:=id again
  exact⟨es[i].key,rfl,rZ (s:={ s with heap:=h' }) e c d (by decide) ⟨_,H,I1,rv,⟨rfl,hv⟩,again,λb hb=>(hf b hb).1⟩⟩
 ·intro X hP hw hK hc i ai s σ H E I hf st hg
  subst hP hw hK
  obtain⟨⟨u,hu⟩,hi⟩:=hg
  obtain⟨f0,f1,f2,f3,f4,f5⟩:=hf it (by simp)
  exact Raw.turn (I.ok.hd hc) st ⟨o,(I.hok a _ hu).1,od.1,od.2⟩ (λlt=>absurd lt (by omega)) λ_ h' eb=>⟨rfl,I.turned (t':=s.toks) (λb o hb e=>eb b o hb e) f0 f1 f3 f4 f5⟩
end L2
namespace Core
open PySem L2 PP
noncomputable def lA (ns:ag):Bool:=((ns.zip (ns.drop 1)).map λp=>decide (p.1<p.2)).all id
theorem aM6 {α β:Type}{l:List α}{f:α->β}{i:Nat}{x:α}(h:l[i]? = some x):(l.take (i+1)).map f=(l.take i).map f++[f x]:=by
 rw[bB5,h];simp
theorem yB:∀{ns:ag},lA ns=true->ns.Pairwise (·<·)
 |[],_=>.nil
 |[x],_=>bA9 _ _
 |x::y::r,h=>by
  have e:lA (x::y::r)=(decide (x<y)&&lA (y::r)):=rfl;rw[e,bt4]at h;have ih:=yB h.2;refine List.pairwise_cons.mpr ⟨λz hz=>?_,ih⟩;rcases br0.mp hz with rfl|hz
  ·exact bz1 h.1
  ·exact Int.lt_trans (bz1 h.1) (List.rel_of_pairwise_cons ih hz)
theorem X5:∀{ns:ag},ns.Pairwise (·<·)->lA ns=true
 |[],_=>rfl
 |[x],_=>rfl
 |x::y::r,h=>by
  have e:lA (x::y::r)=(decide (x<y)&&lA (y::r)):=rfl;have h':=List.pairwise_cons.mp h;rw[e,X5 h'.2,Bool.and_true];exact bq2 (h'.1 y bq3)
noncomputable def kin (ws:ag)(ls:aa)(S:ag)(h:Int):Bool:=!decide (h∈S)&&decide (ws.getD h.toNat 0<=(((bN ls h).filter λx=>decide (x∈S)).length:Int))
noncomputable def nextOf (ws:ag)(ls:aa)(S:ag):ag:=((List.range ws.length).map λ(i:Nat)=>(i:Int)).filter (kin ws ls S)
noncomputable def qE (ws:ag)(ls:aa)(S:ag):Nat->ag
 |0=>S
 |k+1=>qE ws ls S k++nextOf ws ls (qE ws ls S k)
noncomputable def after (ws:ag)(ls:aa)(S:ag)(m:Nat):ae:=(List.range m).map λk=>nextOf ws ls (qE ws ls S k)
noncomputable def dZ (ws:ag)(ls:aa)(ns:ag)(m:Nat):Prop:=(∀k<m,nextOf ws ls (qE ws ls ns k)≠[])/\nextOf ws ls (qE ws ls ns m) = []
theorem X6 {ns:ag}{i:Nat}{x:PV}(h:(intz ns)[i]? = some x):∃n,x = .int n/\ns[i]? = some n:=by
 rw[br5]at h;cases e:ns[i]? with
 |none=>rw[e]at h;cases h
 |some n=>rw[e]at h;exact⟨n,(bt2 h).symm,rfl⟩
theorem tY {lo:Int}{n i:Nat}{x:PV}(h:(iD lo n)[i]? = some x):x = .int (lo+i)/\i<n:=by
 have hi:i<n:=by
  have:=(bs1.mp h).1
  rwa [dS]at this
 rw[pR hi]at h
 exact⟨(bt2 h).symm,hi⟩
noncomputable def rng (n:Nat):ag:=(List.range n).map λ(i:Nat)=>(i:Int)
theorem nZ (n:Nat):(rng n).length=n:=by unfold rng;rw[bq6,bB6]
theorem tZ {n i:Nat}(h:i<n):(rng n)[i]? = some (i:Int):=by unfold rng;rw[br5,bE2 h];rfl
theorem dC {n:Nat}{x:Int}:x∈rng n↔0<=x/\x<(n:Int):=by
 unfold rng;rw[bt7];constructor
 ·rintro⟨i,hi,rfl⟩
  have:=bz5.mp hi
  omega
 ·intro h
  exact⟨x.toNat,bz5.mpr (by omega),by omega⟩
theorem X7 {α:Type}{l:List α}{p:α->Bool}{i:Nat}{x:α}(h:l[i]? = some x):(l.take (i+1)).filter p=(l.take i).filter p++(if p x=true then [x] else []):=by
 rw[bB5,h,bw1];congr 1;cases e:p x<;>simp[e]
theorem X8 (a b:ag):intz (a++b)=intz a++intz b:=bs9
theorem dD (a:ag):(intz a).length=a.length:=bq6 _
noncomputable def gM (ws:ag)(ls:aa):PV:=.tup [.tup (intz ws),.tup (ls.map λl=>.tup [.int l.1,.int l.2])]
structure Wb (ws:ag)(ls:aa):Prop where
 few:ws.length<=40
 most:ls.length<=1700
 links:∀l∈ls,(0<=l.1/\l.1<ws.length)/\0<=l.2/\l.2<ws.length
noncomputable def d5 (x:PV)(ns:ag):Prop:=x = .tup (intz ns)∨x = .lst (intz ns)
theorem d5.seq {x:PV}{ns:ag}(h:d5 x ns):kT x=some (intz ns):=by rcases h with rfl|rfl<;>rfl
theorem yC:∀(ls:aa),flats (ls.map λl=>PV.tup [.int l.1,.int l.2])=true
 |[]=>rfl
 |l::r=>by
  show (flat (.tup [.int l.1,.int l.2])&&flats (r.map λl=>PV.tup [.int l.1,.int l.2]))=true;rw[yC r];rfl
theorem aM7 (ws:ag)(ls:aa):flat (gM ws ls)=true:=by
 show flats [.tup (intz ws),.tup (ls.map λl=>PV.tup [.int l.1,.int l.2])]=true;show (flat (.tup (intz ws))&&(flat (.tup (ls.map λl=>PV.tup [.int l.1,.int l.2]))&&true))=true;show (flats (intz ws)&&(flats (ls.map λl=>PV.tup [.int l.1,.int l.2])&&true))=true;rw[j5,yC];rfl
theorem aM8 (ns:ag):flat (.tup (intz ns))=true:=j5 ns
noncomputable abbrev mK (t:aX)(N:List Str)(p:b9):Prop:=∀xs Q,p xs Q->t { nx:=λ_=>Q .non,rt:=Q } (bG N xs)
noncomputable def inB (n:Nat)(x:Int):Bool:=decide (0<=x)&&decide (x<(n:Int))
noncomputable def kA (n:Nat)(ns:ag):Bool:=lA ns&&(ns.map (inB n)).all id
theorem aM9 {x:PV}{ns:ag}(h:d5 x ns):(Slot.sh (flat x) x).tag = .rd->flat x=true:=by
 cases flat x<;>intro z<;>cases z
structure DS (ps:List (bO×PV))(S:ag):Prop where
 has:∀i:Int,(dJ ps (Sum.inl i:bO)).isSome=decide (i∈S)
 len:ps.length<=S.length
 fl:flats (ps.map (·.2))=true
theorem X9:∀(xs:List PV),flats xs=true↔∀x∈xs,flat x=true
 |[]=>by simp[flats]
 |x::r=>by
  unfold flats;rw[bt4,X9 r];simp
noncomputable def mL (n:Nat)(ls:aa):List PV:=(List.range n).map λ(k:Nat)=>PV.lst (intz (bN ls k))
noncomputable def Y0:b9:=λxs Q=>∃ws ls,xs = [gM ws ls]/\Wb ws ls/\Q (.lst (mL ws.length ls))
theorem aN0 {n:Nat}{ls:aa}{h:Int}(h0:0<=h)(h1:h<(n:Int)):atI (mL n ls) h=some (.lst (intz (bN ls h))):=by
 refine pF h0 ?_;unfold mL;rw[br5,bE2 (by omega)];show some (PV.lst (intz (bN ls ((h.toNat:Nat):Int))))=_;rw[show ((h.toNat:Nat):Int)=h by omega]
theorem Y1 {ws:ag}{h:Int}(h0:0<=h)(h1:h<(ws.length:Int)):atI (intz ws) h=some (.int (ws.getD h.toNat 0)):=by
 refine pF h0 ?_
 have:h.toNat<ws.length:=by omega
 rw[br5,br6,br2 this];rfl
noncomputable def tups (rs:ae):List PV:=rs.map λr=>PV.tup (intz r)
theorem o0 {n:Nat}{ns:ag}(h:kA n ns=true):lA ns=true/\∀x∈ns,0<=x/\x<(n:Int):=by
 unfold kA at h;rw[bt4,bC7]at h;refine⟨h.1,λx hx=>?_⟩
 have:=h.2 _ (bt7.mpr ⟨x,hx,rfl⟩)
 unfold inB at this;simpa using this
end Core
namespace PP
open PySem L2
noncomputable def yD:PV->Tg->PV->Tg->PK->Prop:=λx _ y _ Q=>∃xs n,x = .tup xs/\y = .int n/\flats xs=true/\xs≠[]/\2<=n/\n<=1000000/\xs.length<=10/\Q (.tup (List.replicate n.toNat xs).flatten) .fr
noncomputable abbrev aN1 (ta tb:aH):aH:=q2 yD ta tb
end PP
namespace Core
open PySem L2 PP
theorem aN2 (g:Tg)(n:Int):Nw g (.int n):=by cases g<;>first|exact trivial|rfl
noncomputable def qF (x:PV)(ns:ag):Prop:=x = .scr ns∨x = .lst (intz ns)
theorem qF.seq {x:PV}{ns:ag}(h:qF x ns):kT x=some (intz ns):=by rcases h with rfl|rfl<;>rfl
theorem qF.len {x:PV}{ns:ag}(h:qF x ns):pQ x=some ns.length:=by
 rcases h with rfl|rfl
 ·rfl
 ·show some (intz ns).length=_
  rw[dD]
noncomputable def lB:b9:=λxs Q=>∃x ns k,xs = [x,.int k]/\qF x ns/\0<=k/\Q (.int (ns.getD k.toNat 0))
noncomputable def Y2:aX:=(aY (dQ (bL (lZ (aB 1) (aP eI (aF (aB 0) aM)))) (cT (d8 (aB 0) (aB 1))) dP)
 (cT (qC (.int 0))))
theorem aN3:mK Y2 ["script","k"] lB:=by
 rintro xs Q ⟨x,ns,k,rfl,hx,h0,q⟩;refine⟨_,rfl,_,rfl,_,_,rfl,hx.len,_,_,rfl,rfl,_,rfl,?_⟩;by_cases h:k<(ns.length:Int)
 ·rw[bq2 h]
  exact bQ ⟨_,rfl,_,rfl,_,_,_,hx.seq,rfl,Y1 h0 h,aN2 _ _,q⟩
 ·rw[bp9 h]
  rw[br6,bF4 (by omega)]at q;exact bJ ⟨trivial,q⟩
noncomputable def fH (ls:aa):List PV:=ls.map λl=>PV.tup [.int l.1,.int l.2]
theorem Y3 (ls:aa):(fH ls).length=ls.length:=bq6 _
noncomputable def eN (l m:Int×Int):Prop:=l.1<m.1∨(l.1=m.1/\l.2<m.2)
noncomputable abbrev si (n:Int):Option Slot:=some (.sh true (.int n))
noncomputable def mM:b9:=λxs Q=>∃i,xs = [.int i]/\Q (.bl true)
noncomputable def Y4 (K:ad):aX:=(cT (pL (lY K "int" (aB 0)) (wV (lY K "bool" (aB 0)))))
theorem d5.len {x:PV}{ns:ag}(h:d5 x ns):pQ x=some ns.length:=by
 rcases h with rfl|rfl<;>(show some (intz ns).length=_;rw[dD])
theorem aN4 {K:ad}(k1:PySem.W.kitOne K (.type "int") (.type "int")=some true)(k2:PySem.W.kitOne K (.type "int") (.type "bool")=some false):mK (Y4 K) ["found"] mM:=by
 rintro xs Q ⟨i,rfl,q⟩
 exact⟨_,rfl,_,_,rfl,k1,_,rfl,bQ ⟨_,rfl,_,_,rfl,k2,_,rfl,trivial,q⟩⟩
end Core
namespace PySem
theorem yE:fillsNumberSlot (.type "tuple") "mul" = pure false:=
 fillsNumberSlot_seq (id:="tuple.__mul__") (r:=some (.builtin "tuple.__rmul__")) F.slot_tuple_mul.lookup (by decide +kernel) F.slot_tuple_rmul.lookup (by decide +kernel)
theorem yF:seqRepeat? (.type "tuple")=pure (some (.builtin "tuple.__mul__")):=by
 unfold seqRepeat?;rw[seqSlot_of (T:="tuple") (name:="__mul__") (id:="tuple.__mul__") F.slot_tuple_mul.lookup (by decide +kernel),seqSlot_of (T:="tuple") (name:="__rmul__") (id:="tuple.__rmul__") F.slot_tuple_rmul.lookup (by decide +kernel)];rfl
theorem yG (a:Int)(t:Tok)(l:ay)(items:Array aw)(n:Nat)(dd:Option ay)(sl:Array (Option aw)) :
  Meets (Builtin.«int.__rmul__» ⟨[.int a t,.ref l],[]⟩) (λ_ R s=>s.heap.get? l=some { cls:=.type "tuple",dict:=dd,data:=.seq items n,slots:=sl }/\R (.ok (.ret Value.notImplemented)) s):=
 .of_wp λprog w A R s h=>by obtain⟨hp,g,d,tk,os⟩:=s;obtain⟨hl,h⟩:=h;wp_walk;exact⟨_,rfl,h⟩
theorem aN5 (l:ay)(items:Array aw)(n:Nat)(dd:Option ay)(sl:Array (Option aw))(x:Int)(u:Tok)(h0:items.isEmpty=false)(h1:2<=x)(h2:items.size*x.toNat<=sizeLine)(h3:x<=1000000) :
  Meets (Builtin.«tuple.__mul__» ⟨[.ref l,.int x u],[]⟩) (λ_ R s=>s.heap.get? l=some { cls:=.type "tuple",dict:=dd,data:=.seq items n,slots:=sl }/\R (.ok (.ret (Value.ref s.heap.objs.size))) { s with heap:=s.heap.push { cls:=Value.type "tuple",data:=Data.seq (List.foldl (λx1 x2=>x1++x2) #[] (List.replicate x.toNat items)) } }):=
 .of_wp λprog w A R s h=>by
  obtain⟨hp,g,d,tk,os⟩:=s;obtain⟨hl,h⟩:=h
  have c1:(decide (x < -(2^63))||decide (x >= 2^63))=false:=by
   rw[Bool.or_eq_false_iff];exact⟨bp9 (by omega),bp9 (by omega)⟩
  have c2:(items.isEmpty||x==1)=false:=by rw[h0,Bool.false_or];exact bB8.mpr (by omega)
  have c3:(decide (x<=0)||items.isEmpty)=false:=by rw[h0,Bool.or_false];exact bp9 (by omega)
  have hsz:((items.size:Nat):Int)*x=((items.size*x.toNat:Nat):Int):=by rw[bE0];congr 1;omega
  have hl63:(sizeLine:Nat)<=(2^63-1)/8:=by decide
  have c4:decide (((items.size:Nat):Int)*x>(2^63-1)/8)=false:=bp9 (by rw[hsz];omega);have c5:Builtin.Tuple.tupleTooMany (((items.size:Nat):Int)*x)=false:=by
   rw[hsz];unfold Builtin.Tuple.tupleTooMany;exact bp9 (by omega)
  wp_walk
  refine wpAny_ite_false (by rw[c1];rfl) ?_
  wp_walk
  refine wpAny_ite_false (by rw[c2];rfl) ?_
  wp_walk
  refine wpAny_ite_false (by rw[c3];rfl) ?_
  wp_walk
  refine wpAny_ite_false c4 ?_
  wp_walk
  refine wpAny_ite_false (by rw[c5];rfl) ?_
  wp_walk
  have f0:∀(m:Nat) (acc:Array aw),(List.foldl (λx1 x2=>x1++x2) acc (List.replicate m items)).size=acc.size+m*items.size:=λm=>by
   induction m with
   |zero=>intro acc;simp
   |succ m ih=>intro acc;rw[bx0,List.foldl_cons,ih,Array.size_append,Nat.succ_mul];omega
  have c6:decide ((List.foldl (λx1 x2=>x1++x2) #[] (List.replicate x.toNat items)).size>sizeLine)=false:=bp9 (by
   rw[f0 x.toNat #[]]
   have:x.toNat*items.size=items.size*x.toNat:=bD1 _ _
   simp only[Array.size_empty]
   omega)
  refine wpAny_ite_false c6 ?_
  wp_walk
  exact⟨_,rfl,h⟩
end PySem
namespace PP
open PySem L2 PyProof.Rows
noncomputable def Y5 (K:ad):R2:=λx y H Q=>∃l k xs,x = .ref l/\y = .int k/\aQ K H l xs/\xs≠[]/\2<=k/\k<=1000000/\xs.length*k.toNat<=sizeLine/\∀p,H p=none->Q (.ref p) (upd H p (.tup (List.replicate k.toNat xs).flatten))
theorem Y6 {X:Cx}:cE X (binaryOp .Mult) (Y5 X.K):=by
 intro ai s σ H x y v u Q I rx ry h
 obtain⟨l,k,xs,rfl,rfl,hH,hne,h1,h2,hz,q⟩:=h
 cases rx
 obtain⟨t,rfl⟩:=ry
 obtain⟨its,r,p,_⟩:=I.tuple hH
 obtain⟨⟨cls,dd,data,sl⟩,ho,hc,n,hd⟩:=id p
 simp only at hc hd;subst hc hd;have hl:=r.length;have hemp:its.toArray.isEmpty=false:=by
  cases its with
  |nil=>exact absurd (r.nil_iff.mp rfl) hne
  |cons a b=>rfl
 refine wpAny_binaryOp_repeat_ref (T:="tuple") (U:="int") (by decide) ⟨_,ho,rfl⟩ (λs'=>typeIs_int s' k t) yE F.fills_int_mul F.slot_int_rmul yF F.slot_int_index.lookup
  (bG9 F.slot_int_rmul (typeIs_int s k t) F.entry_int_rmul (F.args_int_rmul_2 _ _) (yG k t l its.toArray n dd sl)
   ⟨ho,rfl,⟨_,ho,rfl⟩,bG9 F.slot_tuple_mul ⟨_,ho,rfl⟩ F.entry_tuple_mul (F.args_tuple_mul_2 _ _) (aN5 l its.toArray n dd sl k t hemp h1 (by rw[bq9,<- hl];exact hz) h2) ⟨ho,?_⟩⟩)
 have f0:List.foldl (λx1 x2=>x1++x2) #[] (List.replicate k.toNat its.toArray)=(List.replicate k.toNat its).flatten.toArray:=by
  have:=M3 its k.toNat []
  rw[List.nil_append]at this;exact this
 rw[f0];refine⟨.ref s.heap.objs.size,_,I.laid (t':=s.toks) (o:=.tup (List.replicate k.toNat xs).flatten) (λb ob q=>bq0 _ q) (bq4 _) ?_,rfl,q _ (I.hok.fresh (bq4 _))⟩
 exact⟨by rw[M8,bD1];exact hz,_,r.rep k.toNat,IsTup.new _ _,hZ.new _ _ rfl⟩
theorem Reps.rep {K:ad}{M:ay->Prop}{H:Hp}{us:List V}{xs:List PV}(r:Reps K M H us xs):∀k:Nat,Reps K M H (List.replicate k us).flatten (List.replicate k xs).flatten
 |0=>.nil
 |k+1=>by rw[bx0,bx0,bB3,bB3];exact r.append (Reps.rep r k)
section
variable {X:Cx}{a b e:Expr}{ta tb te:aH}{tr:bX}{pos p2 p3 pos2:Pos}
theorem aN6:gG X yD (Y5 X.K):=by
 rintro W Hs H u v x y g g' Q Q' s n r1 r2 ⟨xs,m,rfl,rfl,f,ne,h1,h2,hl,q⟩ k;cases r2
 obtain⟨a,us,rfl,h,r⟩:=r1.sqT
 have lr:=r.length;refine⟨a,m,us,rfl,rfl,aQ.of h,λz=>ne (by cases xs with|nil=>rfl|cons _ _=>rw[z]at lr;cases lr),h1,h2,lim ?_,λp hp=>k _ _ _ .fr (cS hp _) (.tup bH (((r.flat f).rep m.toNat).same (cS hp _) λ_ z=>z)) q⟩;have h3:us.length<=10:=by omega
 have h4:m.toNat<=1000000:=by omega
 calc us.length*m.toNat<=10*1000000:=Nat.mul_le_mul h3 h4
  _<=16000000:=by decide
theorem Y7 (ha:QE X a ta)(hb:QE X b tb):QE X (.BinOp a .Mult b pos) (q2 yD ta tb):=iG Y6 aN6 ha hb
noncomputable def yH:V->Int
 |.int i=>i
 |_=>0
noncomputable def mO (H:Hp):V->ag
 |.ref a=>match H a with
  |some (.tup us)=>us.map yH
  |_=>[]
 |_=>[]
theorem aN7 {H:Hp}{a:ay}{ns:ag}(h:H a=some (.tup (ns.map V.int))):mO H (.ref a)=ns:=by
 show (match H a with|some (.tup us)=>us.map yH|_=>[])=ns;rw[h];show (ns.map V.int).map yH=ns;rw[by0];exact List.map_id _
theorem Y8 {K:ad}{M:ay->Prop}{H:Hp}:∀{us:List V}{ys:ae},Reps K M H us (ys.map λr=>PV.tup (intz r))->us.map (mO H)=ys/\∀u∈us,∃b,u = .ref b/\H b=some (.tup ((mO H u).map V.int))
 |_,[],.nil=>⟨rfl,λu h=>nomatch h⟩
 |_,y::ys,.cons r t=>by
  obtain⟨a,us,rfl,h,r1⟩:=r.sqT
  obtain rfl:=r1.ofInts
  obtain⟨h1,h2⟩:=Y8 t
  have hk:=aN7 h;refine⟨by rw[bt3,h1,hk],λu hu=>?_⟩;rcases br0.mp hu with rfl|hu
  ·exact⟨a,rfl,by rw[hk];exact h⟩
  ·exact h2 u hu
theorem Y9 {K:ad}{M:ay->Prop}{H:Hp}:∀{us:List V},(∀u∈us,∃b,u = .ref b/\H b=some (.tup ((mO H u).map V.int)))->Reps K M H us ((us.map (mO H)).map λr=>PV.tup (intz r))
 |[],_=>.nil
 |u::us,h=>by
  obtain⟨b,rfl,hb⟩:=h u bq3
  exact .cons (.tup hb (Reps.intz _)) (Y9 λv hv=>h v (bq8 _ hv))
end
noncomputable def Z0:Sp:=λvs H Q _=>∃v ws ls,vs = [v]/\O1 H v ws ls/\ws.length<=1000/\ls.length<=2000/\(∀l∈ls,(0<=l.1/\l.1<ws.length)/\0<=l.2/\l.2<ws.length)/\
 ∀(r:ay) (bs:List ay) (H':Hp),bs.length=ws.length->jQ H H' r bs (λk=>bN ls k)->Q (.ref r) H'
section
variable {P:az}{w:bc}{K:ad}{mg:Str→Option aw}{base:Heap}{f:ay}{fd:FuncData}{k:Nat}
theorem Z1 {M:ay->Prop}{H:Hp}:∀{us:List V}{ls:aa},Reps K M H us (ls.map λl=>PV.tup [.int l.1,.int l.2])->pE H us ls
 |_,[],.nil=>.nil
 |_,l::ls,.cons r t=>by
  obtain⟨a,us,rfl,h,r1⟩:=r.sqT
  obtain⟨u1,u2,rfl,q1,q2⟩:=r1.two
  cases q1;cases q2;exact .cons ⟨a,rfl,h⟩ (Z1 t)
theorem aN8 {M:ay->Prop}{H:Hp}{v:V}{ws:ag}{ls:aa}(r:aG K M H v (Core.gM ws ls)):O1 H v ws ls:=by
 obtain⟨a,us,rfl,h,r1⟩:=aG.sqT r
 obtain⟨u1,u2,rfl,q1,q2⟩:=r1.two
 obtain⟨p,up,rfl,hp,rp⟩:=q1.sqT
 obtain⟨q,uq,rfl,hq,rq⟩:=q2.sqT
 obtain rfl:=rp.ofInts
 exact⟨a,p,q,uq,rfl,h,hp,hq,Z1 rq⟩
theorem Z2 {M:ay->Prop}{H:Hp}:∀{bs:List ay}{ls:aa} (off:Nat),(∀b∈bs,M b)->(∀(k:Nat) b,bs[k]? = some b->H b=some (.lst ((bN ls ((off+k:Nat):Int)).map V.int)))->Reps K M H (bs.map V.ref) ((List.range' off bs.length).map λ(k:Nat)=>PV.lst (intz (bN ls k)))
 |[],_,_,_,_=>.nil
 |b::bs,ls,off,hm,h=>by
  refine .cons (.lst (hm b bq3) (h 0 b rfl) (Reps.intz _)) (Z2 (off+1) (λc hc=>hm c (bq8 _ hc)) λk c hk=>?_)
  have:=h (k+1) c (by rw[bz3];exact hk)
  rw[show off+1+k=off+(k+1) by omega];exact this
end
end PP
namespace Core
open PySem L2 PP
theorem aN9 (n:Nat):(rng n).Nodup:=by
 unfold rng;rw[List.nodup_iff_pairwise_ne,List.pairwise_map];exact (List.nodup_range (n:=n)).imp λh e=>h (by omega)
noncomputable def two (l:Int×Int):ag:=[l.1,l.2]
noncomputable def qG (r:ag):Int×Int:=(r.getD 0 0,r.getD 1 0)
theorem Z3 (ls:aa):fH ls=(ls.map two).map λr=>PV.tup (intz r):=by
 unfold fH;rw[by0];rfl
theorem aO0 {zs:ae}{ls:aa}(h:zs.Perm (ls.map two)):∃ls':aa,zs=ls'.map two/\ls'.Perm ls:=by
 refine⟨zs.map qG,?_,?_⟩
 ·rw[by0]
  have:∀z∈zs,(two ∘ qG) z=z:=λz hz=>by
   obtain⟨l,_,rfl⟩:=bt7.mp (h.mem_iff.mp hz)
   rfl
  rw[bC0 this,List.map_id']
 ·have:=h.map qG
  rw[by0]at this;have e:ls.map (qG ∘ two)=ls:=by
   have:∀l∈ls,(qG ∘ two) l=id l:=λl _=>rfl
   rw[bC0 this,List.map_id]
  rw[e]at this;exact this
theorem aO1 {ls:aa}(so:(ls.map two).Pairwise λu v=>HT.cK v u=false)(nd:ls.Nodup):ls.Pairwise eN:=by
 rw[List.pairwise_map]at so;refine (List.pairwise_and_iff.mpr ⟨so,nd⟩).imp λ{a b} h=>?_
 obtain⟨h1,h2⟩:=h
 unfold two at h1;rw[HT.jL]at h1;unfold eN;by_cases e:b.1=a.1
 ·rw[if_pos e,HT.jL]at h1
  by_cases e2:b.2=a.2
  ·exact absurd (Prod.ext e.symm e2.symm) h2
  ·rw[if_neg e2]at h1
   have:=of_decide_eq_false h1
   omega
 ·rw[if_neg e]at h1
  have:=of_decide_eq_false h1
  omega
theorem aO2 (ws:ag)(ls:aa):flats [.tup (intz ws),.tup (fH ls)]=true:=aM7 ws ls
structure yI (i:Int)(ms:ag):Prop where
 up:ms.Pairwise (·<·)
 inn:∀x∈ms,0<=x/\x<i
 len:(ms.length:Int)<=i
theorem yI.set {n:Nat}{ms:ag}(h:yI (n:Int) ms):kA n ms=true:=by
 unfold kA;rw[X5 h.up,bz6,bC7];intro b hb
 obtain⟨x,hx,rfl⟩:=bt7.mp hb
 have:=h.inn x hx
 unfold inB;simp[this]
noncomputable def eY (n:Nat)(S:ag):List PV:=(rng n).map λi=>PV.bl (decide (i∈S))
theorem o3 (n:Nat)(S:ag):(eY n S).length=n:=by unfold eY;rw[bq6,nZ]
theorem Z4 {n:Nat}{S:ag}{x:Int}(h0:0<=x)(h1:x<(n:Int)):atI (eY n S) x=some (.bl (decide (x∈S))):=by
 refine pF h0 ?_;unfold eY;rw[br5,tZ (by omega)];show some (PV.bl (decide (((x.toNat:Nat):Int)∈S)))=_;rw[show ((x.toNat:Nat):Int)=x by omega]
theorem aO3 {n:Nat}{S:ag}{x:Int}(h0:0<=x)(h1:x<(n:Int)):(eY n S).set x.toNat (.bl true)=eY n (S++[x]):=by
 refine List.ext_getElem? λi=>?_
 by_cases hi:i<n
 ·have e1:(eY n (S++[x]))[i]? = some (.bl (decide ((i:Int)∈S++[x]))):=by unfold eY;rw[br5,tZ hi];rfl
  rw[e1];by_cases e:i=x.toNat
  ·subst e
   rw[bx6 (by rw[o3];exact hi)]
   have:(((x.toNat:Nat):Int)∈S++[x]):=by rw[show ((x.toNat:Nat):Int)=x by omega];simp
   rw[bq2 this]
  ·rw[bt9 (Ne.symm e)]
   unfold eY;rw[br5,tZ hi]
   have:decide ((i:Int)∈S++[x])=decide ((i:Int)∈S):=by
    rw[bA4];simp;omega
   rw[this];rfl
 ·rw[bF4 (by rw[bx2,o3];omega),bF4 (by rw[o3];omega)]
noncomputable def Z5:b9:=λxs Q=>∃ns:ag,xs = [.scr ns]/\ns.length<=63/\Q (.bl true)
structure aO4 (K:ad):Prop where
 ii:PySem.W.kitOne K (.type "int") (.type "int")=some true
 ib:PySem.W.kitOne K (.type "int") (.type "bool")=some false
 tt:PySem.W.kitOne K (.type "tuple") (.type "tuple")=some true
 ll:PySem.W.kitOne K (.type "list") (.type "list")=some true
 bb:PySem.W.kitOne K (.type "bool") (.type "bool")=some true
theorem yJ (K:ad):aO4 K:=by
 have same:∀n:String,PySem.W.kitMeta n=true->True:=λ_ _=>trivial
 refine⟨?_,?_,?_,?_,?_⟩
 ·unfold PySem.W.kitOne;rw[if_pos (by decide)]
 ·have e:(if PySem.W.kitMeta "bool" = true then (fastBuiltinMro "int").map (·.contains (Value.type "bool")) else none)=some false:=by decide +kernel
  unfold PySem.W.kitOne;rw[if_neg (by decide)];exact e
 ·unfold PySem.W.kitOne;rw[if_pos (by decide)]
 ·unfold PySem.W.kitOne;rw[if_pos (by decide)]
 ·unfold PySem.W.kitOne;rw[if_pos (by decide)]
end Core
namespace PP
open PySem L2 PyProof.Rows
noncomputable def aO5 (K:ad):Sp:=λvs H Q _=>∃(a:ay) (ns:ag),vs = [.ref a]/\jS K H a ns/\ns.length<=63/\∀H',Q (.bl true) H'
end PP
namespace PyProof.Rows
open PySem
end PyProof.Rows
namespace L2
open PySem PySem.Spec PyProof.Rows
noncomputable def yK (K:ad)(a:ay):It:=
  ⟨λi H=>∃xs x,b8 K H a xs/\xs[i]? = some x,
   λi H v H'=>∃T x,H T=none/\v = .ref T/\H'=upd H T (.tup [.int i,x])/\∀xs,b8 K H a xs->xs[i]? = some x,
   λi H=>∃xs,b8 K H a xs/\xs.length<=i⟩
structure aO6 (e it a:ay)(i:Nat)(h:Heap):Prop where
 ee:∃old,IsEnum h e it i old
 s1:h.IsListIter it a i
theorem aO7 {P:az}{w:bc}{K:ad}{elts:List Expr}{k:Nat}{pos:Pos}(a e it:ay)(d:e≠it) :
  kN P w K (.Tuple elts k pos) (yK K a) [e,it] e (aO6 e it a):=by
 refine⟨by simp,λi h st c hc=>?_,λi h h' st kp=>?_,?_,?_,λA i s Q E st q=>?_⟩
 ·simp only[br0,bu2,bD6]at hc
  obtain⟨old,ee⟩:=st.ee
  obtain⟨o1,f1,g1,d1⟩:=st.s1
  rcases hc with rfl|rfl
  ·exact⟨_,ee,λv q=>by cases q⟩
  ·exact⟨_,f1,λv q=>by rw[d1]at q;cases q⟩
 ·obtain⟨old,ee⟩:=st.ee
  exact⟨⟨old,kp e (by simp) _ ee⟩,st.s1.at λo z=>kp it (by simp) o z⟩
 ·intro X hP hw hK hc i ai s σ H E I hf st hg
  subst hP hw hK
  obtain⟨xs,x,ha,hx⟩:=hg
  obtain⟨us,ru,pu,lu⟩:=I.list ha
  obtain⟨ux,eux,rux⟩:=ru.get hx
  obtain⟨old,ee⟩:=st.ee
  refine wpAny_pyNext_enum_item ee st.s1 pu.isList (by simpa using eux) d λh' eo it' pr sz kp=>⟨_,rfl,?_⟩
  refine wpAny_letOwnedTupleGo_enum (s:={ s with heap:=h',toks:=s.toks+1 }) eo λg zz sb=>?_
  have hzl:e<s.heap.objs.size:=br9 ee;have up:∀c o,c≠e->c≠it->s.heap.get? c=some o->g.get? c=some o:=λc o c1 c2 z=>sb.extBut c o c1 (kp c o c1 c2 z)
  have hT:H s.heap.objs.size=none:=I.hok.fresh (bq4 _);have prG:g.get? s.heap.objs.size=some { cls:=.type "tuple",data:=.seq #[.int i s.toks,ux] }:=sb.extBut _ _ (bA3 hzl) pr;have fpn:∀c u,H c=some u->c∉[e,it]:=λc u z hm=>by rw[(hf c hm).1]at z;cases z
  have upH:∀c o u,H c=some u->s.heap.get? c=some o->g.get? c=some o:=λc o u q z=>by
   have:=fpn c u q
   simp only[br0,bu2,bD6,not_or]at this;exact up c o this.1 this.2 z
  have ns:∀m,s.heap.Ns X.env.locals m->g.Ns X.env.locals m:=λm hm=>by
   obtain⟨o,es,ep,e1,e2⟩:=hm
   exact⟨o,es,ep,up _ o (Ne.symm (hf e (by simp)).2.1) (Ne.symm (hf it (by simp)).2.1) e1,e2⟩
  have I2:aA X ai σ (upd H s.heap.objs.size (.tup [.int i,x])) { s with heap:=g,toks:=s.toks+1 }:=by
   refine I.step (g':=s.gens) (d':=s.drawn) (ch:=[e,it]) (λc hc'=>?_) (λc o _ _ hc' z _=>?_) (λc o _ _ hc' z _=>⟨o.slots,?_⟩) (λc o _ z n=>?_) (λc o hc' z=>⟨o,?_⟩)
    (λc zs z=>by rw[aK (dI z hT)];exact z) (λc u zs z=>by rw[aK (dI z hT)];exact z) (λc ps z=>⟨#[],by rw[aK (dI z hT),z];simp⟩) ns (λc u z=>?_) I.bare
   ·exact⟨(hf c hc').2.2.2.1,(hf c hc').2.1,(hf c hc').2.2.2.2.1,(hf c hc').2.2.2.2.2⟩
   ·simp only[br0,bu2,bD6,not_or]at hc'
    exact up c o hc'.1 hc'.2 z
   ·simp only[br0,bu2,bD6,not_or]at hc'
    exact up c o hc'.1 hc'.2 z
   ·rw[aK (bu3 (br9 z))];exact n
   ·simp only[br0,bu2,bD6,not_or]at hc'
    exact up c o hc'.1 hc'.2 z
   ·by_cases hcT:c=s.heap.objs.size
    ·subst hcT
     rw[bH]at z;cases z
     exact⟨by show 2<=sizeLine;decide,[.int i s.toks,ux],.cons ⟨_,rfl⟩ (.cons rux .nil),⟨_,prG,rfl,_,rfl⟩,λu e=>by rw[prG]at e;cases e;rfl⟩
    ·rw[aK hcT]at z
     refine (I.hok c u z).stay (λc' o' hc2 q'=>?_) (λc' q'=>by rw[aK (dI q' hT)];exact q') λc' zs q'=>by rw[aK (dI q' hT)];exact q'
     rcases hc2 with rfl|hc2
     ·exact upH _ _ _ z q'
     ·exact upH _ _ _ hc2 q'
  refine⟨.ref s.heap.objs.size,_,I2,rfl,⟨_,x,hT,rfl,rfl,λxs' ha'=>?_⟩,⟨⟨ux,by push_cast;exact zz⟩,it'.at λo z=>sb.extBut _ o (Ne.symm d) z⟩,λc hc'=>?_⟩
  ·rw[I.list_inj ha' ha];exact hx
  ·obtain⟨o,z⟩:∃o,s.heap.get? c=some o:=by
    simp only[br0,bu2,bD6]at hc'
    obtain⟨o1,f1,_⟩:=st.s1
    rcases hc' with rfl|rfl
    ·exact⟨_,ee⟩
    ·exact⟨_,f1⟩
   rw[aK (bu3 (br9 z))];exact (hf c hc').1
 ·intro X hP hw hK hc i ai s σ H E I hf st hg
  subst hP hw hK
  obtain⟨xs,ha,hi⟩:=hg
  obtain⟨us,ru,pu,lu⟩:=I.list ha
  obtain⟨old,ee⟩:=st.ee
  have hh:X.A.handled=none:=I.ok.hd hc;have e1:=ru.length;refine wpAny_pyNext_enum_end hh ee st.s1 pu.isList (by rw[Array.getElem?_eq_none];simp only[bq9];omega) λg kp=>⟨rfl,?_⟩
  have fpn:∀c u,H c=some u->c∉[e,it]:=λc u z hm=>by rw[(hf c hm).1]at z;cases z
  have upH:∀c o u,H c=some u->s.heap.get? c=some o->g.get? c=some o:=λc o u q z=>by
   have:=fpn c u q
   simp only[br0,bu2,bD6,not_or]at this;exact kp c o this.2 z
  have ns:∀m,s.heap.Ns X.env.locals m->g.Ns X.env.locals m:=λm hm=>by
   obtain⟨o,es,ep,e1,e2⟩:=hm
   exact⟨o,es,ep,kp _ o (Ne.symm (hf it (by simp)).2.1) e1,e2⟩
  refine I.step (g':=s.gens) (d':=s.drawn) (ch:=[it]) (λc hc'=>?_) (λc o _ _ hc' z _=>?_) (λc o _ _ hc' z _=>⟨o.slots,?_⟩) (λc o _ z n=>n) (λc o hc' z=>⟨o,?_⟩)
   (λc zs z=>z) (λc u zs z=>z) (λc ps z=>⟨#[],by rw[z];simp⟩) ns (λc u z=>?_) I.bare
  ·have hm:c∈[e,it]:=bq8 _ hc'
   exact⟨(hf c hm).2.2.2.1,(hf c hm).2.1,(hf c hm).2.2.2.2.1,(hf c hm).2.2.2.2.2⟩
  ·exact kp c o (λy=>hc' (by rw[y];simp)) z
  ·exact kp c o (λy=>hc' (by rw[y];simp)) z
  ·exact kp c o (λy=>hc' (by rw[y];simp)) z
  ·refine (I.hok c u z).stay (λc' o' hc2 q'=>?_) (λ_ q'=>q') λ_ _ q'=>q'
   rcases hc2 with rfl|hc2
   ·exact upH _ _ _ z q'
   ·exact upH _ _ _ hc2 q'
 ·obtain⟨old,ee⟩:=st.ee
  exact wpAny_pyIter_enum ee q
end L2
namespace Zp
open PySem PyProof.Rows
section
variable {prog:az}{w:bc}{A:ba}{E:aw→ax→Prop}{s:ax}
theorem aO8 {e it t:ay}{i:Nat}{items:Array aw}{x old:aw}{Q:Option aw->ax->Prop}(he:IsEnum s.heap e it i old)(hi:s.heap.IsTupleIter it t i)(ht:s.heap.IsTuple t items)(hx:items[i]? = some x)(ne:e≠it)(q:∀h',IsEnumOut h' e it ((i:Int)+1) x s.heap.objs.size->h'.IsTupleIter it t (i+1)->h'.get? s.heap.objs.size=some { cls:=.type "tuple",data:=.seq #[.int i s.toks,x] }->h'.objs.size=s.heap.objs.size+1->
   (∀b o,b≠e->b≠it->s.heap.get? b=some o->h'.get? b=some o)->Q (some (.ref s.heap.objs.size)) { s with heap:=h',toks:=s.toks+1 }):wpAny (model prog w) A (pyNext (.ref e)) Q E s:=by
 have T:s.TypeIs (.ref e) "enumerate":=⟨_,he,rfl⟩;have slot:=PySem.F.slot_enumerate_next;unfold pyNext;apply bp7;apply bG2;apply bz2 (name:=Str.ofString "__next__") T slot;apply bw6 slot T PySem.F.entry_enumerate_next _ (PySem.F.args_enumerate_next_1 _)
 change wpAny _ _ (field (.ref e) 2 >>= _) _ _ _
 apply bp7;refine by7 he rfl (x:=.ref it) rfl ?_;apply bp7;refine aB0 hi ht hx λg1 it1 sb1=>?_
 have e1:IsEnum g1 e it i old:=sb1.extBut _ _ ne he
 change wpAny _ _ (field (.ref e) 3 >>= _) _ _ _
 apply bp7;refine by7 e1 rfl (x:=rawInt i) rfl ?_
 change wpAny _ _ (field (.ref e) 4 >>= _) _ _ _
 apply bp7;refine by7 e1 rfl (x:=.none) rfl ?_
 change wpAny _ _ (mkInt i >>= _) _ _ _
 apply bp7;refine wpAny_mkInt ?_
 change wpAny _ _ (setField (.ref e) 3 (rawInt ((i:Int)+1)) >>= _) _ _ _
 apply bp7;refine wpAny_setField_rec e1 (by simp) λg2 e2 sb2=>?_
 apply bp7;refine wpAny_setField_rec e2 (by simp) λg3 e3 sb3=>?_
 have e3:IsEnum g3 e it ((i:Int)+1) old:=e3;apply bp7;refine wpAny_newTuple ?_ (by show 2<=sizeLine;decide);have e4:IsEnum (g3.push { cls:=.type "tuple",data:=.seq #[.int i s.toks,x] }) e it ((i:Int)+1) old:=bq0 _ e3;have size:g3.objs.size=s.heap.objs.size:=by rw[sb3.1,sb2.1,sb1.1]
 change wpAny _ _ (Builtin.SmallTypes.ownedTupleIsFree (.ref e) >>= _) _ _ _
 apply bp7;unfold Builtin.SmallTypes.ownedTupleIsFree;apply bp7;refine by7 e4 rfl (x:=.none) rfl (bq5 ?_);simp only[if_true];apply bp7;apply bE7;apply bp7;refine by7 e4 rfl (x:=old) rfl ?_;apply bp7;refine wpAny_setField_rec e4 (by simp) λg5 e5 sb5=>?_
 apply bp7;unfold Builtin.SmallTypes.ownedTupleHandOut;apply bp7;refine wpAny_setField_rec e5 (by simp) λg6 e6 sb6=>?_
 refine wpAny_setField_rec e6 (by simp) λg7 e7 sb7=>?_
 have e7:IsEnumOut g7 e it ((i:Int)+1) x g3.objs.size:=e7;have elt:e<g3.objs.size:=br9 e3;have up:∀c o,c≠e->(g3.push { cls:=.type "tuple",data:=.seq #[.int i s.toks,x] }).get? c=some o->g7.get? c=some o:=λc o c1 z=>sb7.extBut c o c1 (sb6.extBut c o c1 (sb5.extBut c o c1 z))
 have up3:∀c o,c≠e->g1.get? c=some o->g7.get? c=some o:=λc o c1 z=>up c o c1 (bq0 _ (sb3.extBut c o c1 (sb2.extBut c o c1 z)))
 have p7:g7.get? g3.objs.size=some { cls:=.type "tuple",data:=.seq #[.int i s.toks,x] }:=up _ _ (bA3 elt) (br7 _ rfl);have s7:g7.objs.size=g3.objs.size+1:=by rw[sb7.1,sb6.1,sb5.1,bB4]
 apply bp7;apply wpAny_letGo;apply bq5;rw[size]at e7 p7 s7;refine⟨_,rfl,bq5 ?_⟩
 change Q (some (.ref g3.objs.size)) _
 rw[size];exact q g7 e7 (it1.at λo z=>up3 it o (Ne.symm ne) z) p7 s7 λb o b1 b2 z=>up3 b o b1 (sb1.extBut b o b2 z)
theorem aO9 {e it t:ay}{i:Nat}{items:Array aw}{old:aw}{Q:Option aw->ax->Prop}(hh:A.handled=none)(he:IsEnum s.heap e it i old)(hi:s.heap.IsTupleIter it t i)(ht:s.heap.IsTuple t items)(hx:items[i]? = none)(q:∀h',Heap.ExtBut it s.heap h'->Q none { s with heap:=h' }):wpAny (model prog w) A (pyNext (.ref e)) Q E s:=by
 have T:s.TypeIs (.ref e) "enumerate":=⟨_,he,rfl⟩;have slot:=PySem.F.slot_enumerate_next;unfold pyNext;apply bp7;apply bG2;apply bz2 (name:=Str.ofString "__next__") T slot;apply bw6 slot T PySem.F.entry_enumerate_next _ (PySem.F.args_enumerate_next_1 _)
 change wpAny _ _ (field (.ref e) 2 >>= _) _ _ _
 apply bp7;refine by7 he rfl (x:=.ref it) rfl ?_;apply bp7;refine aB1 hh hi ht hx λg2 ex eb exo=>?_
 obtain⟨oe,eo,co⟩:=exo
 apply bp7;refine bE5 (T:="StopIteration") (b:=true) ⟨oe,eo,co⟩ isSubtype_stop ?_;exact bq5 (q g2 eb)
theorem aP0 {M:Model}{A:ba}{E:aw->ax->Prop}{s:ax}{α:Type}{c:Prop}[Decidable c]{m n:Sem α}{Q:α->ax->Prop}(h1:wpAny M A m Q E s)(h2:wpAny M A n Q E s):wpAny M A (if c then m else n) Q E s:=by
 split
 ·exact h1
 ·exact h2
theorem aP1 (t:ay)(xs:Array aw):Meets (Builtin.«enumerate.__new__» ⟨[.type "enumerate",.ref t],[]⟩) (λ_ R s=>s.heap.IsTuple t xs/\R (.ok (.ret (.ref (s.heap.objs.size+1)))) { s with heap:=(s.heap.push { cls:=.type "tuple_iterator",data:=.fields #[.ref t,.int 0 0] }).push { cls:=.type "enumerate",data:=.fields #[.none,.bool false,.ref s.heap.objs.size,rawInt 0,.none,.none] } }):=
 .of_wp λprog w A R s h=>by
  obtain⟨hp,g,d,tk,os⟩:=s
  obtain⟨ht,h⟩:=h
  have sub:=sub_enumerate;have a1:Heap.IsTuple (Shared.heap ⟨hp,g,d,tk,os⟩) t xs:=ht
  wp_walk using bE8 a1
  refine wpAny_stack_any λst=>bq5 ?_
  refine aP0 ?_ ?_
  all_goals
   apply bp7;refine bD3 (a:=(Value.ref t,none)) rfl ?_
   wp_walk using bE8 a1
   have e:∀(o:Obj) (k:Heap),(k.push o).objs.size=k.objs.size+1:=λo k=>bB4 ..
   refine⟨_,rfl,?_⟩;simp only[e]at h ⊢;exact h
theorem aP2 {t:ay}{xs:Array aw}{Q:aw->ax->Prop}(ht:s.heap.IsTuple t xs)(q:∀h',IsEnum h' (s.heap.objs.size+1) s.heap.objs.size 0 .none->h'.IsTupleIter s.heap.objs.size t 0->h'.objs.size=s.heap.objs.size+2->(∀c o,s.heap.get? c=some o->h'.get? c=some o)->Q (.ref (s.heap.objs.size+1)) { s with heap:=h' }) :
  wpAny (model prog w) A (call (.type "enumerate") [.ref t]) Q E s:=by
 refine callType_new PySem.F.called_enumerate (by decide) (PySem.F.typeCall_enumerate_1 _) (PySem.F.newCall_enumerate_1 _) (λobj=>PySem.F.args_object_init_2 obj _) PySem.F.entry_enumerate_new (aP1 t xs) ⟨ht,?_⟩;have e:∀(o:Obj) (k:Heap),(k.push o).objs.size=k.objs.size+1:=λo k=>bB4 ..
 have g0:((s.heap.push { cls:=.type "tuple_iterator",data:=.fields #[.ref t,.int 0 0] }).push { cls:=.type "enumerate",data:=.fields #[.none,.bool false,.ref s.heap.objs.size,rawInt 0,.none,.none] }).get? s.heap.objs.size=some { cls:=.type "tuple_iterator",data:=.fields #[.ref t,.int 0 0] }:=bq0 _ (br7 _ rfl);have g1:((s.heap.push { cls:=.type "tuple_iterator",data:=.fields #[.ref t,.int 0 0] }).push { cls:=.type "enumerate",data:=.fields #[.none,.bool false,.ref s.heap.objs.size,rawInt 0,.none,.none] }).get? (s.heap.objs.size+1)=some { cls:=.type "enumerate",data:=.fields #[.none,.bool false,.ref s.heap.objs.size,rawInt 0,.none,.none] }:=by
  have:=br7 (h:=s.heap.push { cls:=.type "tuple_iterator",data:=.fields #[.ref t,.int 0 0] }) (o:={ cls:=.type "enumerate",data:=.fields #[.none,.bool false,.ref s.heap.objs.size,rawInt 0,.none,.none] }) rfl
  rw[e]at this;exact this
 exact⟨⟨_,g1,rfl⟩,q _ g1 ⟨_,g0,rfl,rfl⟩ (by rw[e,e]) λc o z=>bq0 _ (bq0 _ z)⟩
end
end Zp
namespace L2
open PySem PySem.Spec PyProof.Rows
noncomputable def yL (K:ad)(a:ay):It:=
  ⟨λi H=>∃xs x,aQ K H a xs/\xs[i]? = some x,
   λi H v H'=>∃T x,H T=none/\v = .ref T/\H'=upd H T (.tup [.int i,x])/\∀xs,aQ K H a xs->xs[i]? = some x,
   λi H=>∃xs,aQ K H a xs/\xs.length<=i⟩
structure aP3 (e it a:ay)(i:Nat)(h:Heap):Prop where
 ee:∃old,IsEnum h e it i old
 s1:h.IsTupleIter it a i
theorem aP4 {P:az}{w:bc}{K:ad}{elts:List Expr}{k:Nat}{pos:Pos}(a e it:ay)(d:e≠it) :
  kN P w K (.Tuple elts k pos) (yL K a) [e,it] e (aP3 e it a):=by
 refine⟨by simp,λi h st c hc=>?_,λi h h' st kp=>?_,?_,?_,λA i s Q E st q=>?_⟩
 ·simp only[br0,bu2,bD6]at hc
  obtain⟨old,ee⟩:=st.ee
  obtain⟨o1,f1,g1,d1⟩:=st.s1
  rcases hc with rfl|rfl
  ·exact⟨_,ee,λv q=>by cases q⟩
  ·exact⟨_,f1,λv q=>by rw[d1]at q;cases q⟩
 ·obtain⟨old,ee⟩:=st.ee
  exact⟨⟨old,kp e (by simp) _ ee⟩,st.s1.at λo z=>kp it (by simp) o z⟩
 ·intro X hP hw hK hc i ai s σ H E I hf st hg
  subst hP hw hK
  obtain⟨xs,x,ha,hx⟩:=hg
  obtain⟨us,ru,pu,lu⟩:=I.tuple ha
  obtain⟨ux,eux,rux⟩:=ru.get hx
  obtain⟨old,ee⟩:=st.ee
  refine Zp.aO8 ee st.s1 pu (by simpa using eux) d λh' eo it' pr sz kp=>⟨_,rfl,?_⟩
  refine wpAny_letOwnedTupleGo_enum (s:={ s with heap:=h',toks:=s.toks+1 }) eo λg zz sb=>?_
  have hzl:e<s.heap.objs.size:=br9 ee;have up:∀c o,c≠e->c≠it->s.heap.get? c=some o->g.get? c=some o:=λc o c1 c2 z=>sb.extBut c o c1 (kp c o c1 c2 z)
  have hT:H s.heap.objs.size=none:=I.hok.fresh (bq4 _);have prG:g.get? s.heap.objs.size=some { cls:=.type "tuple",data:=.seq #[.int i s.toks,ux] }:=sb.extBut _ _ (bA3 hzl) pr;have fpn:∀c u,H c=some u->c∉[e,it]:=λc u z hm=>by rw[(hf c hm).1]at z;cases z
  have upH:∀c o u,H c=some u->s.heap.get? c=some o->g.get? c=some o:=λc o u q z=>by
   have:=fpn c u q
   simp only[br0,bu2,bD6,not_or]at this;exact up c o this.1 this.2 z
  have ns:∀m,s.heap.Ns X.env.locals m->g.Ns X.env.locals m:=λm hm=>by
   obtain⟨o,es,ep,e1,e2⟩:=hm
   exact⟨o,es,ep,up _ o (Ne.symm (hf e (by simp)).2.1) (Ne.symm (hf it (by simp)).2.1) e1,e2⟩
  have I2:aA X ai σ (upd H s.heap.objs.size (.tup [.int i,x])) { s with heap:=g,toks:=s.toks+1 }:=by
   refine I.step (g':=s.gens) (d':=s.drawn) (ch:=[e,it]) (λc hc'=>?_) (λc o _ _ hc' z _=>?_) (λc o _ _ hc' z _=>⟨o.slots,?_⟩) (λc o _ z n=>?_) (λc o hc' z=>⟨o,?_⟩)
    (λc zs z=>by rw[aK (dI z hT)];exact z) (λc u zs z=>by rw[aK (dI z hT)];exact z) (λc ps z=>⟨#[],by rw[aK (dI z hT),z];simp⟩) ns (λc u z=>?_) I.bare
   ·exact⟨(hf c hc').2.2.2.1,(hf c hc').2.1,(hf c hc').2.2.2.2.1,(hf c hc').2.2.2.2.2⟩
   ·simp only[br0,bu2,bD6,not_or]at hc'
    exact up c o hc'.1 hc'.2 z
   ·simp only[br0,bu2,bD6,not_or]at hc'
    exact up c o hc'.1 hc'.2 z
   ·rw[aK (bu3 (br9 z))];exact n
   ·simp only[br0,bu2,bD6,not_or]at hc'
    exact up c o hc'.1 hc'.2 z
   ·by_cases hcT:c=s.heap.objs.size
    ·subst hcT
     rw[bH]at z;cases z
     exact⟨by show 2<=sizeLine;decide,[.int i s.toks,ux],.cons ⟨_,rfl⟩ (.cons rux .nil),⟨_,prG,rfl,_,rfl⟩,λu e=>by rw[prG]at e;cases e;rfl⟩
    ·rw[aK hcT]at z
     refine (I.hok c u z).stay (λc' o' hc2 q'=>?_) (λc' q'=>by rw[aK (dI q' hT)];exact q') λc' zs q'=>by rw[aK (dI q' hT)];exact q'
     rcases hc2 with rfl|hc2
     ·exact upH _ _ _ z q'
     ·exact upH _ _ _ hc2 q'
  refine⟨.ref s.heap.objs.size,_,I2,rfl,⟨_,x,hT,rfl,rfl,λxs' ha'=>?_⟩,⟨⟨ux,by push_cast;exact zz⟩,it'.at λo z=>sb.extBut _ o (Ne.symm d) z⟩,λc hc'=>?_⟩
  ·rw[I.tuple_inj ha' ha];exact hx
  ·obtain⟨o,z⟩:∃o,s.heap.get? c=some o:=by
    simp only[br0,bu2,bD6]at hc'
    obtain⟨o1,f1,_⟩:=st.s1
    rcases hc' with rfl|rfl
    ·exact⟨_,ee⟩
    ·exact⟨_,f1⟩
   rw[aK (bu3 (br9 z))];exact (hf c hc').1
 ·intro X hP hw hK hc i ai s σ H E I hf st hg
  subst hP hw hK
  obtain⟨xs,ha,hi⟩:=hg
  obtain⟨us,ru,pu,lu⟩:=I.tuple ha
  obtain⟨old,ee⟩:=st.ee
  have hh:X.A.handled=none:=I.ok.hd hc;have e1:=ru.length;refine Zp.aO9 hh ee st.s1 pu (by rw[Array.getElem?_eq_none];simp only[bq9];omega) λg kp=>⟨rfl,?_⟩
  have fpn:∀c u,H c=some u->c∉[e,it]:=λc u z hm=>by rw[(hf c hm).1]at z;cases z
  have upH:∀c o u,H c=some u->s.heap.get? c=some o->g.get? c=some o:=λc o u q z=>by
   have:=fpn c u q
   simp only[br0,bu2,bD6,not_or]at this;exact kp c o this.2 z
  have ns:∀m,s.heap.Ns X.env.locals m->g.Ns X.env.locals m:=λm hm=>by
   obtain⟨o,es,ep,e1,e2⟩:=hm
   exact⟨o,es,ep,kp _ o (Ne.symm (hf it (by simp)).2.1) e1,e2⟩
  refine I.step (g':=s.gens) (d':=s.drawn) (ch:=[it]) (λc hc'=>?_) (λc o _ _ hc' z _=>?_) (λc o _ _ hc' z _=>⟨o.slots,?_⟩) (λc o _ z n=>n) (λc o hc' z=>⟨o,?_⟩)
   (λc zs z=>z) (λc u zs z=>z) (λc ps z=>⟨#[],by rw[z];simp⟩) ns (λc u z=>?_) I.bare
  ·have hm:c∈[e,it]:=bq8 _ hc'
   exact⟨(hf c hm).2.2.2.1,(hf c hm).2.1,(hf c hm).2.2.2.2.1,(hf c hm).2.2.2.2.2⟩
  ·exact kp c o (λy=>hc' (by rw[y];simp)) z
  ·exact kp c o (λy=>hc' (by rw[y];simp)) z
  ·exact kp c o (λy=>hc' (by rw[y];simp)) z
  ·refine (I.hok c u z).stay (λc' o' hc2 q'=>?_) (λ_ q'=>q') λ_ _ q'=>q'
   rcases hc2 with rfl|hc2
   ·exact upH _ _ _ z q'
   ·exact upH _ _ _ hc2 q'
 ·obtain⟨old,ee⟩:=st.ee
  exact wpAny_pyIter_enum ee q
section
variable {X:Cx}
noncomputable def Z6 (K:ad)(ta:TA):TI:=λσ H R=>ta σ H λvs H1=>∃a,vs = [.ref a]/\((∃xs,b8 K H1 a xs/\R (yK K a) H1)∨(∃xs,aQ K H1 a xs/\R (yL K a) H1))
theorem aP5 {elts:List Expr}{kt:Nat}{pt:Pos}{a:Expr}{ta:TA}{p pos:Pos}(hg:Gl X "enumerate")(hm:X.mg "enumerate" = none)(ha:PA X [a] ta)(hs:starEach [a] X.env = [(false,eval a X.env)]:=by rfl) :
  PI X (.Tuple elts kt pt) (.Call (.Name "enumerate" p) [a] [] pos) (Z6 X.K ta):=by
 intro ai s σ H R I h;refine Call_ (lI I hg hm PyProof.Rows.boot_enumerate (bB0 (aO (ha pos ai s σ H _ I h) λus s1 ⟨vs,H1,I1,r1,q1⟩=>?_) (by rw[hs];rfl) (by rfl)))
 obtain⟨a',e,q⟩:=q1
 subst e;have fresh:∀k,H1 (s1.heap.objs.size+k)=none:=λk=>I1.hok.fresh (Nat.le_add_right _ _)
 cases r1 with
 |cons r rr=>
  cases rr;cases r;rcases q with⟨xs,h1,q⟩|⟨xs,h1,q⟩
  ·obtain⟨us,_,p1,_⟩:=I1.list h1
   refine call_enumerate_list p1.isList λh' z s1' sz kp=>wpAny_pyIter_enum z ?_
   refine⟨s1.heap.objs.size+1,[s1.heap.objs.size+1,s1.heap.objs.size],_,_,H1,rfl,I1.kept (t':=s1.toks) kp,
    aO7 a' _ _ (Nat.succ_ne_self _),⟨⟨_,z⟩,s1'⟩,λc hc=>?_,q⟩
   simp only[br0,bu2,bD6]at hc;rcases hc with rfl|rfl
   ·exact I1.fpOk (Nat.le_add_right _ _) (fresh 1)
   ·exact I1.fpOk (bq4 _) (fresh 0)
  ·obtain⟨us,_,p1,_⟩:=I1.tuple h1
   refine Zp.aP2 p1 λh' z s1' sz kp=>wpAny_pyIter_enum z ?_
   refine⟨s1.heap.objs.size+1,[s1.heap.objs.size+1,s1.heap.objs.size],_,_,H1,rfl,I1.kept (t':=s1.toks) kp,
    aP4 a' _ _ (Nat.succ_ne_self _),⟨⟨_,z⟩,s1'⟩,λc hc=>?_,q⟩
   simp only[br0,bu2,bD6]at hc;rcases hc with rfl|rfl
   ·exact I1.fpOk (Nat.le_add_right _ _) (fresh 1)
   ·exact I1.fpOk (bq4 _) (fresh 0)
end
end L2
namespace Zp
open PySem PyProof.Rows
theorem aP6 (t b:ay)(xs ys:Array aw)(n n2:Nat)(dd dd2:Option ay)(sl sl2:Array (Option aw))(hx:xs.isEmpty=true):Meets (Builtin.«tuple.__add__» ⟨[.ref t,.ref b],[]⟩)
  (λ_ R s=>s.heap.get? t=some { cls:=.type "tuple",dict:=dd,data:=.seq xs n,slots:=sl }/\s.heap.get? b=some { cls:=.type "tuple",dict:=dd2,data:=.seq ys n2,slots:=sl2 }/\R (.ok (.ret (.ref b))) s):=
 .of_wp λprog w A R s h=>by
  obtain⟨h1,h2,h⟩:=h
  have sub:isSubtype (Value.type "tuple") (Value.type "tuple")=pure true:=rfl
  wp_walk
  exact⟨_,rfl,h⟩
end Zp
namespace L2
open PySem PySem.Spec PyProof.Rows
section
variable {X:Cx}
noncomputable def Z7 (K:ad):R2:=λx y H Q=>∃a b xs ys,x = .ref a/\y = .ref b/\aQ K H a xs/\aQ K H b ys/\xs.length+ys.length<=sizeLine/\
 (xs = []->Q (.ref b) H)/\(xs≠[]->ys = []->Q (.ref a) H)/\(xs≠[]->ys≠[]->∀p,H p=none->Q (.ref p) (upd H p (.tup (xs++ys))))
theorem aP7:cE X (binaryOp .Add) (Z7 X.K):=by
 intro ai s σ H x y v u Q I rx ry h
 obtain⟨a,b,xs,ys,ex,ey,ha,hb,hz,q0,q1,q2⟩:=h
 by_cases hx:xs = []
 ·subst ex ey
  cases rx;cases ry
  obtain⟨its,r1,p1,_⟩:=I.tuple ha
  obtain⟨aq,r2,p2,_⟩:=I.tuple hb
  have hi:its = []:=r1.nil_iff.mpr hx
  obtain⟨⟨cls,dd,data,sl⟩,ho,hc,n,hd⟩:=id p1
  obtain⟨⟨cls2,dd2,data2,sl2⟩,ho2,hc2,n2,hd2⟩:=id p2
  simp only at hc hd hc2 hd2;subst hc hd hc2 hd2;exact concat_meets ⟨_,ho,rfl⟩ ⟨_,ho2,rfl⟩ noFill_tuple_add seq_tuple_add PySem.F.slot_tuple_add PySem.F.entry_tuple_add (PySem.F.args_tuple_add_2 _ _)
   (Zp.aP6 a b its.toArray aq.toArray n n2 dd dd2 sl sl2 (by simp[hi])) ⟨ho,ho2,⟨.ref b,H,I,rfl,q0 hx⟩⟩
 ·exact ax3 ai s σ H x y v u Q I rx ry ⟨a,b,xs,ys,ex,ey,ha,hb,hx,hz,q1 hx,q2 hx⟩
end
end L2
namespace PP
open PySem L2 PyProof.Rows
noncomputable def lC (xs:List PV):List PV:=xs.mapIdx λi x=>PV.tup [.int (i:Int),x]
theorem o5 (xs:List PV):(lC xs).length=xs.length:=by unfold lC;rw[List.length_mapIdx]
theorem u0 {xs:List PV}{i:Nat}{x:PV}(h:xs[i]? = some x):(lC xs)[i]? = some (.tup [.int (i:Int),x]):=by
 unfold lC;rw[List.getElem?_mapIdx,h];rfl
noncomputable def u5 (te:aH):fX:=λρ Q=>te ρ λx g=>∃xs,(x = .lst xs∨x = .tup xs)/\(g = .rd->flat x=true)/\Q (lC xs) (x4 g xs)
theorem aP8 {K:ad}{H0:Hp}{W:ay->Prop}{g:Bool}{H1:Hp}{a:ay}{us:List V}{xs:List PV}(tw:∀a,W a->∃o,H1 a=some o/\fE o=true)(ha:∀W' H',Ev W H1 W' H'->b8 K H' a us)(r:Reps K (Ms H0 W g) H1 us xs):nL K H0 W g H1 (yK K a) (lC xs):=by
 have lr:=r.length;have ll:=o5 xs;refine⟨λW' H' i e hi=>⟨us,us[i]'(by omega),ha W' H' e,by simp⟩,λW' H' i v H2 e y hi=>?_,λW' H' e=>⟨us,ha W' H' e,by omega⟩⟩
 obtain⟨T,x,hT,rfl,rfl,y⟩:=y
 obtain⟨z,hz,rz⟩:=r.get (y us (ha W' _ e))
 have sm:=cS hT (HO.tup [.int (i:Int),x])
 exact⟨sm,_,u0 hz,.tup bH (.cons (.int _) (.cons ((rz.keep (e.keep tw)).same sm λ_ q=>q) .nil))⟩
theorem aP9 {K:ad}{H0:Hp}{W:ay->Prop}{g:Bool}{H1:Hp}{a:ay}{us:List V}{xs:List PV}(tw:∀a,W a->∃o,H1 a=some o/\fE o=true)(ha:∀W' H',Ev W H1 W' H'->aQ K H' a us)(r:Reps K (Ms H0 W g) H1 us xs):nL K H0 W g H1 (yL K a) (lC xs):=by
 have lr:=r.length;have ll:=o5 xs;refine⟨λW' H' i e hi=>⟨us,us[i]'(by omega),ha W' H' e,by simp⟩,λW' H' i v H2 e y hi=>?_,λW' H' e=>⟨us,ha W' H' e,by omega⟩⟩
 obtain⟨T,x,hT,rfl,rfl,y⟩:=y
 obtain⟨z,hz,rz⟩:=r.get (y us (ha W' _ e))
 have sm:=cS hT (HO.tup [.int (i:Int),x])
 exact⟨sm,_,u0 hz,.tup bH (.cons (.int _) (.cons ((rz.keep (e.keep tw)).same sm λ_ q=>q) .nil))⟩
section
variable {X:Cx}{σ:L2.St}{H:Hp}{te:aH}{R:It→Hp→Prop}
theorem aQ0 (h:LI X (u5 te) σ H R):Z6 X.K (gD (LE X te) kP) σ H R:=by
 obtain⟨W,ρ,Q,px,q,k⟩:=h
 refine⟨W,ρ,_,px,q,?_⟩;rintro v H1 x g s r ⟨xs,hx,hg,q⟩;have px1:=px.mono s;have tw:∀a,W a->∃o,H1 a=some o/\fE o=true:=λa z=>(px1.wm a z).2
 rcases hx with rfl|rfl
 ·obtain⟨a,us,rfl,m,h,r⟩:=r.sqL
  have wa:¬W a:=by
   cases g with
   |fr=>exact (px.new m).1
   |nw=>exact m.1
   |sh=>exact m
   |rd=>have:=hg rfl;unfold flat at this;cases this
  exact⟨a,rfl,.inl ⟨us,b8.of h,k _ _ _ _ s (aP8 tw (λW' H' e=>b8.of (e _ _ h wa rfl).1) (lU px (λz=>by have:=hg z;unfold flat at this;cases this) r)) q⟩⟩
 ·obtain⟨a,us,rfl,h,r⟩:=r.sqT
  refine⟨a,rfl,.inr ⟨us,aQ.of h,k _ _ _ _ s (aP9 tw (λW' H' e=>aQ.of (e _ _ h (λz=>?_) rfl).1) (lU px (λz=>by have:=hg z;unfold flat at this;exact this) r)) q⟩⟩
  obtain⟨o,h',mu⟩:=tw _ z;rw[h]at h';cases h';cases mu
theorem Z8 {elts:List Expr}{kt:Nat}{pt p2 pos:Pos}{a:Expr}{ta:aH}(hg:Gl X "enumerate")(hm:X.mg "enumerate" = none)(ha:QE X a ta)(hs:starEach [a] X.env = [(false,eval a X.env)]:=by rfl):QI X (.Tuple elts kt pt) (.Call (.Name "enumerate" p2) [a] [] pos) (u5 ta):=
 t7 (aP5 hg hm (eR ha iM hs) hs) λ_ _ _=>aQ0
end
section
variable {X:Cx}{e:Expr}{te:aH}{pos p2:Pos}{scope:Scope}{N:List Str}{fr:List (Option Nat)}{x y:Str}{tp xp yp:Pos}{kt:Nat}{iter elt:Expr}{ti:fX}
noncomputable abbrev yM (x y:Str)(xp yp:Pos)(kt:Nat)(tp:Pos):Expr:=.Tuple [.Name x xp,.Name y yp] kt tp
theorem aQ1 {ifs:List Expr}{tcs:cO}(hc:X.calm=true)(he:∀(s:ax) (H:Hp) (C:ay) (fp:List ay),QE (bY X scope N s H C fp dL) elt te)(hi:∀(s:ax) (H:Hp) (C:ay) (fp:List ay),kQ (bY X scope N s H C fp dL) ifs (LT (bY X scope N s H C fp dL) tcs))(hN:N.Nodup)(h0:N[0]? = some x)(h1:N[1]? = some y)(hl:∀(s:ax) (H:Hp) (C:ay) (fp:List ay),(bY X scope N s H C fp dL).env.scope.names.lookup x=some .local)(hl2:∀(s:ax) (H:Hp) (C:ay) (fp:List ay),(bY X scope N s H C fp dL).env.scope.names.lookup y=some .local)(s:ax)(H:Hp) :
  nC X scope N (yM x y xp yp kt tp) ifs elt s H (rY X.K 2 (lM (dO 0) (lM (dO 1) rX))) (LT (X.frm H) tcs) (LE (X.frm H) te):=
 ⟨λC fp=>vI (X:=bY X scope N s H C fp dL) hc (n5 (jJ hN h0 (.inl (hl s H C fp)) (.inr (hl s H C fp))) (n5 (jJ hN h1 (.inl (hl2 s H C fp)) (.inr (hl2 s H C fp))) vH)),λC fp=>hi s H C fp,λC fp=>he s H C fp⟩
theorem aQ2 (hi:QI X (yM x y xp yp kt tp) iter ti)(he:∀(s:ax) (H:Hp) (C:ay) (fp:List ay),QE (bY X scope N s H C fp dL) elt te)(hc:X.calm=true:=by rfl)(S:eF X scope N fr:=by exact eF.of rfl rfl)(hN:N.Nodup:=by decide +kernel)(h0:N[0]? = some x:=by rfl)(h1:N[1]? = some y:=by rfl)(hl:∀(s:ax) (H:Hp) (C:ay) (fp:List ay),(bY X scope N s H C fp dL).env.scope.names.lookup x=some .local:=by intro _ _ _ _;rfl)(hl2:∀(s:ax) (H:Hp) (C:ay) (fp:List ay),(bY X scope N s H C fp dL).env.scope.names.lookup y=some .local:=by intro _ _ _ _;rfl)(hf:fr[0]? = some none:=by rfl)(hf2:fr[1]? = some none:=by rfl)(hs:∀x,foldedSetIterable iter X.env x=pure x:=by intro _;rfl):QE X (.ListComp elt [⟨yM x y xp yp kt tp,iter,[],0⟩] scope pos) (gX ti fr (lV 0 1) iE te):=
 bV (wM (gh:=λ_=>rY X.K 2 (lM (dO 0) (lM (dO 1) rX))) (tch:=λH=>LT (X.frm H) iE) (teh:=λH=>LE (X.frm H) te) hc S hi (aQ1 hc he (λ_ _ _ _=>xP) hN h0 h1 hl hl2) hs) λ_ _ _=>t6 (R4 _ 0 1) (λi e=>by rcases e with e|e<;>(subst e;assumption))
end
section
variable {X:Cx}{a b e o f:Expr}{ta tb te td tk tx:aH}{pos p2 aj am:Pos}{σ:L2.St}{H:Hp}{Q':VK}
theorem qH {x:Str}{n:Int}{t:Nat}(hg:Gl X x)(hm:X.mg x=some (.int n t))(hd:(x==("__debug__":Str))=false:=by decide):QE X (.Name x pos) (qC (.int n)):=
 bV (ar3 (v:=.int n) hg hm ⟨t,rfl⟩ hd) λ_ _ _=>pJ λ_=>.int n
end
section
variable {X:Cx}{a b:Expr}{ta tb:aH}{pos:Pos}
noncomputable def Z9:PV->Tg->PV->Tg->PK->Prop:=λx _ y _ Q=>∃xs ys,x = .tup xs/\y = .tup ys/\flats xs=true/\flats ys=true/\xs.length+ys.length<=16000000/\Q (.tup (xs++ys)) .fr
noncomputable abbrev aa0 (ta tb:aH):aH:=q2 Z9 ta tb
theorem aQ3:gG X Z9 (Z7 X.K):=by
 rintro W Hs H u v x y g g' Q Q' s n r1 r2 ⟨xs,ys,rfl,rfl,f1,f2,hl,q⟩ k
 obtain⟨a,us,rfl,h1,q1⟩:=r1.sqT
 obtain⟨b,ws,rfl,h2,q2⟩:=r2.sqT
 have l1:=q1.length;have l2:=q2.length;refine⟨a,b,us,ws,rfl,rfl,aQ.of h1,aQ.of h2,lim (by omega),λz=>?_,λ_ z=>?_,λ_ _ p hp=>k _ _ _ .fr (cS hp _) (.tup bH (((q1.flat f1).append (q2.flat f2)).same (cS hp _) λ_ z=>z)) q⟩
 ·obtain rfl:xs = []:=by cases xs with
   |nil=>rfl
   |cons _ _=>rw[z]at l1;cases l1
  exact k _ _ _ .fr (aI.refl _) (.tup h2 (q2.flat f2)) q
 ·obtain rfl:ys = []:=by cases ys with
   |nil=>rfl
   |cons _ _=>rw[z]at l2;cases l2
  rw[bu0]at q;exact k _ _ _ .fr (aI.refl _) (.tup h1 (q1.flat f1)) q
theorem aQ4 (ha:QE X a ta)(hb:QE X b tb):QE X (.BinOp a .Add b pos) (aa0 ta tb):=iG aP7 aQ3 ha hb
end
end PP
namespace Core
open PySem L2 PP
section
variable {ws:ag}{ls:aa}{os ns:ag}
theorem qI {S T:ag}{h:Int}(hk:kin ws ls S h=true)(st:∀x∈S,x∈T)(hn:h∉T):kin ws ls T h=true:=by
 unfold kin at hk ⊢;rw[bt4]at hk ⊢;refine⟨by rw[bp9 hn];rfl,bq2 ?_⟩;have h1:=bz1 hk.2;have h2:((bN ls h).filter λx=>decide (x∈S)).length<=((bN ls h).filter λx=>decide (x∈T)).length:=by
  rw[<- List.countP_eq_length_filter,<- List.countP_eq_length_filter];exact List.countP_mono_left λx _ hx=>bq2 (st x (bz1 hx))
 omega
noncomputable def gN (ws:ag)(ls:aa)(T:ag):Prop:=∀h∈rng ws.length,kin ws ls T h=false
theorem aa1 (n:Nat):(rng n).Nodup:=aN9 n
end
noncomputable def aQ5:Option Int->PV
 |none=>.non
 |some h=>.int h
theorem aa2 {i:Nat}{h:Int}{g:Bool}{ρ:bR}{Q:bR->Prop}(q:Q (ρ.set i (some (.sh true (.int h))))):dU i (.int h) g ρ Q:=by
 show Q (ρ.set i (some (.sh (g||true) (.int h))));rw[Bool.or_true];exact q
noncomputable def aQ6 (ns S:ag):Int:=(ns.length:Int)-(((ns.filter λx=>decide (x∈S)).length:Nat):Int)
noncomputable def aQ7 (ws:ag)(ls:aa)(S:ag)(h:Int):Bool:=decide (aQ6 (bN ls h) S<ws.getD h.toNat 0)
noncomputable def stay (ws:ag)(ls:aa)(S:ag):ag:=S.filter (aQ7 ws ls S)
section
variable {ws:ag}{ls:aa}{ns:ag}
theorem aQ8 (wb:Wb ws ls){h x:Int}(hx:x∈bN ls h):x∈rng ws.length:=by
 unfold bN at hx
 obtain⟨l,hl,hx⟩:=bE6.mp hx
 have:=wb.links l hl
 rcases bs3.mp hx with hx|hx
 ·split at hx
  ·rw[bq1.mp hx];exact dC.mpr this.2
  ·cases hx
 ·split at hx
  ·rw[bq1.mp hx];exact dC.mpr this.1
  ·cases hx
end
theorem aa3 {ls:aa}{h x:Int}:x∈bN ls h↔∃l∈ls,(l.1=h/\l.2=x)∨(l.2=h/\l.1=x):=by
 unfold bN;rw[bE6];constructor
 ·rintro⟨l,hl,hx⟩
  refine⟨l,hl,?_⟩;rcases bs3.mp hx with hx|hx
  ·split at hx
   ·rename_i e;exact .inl ⟨e,(bq1.mp hx).symm⟩
   ·cases hx
  ·split at hx
   ·rename_i e;exact .inr ⟨e,(bq1.mp hx).symm⟩
   ·cases hx
 ·rintro⟨l,hl,⟨e1,e2⟩|⟨e1,e2⟩⟩
  ·exact⟨l,hl,bt5 _ (by rw[if_pos e1,e2];exact List.mem_singleton_self _)⟩
  ·exact⟨l,hl,bs2 _ (by rw[if_pos e1,e2];exact List.mem_singleton_self _)⟩
theorem aa4 {h:Int}:∀{ls:aa},(∀l∈ls,l.1<l.2)->ls.Pairwise eN->(bN ls h).Nodup
 |[],_,_=>.nil
 |l::r,hl,hp=>by
  have ih:=aa4 (h:=h) (ls:=r) (λm hm=>hl m (bq8 _ hm)) (List.pairwise_cons.mp hp).2;have h0:=hl l bq3;have e:bN (l::r) h=((if l.1=h then [l.2] else [])++(if l.2=h then [l.1] else []))++bN r h:=rfl;rw[e];refine List.nodup_append.mpr ⟨?_,ih,λx hx y hy q=>?_⟩
  ·by_cases e1:l.1=h
   ·rw[if_pos e1,if_neg (by omega),bu0];exact bA9 _ _
   ·rw[if_neg e1]
    split
    ·exact bA9 _ _
    ·exact .nil
  ·subst q
   obtain⟨m,hm,c⟩:=aa3.mp hy
   have h1:=hl m (bq8 _ hm);have h2:=(List.pairwise_cons.mp hp).1 m hm;have c':(l.1=h/\l.2=x)∨(l.2=h/\l.1=x):=by
    rcases bs3.mp hx with hx|hx
    ·split at hx
     ·rename_i e;exact .inl ⟨e,(bq1.mp hx).symm⟩
     ·cases hx
    ·split at hx
     ·rename_i e;exact .inr ⟨e,(bq1.mp hx).symm⟩
     ·cases hx
   unfold eN at h2;omega
noncomputable def wnb (zs:List ((Int×Int)×Int))(k:Int):aa:=zs.flatMap λz=>(if z.1.1=k then [(z.1.2,z.2)] else [])++(if z.1.2=k then [(z.1.1,z.2)] else [])
noncomputable def aQ9 (want:Int)(hs:ag)(c:PV):Prop:=((hs.length:Int)<want/\c = .non)∨(want<=(hs.length:Int)/\∃zs:ag,zs.Perm hs/\zs.Pairwise (· <= ·)/\c = .int (zs.take want.toNat).sum)
noncomputable def aR0 (zs:ag)(s:Int):Nat:=((List.range zs.length).filter λi=>decide ((zs.take (i+1)).sum<=s)).length
structure aR1 (ws:ag)(ls:aa)(wts:ag)(os:List (Option Int)):Prop where
 len:os.length=ws.length
 due:∀h:Nat,h<ws.length->∃o,os[h]? = some o/\aQ9 (ws.getD h 0) ((wnb (ls.zip wts) h).map (·.2)) (aQ5 o)
structure aR2 (ws:ag)(ls:aa)(wts zs:ag):Prop where
 ex:∃os,aR1 ws ls wts os/\zs.Perm (os.filterMap id)/\zs.Pairwise (· <= ·)
theorem aR3 (n:Nat):(rng n).Pairwise (·<·):=by
 unfold rng;rw[List.pairwise_map];exact (List.pairwise_lt_range (n:=n)).imp λh=>by omega
theorem aR4 (n:Nat)(p:Int->Bool):kA n ((rng n).filter p)=true:=by
 refine yI.set ⟨(aR3 n).sublist List.filter_sublist,λx hx=>?_,?_⟩
 ·have:=dC.mp (bt8.mp hx).1
  exact this
 ·have:=List.length_filter_le p (rng n)
  rw[nZ]at this;omega
section
variable {ws:ag}{ls:aa}{ns wts:ag}{m:Nat}
noncomputable def loose (ls:aa)(wts ns:ag):List ((Int×Int)×Int):=(ls.zip wts).filter λz=>!(decide (z.1.1∈ns)&&decide (z.1.2∈ns))
end
end Core
namespace PP
open PySem L2 PyProof.Rows
noncomputable abbrev kB:=(Str->Prop)->b9
noncomputable def EX (K:ad)(H0:Hp)(Ep:Str->Prop):XK:=λc d H'=>d=none/\aI H0 H'/\∃n C,c = .ref C/\PySem.W.nsIn K mainGlobals n=some (some (.ref C))/\Ep n
noncomputable def spX (K:ad)(p:kB):Sp:=λvs H Q E=>∃xs Qp Ep,Reps K (λ_=>True) H vs xs/\p Ep xs Qp/\(∀v H' x,aI H H'->aG K (λa=>H a=none) H' v x->Qp x->Q v H')/\
 ∀n C H',aI H H'->PySem.W.nsIn K mainGlobals n=some (some (.ref C))->Ep n->E (.ref C) none H'
structure gY (P:az)(w:bc)(K:ad)(mg:Str->Option aw)(base:Heap)(k:Nat)(x:Str)(ps:List Str)(p:kB):Prop where
 ex:∃f fd,d7 P w K mg base (gL P w) k f fd ps (spX K p)/\i8 K fd ps []/\PySem.W.keepIn K (.ref f)=true/\mg x=some (.ref f)
section
variable {X:Cx}{σ:L2.St}{H:Hp}{D:dZ}{tr:bX}{Q':VK}{a b c e:Expr}{es:List Expr}{pos p2 cp np hp:Pos}{t:aX}{te:aH}{tc:cO}
noncomputable def aR5 (Ep:Str->Prop)(p:kB)(t:bX):aH:=aP (p Ep) t
theorem aR6 {p:kB}{Ep:Str->Prop}(h:LE X (aR5 Ep p tr) σ H Q'):nA (spX X.K p) [] (EX X.K X.H₀ Ep) (LA X tr) σ H Q':=by
 obtain⟨W,ρ,Q,px,q,k⟩:=h
 refine⟨W,ρ,_,px,q,λvs H1 xs s1 r1 q1=>⟨_,_,Ep,by rw[bu0];exact r1.any,q1,λv H' x s2 r2 q2=>k v H' x .fr (s1.trans s2) (r2.same (aI.refl _) λ_ z=>s1.free z) q2,λn C H' s2 z1 z2=>⟨rfl,(px.same.trans s1).trans s2,n,C,rfl,z1,z2⟩⟩⟩
theorem o6 {k j:Nat}{x:Str}{ps:List Str}{p:kB}(d:gY X.prog X.w X.K X.mg X.base k x ps p)(hr:bM j X.A)(ha:QA X (e::es) tr)(hkj:k<=j:=by decide)(hg:Gl X x:=by rfl)(hdb:(x==("__debug__":Str))=false:=by decide)(he:starEach (e::es) X.env=(false,eval e X.env)::starEach es X.env:=by rfl)(hpl:(backTo pos (starEach es X.env)).any (·.1)=false:=by rfl):QE X (.Call (.Name x p2) (e::es) [] pos) (aP (p λ_=>False) tr):=by
 obtain⟨f,fd,F,b,kp,m⟩:=d.ex
 refine bV (p8 F (E:=EX X.K X.H₀ λ_=>False) (hr.mono hkj) hg m kp b .nil (λ_ _ _ _ _ _ _ h=>?_) ha hdb he hpl) λ_ _ _ h=>aR6 (Ep:=λ_=>False) h
 obtain⟨_,_,_,_,_,_,_,_,_,_,_,_,z⟩:=h
 exact z.elim
noncomputable def qJ (Ep:Str->Prop)(n:Str)(t:bX):aX:=λ_ ρ=>t ρ λxs=>xs.length<=1000/\Ep n
theorem aR7 {Ep:Str->Prop}{n:Str}{C:ay}(hn:PySem.W.nsIn X.K mainGlobals n=some (some (.ref C)))(h:LS X (qJ Ep n tr) D σ H):X3 (EX X.K X.H₀ Ep) C (LA X tr) D σ H:=by
 obtain⟨W,ρ,D',px,q,k⟩:=h
 exact⟨W,ρ,_,px,q,λvs H1 xs s1 r z=>⟨by rw[r.length];exact wW z.1,rfl,px.same.trans s1,n,C,rfl,hn,z.2⟩⟩
structure Xc (K:ad)(mg:Str->Option aw)(base:Heap)(n:Str):Prop where
 ex:∃C B newId initId bm,OwnCls n C bm newId mg base/\ExcBaseFacts B newId initId bm/\PySem.W.nsIn K mainGlobals n=some (some (.ref C))
theorem yN {Ep:Str->Prop}{n:Str}(hX:tX X (EX X.K X.H₀ Ep))(x:Xc X.K X.mg X.base n)(ha:QA X (e::es) tr)(hc:X.calm=true:=by rfl)(hg:Gl X n:=by rfl)(hd:(n==("__debug__":Str))=false:=by decide)(he:starEach (e::es) X.env=(false,eval e X.env)::starEach es X.env:=by rfl)(hpl:(backTo cp (starEach es X.env)).any (·.1)=false:=by rfl):QS X (.Raise (some (.Call (.Name n np) (e::es) [] cp)) none pos) (qJ Ep n tr):=by
 obtain⟨C,B,newId,initId,bm,O,FB,hn⟩:=x.ex
 exact e9 (aM4 hX hc O FB ha hg hd he hpl) λ_ _ _=>aR7 hn
noncomputable def pB:V->aw
 |.ref a=>.ref a
 |.ty n=>.type n
 |_=>.none
end
structure yO (K:ad)(C:ay):Prop where
 cls:PySem.W.isClsIn K C=true
 ty:PySem.W.typeIn K (.ref C)=some (.type "type")
 ga:PySem.W.findIn K (.ref C) "__getattribute__" = some (some (.builtin "BaseException.__getattribute__"))
 gt:PySem.W.findIn K (.ref C) "__getattr__" = some none
 fc:PySem.W.findIn K (.ref C) "__class__" = some (some (.builtin "object.__class__"))
 fg:PySem.W.specialIn K (.builtin "object.__class__") "__get__" = some (some (.builtin "getset_descriptor.__get__"))
 ft:PySem.W.takesIn K (.builtin "object.__class__")=some true
 ob:PySem.W.mroIn K C (.type "object")=some true
 be:PySem.W.mroIn K C (.type "BaseException")=some true
theorem aa5 {K:ad}{h₀:Heap}{mg:Str->Option aw}{x:Str}{C:ay}{bmB:List aw}{newId:String}(X:K.In h₀)(m:mg x=some (.ref C))(q:PySem.W.excIn K C bmB newId=true):OwnCls x C bmB newId mg h₀:=by
 refine⟨m,?_⟩;unfold PySem.W.excIn at q;split at q
 case h_2=>cases q
 rename_i dd cd sl ho
 split at q
 case h_2=>cases q
 rename_i C' bm k0 k1 k2 k3 n k5 hm hs
 simp only[bt4,beq_iff_eq,Bool.not_eq_true']at q
 obtain⟨⟨⟨⟨⟨rfl,rfl⟩,dl⟩,ht⟩,hok⟩,hni⟩:=q
 obtain⟨nm,bs,mro,ns,qn,hd,sn,sub,ab,col,del⟩:=cd
 dsimp only at hm dl hok hni;subst hm dl;obtain rfl:sl = #[k0,k1,k2,k3,some (.builtin n),k5]:=by
  obtain⟨l⟩:=sl
  exact congrArg Array.mk hs
 exact⟨bm,ns,nm,qn,bs,hd,sn,sub,ab,col,dd,k0,k1,k2,k3,k5,_,X _ _ ho,.of_isNs (PySem.W.isNs_of_in X hok),PySem.W.nsMap_none_of_in X hok hni,PySem.W.tail_of_in X ht⟩
theorem gY.of {P:az}{w:bc}{K:ad}{mg:Str->Option aw}{base:Heap}{k:Nat}{x:Str}{ps N:List Str}{p:kB}{st:Stmt}{f:ay}{fd:FuncData}(F:bK K x x st f fd)(m:mg x=some (.ref f))(S:FnScope N ps (aJ st))(hb:∀(kV doc pm:aw) (an:Option ay) (cdv ct:aw) (us:List aw),us.length=ps.length->bindArgs (PySem.W.fnOf x x (bE st) (bA st) (aJ st) .none kV doc pm an cdv ct) ⟨us,[]⟩=pure (ps.zip us))(t:(Str->Prop)->aX)(len:∀Ep xs Q,p Ep xs Q->xs.length=ps.length)(rd:∀Ep xs Q,p Ep xs Q->t Ep { nx:=λ_=>Q .non,rt:=Q } (bG N xs))(body:∀(cdv:aw) (A:ba) (outer:List Env) (s:ax) (H:Hp) (E:XK) (Ep:Str->Prop),bM k (A.deeper (envOfC x (aJ st) s.heap.objs.size f cdv))->tX (cJ (gL P w) P w K mg base N x (aJ st) f cdv A outer s H E) (EX K H Ep)->
   g8 (cJ (gL P w) P w K mg base N x (aJ st) f cdv A outer s H E) (bA st) (t Ep)):gY P w K mg base (k+1) x ps p:=by
 refine⟨f,fd,F.okX S (λvs H Q E h=>?_) (λcdv A outer s H vs Q E hr h=>?_),F.binds hb,F.kp,m⟩
 ·obtain⟨xs,Qp,Ep,r,q,_⟩:=h
  rw[r.length];exact len Ep xs Qp q
 ·obtain⟨xs,Qp,Ep,r,q,k,ke⟩:=h
  have ht:=body cdv A outer s H E Ep hr (aM3 λc d H' z=>?_)
  ·refine⟨_,ht,λ_=>False,bG N xs,_,kY r,rd Ep xs Qp q,?_,?_,?_,?_⟩
   ·exact λW' σ' H' ρ' e px q=>k _ _ _ px.same .non q
   ·exact λv H' x s r q=>k _ _ _ s r q
   ·exact λW' σ' H' ρ' e px q=>q
   ·exact λW' σ' H' ρ' e px q=>q
  ·obtain⟨rfl,s1,n,C,rfl,z1,z2⟩:=z
   exact ke n C H' s1 z1 z2
end PP
namespace Core
open PySem L2 PP
noncomputable abbrev RdX (t:(Str->Prop)->aX)(N:List Str)(p:kB):Prop:=∀Ep xs Q,p Ep xs Q->t Ep { nx:=λ_=>Q .non,rt:=Q } (bG N xs)
end Core
namespace PP
open PySem L2
theorem aa6 {α β:Type}{F:α->β->Prop}:∀{l:List α}{m:List β}{i:Nat}{x:α},Paired F l m->l[i]? = some x->∃y,m[i]? = some y/\F x y
 |_,_,_,_,.nil,e=>by simp at e
 |_,_,0,_,.cons r _,e=>by simp at e;subst e;exact⟨_,rfl,r⟩
 |_,_,i+1,x,.cons _ t,e=>by
  rw[bz3]at e
  obtain⟨y,h1,h2⟩:=aa6 t e
  exact⟨y,by rw[bz3];exact h1,h2⟩
theorem us1 {us:List aw}(h:us.length=1):∃a,us = [a]:=List.length_eq_one_iff.mp h
theorem us2 {us:List aw}(h:us.length=2):∃a b,us = [a,b]:=by
 cases us with
 |nil=>cases h
 |cons a r=>
  obtain⟨b,rfl⟩:=us1 (us:=r) (by simpa using h)
  exact⟨a,b,rfl⟩
theorem us3 {us:List aw}(h:us.length=3):∃a b c,us = [a,b,c]:=by
 cases us with
 |nil=>cases h
 |cons a r=>
  obtain⟨b,c,rfl⟩:=us2 (us:=r) (by simpa using h)
  exact⟨a,b,c,rfl⟩
theorem mP {us:List aw}(h:us.length=4):∃a b c d,us = [a,b,c,d]:=by
 cases us with
 |nil=>cases h
 |cons a r=>
  obtain⟨b,c,d,rfl⟩:=us3 (us:=r) (by simpa using h)
  exact⟨a,b,c,d,rfl⟩
theorem us5 {us:List aw}(h:us.length=5):∃a b c d e,us = [a,b,c,d,e]:=by
 cases us with
 |nil=>cases h
 |cons a r=>
  obtain⟨b,c,d,e,rfl⟩:=mP (us:=r) (by simpa using h)
  exact⟨a,b,c,d,e,rfl⟩
section
variable {X:Cx}{e:Expr}{tr:bX}{pos p2:Pos}
noncomputable def yP:List PV->(PV->Prop)->Prop:=λxs Q=>∃ys:ae,xs = [.lst (ys.map λr=>PV.tup (intz r))]/\ys.length<=4096/\(∀y∈ys,y.length=2)/\∀zs:ae,zs.Perm ys->zs.Pairwise (λu v=>HT.cK v u=false)->Q (.lst (zs.map λr=>PV.tup (intz r)))
theorem aR8:fW X yP (X2 X.K):=by
 rintro H vs xs Q Q' r ⟨ys,rfl,hl,hne,q⟩ k
 obtain⟨v,rfl,r1⟩:=r.one
 obtain⟨a,us,rfl,_,h,r2⟩:=r1.sqL
 obtain⟨h1,h2⟩:=Y8 r2
 have lr:=r2.length;rw[bq6]at lr;refine⟨a,us,mO H,rfl,b8.of h,by omega,λy hy=>?_,λl zs hl' pm so=>?_⟩
 ·obtain⟨b,rfl,hb⟩:=h2 y hy
  refine⟨b,rfl,aQ.of hb,hne _ ?_⟩;rw[<- h1];exact bt7.mpr ⟨_,hy,rfl⟩
 ·have hz:∀u∈zs,∃b,u = .ref b/\H b=some (.tup ((mO H u).map V.int)):=λu hu=>h2 u (pm.mem_iff.mp hu)
  refine k _ _ _ (cS hl' _) (.lst hl' bH ((Y9 hz).same (cS hl' _) λ_ z=>z)) (q _ ?_ ?_)
  ·rw[<- h1];exact pm.map _
  ·rw[List.pairwise_map];exact so
theorem aR9 (B:Bt X.mg)(ha:QA X [e] tr)(hg:Gl X "sorted":=by rfl)(he:starEach [e] X.env=(false,eval e X.env)::starEach [] X.env:=by rfl)(hpl:(backTo pos (starEach [] X.env)).any (·.1)=false:=by rfl):QE X (.Call (.Name "sorted" p2) [e] [] pos) (aP yP tr):=
 pV aM0 aR8 hg B.sorted PyProof.Rows.boot_sorted ha (he:=he) (hpl:=hpl)
end
section
variable {X:Cx}{a:Expr}{tk:aH}{σ:St}{H:Hp}{Q':VK}{pos p2:Pos}
theorem aS0 (hN:X.N.Nodup)(i j:Nat){x y:Str}{aj am xpos:Pos}(hi:X.N[i]? = some x:=by rfl)(hj:X.N[j]? = some y:=by rfl)(hv:eQ X.env.scope x:=by first|exact Or.inl rfl|exact Or.inr (Or.inl rfl)|exact Or.inr (Or.inr rfl))(hd:(x==("__debug__":Str))=false:=by decide)(hcd:(x==("__classdict__":Str))=false:=by decide)(hbase:attributeBase (.Name x xpos) "pop" X.env (eval (.Name x xpos) X.env)=eval (.Name x xpos) X.env:=by rfl)(hline:(aj.endLine==am.line)=true:=by rfl)(hx:i5 X.env.scope y:=by first|exact Or.inl rfl|exact Or.inr rfl)(hs:swapsWith (.Call (.Attribute (.Name x xpos) "pop" aj) [] [] am) (some (.Name y p2)) pos.line X.env=pure false:=by rfl)(hf:X.fn y=true∨X.env.scope.names.lookup y=some .local:=by first|exact .inl rfl|exact .inr rfl) :
  QS X (.Assign [.Name y p2] (.Call (.Attribute (.Name x xpos) "pop" aj) [] [] am) pos) (wY i j):=
 e9 (oW hN hj hx (ay3 bD7 PySem.F.slot_list_pop PySem.F.type_list_pop ay6 (i6 hi hv hd hcd) hbase hline) hs hf) λ_ _ _=>aF7
end
end PP
namespace Core
open PySem L2 PP
noncomputable def o7 (ws:ag)(ls:aa)(S:ag):Prop:=S≠[]/\stay ws ls S=S/\∀U,stay ws ls U=U->U≠[]->(∀x∈U,x∈S)->∀x∈S,x∈U
section
variable {ws:ag}{ls:aa}
noncomputable def cne (ws:ag)(ls:aa)(S:ag):Bool:=!decide (S = [])&&decide (stay ws ls S=S)
end
noncomputable def far (ns S:ag):Bool:=decide (((S.filter λx=>decide (x∈ns)).length:Int)=0)
noncomputable def aS1 (ls:aa)(S U:ag):Prop:=∀x∈U,∀y∈bN ls x,y∈S->y∈U
noncomputable def aS2 (ls:aa)(S:ag)(h:Int):ag:=S.filter λx=>@decide (∀U:ag,aS1 ls S U->h∈U->x∈U) (Classical.propDecidable _)
section
variable {ws:ag}{ls:aa}{S:ag}{n:Nat}{h x:Int}
noncomputable def aS3 (ls:aa)(S:ag)(h:Int):Bool:=decide ((aS2 ls S h).head? = some h)
noncomputable def aS4 (ls:aa)(S:ag):ag:=S.filter (aS3 ls S)
end
noncomputable def yQ (ws:ag)(ls:aa):ag->ag->Bool
 |_,[]=>true
 |B,h::R=>inB ws.length h&&(kin ws ls B h&&yQ ws ls (B++[h]) R)
end Core
namespace PP
open PySem L2
section
variable {X:Cx}{a b:Expr}{ta tb:aH}{pos pos2 p2 p3:Pos}
theorem aS5 (ha:QE X a ta)(hb:QE X b tb):QE X (.BinOp a .BitAnd b pos) (q2 (eG λi j=>.int (Builtin.bitAnd i j)) ta tb):=iG au8 sR ha hb
end
section
variable {P:az}{w:bc}{K:ad}{mg:Str→Option aw}{base:Heap}{k:Nat}{f:ay}{fd:FuncData}
theorem aS6 (F:d7 P w K mg base cG k f fd ["web"] Z0)(b:i8 K fd ["web"] [])(kp:PySem.W.keepIn K (.ref f)=true)(m:mg "_law_beside" = some (.ref f)):Df P w K mg base k "_law_beside" ["web"] Core.Y0:=by
 refine⟨f,fd,F.imp λvs H Q E h=>?_,b,kp,m⟩
 obtain⟨xs,Qp,r,⟨ws,ls,rfl,wb,q⟩,k⟩:=h
 obtain⟨v,rfl,r1⟩:=r.one
 have:=wb.few
 have:=wb.most
 refine⟨v,ws,ls,rfl,aN8 r1,by omega,by omega,wb.links,λt bs H' hb R=>k _ H' _ R.same (.lst R.new R.row ?_) q⟩
 have:=Z2 (K:=K) (M:=λa=>H a=none) (H:=H') (bs:=bs) (ls:=ls) 0 (λb hb=>(R.news b hb).1) λk b hk=>by rw[bE4];exact R.rows k b hk
 rw[hb,<- List.range_eq_range']at this;exact this
end
end PP
namespace Core
open PySem L2 PP
noncomputable def o8 (ws:ag)(ls:aa)(C:ag):Bool:=@decide (∀U:ag,gN ws ls U->(∀x∈C,x∈U)->∀h∈rng ws.length,h∈U) (Classical.propDecidable _)
section
variable {ws:ag}{ls:aa}{C D:ag}
theorem yR:o8 ws ls C=true↔∀U:ag,gN ws ls U->(∀x∈C,x∈U)->∀h∈rng ws.length,h∈U:=
 ⟨λz=>@bz1 _ (Classical.propDecidable _) z,λz=>@bq2 _ (Classical.propDecidable _) z⟩
theorem aS7 {T:ag}(sh:gN ws ls T)(sub:∀x∈C,x∈T)(le:∀U,gN ws ls U->(∀x∈C,x∈U)->∀x∈T,x∈U):o8 ws ls C=true↔∀h∈rng ws.length,h∈T:=
 ⟨λf=>yR.mp f T sh sub,λa=>yR.mpr λU sU hU h hh=>le U sU hU h (a h hh)⟩
end
noncomputable abbrev aa7:b9:=Y0
noncomputable def qK:b9:=λxs Q=>∃ws ls x ns,xs = [gM ws ls,x]/\Wb ws ls/\d5 x ns/\(∀x∈ns,x∈rng ws.length)/\∀T,gN ws ls T->(∀x∈ns,x∈T)->(∀U,gN ws ls U->(∀x∈ns,x∈U)->∀x∈T,x∈U)->Q (.lst (eY ws.length T))
noncomputable def aa8:aX:=(aY (bZ 2 (aP aa7 (aF (aB 0) aM)))
 (aY (nJ 3 (gX (j7 (aP eI (aF (d8 (aB 0) (qC (.int 0))) aM))) [none,some 1] (dU 0) iE (q2 (x9 false) (aB 0) (aB 1))))
 (aY (bZ 4 (qC (.bl true)))
 (aY (pO (bL (aB 4))
  (aY (bZ 4 (qC (.bl false)))
  (gH (j7 (aP eI (aF (d8 (aB 0) (qC (.int 0))) aM))) (dU 5)
   (aY (bZ 6 (aP eI (aF (gX (kU (d8 (aB 2) (aB 5))) [none,some 3] (dU 0) (jV (d8 (aB 1) (aB 0))) (aB 0)) aM)))
   (dQ (wU (jU (jV (d8 (aB 3) (aB 5)))) (bL (xB (aB 6) (d8 (d8 (aB 0) (qC (.int 0))) (aB 5))))) (aY (wX 3 (aB 5) (qC (.bl true)))
    (bZ 4 (qC (.bl true)))) dP)))))
 (pN 3)))))
theorem aS8:mK aa8 ["web","seeds","beside","burning","left","hearth","count"] qK:=by
 rintro xs Q ⟨ws,ls,x,ns,rfl,wb,hx,inn,q⟩;have few:=wb.few;refine⟨_,rfl,ws,ls,rfl,wb,trivial,?_⟩;refine⟨_,rfl,_,_,_,rfl,rfl,rfl,_,_,rfl,rfl,_,rfl,by rw[dD];omega,by rw[dD];omega,by rw[dS,dD];omega,λi acc=>acc=((rng ws.length).take i).map λi=>PV.bl (decide (i∈ns)),rfl,?_,?_⟩
 ·rintro i y acc hy rfl
  obtain⟨rfl,hi⟩:=tY hy
  rw[dD]at hi;have hi:i<ws.length:=by omega
  refine⟨_,rfl,_,rfl,_,ns,rfl,hx.seq,trivial,?_⟩;have tk:=aM6 (f:=λ(i:Int)=>PV.bl (decide (i∈ns))) (tZ hi);show _=List.map _ (List.take (i+1) _);rw[tk,Int.zero_add];rfl
 rintro bu rfl;rw[dS,dD,bB7 (by rw[nZ];omega)];have flb:∀S,flats (eY ws.length S)=true:=λS=>by
  rw[X9];intro x hx;unfold eY at hx
  obtain⟨i,_,rfl⟩:=bt7.mp hx
  rfl
 refine⟨rfl,flb ns,?_⟩;refine⟨trivial,?_⟩
 refine⟨λn ρ=>∃(T:ag) (g:Bool) (y5 y6:Option Slot),ρ = [some (.sh (flat (gM ws ls)) (gM ws ls)),some (.sh (flat x) x),some (.sh true (.lst (mL ws.length ls))),some (.own (.lst (eY ws.length T))),some (.sh true (.bl g)),y5,y6]/\
   (∀x∈ns,x∈T)/\(∀U,gN ws ls U->(∀x∈ns,x∈U)->∀x∈T,x∈U)/\(g=false->gN ws ls T)/\n=2*((rng ws.length).filter λz=>!decide (z∈T)).length+(if g=true then 1 else 0),⟨_,ns,true,none,none,rfl,λ_ h=>h,λ_ _ h=>h,(λz=>by cases z),rfl⟩,?_⟩
 rintro n ρ ⟨T,g,y5,y6,rfl,sub,le,sh,rfl⟩;refine⟨_,rfl,_,rfl,?_⟩;cases g with
 |false=>exact bJ ⟨_,rfl,trivial,q T (sh rfl) sub le⟩
 |true=>
  refine bQ ⟨trivial,?_⟩
  refine⟨_,rfl,_,_,_,rfl,rfl,rfl,_,_,rfl,rfl,_,rfl,by rw[dD];omega,by rw[dD];omega,λi ρ=>∃(T2:ag) (g2:Bool) (y5 y6:Option Slot),ρ = [some (.sh (flat (gM ws ls)) (gM ws ls)),some (.sh (flat x) x),some (.sh true (.lst (mL ws.length ls))),some (.own (.lst (eY ws.length T2))),some (.sh true (.bl g2)),y5,y6]/\
   (∀x∈ns,x∈T2)/\(∀U,gN ws ls U->(∀x∈ns,x∈U)->∀x∈T2,x∈U)/\(g2=false->T2=T/\∀j:Nat,j<i->kin ws ls T j=false)/\(g2=true->((rng ws.length).filter λz=>!decide (z∈T2)).length<((rng ws.length).filter λz=>!decide (z∈T)).length),⟨T,false,y5,y6,rfl,sub,le,(λ_=>⟨rfl,λj hj=>absurd hj (bC1 _)⟩),λz=>by cases z⟩,?_,?_⟩
  ·rintro i y ρ hy ⟨T2,g2,y5,y6,rfl,sub2,le2,h0,h1⟩
   obtain⟨rfl,hi⟩:=tY hy
   have hi:i<ws.length:=by rw[dD,bu1]at hi;exact hi
   refine aa2 ?_;rw[Int.zero_add];have hr:(i:Int)∈rng ws.length:=dC.mpr ⟨by omega,by omega⟩;refine⟨_,rfl,_,rfl,_,_,_,rfl,rfl,aN0 (by omega) (by omega),_,rfl,(λz=>by cases z),?_,λj acc=>acc=intz (((bN ls (i:Int)).take j).filter λz=>decide (z∈T2)),rfl,?_,?_⟩
   ·rw[dD];have:=wQ ls (i:Int);have:=wb.most;omega
   ·rintro j z acc hz rfl
    obtain⟨o,rfl,ho⟩:=X6 hz
    have tk:=X7 (p:=λz=>decide (z∈T2)) ho;have om:=dC.mp (aQ8 wb (bv1 ho));refine⟨_,rfl,_,rfl,_,_,_,rfl,rfl,Z4 om.1 om.2,_,rfl,?_⟩;show if decide (o∈T2)=true then _ else _
    cases hm:decide (o∈T2) with
    |true=>
     rw[hm]at tk;refine bQ ⟨_,rfl,trivial,?_⟩;dsimp only;rw[tk,X8];rfl
    |false=>
     rw[hm]at tk;refine bJ ?_;dsimp only;rw[tk];exact congrArg intz (bu0 _).symm
   rintro acc rfl;rw[dD,bC8];have ix:L2.atI (intz ws) (i:Int)=some (.int (ws.getD (i:Int).toNat 0)):=Y1 (by omega) (by omega);refine⟨_,_,rfl,rfl,trivial,?_⟩;refine⟨_,rfl,_,rfl,_,_,_,rfl,rfl,Z4 (by omega) (by omega),_,rfl,?_⟩;show if (!decide ((i:Int)∈T2))=true then _ else _
   have stay:kin ws ls T2 (i:Int)=false->∃(T3:ag) (g3:Bool) (y5 y6':Option Slot),[some (Slot.sh (flat (gM ws ls)) (gM ws ls)),some (.sh (flat x) x),some (.sh true (.lst (mL ws.length ls))),some (.own (.lst (eY ws.length T2))),some (.sh true (.bl g2)),si (i:Int),some (.sh true (.int (((bN ls (i:Int)).filter λz=>decide (z∈T2)).length:Nat)))] = [some (.sh (flat (gM ws ls)) (gM ws ls)),some (.sh (flat x) x),some (.sh true (.lst (mL ws.length ls))),some (.own (.lst (eY ws.length T3))),some (.sh true (.bl g3)),y5,y6']/\
     (∀x∈ns,x∈T3)/\(∀U,gN ws ls U->(∀x∈ns,x∈U)->∀x∈T3,x∈U)/\(g3=false->T3=T/\∀j:Nat,j<i+1->kin ws ls T j=false)/\(g3=true->((rng ws.length).filter λz=>!decide (z∈T3)).length<((rng ws.length).filter λz=>!decide (z∈T)).length):=λhk=>by
    refine⟨T2,g2,_,_,rfl,sub2,le2,λz=>?_,h1⟩
    obtain⟨e,a⟩:=h0 z
    refine⟨e,λj hj=>?_⟩;by_cases je:j=i
    ·rw[je,<- e];exact hk
    ·exact a j (by omega)
   by_cases hm:(i:Int)∈T2
   ·have hk:kin ws ls T2 (i:Int)=false:=by unfold kin;rw[bq2 hm];rfl
    rw[bq2 hm]
    have:=stay hk
    refine bJ (bJ ?_);dsimp only;rw[dD];exact this
   ·rw[bp9 hm]
    refine bQ ⟨_,rfl,_,rfl,_,_,_,rfl,rfl,rfl,_,rfl,_,_,_,rfl,rfl,ix,_,_,rfl,rfl,_,rfl,?_⟩;have ek:kin ws ls T2 (i:Int)=decide ((((bN ls (i:Int)).filter λz=>decide (z∈T2)).length:Int) >= ws.getD (i:Int).toNat 0):=by unfold kin;rw[bp9 hm];rfl
    dsimp only;rw[dD];rw[<- ek];cases hk:kin ws ls T2 (i:Int) with
    |false=>exact bJ (stay hk)
    |true=>
     refine bQ ⟨_,rfl,_,rfl,_,i,rfl,?_,trivial,?_⟩
     ·unfold i9
      rw[o3,if_pos (by omega),if_pos (by omega),bu1]
     have bs:=aO3 (n:=ws.length) (S:=T2) (x:=(i:Int)) (by omega) (by omega);rw[bu1]at bs;rw[bs];refine⟨trivial,T2++[(i:Int)],true,_,_,rfl,λx hx=>bt5 _ (sub2 x hx),λU sU hU x hx=>?_,(λz=>by cases z),λ_=>?_⟩
     ·rcases bs3.mp hx with hx|hx
      ·exact le2 U sU hU x hx
      ·rw[bq1.mp hx]
       refine Classical.byContradiction λhn=>?_
       have:=qI hk (le2 U sU hU) hn
       rw[sU (i:Int) hr]at this;cases this
     ·have lt:((rng ws.length).filter λz=>!decide (z∈T2++[(i:Int)])).length<((rng ws.length).filter λz=>!decide (z∈T2)).length:=by
       have n1:((rng ws.length).filter λz=>!decide (z∈T2++[(i:Int)])).Nodup:=(aa1 _).filter _;have n2:(i:Int)∉(rng ws.length).filter λz=>!decide (z∈T2++[(i:Int)]):=λz=>by
        have:=(bt8.mp z).2
        rw[bq2 (bs2 _ (List.mem_singleton_self _))]at this;cases this
       have:=(bx1.mpr ⟨n2,n1⟩).length_le_of_subset (l₂:=(rng ws.length).filter λz=>!decide (z∈T2)) λz hz=>by
        rcases br0.mp hz with e|hz
        ·rw[e];exact bt8.mpr ⟨hr,by rw[bp9 hm];rfl⟩
        ·have h2:=bt8.mp hz
         refine bt8.mpr ⟨h2.1,?_⟩;rw[bp9 λw=>?_];rfl;rw[bq2 (bt5 _ w)]at h2;exact absurd h2.2 (by decide)
       rw[bu9]at this;omega
      cases g2 with
      |true=>have:=h1 rfl;omega
      |false=>have e:=(h0 rfl).1;rw[e]at lt ⊢;exact lt
  ·rintro ρ ⟨T2,g2,y5,y6,rfl,sub2,le2,h0,h1⟩
   rw[dS,dD,bu1]at h0;cases g2 with
   |true=>exact⟨_,by have:=h1 rfl;rw[if_pos rfl];omega,T2,true,y5,y6,rfl,sub2,le2,(λz=>by cases z),rfl⟩
   |false=>
    obtain⟨e,sh2⟩:=h0 rfl
    subst e;refine⟨_,by rw[if_pos rfl,if_neg (by decide)];omega,T2,false,y5,y6,rfl,sub2,le2,(λ_ h hh=>?_),rfl⟩;have hm:=dC.mp hh
    have:=sh2 h.toNat (by omega)
    rwa [show ((h.toNat:Nat):Int)=h by omega]at this
noncomputable def qL:b9:=λxs Q=>∃ws ls x ns,xs = [gM ws ls,x]/\Wb ws ls/\d5 x ns/\(∀x∈ns,x∈rng ws.length)/\Q (.bl (o8 ws ls ns))
noncomputable def aa9:aX:=(cT (mB (aP eI (aF (gX (kU (aP qK (aF (aB 0) (aF (aB 1) aM)))) [none] (dU 0) (jU (jV (aB 0))) (aB 0)) aM)) (qC (.int 0))))
theorem aS9:mK aa9 ["web","seeds"] qL:=by
 rintro xs Q ⟨ws,ls,x,ns,rfl,wb,hx,inn,q⟩;have few:=wb.few;refine⟨_,rfl,_,rfl,ws,ls,x,ns,rfl,wb,hx,inn,λT sh sub le=>?_⟩;refine⟨_,rfl,(λz=>by cases z),by rw[o3];omega,λi acc=>acc.length=(((rng ws.length).take i).filter λz=>!decide (z∈T)).length,rfl,?_,?_⟩
 ·rintro i y acc hy e
  unfold eY at hy;rw[br5]at hy;cases hz:(rng ws.length)[i]? with
  |none=>rw[hz]at hy;cases hy
  |some z=>
   rw[hz]at hy;cases hy;have tk:=X7 (p:=λz=>!decide (z∈T)) hz;refine⟨_,rfl,_,rfl,?_⟩;show if (!decide (z∈T))=true then _ else _
   cases hm:decide (z∈T) with
   |true=>
    rw[hm]at tk;refine bJ ?_;dsimp only;rw[tk,e];exact congrArg List.length (bu0 _).symm
   |false=>
    rw[hm]at tk;refine bQ ⟨_,rfl,trivial,?_⟩;dsimp only;rw[tk,br4,br4,e];rfl
 ·intro acc e
  rw[o3,bB7 (by rw[nZ];exact bq4 _)]at e;refine⟨_,_,rfl,rfl,.inl ⟨_,_,rfl,rfl,trivial,?_⟩⟩;have ef:o8 ws ls ns=decide ((acc.length:Int)=0):=by
   rw[bA4,bs4,aS7 sh sub le,e];constructor
   ·intro a
    rw[List.filter_eq_nil_iff.mpr λz hz=>by rw[bq2 (a z hz)];decide];rfl
   ·intro z h hh
    have nl:(rng ws.length).filter (λz=>!decide (z∈T)) = []:=bx4 (by omega)
    have:=List.filter_eq_nil_iff.mp nl h hh
    simpa using this
  rw[ef]at q;exact q
noncomputable def qM:b9:=λxs Q=>∃(ms:ag) (n:Nat),xs = [.tup (intz ms),.int n]/\kA n ms=true/\Q (.bl true)
noncomputable def ab0 (K:ad):aX:=(aY (dQ (jU (bL (lY K "tuple" (aB 0)))) (cT (qC (.bl false))) dP)
 (aY (bZ 2 (x8 (qC (.int 1))))
 (aY (gH (kU (aB 0)) (dU 3)
  (aY (dQ (jT (jU (bL (aP mM (aF (aB 3) aM)))) (jT (bL (qLe (aB 3) (aB 2))) (bL (xB (aB 3) (aB 1))))) (cT (qC (.bl false))) dP)
  (bZ 2 (aB 3))))
 (cT (qC (.bl true))))))
theorem aT0 {K:ad}(kt:PySem.W.kitOne K (.type "tuple") (.type "tuple")=some true):mK (ab0 K) ["found","many","last","hearth"] qM:=by
 rintro xs Q ⟨ms,n,rfl,hs,q⟩;have up:=yB (o0 hs).1;refine⟨_,rfl,_,_,rfl,kt,_,rfl,bJ ?_⟩;refine⟨_,rfl,trivial,?_⟩;refine⟨_,rfl,_,rfl,aM9 (.inl rfl),λi ρ=>∃(l:Int) (y3:Option Slot),ρ = [some (.sh (flat (.tup (intz ms))) (.tup (intz ms))),si n,si l,y3]/\∀h,ms[i]? = some h->l<h,⟨-1,none,rfl,λh hh=>by have:=(o0 hs).2 h (bv1 hh);omega⟩,?_,?_⟩
 ·rintro i y ρ hy ⟨l,y3,rfl,lo⟩
  obtain⟨h,rfl,hh⟩:=X6 hy
  have b:=(o0 hs).2 h (bv1 hh);have l1:=lo h hh;refine aa2 ?_;refine⟨_,rfl,h,rfl,_,rfl,bJ ⟨_,rfl,_,rfl,_,_,rfl,rfl,_,rfl,?_⟩⟩;show if decide (h<=l)=true then _ else _
  rw[bp9 (by omega)];refine bJ ⟨_,rfl,_,rfl,_,_,rfl,rfl,_,rfl,?_⟩;show if decide (h >= (n:Int))=true then _ else _
  rw[bp9 (by omega)];refine bJ ⟨_,rfl,trivial,h,_,rfl,λh2 hh2=>?_⟩
  obtain⟨i1,e1⟩:=bs1.mp hh
  obtain⟨i2,e2⟩:=bs1.mp hh2
  have:=bw4.mp up i (i+1) i1 i2 (by omega)
  rw[e1,e2]at this;exact this
 ·rintro ρ ⟨l,y3,rfl,_⟩
  exact⟨trivial,q⟩
end Core
namespace L2
open PySem PySem.Spec PyProof.Rows
section
variable {X:Cx}
theorem aT1 (hc:X.calm=true):e8 X (.builtin "min") (λxs H Q=>∃(a:ay) (ns:ag),xs = [.ref a]/\b8 X.K H a (ns.map V.int)/\ns≠[]/\∀M:Int,M∈ns->(∀x∈ns,M<=x)->Q (.int M) H):=by
 intro ai s σ H xs us Q I r h
 obtain⟨a,ns,rfl,hq,ne,q⟩:=h
 obtain⟨u,rfl,ru⟩:=jK r
 cases ru
 obtain⟨its,rv,p,hz⟩:=I.list hq
 have ia:=lP rv
 obtain⟨ys,ey⟩:=ia.allInts.items
 have en:ns=ys.toList.map (·.1):=by
  have e1:=nums_intItems ys;rw[<- ey]at e1;exact ia.numsOf.symm.trans e1
 have pos:0<ys.size:=Nat.pos_of_ne_zero λz=>ne (by rw[en,bC9 z];rfl)
 have hl:s.heap.IsList a (intItems ys):=ey▸p.isList;refine min_intList (I.ok.hd hc) hl pos λv h' tk ev old=>?_
 obtain⟨t,rfl⟩:=intItems_at ev
 have best:=argBest_lt (numAt ys) (ys.size-1);have mem:∀x:Int,x∈ns↔∃j,j<ys.size/\numAt ys j=x:=λx=>by
  rw[en];constructor
  ·intro z
   obtain⟨j,hj,e⟩:=mem_getD z
   exact⟨j,by simpa using hj,by rw[numAt_eq];exact e⟩
  ·rintro⟨j,hj,rfl⟩
   rw[numAt_eq];exact getD_mem (by simpa using hj)
 refine⟨.int _,H,I.kept (t':=tk) (h':=h') old,⟨t,rfl⟩,q _ ?_ λx hx=>?_⟩
 ·exact (mem _).mpr ⟨_,by have:=best.1;omega,rfl⟩
 ·obtain⟨j,hj,rfl⟩:=(mem x).mp hx
  exact best.2 j (by omega)
end
end L2
namespace PP
open PySem L2
section
variable {X:Cx}{e:Expr}{tr:bX}{pos p2:Pos}
noncomputable def ab1:List PV->(PV->Prop)->Prop:=λxs Q=>∃ns:ag,xs = [.lst (intz ns)]/\ns≠[]/\∀M:Int,M∈ns->(∀x∈ns,M<=x)->Q (.int M)
theorem aT2:fW X ab1 (λxs H Q=>∃(a:ay) (ns:ag),xs = [.ref a]/\b8 X.K H a (ns.map V.int)/\ns≠[]/\∀M:Int,M∈ns->(∀x∈ns,M<=x)->Q (.int M) H):=by
 rintro H vs xs Q Q' r ⟨ns,rfl,ne,q⟩ k
 obtain⟨v,rfl,r1⟩:=r.one
 obtain⟨a,us,rfl,_,h,r2⟩:=r1.sqL
 rw[r2.ofInts]at h
 exact⟨a,ns,rfl,b8.of h,ne,λM m1 m2=>k _ _ _ (aI.refl _) (.int M) (q M m1 m2)⟩
end
end PP
namespace L2
open PySem PySem.Spec PyProof.Rows
section
variable {X:Cx}
theorem aT3 (hc:X.calm=true):e8 X (.builtin "max") (λxs H Q=>∃(a:ay) (ns:ag),xs = [.ref a]/\b8 X.K H a (ns.map V.int)/\ns≠[]/\∀M:Int,M∈ns->(∀x∈ns,x<=M)->Q (.int M) H):=by
 intro ai s σ H xs us Q I r h
 obtain⟨a,ns,rfl,hq,ne,q⟩:=h
 obtain⟨u,rfl,ru⟩:=jK r
 cases ru
 obtain⟨its,rv,p,hz⟩:=I.list hq
 have ia:=lP rv
 obtain⟨ys,ey⟩:=ia.allInts.items
 have en:ns=ys.toList.map (·.1):=by
  have e1:=nums_intItems ys;rw[<- ey]at e1;exact ia.numsOf.symm.trans e1
 have pos:0<ys.size:=Nat.pos_of_ne_zero λz=>ne (by rw[en,bC9 z];rfl)
 have hl:s.heap.IsList a (intItems ys):=ey▸p.isList;refine max_intList (I.ok.hd hc) hl pos λv h' tk ev old=>?_
 obtain⟨t,rfl⟩:=intItems_at ev
 have best:=argBest_gt (numAt ys) (ys.size-1);have mem:∀x:Int,x∈ns↔∃j,j<ys.size/\numAt ys j=x:=λx=>by
  rw[en];constructor
  ·intro z
   obtain⟨j,hj,e⟩:=mem_getD z
   exact⟨j,by simpa using hj,by rw[numAt_eq];exact e⟩
  ·rintro⟨j,hj,rfl⟩
   rw[numAt_eq];exact getD_mem (by simpa using hj)
 refine⟨.int _,H,I.kept (t':=tk) (h':=h') old,⟨t,rfl⟩,q _ ?_ λx hx=>?_⟩
 ·exact (mem _).mpr ⟨_,by have:=best.1;omega,rfl⟩
 ·obtain⟨j,hj,rfl⟩:=(mem x).mp hx
  exact best.2 j (by omega)
end
end L2
namespace PP
open PySem L2
section
variable {X:Cx}{a b e o:Expr}{ta tb te to:aH}{tr:bX}{pos p2 aj am:Pos}{σ:St}{H:Hp}{Q':VK}
noncomputable def ab2:List PV->(PV->Prop)->Prop:=λxs Q=>∃ns:ag,xs = [.lst (intz ns)]/\ns≠[]/\∀M:Int,M∈ns->(∀x∈ns,x<=M)->Q (.int M)
theorem aT4:fW X ab2 (λxs H Q=>∃(a:ay) (ns:ag),xs = [.ref a]/\b8 X.K H a (ns.map V.int)/\ns≠[]/\∀M:Int,M∈ns->(∀x∈ns,x<=M)->Q (.int M) H):=by
 rintro H vs xs Q Q' r ⟨ns,rfl,ne,q⟩ k
 obtain⟨v,rfl,r1⟩:=r.one
 obtain⟨a,us,rfl,_,h,r2⟩:=r1.sqL
 rw[r2.ofInts]at h
 exact⟨a,ns,rfl,b8.of h,ne,λM m1 m2=>k _ _ _ (aI.refl _) (.int M) (q M m1 m2)⟩
end
end PP
namespace Core
open PySem L2 PP
noncomputable def Ord (ws:ag)(ls:aa)(ns R:ag):Prop:=yQ ws ls ns R=true/\gN ws ls (ns++R)
end Core
namespace HT
open PySem PyProof.Rows
section
open PySem.SeqAt
open PySem.AutoSeq1 (wpAny_loadPart')
open PySem.MeetsSeq PySem.MeetsSeq2 PySem.MeetsSeq3
theorem aT5 (l b:ay)(n n2:Nat)(dd dd2:Option ay)(sl sl2:Array (Option aw))(a c:Int)(t u:Tok)(v x:aw)(e lt:Bool) :
  Meets (Builtin.«tuple.__lt__» ⟨[.ref l,.ref b],[]⟩)
   (λA R s=>s.heap.get? l=some { cls:=.type "tuple",dict:=dd,data:=.seq #[.int a t,v] n,slots:=sl }/\s.heap.get? b=some { cls:=.type "tuple",dict:=dd2,data:=.seq #[.int c u,x] n2,slots:=sl2 }/\
    SeqAt.EqAt A.in1 s v x e/\(∀(prog:az) (w:bc) (E Q:aw->ax->Prop),Q (.bool lt) s->wpAny (model prog w) A.in1 (richCompare .Lt v x) Q E s)/\
    R (.ok (.ret (.bool (if a=c then (if e then false else lt) else decide (a<c))))) s):=
 .of_wp λprog w A R s h=>by
  obtain⟨hp,g,d,tk,os⟩:=s;obtain⟨hl,hb,he2,hlt,h⟩:=h
  have f2:=AutoSeq1.sub_tuple_tuple
  wp_walk using wpAny_loadPart' hl,wpAny_loadPart' hb,wpAny_forIn_list _ (λrest z s'=>z.1=none/\s'=⟨hp,g,d,tk,os⟩/\(rest = [(Value.int a t,Value.int c u),(v,x)]∨(rest = [(v,x)]/\a=c)∨(rest = []/\a=c/\e=true))) _
  case turn=>
   rintro⟨p,q⟩ rest z s' ⟨hz,rfl,c1|⟨c1,ac⟩|⟨c1,_⟩⟩
   ·injection c1 with c2 c3
    injection c2 with c4 c5
    subst c4 c5
    obtain⟨e1,he1,hiff⟩:=K6 A.in1 ⟨hp,g,d,tk,os⟩ a t c u
    refine bp7 (he1 prog w _ _ ?_);cases e1 with
    |true=>
     wp_walk
     exact⟨rfl,rfl,.inr (.inl ⟨c3,hiff.mp rfl⟩)⟩
    |false=>
     rw[if_neg (λq=>absurd (hiff.mpr q) bq7)]at h;have hri:=K7 A.in1 ⟨hp,g,d,tk,os⟩ a t c u prog w
     wp_walk using hri
     exact⟨_,rfl,by simpa using h⟩
   ·injection c1 with c2 c3
    injection c2 with c4 c5
    subst c4 c5;rw[if_pos ac]at h;refine bp7 (he2 prog w _ _ ?_);cases e with
    |true=>
     wp_walk
     exact⟨rfl,rfl,.inr (.inr ⟨c3,ac,rfl⟩)⟩
    |false=>
     have hri:=hlt prog w
     wp_walk using hri
     exact⟨_,rfl,by simpa using h⟩
   ·cases c1
  case fin=>
   rintro⟨b1,b2⟩ s' ⟨hz,rfl,c1|⟨c1,ac⟩|⟨c1,ac,et⟩⟩
   ·cases c1
   ·cases c1
   ·simp only at hz
    subst hz;subst et;rw[if_pos ac,if_pos rfl]at h
    wp_walk
    exact⟨_,rfl,by simpa[Builtin.Tuple.tupleCompareSizes] using h⟩
  case h=>exact⟨rfl,rfl,.inl rfl⟩
end
end HT
namespace L2
open PySem PySem.Spec PyProof.Rows PP
section
variable {X:Cx}{ai:List (ay×Obj)}{s:ax}{σ:St}{H:Hp}{M M':ay→Prop}
noncomputable abbrev iH (a:Int)(ns:ag):PV:=.tup [.int a,.tup (intz ns)]
theorem ab3:∀ns:ag,HT.cK ns ns=false
 |[]=>rfl
 |x::xs=>by rw[HT.jL,if_pos rfl];exact ab3 xs
theorem aT6 {A:ba}(hu:A.units+4<cLine)(I:aA X ai σ H s){x y:V}{v u:aw}{a c:Int}{ns ms:ag}(r1:aG X.K M H x (iH a ns))(r2:aG X.K M' H y (iH c ms))(e1:aR x v)(e2:aR y u){prog:az}{w:bc}{E Q:aw->ax->Prop}(h:Q (.bool (HT.cK (a::ns) (c::ms))) s):wpAny (model prog w) A (richCompare .Lt v u) Q E s:=by
 obtain⟨l,us,rfl,h1,q1⟩:=r1.sqT
 obtain⟨b,ws,rfl,h2,q2⟩:=r2.sqT
 cases e1;cases e2
 obtain⟨x1,x2,rfl,p1,p2⟩:=q1.two
 obtain⟨y1,y2,rfl,p3,p4⟩:=q2.two
 cases p1;cases p3
 obtain⟨its,v1,t1,_⟩:=I.tuple (aQ.of (K:=X.K) h1)
 obtain⟨aq,v2,t2,_⟩:=I.tuple (aQ.of (K:=X.K) h2)
 obtain⟨_,_,rfl,k1,k2⟩:=v1.two
 obtain⟨_,_,rfl,k3,k4⟩:=v2.two
 obtain⟨t,rfl⟩:=k1
 obtain⟨t',rfl⟩:=k3
 have eq:=aI3 I 2 (A:=A.in1) (by show A.units+1+2<cLine;omega) p2 p4 k2 k4 (by exact aH5 1 ns ms);rw[aH4 1]at eq
 obtain⟨p,us,rfl,h3,q3⟩:=p2.sqT
 obtain⟨q,ws,rfl,h4,q4⟩:=p4.sqT
 obtain rfl:=q3.ofInts;obtain rfl:=q4.ofInts;cases k2;cases k4
 obtain⟨its,v3,t3,_⟩:=I.tuple (aQ.of (K:=X.K) h3)
 obtain⟨aq,v4,t4,_⟩:=I.tuple (aQ.of (K:=X.K) h4)
 have i3:IntsAre its.toArray.toList ns:=lP v3;have i4:IntsAre aq.toArray.toList ms:=lP v4
 obtain⟨⟨cls,dd,data,sl⟩,ho,hc,n,hd⟩:=t1
 obtain⟨⟨cls2,dd2,data2,sl2⟩,ho2,hc2,n2,hd2⟩:=t2
 simp only at hc hd hc2 hd2;subst hc hd hc2 hd2;refine richCompare_meets_room (op:=.Lt) ⟨_,ho,rfl⟩ ⟨_,ho2,rfl⟩ PySem.F.slot_tuple_lt PySem.F.entry_tuple_lt (PySem.F.args_tuple_lt_2 _ _) (HT.aT5 l b n n2 dd dd2 sl sl2 a c t t' _ _ (decide (ns=ms)) (HT.cK ns ms))
  ⟨ho,ho2,eq,λprog w E Q hq=>(HT.ax0 t3 t4 i3 i4 (by show A.units+1<cLine;omega) hq:wpAny (model prog w) A.in1 (compareOp .Lt _ _) Q E s),?_⟩ (by omega)
 have e:(if a=c then (if (decide (ns=ms))=true then false else HT.cK ns ms) else decide (a<c))=HT.cK (a::ns) (c::ms):=by
  rw[HT.jL];by_cases ac:a=c
  ·rw[if_pos ac,if_pos ac]
   by_cases nm:ns=ms
   ·rw[if_pos (bq2 nm),nm,ab3]
   ·rw[if_neg (by rw[bs4];exact nm)]
  ·rw[if_neg ac,if_neg ac]
 rw[e]
 exact⟨(λx=>nomatch x),h⟩
end
section
variable {prog:az}{w:bc}{A:ba}{R:Result→ax→Prop}{I S:ay}{n:Nat}{l:ay}{its:Array aw}{s0:ax}{bt:Nat→Nat→Bool}
noncomputable abbrev at_ (s:ax)(h:Heap)(k:Nat):ax:={ s with heap:=h,toks:=k }
noncomputable abbrev iR (g h:Heap):Prop:=∀b o,g.get? b=some o->h.get? b=some o
noncomputable def cR (prog:az)(w:bc)(A:ba)(s0:ax)(its:Array aw)(bt:Nat->Nat->Bool):Prop:=
 ∀(i j:Nat) (v u:aw) (h:Heap) (k:Nat) (Q E:aw->ax->Prop),its[i]? = some v->its[j]? = some u->iR s0.heap h->Q (.bool (bt i j)) (at_ s0 h k)->wpAny (model prog w) A (richCompare .Lt v u) Q E (at_ s0 h k)
end
section
variable {prog:az}{w:bc}{A:ba}{s0:ax}{l:ay}{its:Array aw}{bt:Nat→Nat→Bool}
theorem ab4 {h:Heap}{a:ay}(z:h.objs.size<=a):h.get? a=none:=by
 cases q:h.get? a with
 |none=>rfl
 |some o=>exact absurd (br9 q) (Nat.not_lt.mpr z)
end
end L2
namespace PP
open PySem L2
section
variable {X:Cx}{a b e:Expr}{ta tb:aH}{tr:bX}{pos p2:Pos}
theorem u6 (a:Int)(ns:ag):flat (iH a ns)=true:=by
 show (flat (.int a)&&(flat (.tup (intz ns))&&true))=true;rw[show flat (.tup (intz ns))=true from j5 ns];rfl
end
end PP
namespace Core
open PySem L2 PP
noncomputable def Bd (ws:ag)(ls:aa)(wts:ag)(b:Int):Prop:=∃zs,aR2 ws ls wts zs/\b=(ws.length:Int)-(aR0 zs wts.sum:Int)
noncomputable def FB (L:ae)(f:ag->Int)(r:ag):Prop:=∃i,L[i]? = some r/\(∀(j:Nat) (s:ag),j<i->L[j]? = some s->f s<f r)/\∀s∈L,f s<=f r
end Core
namespace L2
open PySem PySem.Spec PyProof.Rows
section
variable {prog:az}{w:bc}{A:ba}{E:aw→ax→Prop}{s:ax}{l:ay}{xs:Array (Int×Tok)}
theorem ab5 {Q:aw->ax->Prop}(hl:s.heap.IsTuple l (intItems xs))(h:∀h2:Heap,(h2.IsTupleIter s.heap.objs.size l 0/\h2.IsTuple l (intItems xs))->(∀b∈[s.heap.objs.size,l],b<h2.objs.size)->l≠s.heap.objs.size->(∀b o,s.heap.get? b=some o->b∉[s.heap.objs.size]/\h2.get? b=some o)->Q (.ref s.heap.objs.size) { s with heap:=h2 }):wpAny (model prog w) A (pyIter (.ref l)) Q E s:=by
 have lb:l<s.heap.objs.size:=by obtain⟨_,e,_⟩:=hl;exact br9 e
 refine bE8 hl (h _ ⟨⟨_,br7 _ rfl,rfl,rfl⟩,hl.push _⟩ (λb hb=>?_) (bu3 lb) λb o e=>⟨λhm=>?_,bq0 _ e⟩)
 ·rw[bB4]
  rcases br0.mp hb with rfl|hb
  ·exact Nat.lt_succ_self _
  ·rw[bq1.mp hb];exact Nat.lt_succ_of_lt lb
 ·rw[bq1.mp hm]at e
  exact absurd (br9 e) (bw3 _)
theorem aT7 {Q:aw->ax->Prop}(hh:A.handled=none)(hl:s.heap.IsTuple l (intItems xs))(hne:0<xs.size)(h:∀v h' tk,(intItems xs)[argBest (λi j=>decide (numAt xs i>numAt xs j)) (xs.size-1)]? = some v->(∀b o,s.heap.get? b=some o->h'.get? b=some o)->Q v { s with heap:=h',toks:=tk }):wpAny (model prog w) A (call (.builtin "max") [.ref l]) Q E s:=by
 refine call_max_walk (ab5 hl λh2 st hfp ne old=>?_)
 exact⟨_,_,_,_,_,_,_,rfl,Walks.tuple (A:=A.in1) hh _ l ne (intItems xs),st,hfp,by simpa[intItems] using hne,CmpOf.ints_gt (numAt xs) (λ_ _=>intItems_at),λv h' tk hP hk=>h v h' tk (by simpa[intItems] using hP) λb o e=>hk b o (old b o e).1 (old b o e).2⟩
theorem aT8 {Q:aw->ax->Prop}(hh:A.handled=none)(hl:s.heap.IsTuple l (intItems xs))(hne:0<xs.size)(h:∀v h' tk,(intItems xs)[argBest (λi j=>decide (numAt xs i<numAt xs j)) (xs.size-1)]? = some v->(∀b o,s.heap.get? b=some o->h'.get? b=some o)->Q v { s with heap:=h',toks:=tk }):wpAny (model prog w) A (call (.builtin "min") [.ref l]) Q E s:=by
 refine call_min_walk (ab5 hl λh2 st hfp ne old=>?_)
 exact⟨_,_,_,_,_,_,_,rfl,Walks.tuple (A:=A.in1) hh _ l ne (intItems xs),st,hfp,by simpa[intItems] using hne,CmpOf.ints_lt (numAt xs) (λ_ _=>intItems_at),λv h' tk hP hk=>h v h' tk (by simpa[intItems] using hP) λb o e=>hk b o (old b o e).1 (old b o e).2⟩
end
section
variable {X:Cx}
theorem aT9 (hc:X.calm=true):e8 X (.builtin "max") (λxs H Q=>∃(a:ay) (ns:ag),xs = [.ref a]/\aQ X.K H a (ns.map V.int)/\ns≠[]/\∀M:Int,M∈ns->(∀x∈ns,x<=M)->Q (.int M) H):=by
 intro ai s σ H xs us Q I r h
 obtain⟨a,ns,rfl,hq,ne,q⟩:=h
 obtain⟨u,rfl,ru⟩:=jK r
 cases ru
 obtain⟨its,rv,p,hz⟩:=I.tuple hq
 have ia:=lP rv
 obtain⟨ys,ey⟩:=ia.allInts.items
 have en:ns=ys.toList.map (·.1):=by
  have e1:=nums_intItems ys;rw[<- ey]at e1;exact ia.numsOf.symm.trans e1
 have pos:0<ys.size:=Nat.pos_of_ne_zero λz=>ne (by rw[en,bC9 z];rfl)
 have hl:s.heap.IsTuple a (intItems ys):=by rw[<- ey];exact p
 refine aT7 (I.ok.hd hc) hl pos λv h' tk ev old=>?_
 obtain⟨t,rfl⟩:=intItems_at ev
 have best:=argBest_gt (numAt ys) (ys.size-1);have mem:∀x:Int,x∈ns↔∃j,j<ys.size/\numAt ys j=x:=λx=>by
  rw[en];constructor
  ·intro z
   obtain⟨j,hj,e⟩:=mem_getD z
   exact⟨j,by simpa using hj,by rw[numAt_eq];exact e⟩
  ·rintro⟨j,hj,rfl⟩
   rw[numAt_eq];exact getD_mem (by simpa using hj)
 refine⟨.int _,H,I.kept (t':=tk) (h':=h') old,⟨t,rfl⟩,q _ ?_ λx hx=>?_⟩
 ·exact (mem _).mpr ⟨_,by have:=best.1;omega,rfl⟩
 ·obtain⟨j,hj,rfl⟩:=(mem x).mp hx
  exact best.2 j (by omega)
theorem aU0 (hc:X.calm=true):e8 X (.builtin "min") (λxs H Q=>∃(a:ay) (ns:ag),xs = [.ref a]/\aQ X.K H a (ns.map V.int)/\ns≠[]/\∀M:Int,M∈ns->(∀x∈ns,M<=x)->Q (.int M) H):=by
 intro ai s σ H xs us Q I r h
 obtain⟨a,ns,rfl,hq,ne,q⟩:=h
 obtain⟨u,rfl,ru⟩:=jK r
 cases ru
 obtain⟨its,rv,p,hz⟩:=I.tuple hq
 have ia:=lP rv
 obtain⟨ys,ey⟩:=ia.allInts.items
 have en:ns=ys.toList.map (·.1):=by
  have e1:=nums_intItems ys;rw[<- ey]at e1;exact ia.numsOf.symm.trans e1
 have pos:0<ys.size:=Nat.pos_of_ne_zero λz=>ne (by rw[en,bC9 z];rfl)
 have hl:s.heap.IsTuple a (intItems ys):=by rw[<- ey];exact p
 refine aT8 (I.ok.hd hc) hl pos λv h' tk ev old=>?_
 obtain⟨t,rfl⟩:=intItems_at ev
 have best:=argBest_lt (numAt ys) (ys.size-1);have mem:∀x:Int,x∈ns↔∃j,j<ys.size/\numAt ys j=x:=λx=>by
  rw[en];constructor
  ·intro z
   obtain⟨j,hj,e⟩:=mem_getD z
   exact⟨j,by simpa using hj,by rw[numAt_eq];exact e⟩
  ·rintro⟨j,hj,rfl⟩
   rw[numAt_eq];exact getD_mem (by simpa using hj)
 refine⟨.int _,H,I.kept (t':=tk) (h':=h') old,⟨t,rfl⟩,q _ ?_ λx hx=>?_⟩
 ·exact (mem _).mpr ⟨_,by have:=best.1;omega,rfl⟩
 ·obtain⟨j,hj,rfl⟩:=(mem x).mp hx
  exact best.2 j (by omega)
end
end L2
namespace PP
open PySem L2
section
variable {X:Cx}{a b e:Expr}{ta tb:aH}{tr:bX}{pos p2:Pos}
noncomputable def ab6:List PV->(PV->Prop)->Prop:=λxs Q=>∃ns:ag,xs = [.tup (intz ns)]/\ns≠[]/\∀M:Int,M∈ns->(∀x∈ns,x<=M)->Q (.int M)
noncomputable def ab7:List PV->(PV->Prop)->Prop:=λxs Q=>∃ns:ag,xs = [.tup (intz ns)]/\ns≠[]/\∀M:Int,M∈ns->(∀x∈ns,M<=x)->Q (.int M)
theorem aU1:fW X ab6 (λxs H Q=>∃(a:ay) (ns:ag),xs = [.ref a]/\aQ X.K H a (ns.map V.int)/\ns≠[]/\∀M:Int,M∈ns->(∀x∈ns,x<=M)->Q (.int M) H):=by
 rintro H vs xs Q Q' r ⟨ns,rfl,ne,q⟩ k
 obtain⟨v,rfl,r1⟩:=r.one
 obtain⟨a,us,rfl,h,r2⟩:=r1.sqT
 rw[r2.ofInts]at h
 exact⟨a,ns,rfl,aQ.of h,ne,λM m1 m2=>k _ _ _ (aI.refl _) (.int M) (q M m1 m2)⟩
theorem aU2:fW X ab7 (λxs H Q=>∃(a:ay) (ns:ag),xs = [.ref a]/\aQ X.K H a (ns.map V.int)/\ns≠[]/\∀M:Int,M∈ns->(∀x∈ns,M<=x)->Q (.int M) H):=by
 rintro H vs xs Q Q' r ⟨ns,rfl,ne,q⟩ k
 obtain⟨v,rfl,r1⟩:=r.one
 obtain⟨a,us,rfl,h,r2⟩:=r1.sqT
 rw[r2.ofInts]at h
 exact⟨a,ns,rfl,aQ.of h,ne,λM m1 m2=>k _ _ _ (aI.refl _) (.int M) (q M m1 m2)⟩
end
end PP
namespace Core
open PySem L2 PP
noncomputable def inL (S:ag)(l:Int×Int):Bool:=decide (l.1∈S)&&decide (l.2∈S)
theorem aU3 {ls:aa}(h:ls.Pairwise eN):ls.Nodup:=h.imp λ{a b} z e=>by subst e;unfold eN at z;omega
theorem aU4 {a b:aa}(p:a.Perm b)(ha:a.Pairwise eN)(hb:b.Pairwise eN):a=b:=
 p.eq_of_pairwise (λx y _ _ h1 h2=>by unfold eN at h1 h2;omega) ha hb
end Core
namespace L2
open PySem PySem.Spec PyProof.Rows
section
variable {X:Cx}{ai:List (ay×Obj)}{σ:St}{H:Hp}{s:ax}{a:ay}
noncomputable def yS (H:Hp)(y:V)(k:List (Int×Bool)):Prop:=∃q,y = .ref q/\fP H k q
theorem aU5 {kvs:List (List (Int×Bool)×V)}(I:aA X ai σ H s)(h:H a=some (.dA kvs)):∃es ep ys,Raw.pD s.heap a es ep/\(a==sysModules)=false/\Paired (yS H) ys (kvs.map (·.1))/\aN ys (es.toList.map (·.key))/\kvs.length<=sizeLine:=by
 obtain⟨z,far,xs,rel,o,es,ep,e1,e2,e3,e4,nd⟩:=(show bI X.prog X.w H s.heap a (.dA kvs) from I.hok a _ h)
 refine⟨es,ep,xs.map λq=>V.ref q.2.1,⟨o,e1,e2,e3⟩,far,?_,?_,z⟩
 ·clear e4 nd h z
  induction rel with
  |nil=>exact .nil
  |cons r rs ih=>exact .cons ⟨_,rfl,r.2.1⟩ ih
 ·rw[e4]
  clear rel e4 nd
  induction xs with
  |nil=>exact .nil
  |cons q qs ih=>exact .cons rfl ih
end
noncomputable def aU6:HO->Bool
 |.dK _=>true
 |.dT _=>true
 |.dA _=>true
 |_=>false
section
variable {X:Cx}{ai:List (ay×Obj)}{σ:St}{H H':Hp}{s:ax}{a:ay}
theorem aA.frozeD {o:Obj}{u:HO}(I:aA X ai σ H s)(h:H a=some u)(du:aU6 u=true)(e:s.heap.get? a=some o):aA X ai σ (upd H a (.frz o u)) s:=by
 have own:∀{c:ay}{y:ay},H c=some (.own y)->c≠a:=λ{c y} q z=>by rw[z,h]at q;cases q;cases du
 have tp:∀{c:ay}{xs:List V},H c=some (.tup xs)->c≠a:=λ{c xs} q z=>by rw[z,h]at q;cases q;cases du
 have cd:∀{c:ay}{y:Str},H c=some (.code y)->c≠a:=λ{c y} q z=>by rw[z,h]at q;cases q;cases du
 refine I.reH (a:=a) (λb n=>aK n) ⟨_,h⟩ (λxs q=>by rw[h]at q;cases q;cases du) (λo' v q=>by have:=I.base.frzs a o' v q;rw[h]at this;cases this;cases du) (λps q=>by rw[h]at q;cases q;cases du) λb v q=>?_
 by_cases hb:b=a
 ·subst hb
  rw[bH]at q;cases q
  exact⟨e,(I.hok b _ h).stay (λ_ _ _ q=>q) (λc q=>by rw[aK (own q)];exact q) (λc xs q=>by rw[aK (tp q)];exact q) (λc r q=>by rw[aK (cd q)];exact q)⟩
 ·rw[aK hb]at q
  exact (I.hok b v q).stay (λ_ _ _ q=>q) (λc q=>by rw[aK (own q)];exact q) (λc xs q=>by rw[aK (tp q)];exact q) (λc r q=>by rw[aK (cd q)];exact q)
end
end L2
namespace PP
open PySem L2
noncomputable def fz:PV->PV
 |.dK ps=>.fK ps
 |.dT ps=>.fT ps
 |.dA ps=>.fA ps
 |x=>x
theorem ab8 {K:ad}{M:ay->Prop}{H:Hp}{k:List (Int×Bool)}{b:ay}(h:fP H k b):aG K M H (.ref b) (.tup (k.map λq=>.tup [.int q.1,.bl q.2])):=by
 obtain⟨us,e,r⟩:=h
 refine .tup e ?_;clear e
 induction r with
 |nil=>exact .nil
 |@cons p u ps us hd t ih=>
  obtain⟨c,rfl,hc⟩:=hd
  exact .cons (.tup hc (.cons (.int _) (.cons (.bl _) .nil))) ih
end PP
namespace PySem
theorem aU7 (l:ay)(items:Array aw)(n:Nat)(dd:Option ay)(sl:Array (Option aw))(x:Int)(u:Tok)(hx:x=1) :
  Meets (Builtin.«tuple.__mul__» ⟨[.ref l,.int x u],[]⟩) (λ_ R s=>s.heap.get? l=some { cls:=.type "tuple",dict:=dd,data:=.seq items n,slots:=sl }/\R (.ok (.ret (Value.ref l))) s):=
 .of_wp λprog w A R s h=>by
  obtain⟨hp,g,d,tk,os⟩:=s;obtain⟨hl,h⟩:=h
  have c1:(decide (x < -(2^63))||decide (x >= 2^63))=false:=by
   rw[Bool.or_eq_false_iff];exact⟨bp9 (by omega),bp9 (by omega)⟩
  have c2:(items.isEmpty||x==1)=true:=by rw[hx,show ((1:Int)==1)=true from rfl,Bool.or_true]
  wp_walk
  exact⟨_,rfl,h⟩
end PySem
namespace PP
open PySem L2 PyProof.Rows
noncomputable def aU8 (K:ad):R2:=λx y H Q=>∃l k xs,x = .ref l/\y = .int k/\aQ K H l xs/\xs≠[]/\1<=k/\k<=1000000/\xs.length*k.toNat<=sizeLine/\(k=1->Q (.ref l) H)/\∀p,H p=none->Q (.ref p) (upd H p (.tup (List.replicate k.toNat xs).flatten))
theorem aU9 {X:Cx}:cE X (binaryOp .Mult) (aU8 X.K):=by
 intro ai s σ H x y v u Q I rx ry h
 obtain⟨l,k,xs,rfl,rfl,hH,hne,h1,h2,hz,q1,q⟩:=h
 by_cases hk:k=1
 ·subst hk
  cases rx
  obtain⟨t,rfl⟩:=ry
  obtain⟨its,r,p,_⟩:=I.tuple hH
  obtain⟨⟨cls,dd,data,sl⟩,ho,hc,n,hd⟩:=id p
  simp only at hc hd;subst hc hd;exact wpAny_binaryOp_repeat_ref (T:="tuple") (U:="int") (by decide) ⟨_,ho,rfl⟩ (λs'=>typeIs_int s' 1 t) yE F.fills_int_mul F.slot_int_rmul yF F.slot_int_index.lookup
   (bG9 F.slot_int_rmul (typeIs_int s 1 t) F.entry_int_rmul (F.args_int_rmul_2 _ _) (yG 1 t l its.toArray n dd sl)
    ⟨ho,rfl,⟨_,ho,rfl⟩,bG9 F.slot_tuple_mul ⟨_,ho,rfl⟩ F.entry_tuple_mul (F.args_tuple_mul_2 _ _) (aU7 l its.toArray n dd sl 1 t rfl) ⟨ho,.ref l,H,I,rfl,q1 rfl⟩⟩)
 ·exact Y6 ai s σ H _ _ v u Q I rx ry ⟨l,k,xs,rfl,rfl,hH,hne,by omega,h2,hz,q⟩
end PP
namespace Core
open PySem L2 PP
noncomputable def yT (r c:Int)(l:Int×Int):Bool:=decide (0<=l.1)&&(decide (l.1<r)&&(decide (0<=l.2)&&decide (l.2<c)))
noncomputable def aV0 (l:Int×Int):aa:=[(l.1-1,l.2),(l.1,l.2-1),(l.1,l.2+1),(l.1+1,l.2)]
noncomputable def yU (r c:Int)(l:Int×Int):aa:=(aV0 l).filter (yT r c)
noncomputable def mQ (many:Nat)(c:Int):aa:=((rng many).filter λh=>decide ((h+1)%c>0)).map λh=>(h,h+1)
noncomputable def mR (many:Int)(c:Int):aa:=(rng (many-c).toNat).map λh=>(h,h+c)
theorem aV1 {many:Nat}{c:Int}{l:Int×Int}:l∈mQ many c↔0<=l.1/\l.1<(many:Int)/\(l.1+1)%c>0/\l.2=l.1+1:=by
 unfold mQ;rw[bt7];constructor
 ·rintro⟨h,hm,rfl⟩
  obtain⟨h1,h2⟩:=bt8.mp hm
  have:=dC.mp h1
  exact⟨this.1,this.2,bz1 h2,rfl⟩
 ·rintro⟨h0,h1,h2,h3⟩
  exact⟨l.1,bt8.mpr ⟨dC.mpr ⟨h0,h1⟩,bq2 h2⟩,Prod.ext rfl h3.symm⟩
theorem aV2 {many c:Int}{l:Int×Int}:l∈mR many c↔0<=l.1/\l.1<many-c/\l.2=l.1+c:=by
 unfold mR;rw[bt7];constructor
 ·rintro⟨h,hm,rfl⟩
  have:=dC.mp hm
  exact⟨this.1,by show h<many-c;omega,rfl⟩
 ·rintro⟨h0,h1,h2⟩
  exact⟨l.1,dC.mpr ⟨h0,by omega⟩,Prod.ext rfl h2.symm⟩
section
variable {ls:aa}{n:Nat}{B:ag}
noncomputable def ins (ls:aa)(S:ag)(h:Int):Nat:=((bN ls h).filter λx=>decide (x∈S)).length
end
section
variable {ls:aa}{B:ag}
structure yV (ls:aa):Prop where
 lt:∀l∈ls,l.1<l.2
 ord:ls.Pairwise eN
end
end Core
namespace PySem
theorem aV3 (l:ay)(items:Array aw)(n:Nat)(dd:Option ay)(sl:Array (Option aw))(x:Int)(u:Tok)(h0:items.isEmpty=false)(hx:x=0) :
  Meets (Builtin.«tuple.__mul__» ⟨[.ref l,.int x u],[]⟩) (λ_ R s=>s.heap.get? l=some { cls:=.type "tuple",dict:=dd,data:=.seq items n,slots:=sl }/\R (.ok (.ret (Value.ref s.heap.objs.size))) { s with heap:=s.heap.push { cls:=Value.type "tuple",data:=Data.seq #[] } }):=
 .of_wp λprog w A R s h=>by
  obtain⟨hp,g,d,tk,os⟩:=s;obtain⟨hl,h⟩:=h
  have c1:(decide (x < -(2^63))||decide (x >= 2^63))=false:=by
   rw[Bool.or_eq_false_iff];exact⟨bp9 (by omega),bp9 (by omega)⟩
  have c2:(items.isEmpty||x==1)=false:=by rw[h0,Bool.false_or];exact bB8.mpr (by omega)
  have c3:(decide (x<=0)||items.isEmpty)=true:=by rw[bq2 (by omega)];rfl
  wp_walk
  exact⟨_,rfl,h⟩
end PySem
namespace PP
open PySem L2 PyProof.Rows
noncomputable def ab9 (K:ad):R2:=λx y H Q=>∃l k xs,x = .ref l/\y = .int k/\aQ K H l xs/\xs≠[]/\0<=k/\k<=1000000/\xs.length*k.toNat<=sizeLine/\(k=1->Q (.ref l) H)/\∀p,H p=none->Q (.ref p) (upd H p (.tup (List.replicate k.toNat xs).flatten))
theorem aV4 {X:Cx}:cE X (binaryOp .Mult) (ab9 X.K):=by
 intro ai s σ H x y v u Q I rx ry h
 obtain⟨l,k,xs,rfl,rfl,hH,hne,h1,h2,hz,q1,q⟩:=h
 by_cases hk:k=0
 ·subst hk
  cases rx
  obtain⟨t,rfl⟩:=ry
  obtain⟨its,r,p,_⟩:=I.tuple hH
  obtain⟨⟨cls,dd,data,sl⟩,ho,hc,n,hd⟩:=id p
  simp only at hc hd;subst hc hd;have hemp:its.toArray.isEmpty=false:=by
   cases its with
   |nil=>exact absurd (r.nil_iff.mp rfl) hne
   |cons a b=>rfl
  refine wpAny_binaryOp_repeat_ref (T:="tuple") (U:="int") (by decide) ⟨_,ho,rfl⟩ (λs'=>typeIs_int s' 0 t) yE F.fills_int_mul F.slot_int_rmul yF F.slot_int_index.lookup
   (bG9 F.slot_int_rmul (typeIs_int s 0 t) F.entry_int_rmul (F.args_int_rmul_2 _ _) (yG 0 t l its.toArray n dd sl)
    ⟨ho,rfl,⟨_,ho,rfl⟩,bG9 F.slot_tuple_mul ⟨_,ho,rfl⟩ F.entry_tuple_mul (F.args_tuple_mul_2 _ _) (aV3 l its.toArray n dd sl 0 t hemp rfl) ⟨ho,?_⟩⟩)
  refine⟨.ref s.heap.objs.size,_,I.laid (t':=s.toks) (o:=.tup []) (λb ob q=>bq0 _ q) (bq4 _) ?_,rfl,q _ (I.hok.fresh (bq4 _))⟩
  exact⟨bu8 _,[],.nil,IsTup.new _ _,hZ.new _ _ rfl⟩
 ·exact aU9 ai s σ H _ _ v u Q I rx ry ⟨l,k,xs,rfl,rfl,hH,hne,by omega,h2,hz,q1,q⟩
section
variable {X:Cx}{a b e:Expr}{ta tb te:aH}{tr:bX}{pos p2:Pos}
noncomputable def yW:PV->Tg->PV->Tg->PK->Prop:=λx _ y _ Q=>∃xs n,x = .tup xs/\y = .int n/\flats xs=true/\xs≠[]/\0<=n/\n<=1000000/\xs.length<=10/\Q (.tup (List.replicate n.toNat xs).flatten) .fr
theorem aV5:gG X yW (ab9 X.K):=by
 rintro W Hs H u v x y g g' Q Q' s n r1 r2 ⟨xs,m,rfl,rfl,f,ne,h1,h2,hl,q⟩ k;cases r2;have r1':=r1
 obtain⟨a,us,rfl,h,r⟩:=r1.sqT
 have lr:=r.length;refine⟨a,m,us,rfl,rfl,aQ.of h,λz=>ne (by cases xs with|nil=>rfl|cons _ _=>rw[z]at lr;cases lr),h1,h2,lim ?_,λe=>?_,λp hp=>k _ _ _ .fr (cS hp _) (.tup bH (((r.flat f).rep m.toNat).same (cS hp _) λ_ z=>z)) q⟩
 ·have h3:us.length<=10:=by omega
  have h4:m.toNat<=1000000:=by omega
  calc us.length*m.toNat<=10*1000000:=Nat.mul_le_mul h3 h4
   _<=16000000:=by decide
 ·subst e
  rw[show (List.replicate (1:Int).toNat xs).flatten=xs by simp]at q;exact k _ _ _ .fr (aI.refl _) (.tup h (r.flat f)) q
theorem aV6 (ha:QE X a ta)(hb:QE X b tb):QE X (.BinOp a .Mult b pos) (q2 yW ta tb):=iG aV4 aV5 ha hb
theorem fW.or {R1 R2:List PV->(PV->Prop)->Prop}{r1 r2:List V->Hp->(V->Hp->Prop)->Prop}(h1:fW X R1 r1)(h2:fW X R2 r2):fW X (λxs Q=>R1 xs Q∨R2 xs Q) (λxs H Q=>r1 xs H Q∨r2 xs H Q):=by
 rintro H vs xs Q Q' r (h|h) k
 ·exact .inl (h1 H vs xs Q Q' r h k)
 ·exact .inr (h2 H vs xs Q Q' r h k)
noncomputable def yX:List PV->(PV->Prop)->Prop:=λxs Q=>ab1 xs Q∨ab7 xs Q
noncomputable def yY:List PV->(PV->Prop)->Prop:=λxs Q=>ab2 xs Q∨ab6 xs Q
theorem aV7 (B:Bt X.mg)(hc:X.calm=true)(ha:QA X [e] tr)(hg:Gl X "min":=by rfl)(he:starEach [e] X.env=(false,eval e X.env)::starEach [] X.env:=by rfl)(hpl:(backTo pos (starEach [] X.env)).any (·.1)=false:=by rfl):QE X (.Call (.Name "min" p2) [e] [] pos) (aP yX tr):=
 pV ((aT1 hc).or (aU0 hc)) (aT2.or aU2) hg B.min PyProof.Rows.boot_min ha (he:=he) (hpl:=hpl)
theorem aV8 (B:Bt X.mg)(hc:X.calm=true)(ha:QA X [e] tr)(hg:Gl X "max":=by rfl)(he:starEach [e] X.env=(false,eval e X.env)::starEach [] X.env:=by rfl)(hpl:(backTo pos (starEach [] X.env)).any (·.1)=false:=by rfl):QE X (.Call (.Name "max" p2) [e] [] pos) (aP yY tr):=
 pV ((aT3 hc).or (aT9 hc)) (aT4.or aU1) hg B.max PyProof.Rows.boot_max ha (he:=he) (hpl:=hpl)
theorem aV9 {x:PV}{ns:ag}(h:Core.d5 x ns)(ne:ns≠[]){Q:PV->Prop}(q:∀M:Int,M∈ns->(∀x∈ns,M<=x)->Q (.int M)):yX [x] Q:=by
 rcases h with rfl|rfl
 ·exact .inr ⟨ns,rfl,ne,q⟩
 ·exact .inl ⟨ns,rfl,ne,q⟩
theorem aW0 {x:PV}{ns:ag}(h:Core.d5 x ns)(ne:ns≠[]){Q:PV->Prop}(q:∀M:Int,M∈ns->(∀x∈ns,x<=M)->Q (.int M)):yY [x] Q:=by
 rcases h with rfl|rfl
 ·exact .inr ⟨ns,rfl,ne,q⟩
 ·exact .inl ⟨ns,rfl,ne,q⟩
end
end PP
namespace Core
open PySem L2 PP
noncomputable def gO (ws:ag):Prop:=ws≠[]/\ws.length<=2/\∀x∈ws,0<=x/\x<=6
noncomputable def kC:kB:=λEp xs Q=>∃x ws L,xs = [x,.int L]/\d5 x ws/\(gO ws->0<=L->Q .non)/\(¬(gO ws/\0<=L)->Ep "BadBoard")
noncomputable def ac0 (Ep:Str->Prop):aX:=(aY (dQ (jT (bL (lZ (aP eI (aF (aB 0) aM)) (qC (.int 1)))) (jT (bL (xA (aP eI (aF (aB 0) aM)) (qC (.int 2)))) (jT (bL (lZ (aP yX (aF (aB 0) aM)) (qC (.int 0)))) (bL (xA (aP yY (aF (aB 0) aM)) (qC (.int 6))))))) (qJ Ep "BadBoard" (aF (qC (.str "a slice has one or two wants from 0 to 6")) aM)) dP)
 (dQ (bL (lZ (aB 1) (qC (.int 0)))) (qJ Ep "BadBoard" (aF (qC (.str "no length is below 0")) aM)) dP))
theorem aW1:RdX ac0 ["wants","length"] kC:=by
 rintro Ep xs Q ⟨x,ws,L,rfl,hx,q,ex⟩;refine⟨_,rfl,_,_,rfl,hx.len,_,_,rfl,rfl,_,rfl,?_⟩;show if decide ((ws.length:Int)<1)=true then _ else _
 by_cases h1:(ws.length:Int)<1
 ·rw[bq2 h1]
  exact bQ (bQ ⟨by decide,ex λz=>z.1.1 (bx4 (by omega))⟩)
 rw[bp9 h1];refine bJ ⟨_,rfl,_,_,rfl,hx.len,_,_,rfl,rfl,_,rfl,?_⟩;show if decide ((ws.length:Int)>2)=true then _ else _
 by_cases h2:(ws.length:Int)>2
 ·rw[bq2 h2]
  exact bQ (bQ ⟨by decide,ex λz=>by have:=z.1.2.1;omega⟩)
 rw[bp9 h2];have ne:ws≠[]:=λz=>by rw[z]at h1;exact h1 (by decide)
 refine bJ ⟨_,rfl,aV9 hx ne λm m1 m2=>⟨_,_,rfl,rfl,_,rfl,?_⟩⟩;show if decide (m<0)=true then _ else _
 by_cases h3:m<0
 ·rw[bq2 h3]
  exact bQ (bQ ⟨by decide,ex λz=>by have:=z.1.2.2 m m1;omega⟩)
 rw[bp9 h3];refine bJ ⟨_,rfl,aW0 hx ne λM M1 M2=>⟨_,_,rfl,rfl,_,rfl,?_⟩⟩;show if decide (M>6)=true then _ else _
 by_cases h4:M>6
 ·rw[bq2 h4]
  exact bQ ⟨by decide,ex λz=>by have:=z.1.2.2 M M1;omega⟩
 rw[bp9 h4];refine bJ ⟨_,rfl,_,_,rfl,rfl,_,rfl,?_⟩;show if decide (L<0)=true then _ else _
 by_cases h5:L<0
 ·rw[bq2 h5]
  exact bQ ⟨by decide,ex λz=>by omega⟩
 rw[bp9 h5];exact bJ (q ⟨ne,by omega,λy hy=>by have:=m2 y hy;have:=M2 y hy;omega⟩ (by omega))
noncomputable def kD:kB:=λEp xs Q=>∃L m:Int,xs = [.int L,.int m]/\(L<=m->Q .non)/\(m<L->Ep "TooMany")
noncomputable def ac1 (Ep:Str->Prop):aX:=(dQ (bL (xA (aB 0) (aB 1))) (qJ Ep "TooMany" (aF (qC (.str "the strip is too long")) aM)) dP)
theorem aW2:RdX ac1 ["length","most"] kD:=by
 rintro Ep xs Q ⟨L,m,rfl,q,ex⟩;refine⟨_,rfl,_,rfl,_,_,rfl,rfl,_,rfl,?_⟩;show if decide (L>m)=true then _ else _
 by_cases h:L>m
 ·rw[bq2 h];exact bQ ⟨by decide,ex h⟩
 ·rw[bp9 h];exact bJ (q (by omega))
theorem aW3 (ws:ag)(n:Nat):(List.replicate n (intz ws)).flatten=intz (List.replicate n ws).flatten:=by
 induction n with
 |zero=>rfl
 |succ n ih=>rw[bx0,bx0,bB3,bB3,ih,X8]
noncomputable def eC (ws:ag)(L:Int):ag:=(List.replicate L.toNat ws).flatten
theorem aW4 (ws:ag){L:Int}(l0:0<=L):((eC ws L).length:Int)=(ws.length:Int)*L:=by
 unfold eC;rw[M8,bE0,Int.mul_comm,show ((L.toNat:Nat):Int)=L by omega]
noncomputable def qN:b9:=λxs Q=>∃c:Int,xs = [.int c]/\∀ws,gO ws->Q (.tup (intz ws))
noncomputable def ac2:aX:=(aY (dQ (bL (mB (j8 (aB 0) (qC (.int 3))) (qC (.int 0)))) (cT (eU (aF (j8 (jW (aB 0) (qC (.int 3))) (qC (.int 7))) aM))) dP)
 (aY (dQ (bL (mB (j8 (aB 0) (qC (.int 3))) (qC (.int 1)))) (cT (eU (aF (j8 (jW (aB 0) (qC (.int 3))) (qC (.int 7))) (aF (j8 (jW (aB 0) (qC (.int 21))) (qC (.int 7))) aM)))) dP)
 (cT (eU (aF (fZ (qC (.int 1)) (j8 (jW (aB 0) (qC (.int 3))) (qC (.int 3)))) (aF (fZ (qC (.int 1)) (j8 (jW (aB 0) (qC (.int 9))) (qC (.int 3)))) aM))))))
theorem aW5 {a:Int}(h:0<=a/\a<=6):gO [a]:=⟨by simp,Nat.le_succ 1,λx hx=>by rw[bq1.mp hx];exact h⟩
theorem ac3 {a b:Int}(h:0<=a/\a<=6)(k:0<=b/\b<=6):gO [a,b]:=⟨by simp,bq4 2,λx hx=>by
 rcases br0.mp hx with rfl|hx
 ·exact h
 ·rw[bq1.mp hx];exact k⟩
theorem aW6:mK ac2 ["cell"] qN:=by
 rintro xs Q ⟨c,rfl,q⟩;refine⟨_,rfl,_,_,rfl,rfl,(by show (0:Int)<3;decide),.inl ⟨_,_,rfl,rfl,_,rfl,?_⟩⟩;show if decide (c%3=0)=true then _ else _
 by_cases h:c%3=0
 ·rw[bq2 h]
  exact bQ ⟨_,rfl,_,_,rfl,rfl,⟨by decide,by decide⟩,_,_,rfl,rfl,(by show (0:Int)<7;decide),by show 1<=1000;decide,rfl,trivial,q [_] (aW5 (by omega))⟩
 rw[bp9 h];refine bJ ⟨_,rfl,_,_,rfl,rfl,(by show (0:Int)<3;decide),.inl ⟨_,_,rfl,rfl,_,rfl,?_⟩⟩;show if decide (c%3=1)=true then _ else _
 by_cases h:c%3=1
 ·rw[bq2 h]
  exact bQ ⟨_,rfl,_,_,rfl,rfl,⟨by decide,by decide⟩,_,_,rfl,rfl,(by show (0:Int)<7;decide),_,rfl,_,_,rfl,rfl,⟨by decide,by decide⟩,_,_,rfl,rfl,(by show (0:Int)<7;decide),by show 2<=1000;decide,rfl,trivial,q [_,_] (ac3 (by omega) (by omega))⟩
 rw[bp9 h];exact bJ ⟨_,rfl,_,_,rfl,rfl,⟨by decide,by decide⟩,_,_,rfl,rfl,(by show (0:Int)<3;decide),_,_,rfl,rfl,_,rfl,_,_,rfl,rfl,⟨by decide,by decide⟩,_,_,rfl,rfl,(by show (0:Int)<3;decide),_,_,rfl,rfl,by show 2<=1000;decide,rfl,trivial,q [_,_] (ac3 (by omega) (by omega))⟩
noncomputable def yZ (m c:Int)(l:Int×Int):Prop:=((l.1+1)%c>0/\l.2=l.1+1)∨(l.1<m-c/\l.2=l.1+c)
structure jD (m c:Int)(k:Int)(ls:aa):Prop where
 ord:ls.Pairwise eN
 len:(ls.length:Int)<=2*k
 mem:∀l:Int×Int,l∈ls↔0<=l.1/\l.1<k/\yZ m c l
theorem jD.nil {m c:Int}:jD m c 0 []:=⟨.nil,by decide,λl=>⟨(λh=>nomatch h),λh=>by omega⟩⟩
noncomputable def gZ (c k:Int):aa:=if (k+1)%c>0 then [(k,k+1)] else []
noncomputable def jE (m c k:Int):aa:=if k<m-c then [(k,k+c)] else []
theorem z0 {c k:Int}{l:Int×Int}:l∈gZ c k↔l.1=k/\(k+1)%c>0/\l.2=k+1:=by
 unfold gZ;split
 ·rename_i h
  rw[bq1]
  exact⟨λe=>by rw[e];exact⟨rfl,h,rfl⟩,λe=>Prod.ext e.1 e.2.2⟩
 ·rename_i h
  exact⟨(λz=>nomatch z),λz=>absurd z.2.1 h⟩
theorem ac4 {m c k:Int}{l:Int×Int}:l∈jE m c k↔l.1=k/\k<m-c/\l.2=k+c:=by
 unfold jE;split
 ·rename_i h
  rw[bq1]
  exact⟨λe=>by rw[e];exact⟨rfl,h,rfl⟩,λe=>Prod.ext e.1 e.2.2⟩
 ·rename_i h
  exact⟨(λz=>nomatch z),λz=>absurd z.2.1 h⟩
theorem jD.step {m c k:Int}{ls:aa}(g:jD m c k ls)(k0:0<=k)(hc:c=1∨c=2):jD m c (k+1) (ls++gZ c k++jE m c k):=by
 have lt:∀l∈ls,l.1<k:=λl hl=>((g.mem l).mp hl).2.1
 refine⟨bv2.mpr ⟨bv2.mpr ⟨g.ord,?_,λa ha b hb=>?_⟩,?_,λa ha b hb=>?_⟩,?_,λl=>?_⟩
 ·unfold gZ;split<;>simp
 ·have:=lt a ha
  have:=(z0.mp hb).1
  unfold eN;omega
 ·unfold jE;split<;>simp
 ·have b2:=ac4.mp hb
  rcases bs3.mp ha with ha|ha
  ·have:=lt a ha
   unfold eN;omega
  ·have a1:=z0.mp ha
   unfold eN;rcases hc with rfl|rfl
   ·have:=a1.2.1;rw[Int.emod_one]at this;omega
   ·omega
 ·have l1:(gZ c k).length<=1:=by unfold gZ;split<;>simp
  have l2:(jE m c k).length<=1:=by unfold jE;split<;>simp
  have:=g.len
  rw[br4,br4];omega
 ·rw[bs3,bs3,g.mem l,z0,ac4]
  unfold yZ;constructor
  ·rintro ((⟨a,b,h⟩|⟨a,b,h⟩)|⟨a,b,h⟩)
   ·exact⟨a,by omega,h⟩
   ·exact⟨by omega,by omega,.inl ⟨by rw[a];exact b,by omega⟩⟩
   ·exact⟨by omega,by omega,.inr ⟨by omega,by omega⟩⟩
  ·rintro⟨a,b,h⟩
   by_cases e:l.1=k
   ·rcases h with⟨h1,h2⟩|⟨h1,h2⟩
    ·exact .inl (.inr ⟨e,by rw[<- e];exact h1,by omega⟩)
    ·exact .inr ⟨e,by omega,by omega⟩
   ·exact .inl (.inl ⟨a,by omega,h⟩)
theorem jD.all {m c:Int}{ls:aa}(g:jD m c m ls)(c1:1<=c)(m0:0<=m)(l:Int×Int):l∈ls↔l∈mQ m.toNat c++mR m c:=by
 rw[g.mem l,bs3,aV1,aV2];unfold yZ;constructor
 ·rintro⟨a,b,⟨h1,h2⟩|⟨h1,h2⟩⟩
  ·exact .inl ⟨a,by omega,h1,h2⟩
  ·exact .inr ⟨a,h1,h2⟩
 ·rintro (⟨a,b,h1,h2⟩|⟨a,h1,h2⟩)
  ·exact⟨a,by omega,.inl ⟨h1,h2⟩⟩
  ·exact⟨a,by omega,.inr ⟨h1,h2⟩⟩
noncomputable def qO:b9:=λxs Q=>∃(ws:ag) (L:Int),xs = [.tup (intz ws),.int L]/\gO ws/\0<=L/\L<=40/\∀ls,ls.Pairwise eN->(∀l,l∈ls↔l∈mQ ((ws.length:Int)*L).toNat ws.length++mR ((ws.length:Int)*L) ws.length)->Q (gM (eC ws L) ls)
noncomputable def ac5:aX:=(aY (bZ 2 (aP eI (aF (aB 0) aM)))
 (aY (nJ 3 (pM aM))
 (aY (gH (j7 (aB 1)) (dU 4)
  (gH (j7 (aB 2)) (dU 5)
   (aY (bZ 6 (fZ (S2 (aB 4) (aB 2)) (aB 5)))
   (aY (dQ (bL (lZ (fZ (aB 5) (qC (.int 1))) (aB 2))) (pP 3 (eU (aF (aB 6) (aF (fZ (aB 6) (qC (.int 1))) aM)))) dP)
   (dQ (bL (lZ (fZ (aB 4) (qC (.int 1))) (aB 1))) (pP 3 (eU (aF (aB 6) (aF (fZ (aB 6) (aB 2)) aM)))) dP)))))
 (cT (eU (aF (q2 yW (aP pT (aF (aB 0) aM)) (aB 1)) (aF (aP pT (aF (aP yP (aF (aB 3) aM)) aM)) aM)))))))
theorem aW7:mK ac5 ["wants","length","width","links","slice_number","place","hearth"] qO:=by
 rintro xs Q ⟨ws,L,rfl,ok,l0,l40,q⟩;have w1:1<=(ws.length:Int):=by have:=List.length_pos_iff.mpr ok.1;omega
 have w2:(ws.length:Int)<=2:=by have:=ok.2.1;omega
 have hw:(ws.length:Int)=1∨(ws.length:Int)=2:=by omega
 refine⟨_,rfl,_,_,rfl,rfl,trivial,?_⟩;rw[dD];refine⟨by decide,rfl,rfl,rfl,?_⟩;have nE:intz ws≠[]:=λz=>ok.1 (List.map_eq_nil_iff.mp z)
 have wl:ws.length<=10:=by omega
 generalize hc:(ws.length:Int)=c at *
 refine⟨_,rfl,L,rfl,by omega,by omega,λi ρ=>∃(y4 y5 y6:Option Slot) (ls:aa),ρ = [some (.sh true (.tup (intz ws))),si L,si c,some (.own (.lst (fH ls))),y4,y5,y6]/\jD (c*L) c ((i:Int)*c) ls,
  ⟨none,none,none,[],?_,by rw[show ((0:Nat):Int)*c=0 by omega];exact .nil⟩,?_,?_⟩
 ·show [some (Slot.sh (flat (.tup (intz ws))) (.tup (intz ws))),_,_,_,_,_,_]=_
  rw[aM8];rfl
 ·rintro i y ρ hy ⟨y4,y5,y6,ls,rfl,g⟩
  obtain⟨rfl,hi⟩:=tY hy
  rw[show (0:Int)+(i:Int)=(i:Int) by omega];have i0:0<=(i:Int)*c:=Int.mul_nonneg (by omega) (by omega);have ib:(i:Int)*c<=80:=by rcases hw with rfl|rfl<;>omega
  refine⟨_,rfl,c,rfl,by omega,by omega,λj ρ=>∃(y5 y6:Option Slot) (ls:aa),ρ = [some (.sh true (.tup (intz ws))),si L,si c,some (.own (.lst (fH ls))),si i,y5,y6]/\jD (c*L) c ((i:Int)*c+(j:Int)) ls,
   ⟨y5,y6,ls,rfl,by rw[show (i:Int)*c+((0:Nat):Int)=(i:Int)*c by omega];exact g⟩,?_,?_⟩
  ·rintro j y ρ hy ⟨z5,z6,ls2,rfl,g2⟩
   obtain⟨rfl,hj⟩:=tY hy
   rw[show (0:Int)+(j:Int)=(j:Int) by omega];have hjc:(j:Int)<c:=by omega
   have c1:((j:Int)+1<c)=((((i:Int)*c+(j:Int))+1)%c>0):=by
    refine propext ?_;rcases hw with rfl|rfl<;>omega
   have c2:((i:Int)+1<L)=((i:Int)*c+(j:Int)<c*L-c):=by
    refine propext ?_;rcases hw with rfl|rfl<;>omega
   have st:=g2.step (by omega) hw;have gl:ls2.length<=200:=by have:=g2.len;omega
   refine⟨_,rfl,_,rfl,_,_,rfl,rfl,.inl ⟨by omega,by omega⟩,_,rfl,_,_,rfl,rfl,trivial,?_⟩;dsimp only;have ej:(i:Int)*c+((j+1:Nat):Int)=(i:Int)*c+(j:Int)+1:=by omega
   rw[<- ej]at st;generalize (i:Int)*c+((j+1:Nat):Int)=h' at *;generalize (i:Int)*c+(j:Int)=h at *;refine⟨_,rfl,_,_,rfl,rfl,_,rfl,_,_,rfl,rfl,_,rfl,?_⟩;show if decide ((j:Int)+1<c)=true then _ else _
   have two:∀ls3:aa,ls3=ls2++gZ c h->(dQ (bL (lZ (fZ (aB 4) (qC (.int 1))) (aB 1))) (pP 3 (eU (aF (aB 6) (aF (fZ (aB 6) (aB 2)) aM)))) dP) { nx:=λρ=>∃(y5 y6:Option Slot) (ls:aa),ρ = [some (.sh true (.tup (intz ws))),si L,si c,some (.own (.lst (fH ls))),si i,y5,y6]/\jD (c*L) c h' ls,rt:=Q } [some (.sh true (.tup (intz ws))),si L,si c,some (.own (.lst (fH ls3))),si i,si j,si h]:=by
    rintro ls3 rfl;refine⟨_,rfl,_,_,rfl,rfl,_,rfl,_,_,rfl,rfl,_,rfl,?_⟩;show if decide ((i:Int)+1<L)=true then _ else _
    by_cases t:(i:Int)+1<L
    ·rw[bq2 t]
     have e2:jE (c*L) c h = [(h,h+c)]:=by unfold jE;rw[if_pos (by rw[<- c2];exact t)]
     rw[e2]at st;have l1:(gZ c h).length<=1:=by unfold gZ;split<;>simp
     refine bQ ⟨_,rfl,_,rfl,_,rfl,_,rfl,_,_,rfl,rfl,by show 2<=1000;decide,rfl,trivial,by rw[Y3,br4];omega,si j,si h,ls2++gZ c h++[(h,h+c)],?_,st⟩;unfold fH;rw[bs9 (l₂:=[(h,h+c)])];rfl
    ·rw[bp9 t]
     have e2:jE (c*L) c h = []:=by unfold jE;rw[if_neg (by rw[<- c2];exact t)]
     rw[e2,bu0]at st;exact bJ ⟨si j,si h,ls2++gZ c h,rfl,st⟩
   by_cases t:(j:Int)+1<c
   ·rw[bq2 t]
    refine bQ ⟨_,rfl,_,rfl,_,rfl,_,_,rfl,rfl,by show 2<=1000;decide,rfl,trivial,by rw[Y3];omega,?_⟩
    have:=two (ls2++[(h,h+1)]) (by unfold gZ;rw[if_pos (by rw[<- c1];exact t)])
    have e:fH (ls2++[(h,h+1)])=fH ls2++[.tup [.int h,.int (h+1)]]:=by unfold fH;rw[bs9];rfl
    rw[e]at this;exact this
   ·rw[bp9 t]
    have:=two ls2 (by unfold gZ;rw[if_neg (by rw[<- c1];exact t),bu0])
    exact bJ this
  ·rintro ρ ⟨z5,z6,ls2,rfl,g2⟩
   rw[dS]at g2;refine⟨_,z5,z6,ls2,rfl,?_⟩;rw[show ((i+1:Nat):Int)*c=(i:Int)*c+((c.toNat:Nat):Int) by rw[show ((i+1:Nat):Int)=(i:Int)+1 by omega,Int.add_mul,Int.one_mul];omega];exact g2
 ·rintro ρ ⟨y4,y5,y6,ls,rfl,g⟩
  rw[dS,show ((L.toNat:Nat):Int)*c=c*L by rw[show ((L.toNat:Nat):Int)=L by omega,Int.mul_comm]]at g;have m0:0<=c*L:=Int.mul_nonneg (by omega) l0;have gl:=g.len;have ml:c*L<=80:=by rcases hw with rfl|rfl<;>omega
  have nd:=aU3 g.ord;refine⟨_,rfl,⟨_,_,rfl,rfl,j5 _,_,rfl,_,L,rfl,rfl,j5 _,nE,l0,by omega,by rw[dD];exact wl,?_⟩,λns z=>by cases z⟩;rw[aW3];refine⟨_,rfl,ls.map two,by rw[Z3];rfl,by rw[bq6];omega,λr hr=>by obtain⟨l,_,rfl⟩:=bt7.mp hr;rfl,λZ pz so=>?_⟩
  obtain⟨l2,rfl,pp⟩:=aO0 pz
  have el:l2=ls:=aU4 pp (aO1 so (pp.nodup_iff.mpr nd)) g.ord;subst el;rw[show ((l2.map two).map λr=>PV.tup (intz r))=fH l2 from (Z3 _).symm];refine⟨⟨_,_,rfl,rfl,yC _,by show 2<=1000;decide,?_,trivial,?_⟩,λns z=>by cases z⟩
  ·exact aO2 _ _
  ·have:=q l2 g.ord λl=>g.all (by omega) m0 l
   exact this
end Core
namespace L2
open PySem PySem.Spec PyProof.Rows SO
noncomputable abbrev kk (l:Int×Int):List bO:=[Sum.inl l.1,Sum.inl l.2]
end L2
namespace Core
open PySem L2 PP
inductive qP (r c:Int)(S:aa):Int×Int->Prop
 |seed {x:Int×Int}:x∈S->qP r c S x
 |kin {x a b:Int×Int}:yT r c x=true->a∈yU r c x->b∈yU r c x->a≠b->qP r c S a->qP r c S b->qP r c S x
noncomputable def nbC (r c:Int)(P:aa)(x:Int×Int):Nat:=(P.filter λp=>decide (x∈yU r c p)).length
structure Wk (r c:Int)(S K P:aa):Prop where
 nd:K.Nodup
 ndP:P.Nodup
 sub:∀x∈P,x∈K
 brn:∀x∈K,qP r c S x
 sd:∀x∈S,x∈K
 bd:∀x∈K,yT r c x=true
 low:∀x,x∉K->nbC r c P x<2
end Core
namespace L2
open PySem PySem.Spec PyProof.Rows PP
section
variable {prog:az}{w:bc}{A:ba}{R:Result→ax→Prop}{I S:ay}{n:Nat}{s0:ax}{a b:aw}{lt:Bool}{fp:List ay}{P:Nat→aw→Prop}{St:Nat→Heap→Prop}
theorem aW8 (W:Walks prog w A.in1 I fp [I] 2 P St)(p0:∀v,P 0 v->v=a)(p1:∀v,P 1 v->v=b)(sI:S≠I)(sf:S∉fp)(fI:s0.heap.get? I=none)(fS:s0.heap.get? S=none)(ask:∀(h:Heap) (k:Nat) (Q E:aw->ax->Prop),iR s0.heap h->Q (.bool lt) (at_ s0 h k)->wpAny (model prog w) A.in1 (richCompare .Lt b a) Q E (at_ s0 h k))(fin:∀h k,iR s0.heap h->R (.ok (.ret (if lt=true then b else a))) (at_ s0 h k)){h:Heap}{k c:Nat}(old:iR s0.heap h)(st:St 0 h)(hS:h.get? S=some { cls:=.type "list",dict:=none,data:=.seq #[] c,slots:=#[] }):codeAny (model prog w) A (.builtin "min.loop" ⟨[.ref I,.none,.ref S],[]⟩) R (at_ s0 h k):=by
 have nm:(toString "min"++toString ".loop":String)="min.loop":=by decide
 have nS:S∉[I]:=λz=>sI (bq1.mp z)
 have put:∀{h h':Heap},iR s0.heap h->(∀b o,b∉[I]->h.get? b=some o->h'.get? b=some o)->iR s0.heap h':=λ{h h'} o1 o2 b o e=>o2 b o (λz=>by rw[bq1.mp z,fI]at e;cases e) (o1 b o e)
 have put2:∀{h:Heap}{f:Obj->Obj},iR s0.heap h->iR s0.heap (h.update S f):=λ{h f} o1 b o e=>(bx8 _ _ (λz:S=b=>by rw[<- z,fS]at e;cases e)).trans (o1 b o e)
 have last:∀(h:Heap) (k c:Nat),iR s0.heap h->St 2 h->h.get? S=some { cls:=.type "list",dict:=none,data:=.seq #[if lt=true then b else a,if lt=true then b else a] c,slots:=#[] }->codeAny (model prog w) A (.builtin "min.loop" ⟨[.ref I,.none,.ref S],[]⟩) R (at_ s0 h k):=λh k c old st hS=>by
  refine codeAny_builtin PySem.F.entry_min_loop ?_;rw[bG0 bz8];refine bp7 (bG3 hS rfl ?_);refine bp7 (wpAny_tryCatch (W.done _ _ _ st λh2 k2 o2=>?_));exact bp7 (wpAny_updateSeq (o2 S _ nS hS) rfl (bp7 (wpAny_letGo (bq5 (fin _ k2 (put2 (put old o2)))))))
 have fr:∀{h:Heap}{f:Obj->Obj}{j:Nat},St j h->St j (h.update S f):=λ{h f j} st=>W.frame _ _ _ st λb hb o e=>(bx8 _ _ (λz:S=b=>sf (by rw[z];exact hb))).trans e
 refine codeAny_builtin PySem.F.entry_min_loop ?_;rw[bG0 bz8];refine bp7 (bG3 hS rfl ?_);refine bp7 (wpAny_tryCatch (W.item 0 _ _ _ (by decide) st λv h2 k2 hv st2 o2=>?_));obtain rfl:=p0 v hv;have hS2:=o2 S _ nS hS;refine bp7 (bq5 ?_);refine bp7 (m:=updateSeq _ (λ_=>#[v,v])) (wpAny_updateSeq hS2 rfl ?_);rw[nm];refine bq5 ⟨plainId_quiet bz8 _,codeAny_builtin PySem.F.entry_min_loop ?_⟩;rw[bG0 bz8];have hS3:(h2.update S (Obj.mapSeq λ_=>#[v,v])).get? S=some (Obj.mapSeq (λ_=>#[v,v]) { cls:=.type "list",dict:=none,data:=.seq #[] c,slots:=#[] }):=bw9 _ hS2 rfl;refine bp7 (bG3 hS3 rfl ?_);refine bp7 (wpAny_tryCatch (W.item 1 _ _ _ (by decide) (fr st2) λu h4 k4 hu st4 o4=>?_));obtain rfl:=p1 u hu;have hS4:=o4 S _ nS hS3;have old4:=put (put2 (f:=Obj.mapSeq λ_=>#[v,v]) (put old o2)) o4;refine bp7 (bq5 ?_);refine bp7 (m:=tryCatch (holding [u,u] (richCompare .Lt u v >>= _)) _) (wpAny_tryCatch (by3 (bp7 (ask h4 k4 _ _ old4 ?_))));refine bp7 (by3 (bB1 (bp7 (wpAny_letGo (bq5 ?_)))));cases lt with
 |false=>
  simp only[bs8,bx3];refine bp7 (wpAny_letGo ?_);rw[nm];exact bq5 ⟨plainId_quiet bz8 _,last h4 k4 _ old4 st4 hS4⟩
 |true=>
  simp only[if_true];refine bp7 (wpAny_updateSeq hS4 rfl (bp7 (wpAny_letGo ?_)));rw[nm];exact bq5 ⟨plainId_quiet bz8 _,last _ k4 _ (put2 old4) (fr st4) (bw9 _ hS4 rfl)⟩
theorem aW9 {Q E:aw->ax->Prop}(hh:A.in1.handled=none)(ask:∀(h:Heap) (k:Nat) (Q E:aw->ax->Prop),iR s0.heap h->Q (.bool lt) (at_ s0 h k)->wpAny (model prog w) A.in1 (richCompare .Lt b a) Q E (at_ s0 h k))(fin:∀h k,iR s0.heap h->Q (if lt=true then b else a) (at_ s0 h k)):wpAny (model prog w) A (call (.builtin "min") [a,b]) Q E s0:=by
 have nm:(toString "min"++toString ".loop":String)="min.loop":=by decide
 refine call_function_tree PySem.F.kind_min PySem.F.plain_min PySem.F.entry_min (PySem.F.args_min2 _ _) ?_;refine bp7 (bD3 (show Builtin.Builtins.bindParams "min" ["key","default"] 0 ⟨[],[]⟩=pure [none,none] from rfl) ?_);show wpAny _ A.in1 (newTuple [a,b] >>= _) _ _ _;refine bp7 (bv9 ?_);have hT:(s0.heap.push { cls:=.type "tuple",data:=.seq #[a,b] }).IsTuple s0.heap.objs.size #[a,b]:=⟨_,br7 _ rfl,rfl,0,rfl⟩;have z1:(s0.heap.push { cls:=.type "tuple",data:=.seq #[a,b] }).objs.size=s0.heap.objs.size+1:=bB4 ..;refine bp7 (bE8 hT ?_);refine bp7 (bv9 ?_);rw[nm];have z2:((s0.heap.push { cls:=.type "tuple",data:=.seq #[a,b] }).push { cls:=.type "tuple_iterator",data:=.fields #[.ref s0.heap.objs.size,.int 0 0] }).objs.size=s0.heap.objs.size+2:=by rw[bB4,z1]
 have ne:s0.heap.objs.size≠(s0.heap.push { cls:=.type "tuple",data:=.seq #[a,b] }).objs.size:=by omega
 refine bq5 ⟨plainId_quiet bz8 _,aW8 (lt:=lt) (Walks.tuple (A:=A.in1) hh _ s0.heap.objs.size ne #[a,b]) (λv hv=>?_) (λv hv=>?_) (λz=>?_) (λz=>?_) (ab4 (bt6 (Nat.le_succ _) (Nat.le_of_eq z1.symm))) (ab4 (bt6 (Nat.le_add_right _ 2) (Nat.le_of_eq z2.symm))) ask fin (λb o e=>bq0 _ (bq0 _ (bq0 _ e)))
  ⟨⟨_,bq0 _ (br7 _ rfl),rfl,rfl⟩,(hT.push _).push _⟩ (br7 _ rfl)⟩
 ·exact (bt2 (show some a=some v from hv)).symm
 ·exact (bt2 (show some b=some v from hv)).symm
 ·have z:=z2.symm.trans (z.trans z1)
  omega
 ·rcases br0.mp z with z|z
  ·have z:=z2.symm.trans (z.trans z1)
   omega
  ·have z:=z2.symm.trans (bq1.mp z)
   omega
end
end L2
namespace Core
open PySem L2 PP
section
variable {ls:aa}{n:Nat}{U:ag}{v:Int}
noncomputable def mu (ls:aa)(U:ag):Int:=((ls.filter (inL U)).length:Int)-(U.length:Int)+((aS4 ls U).length:Int)
end
noncomputable abbrev Wys:=List (Int×ag)
end Core
namespace PP
open PySem L2
noncomputable def ac6:List PV->(PV->Prop)->Prop:=λxs Q=>∃ys,xs = [.tup ys]/\flats ys=true/\Q (.tup ys.reverse)
end PP
namespace Raw
open PySem PySem.W PySem.Calls PyProof.Rows
theorem aX0:Slot "reversed" "__init__" "object.__init__":=
 .of (owner:="object") (n:="__init__") (by rw[typeLookup_type,bC3];kernel_rfl) (by decide +kernel) (by decide +kernel) (by decide +kernel)
  (by first|exact .inl (by decide +kernel)|exact .inr (by decide +kernel)) (by rw[isSubtype_type];kernel_rfl)
theorem aX1:TypeCalled "reversed" "reversed.__new__" "object.__init__":=
 ⟨by decide +kernel,by decide +kernel,⟨_,_,F.mro_reversed⟩,F.made_reversed,F.plain_reversed_new,F.sub_reversed_self,aX0⟩
theorem aX2:typeLookup (.type "tuple") "__reversed__" = pure none:=by rw[typeLookup_type,bC3];kernel_rfl
noncomputable def u7 (t:ay)(i:Int):Obj:={ cls:=.type "reversed",data:=.fields #[.ref t,rawInt i] }
theorem aX3 (t:ay)(items:Array aw)(hz:(items.size:Int)<2^62) :
  Meets (Builtin.«reversed.__new__» ⟨[.type "reversed",.ref t],[]⟩) (λ_ R s=>IsTup s.heap t items/\∀tk,R (.ok (.ret (.ref s.heap.objs.size))) { s with heap:=s.heap.push (u7 t ((items.size:Int)-1)),toks:=tk }):=
 .of_wp λprog w A R s h=>by
  obtain⟨ht,h⟩:=h
  have hT:s.TypeIs (.ref t) "tuple":=ht.typeIs;unfold Builtin.«reversed.__new__»;refine bp7 (bD3 (newClass_reversed _) ?_)
  try dsimp only
  refine bp7 (bD3 (a:=()) (by first|rfl|kernel_rfl) ?_);refine bp7 (bD3 (a:=()) (by first|rfl|kernel_rfl) ?_)
  try dsimp only
  refine bp7 (bD9 hT aX2 ?_)
  try dsimp only
  have hg:=F.slot_tuple_getitem.lookup;have hsd:isSubtype (.type "tuple") (.type "dict")=pure false:=by rw[isSubtype_type];kernel_rfl
  generalize pc:call (Value.builtin "len") [Value.ref t]=CL;refine bp7 ?_;show wpAny _ _ (isInstance (.ref t) (.type "dict") >>= λb=>_) _ _ _
  wp_walk using wpAny_typeOf hT,bD9 hT hg
  subst pc;refine len_tuple ht (by omega) ?_;refine bp7 (m:=asInt? _) (bq5 ?_);show wpAny _ _ (newObj (.type "reversed") (.fields #[.ref t,rawInt ((items.size:Int)-1)]) >>= λv=>ret v) _ _ _;refine bp7 (bv9 ?_);exact bq5 ⟨_,rfl,h _⟩
theorem z4:Manifest.owners.lookup (String.ofList ['d','e','s','r','e','v','e','r'].reverse)=some Manifest.sig_reversed:=by kernel_rfl
theorem qQ:Slot "reversed" "__next__" "reversed.__next__":=
 .of (owner:="reversed") (n:="__next__") (by rw[typeLookup_type,bC3];kernel_rfl) (by decide +kernel) (by decide +kernel) (by decide +kernel)
  (by first|exact .inl (by decide +kernel)|exact .inr (by decide +kernel)) (by rw[isSubtype_type];kernel_rfl)
theorem ac7:entryFor table "reversed.__next__" = some Builtin.«reversed.__next__»:=entryFor_of_tree (by kernel_rfl)
theorem ac8 (a:aw):argsOk "reversed.__next__" ⟨[a],[]⟩:=by
 unfold argsOk;rw[signature?_of (id:="reversed.__next__") (n:=['_','_','t','x','e','n','_','_']) (o:=['d','e','s','r','e','v','e','r']) (by kernel_rfl) z4];kernel_rfl
theorem ac9:Slot "reversed" "__iter__" "reversed.__iter__":=
 .of (owner:="reversed") (n:="__iter__") (by rw[typeLookup_type,bC3];kernel_rfl) (by decide +kernel) (by decide +kernel) (by decide +kernel)
  (by first|exact .inl (by decide +kernel)|exact .inr (by decide +kernel)) (by rw[isSubtype_type];kernel_rfl)
theorem aX4 (a:aw):argsOk "reversed.__iter__" ⟨[a],[]⟩:=by
 unfold argsOk;rw[signature?_of (id:="reversed.__iter__") (n:=['_','_','r','e','t','i','_','_']) (o:=['d','e','s','r','e','v','e','r']) (by kernel_rfl) z4];kernel_rfl
theorem aX5:entryFor table "reversed.__iter__" = some Builtin.«dict_keyiterator.__iter__»:=
 entryFor_alias (id':="dict_keyiterator.__iter__") (by kernel_rfl) (by first|rfl|decide +kernel|(unfold String.splitOn;simp +decide [String.splitOnAux])) (by decide +kernel) (by kernel_rfl)
theorem aX6:typeLookup (.type "reversed") "__len__" = pure none:=by rw[typeLookup_type,bC3];kernel_rfl
theorem z7:Slot "reversed" "__length_hint__" "reversed.__length_hint__":=
 .of (owner:="reversed") (n:="__length_hint__") (by rw[typeLookup_type,bC3];kernel_rfl) (by decide +kernel) (by decide +kernel) (by decide +kernel)
  (by first|exact .inl (by decide +kernel)|exact .inr (by decide +kernel)) (by rw[isSubtype_type];kernel_rfl)
theorem aX7:entryFor table "reversed.__length_hint__" = some Builtin.«reversed.__length_hint__»:=entryFor_of_tree (by kernel_rfl)
theorem aX8 (a:aw):argsOk "reversed.__length_hint__" ⟨[a],[]⟩:=by
 unfold argsOk;rw[signature?_of (id:="reversed.__length_hint__") (n:=['_','_','t','n','i','h','_','h','t','g','n','e','l','_','_']) (o:=['d','e','s','r','e','v','e','r']) (by kernel_rfl) z4];kernel_rfl
noncomputable def eD (h:Heap)(a t:ay)(i:Int):Prop:=∃o,h.get? a=some o/\o.cls = .type "reversed"/\o.data = .fields #[.ref t,rawInt i]
theorem eD.at {h h':Heap}{a t:ay}{i:Int}(x:eD h a t i)(e:∀o,h.get? a=some o->h'.get? a=some o):eD h' a t i:=let ⟨o,ho,r⟩:=x;⟨o,e _ ho,r⟩
section
variable {prog:az}{w:bc}{A:ba}{E:aw→ax→Prop}{s:ax}
theorem eD.typeIs {a t:ay}{i:Int}(x:eD s.heap a t i):s.TypeIs (.ref a) "reversed":=let ⟨o,ho,hc,_⟩:=x;⟨o,ho,hc⟩
theorem aX9 {it t:ay}{i:Nat}{items:Array aw}{x:aw}{Q:Option aw->ax->Prop}(hit:eD s.heap it t (i:Int))(ht:IsTup s.heap t items)(hz:(items.size:Int)<2^62)(hx:items[i]? = some x)(hQ:∀h' tk,eD h' it t ((i:Int)-1)->Heap.SameBut it s.heap h'->Q (some x) { s with heap:=h',toks:=tk }):wpAny (model prog w) A (pyNext (.ref it)) Q E s:=by
 obtain⟨o,ho,hc,hd⟩:=id hit
 have hi:i<items.size:=(Array.getElem?_eq_some_iff.mp hx).1;unfold pyNext
 refine bp7 (bG2 (bz2 (name:=Str.ofString "__next__") hit.typeIs qQ
  (bw6 qQ hit.typeIs ac7 ?_ (ac8 _))))
 unfold Builtin.«reversed.__next__»;refine bp7 (bD3 (a:=(Value.ref it,[])) rfl ?_)
 try dsimp only
 refine bp7 (by7 ho hd (x:=.ref t) rfl ?_);refine bp7 (by7 ho hd (x:=rawInt (i:Int)) rfl ?_);show wpAny _ _ (if (i:Int)<0 then _ else _) _ _ s;rw[if_neg (by omega)];refine bp7 (bD9 ht.typeIs PySem.F.slot_tuple_getitem.lookup ?_);rw[if_neg (by simp)];refine bp7 (wpAny_mkInt ?_);refine bp7 (bG2 (getItem_tuple (s:={ s with toks:=s.toks+1 }) (j:=i) ht (by omega) (by omega) (by simp[seqIndex?];omega) hx ?_));refine bp7 (by7 (s:={ s with toks:=s.toks+1 }) ho hd (x:=rawInt (i:Int)) rfl ?_);refine bp7 (bG4 (s:={ s with toks:=s.toks+1 }) ho hd (by simp) ?_);refine bq5 ⟨x,rfl,bq5 (hQ _ _ ?_ (Heap.SameBut.update ..))⟩
 exact⟨_,bw9 _ ho (Obj.isFreed_of_fields (bA6 hd _)),(Obj.cls_mapFields ..).trans hc,by
  rw[bA6 hd];simp⟩
theorem aY0 {it t:ay}{Q:Option aw->ax->Prop}(hh:A.handled=none)(hit:eD s.heap it t (-1))(hQ:∀h',Heap.ExtBut it s.heap h'->Q none { s with heap:=h' }):wpAny (model prog w) A (pyNext (.ref it)) Q E s:=by
 obtain⟨o,ho,hc,hd⟩:=id hit
 unfold pyNext
 refine bp7 (bG2 (bz2 (name:=Str.ofString "__next__") hit.typeIs qQ
  (bw6 qQ hit.typeIs ac7 ?_ (ac8 _))))
 unfold Builtin.«reversed.__next__»;refine bp7 (bD3 (a:=(Value.ref it,[])) rfl ?_)
 try dsimp only
 refine bp7 (by7 ho hd (x:=.ref t) rfl ?_);refine bp7 (by7 ho hd (x:=rawInt (-1)) rfl ?_);show wpAny _ _ (if (-1:Int)<0 then _ else _) _ _ s;rw[if_pos (by decide)];refine bp7 (bE7 ?_);refine bp7 ?_;show wpAny _ _ (setField (.ref it) 1 (rawInt (-1)) >>= λ_=>setField (.ref it) 0 .none) _ _ s;refine bp7 (bG4 ho hd (by simp) ?_);refine bG4 (bw9 _ ho (Obj.isFreed_of_fields (bA6 hd _))) (bA6 hd _) (by simp) ?_
 first
 |show wpAny _ _ (newExc (.type "StopIteration") [] >>= _) _ _ _
 |(refine bp7 ?_;show wpAny _ _ (newExc (.type "StopIteration") [] >>= _) _ _ _)
 refine bp7 ?_;simp only[newExc,newTuple];refine bp7 (bv9 ?_ (by size_fits));refine bp7 (m:=firstArgMember _ _) (bD3 (a:=Value.none) (by first|rfl|(simp only[firstArgMember];rfl)) ?_);refine bv9 ?_ (by size_fits);simp only[raiseNew];refine bp7 (wpAny_handled ?_)
 first|rw[show A.in1.handled=none from hh]|rw[hh]
 refine bp7 (bq5 (wpAny_throw ?_));refine bp7 (bE5 (T:="StopIteration") (b:=true) ⟨_,br7 _ rfl,rfl⟩ isSubtype_stop ?_);refine bq5 (hQ _ ?_);intro b o' hb e;exact bq0 _ (bq0 _ ((bx8 _ _ (Ne.symm hb)).trans ((bx8 _ _ (Ne.symm hb)).trans e)))
theorem ad0 {it t:ay}{i:Int}{Q:aw->ax->Prop}(hit:eD s.heap it t i)(h:Q (.ref it) s):wpAny (model prog w) A (pyIter (.ref it)) Q E s:=by
 refine wpAny_pyIter_slot hit.typeIs ac9 (bw6 ac9 hit.typeIs aX5 ?_ (aX4 _));show wpAny _ _ (ret (.ref it)) _ _ s;exact bq5 ⟨_,rfl,"reversed",_,hit.typeIs,qQ.lookup,h⟩
end
theorem aY1 {prog:az}{w:bc}{A:ba}(hh:A.handled=none)(I l:ay)(hne:l≠I)(items:Array aw)(hz:(items.size:Int)<2^62) :
  Walks prog w A I [I,l] [I] items.size (λi v=>items[items.size-1-i]? = some v) (λi h=>i<=items.size/\eD h I l ((items.size:Int)-1-(i:Int))/\IsTup h l items) where
 sub:=λb hb=>by simp at hb;simp[hb]
 frame:=λ_ _ _ x hk=>⟨x.1,x.2.1.at λo e=>hk I (by simp) o e,let ⟨o,ho,r⟩:=x.2.2;⟨o,hk l (by simp) o ho,r⟩⟩
 item:=λi s Q E hi x hQ=>by
  have e:(items.size:Int)-1-(i:Int)=((items.size-1-i:Nat):Int):=by omega
  have hit:=x.2.1;rw[e]at hit;have hx:items[items.size-1-i]? = some (items[items.size-1-i]'(by omega)):=Array.getElem?_eq_getElem (by omega);refine aX9 hit x.2.2 hz hx λh' tk hit' hs'=>?_
  have e2:((items.size-1-i:Nat):Int)-1=(items.size:Int)-1-((i+1:Nat):Int):=by omega
  rw[e2]at hit';exact hQ _ h' tk hx ⟨hi,hit',let ⟨o,ho,r⟩:=x.2.2;⟨o,(hs'.2 l hne).trans ho,r⟩⟩ λb o hb eo=>hs'.extBut b o (λh=>hb (by simp[h])) eo
 done:=λs Q E x hQ=>by
  have e:(items.size:Int)-1-(items.size:Int) = -1:=by omega
  have hit:=x.2.1;rw[e]at hit;exact aY0 hh hit λh' he'=>hQ h' s.toks λb o hb eo=>he' b o (λh=>hb (by simp[h])) eo
 self:=λ_ _ _ _ x hQ=>ad0 x.2.1 hQ
section
variable {prog:az}{w:bc}{A:ba}{E:aw→ax→Prop}{s:ax}
theorem aY2 {it t:ay}{items:Array aw}{Q:aw->ax->Prop}(hit:eD s.heap it t ((items.size:Int)-1))(ht:IsTup s.heap t items)(hz:(items.size:Int)<2^62)(h:∀u tk,s.toks<=tk->Q (.int items.size u) { s with toks:=tk }):wpAny (model prog w) A (call (.builtin "reversed.__length_hint__") [.ref it]) Q E s:=by
 obtain⟨o,ho,hc,hd⟩:=id hit
 refine bw6 z7 hit.typeIs aX7 ?_ (aX8 _);unfold Builtin.«reversed.__length_hint__»;refine bp7 (bD3 (a:=Value.ref it) rfl ?_);refine bp7 (by7 ho hd (x:=.ref t) rfl ?_);rw[if_neg (show ¬((Value.ref t==Value.none)=true) from bq7)];refine bp7 (len_tuple ht (by omega) ?_);refine bp7 (m:=asInt? _) (bq5 ?_);dsimp only;refine bp7 (by7 (s:={ s with toks:=_ }) ho hd (x:=rawInt ((items.size:Int)-1)) rfl ?_);show wpAny _ _ (if (items.size:Int)<(items.size:Int)-1+1 then _ else _) _ _ _;rw[if_neg (by omega),show (items.size:Int)-1+1=items.size by omega];exact bp7 (wpAny_mkInt (bq5 ⟨_,rfl,h _ _ (by show s.toks<=s.toks+1+1+1;omega)⟩))
theorem aY3 {it t:ay}{items:Array aw}{Q:Bool->ax->Prop}(hit:eD s.heap it t ((items.size:Int)-1))(ht:IsTup s.heap t items)(hz:items.size<=2^24)(h:∀tk,s.toks<=tk->Q ((items.size:Int) != 0) { s with toks:=tk }):wpAny (model prog w) A (Builtin.List.listLengthHint (.ref it)) Q E s:=by
 unfold Builtin.List.listLengthHint;refine bp7 (bD9 hit.typeIs aX6 ?_);show wpAny _ _ (specialOf (Value.ref it) (Str.ofString "__length_hint__") >>= _) _ _ _;refine bp7 (bD9 hit.typeIs z7.lookup ?_);generalize hid:("reversed.__length_hint__":String)=id0
 wp_delta
 rw[show splitId id0=some ("reversed","__length_hint__") from by subst hid;decide +kernel];subst hid;refine bp7 (bE5 (b:=true) hit.typeIs (by rw[isSubtype_type];kernel_rfl) ?_);refine wpAny_ite_split (λhab=>absurd hab (by decide)) (λ_=>?_);refine wpAny_ite_split (λhab=>absurd hab (by decide +kernel)) (λ_=>?_);refine bp7 (bE7 ?_);refine bp7 (bD3 (z7.bind _) ?_);dsimp only;refine bp7 (bG2 (aY2 hit ht (by omega) λu tk htk=>?_));have h0:0<=(items.size:Int):=by omega
 have h1:(items.size:Int)<=2^24:=by omega
 replace h:=h tk htk
 generalize (items.size:Int)=k at h h0 h1 ⊢;have htl:Builtin.List.listTooLong k.toNat=false:=by simp[Builtin.List.listTooLong,sizeLine];omega
 have hfi:Builtin.List.listFitsIndex k=true:=by simp[Builtin.List.listFitsIndex];omega
 refine bp7 (m:=asInt? _) (bq5 ?_);dsimp only;rw[if_neg (by rw[hfi];decide),if_neg (by omega),if_neg (by rw[htl];decide)];exact bq5 h
theorem aY4 {R:Result->ax->Prop}{it t:ay}{items:Array aw}(hh:A.handled=none)(hne:t≠it)(hit:eD s.heap it t ((items.size:Int)-1))(ht:IsTup s.heap t items)(ao:items.size<=2^24)(S:ay)(res:aw)(c₀:Nat)(hS:s.heap.get? S=some { cls:=.type "list",data:=.seq #[] c₀ })(hR:∀h' tk acc' c',(∀b o,b≠S->b≠it->s.heap.get? b=some o->h'.get? b=some o)->h'.get? S=some { cls:=.type "list",dict:=none,data:=.seq acc' c',slots:=#[] }->
   ItemsOf (λi v=>items[items.size-1-i]? = some v) acc' items.size->R (.ok (.ret res)) { s with heap:=h',toks:=tk }) :
  wpAny (model prog w) A.in1 (Builtin.List.listExtendWith (.ref S) (.ref it) res)
   (λfin s'=>match fin with|.done f=>R (.ok f) s'|.again c'=>c'.quiet=true/\codeAny (model prog w) A c' R s') (λe s'=>R (.error e) s') s:=by
 have hSi:S≠it:=λe=>by obtain⟨o,ho,hc,_⟩:=hit;rw[e,ho]at hS;cases hS;exact absurd hc (by show ¬Value.type "list" = _;decide)
 have hSt:S≠t:=λe=>by obtain⟨o,ho,hc,_⟩:=ht;rw[e,ho]at hS;cases hS;exact absurd hc (by show ¬Value.type "list" = _;decide)
 have hSf:S∉[it,t]:=λhm=>by rcases br0.mp hm with e|e;exact hSi e;exact hSt (bq1.mp e)
 have W:=(aY1 (prog:=prog) (w:=w) (A:=A.in1) hh it t hne items (by omega)).toS;have key:∀(h:Heap) (c₁ tk:Nat),(∀b o,b≠S->s.heap.get? b=some o->h.get? b=some o)->
   h.get? S=some { cls:=.type "list",data:=.seq #[] c₁ }->codeAny (model prog w) A (.builtin "list.extend.loop" ⟨[.ref S,.ref it,res],[]⟩) R { s with heap:=h,toks:=tk }:=by
  intro h c₁ tk hk hS₁;have st:0<=items.size/\eD h it t ((items.size:Int)-1-((0:Nat):Int))/\IsTup h t items:=
   ⟨bu8 _,by rw[show (items.size:Int)-1-((0:Nat):Int)=(items.size:Int)-1 by omega];exact hit.at λo e=>hk it o (Ne.symm hSi) e,let ⟨o,ho,r⟩:=ht;⟨o,hk t o (Ne.symm hSt) ho,r⟩⟩
  refine codeAny_extend_loopS W (by rw[sizeLine_eq];omega) S hSf res items.size 0 _ #[] c₁ rfl (bu8 _) st hS₁ (ItemsOf.nil _) λs' acc' c' hm hS' hacc=>?_
  rw[hm.eq_with];refine hR s'.heap s'.toks acc' c' (λb o hb hb2 e=>hm.heap b o (λhmem=>?_) (hk b o hb e)) hS' hacc;rcases br0.mp hmem with e'|hmem
  ·exact hb e'
  ·exact hb2 (bq1.mp hmem)
 unfold Builtin.List.listExtendWith;refine bp7 (wpAny_typeOf (T:="reversed") hit.typeIs ?_);have h1:Builtin.List.listSameRef (.ref S) (.ref it)=false:=by simp[Builtin.List.listSameRef,hSi]
 have h2:(Value.type "reversed"==Value.type "list")=false:=by decide
 have h3:(Value.type "reversed"==Value.type "tuple")=false:=by decide
 simp only[h1,h2,h3,Bool.or_false,bs8,bx3];refine bp7 (ad0 hit ?_);refine bp7 (by3 (aY3 hit ht ao λtk htk=>?_));refine wpAny_ite_split (λ_=>?_) (λ_=>bq5 ⟨plainId_quiet F.plain_extend_loop _,key _ c₀ _ (λb o _ e=>e) hS⟩);refine bp7 (bE7 ?_);refine bp7 ?_;show wpAny _ _ (updateSeq S (·.push .none) >>= λ_=>updateSeq S (·.pop)) _ _ _;refine bp7 (wpAny_updateSeq hS rfl ?_);have hS₂:=bw9 (Obj.mapSeq (·.push Value.none)) hS rfl;refine wpAny_updateSeq (hz:=by seq_fits) hS₂ rfl ?_;have hS₃:=bw9 (Obj.mapSeq (·.pop)) hS₂ rfl;refine bq5 ⟨plainId_quiet F.plain_extend_loop _,key _ _ _ (λb o hb e=>?_) hS₃⟩;exact (bx8 _ _ (Ne.symm hb)).trans ((bx8 _ _ (Ne.symm hb)).trans e)
theorem aY5 {R:Result->ax->Prop}{it t:ay}{items:Array aw}(hh:A.handled=none)(hne:t≠it)(hit:eD s.heap it t ((items.size:Int)-1))(ht:IsTup s.heap t items)(ao:items.size<=2^24)(hR:∀h' tk acc c,(∀b o,b≠s.heap.objs.size->b≠it->(s.heap.push { cls:=.type "list",data:=.seq ([]:List aw).toArray }).get? b=some o->h'.get? b=some o)->h'.get? s.heap.objs.size=some { cls:=.type "list",dict:=none,data:=.seq acc c,slots:=#[] }->ItemsOf (λi v=>items[items.size-1-i]? = some v) acc items.size->R (.ok (.ret (.ref s.heap.objs.size))) { s with heap:=h',toks:=tk }) :
  codeAny (model prog w) A (.builtin "proto.collect" ⟨[.ref it],[]⟩) R s:=by
 refine codeAny_builtin PySem.F.entry_proto_collect ?_;rw[bG0 PySem.F.plain_proto_collect _];show wpAny _ A.in1 (newList [] >>= λl=>again (.builtin "list.__iadd__" ⟨[l,.ref it],[]⟩)) _ _ s;refine bp7 (bv9 ?_);refine bq5 ⟨plainId_quiet PySem.F.plain_list_iadd _,codeAny_builtin PySem.F.entry_list_iadd ?_⟩;rw[bG0 PySem.F.plain_list_iadd _];show wpAny _ A.in1 (Builtin.List.listExtendWith (.ref s.heap.objs.size) (.ref it) (.ref s.heap.objs.size)) _ _ _;exact aY4 (s:={ s with heap:=s.heap.push { cls:=.type "list",data:=.seq ([]:List aw).toArray } }) (R:=R) hh hne (hit.at λo e=>bq0 _ e) (let ⟨o,ho,r⟩:=ht;⟨o,bq0 _ ho,r⟩) ao s.heap.objs.size _ 0 (br7 _ rfl) hR
theorem aY6 {Q:List aw->ax->Prop}{it t:ay}{items:Array aw}(hh:A.handled=none)(hne:t≠it)(hit:eD s.heap it t ((items.size:Int)-1))(ht:IsTup s.heap t items)(ao:items.size<=2^24)(hQ:∀h' tk acc,(∀b o,b≠it->s.heap.get? b=some o->h'.get? b=some o)->ItemsOf (λi v=>items[items.size-1-i]? = some v) acc items.size->Q acc.toList { s with heap:=h',toks:=tk }):wpAny (model prog w) A (collect (.ref it)) Q E s:=by
 unfold collect;refine bp7 (wpAny_runValue (aY5 (s:=s) hh hne hit ht ao λh' tk acc c kp at1 i1=>?_));show wpAny _ A (load s.heap.objs.size >>= _) _ _ _;refine bp7 (wpAny_load at1 ?_);exact bq5 (hQ h' tk acc (λb o hb e=>kp b o (bu3 (br9 e)) hb (bq0 _ e)) i1)
theorem aY7 (it t:ay)(items:Array aw)(hne:t≠it)(ao:items.size<=2^24) :
  Meets (Builtin.«tuple.__new__» ⟨[.type "tuple",.ref it],[]⟩) (λA R s=>A.handled=none/\eD s.heap it t ((items.size:Int)-1)/\IsTup s.heap t items/\∀(h':Heap) tk (acc:Array aw),(∀b o',b≠it->s.heap.get? b=some o'->h'.get? b=some o')->ItemsOf (λi v=>items[items.size-1-i]? = some v) acc items.size->R (.ok (.ret (.ref h'.objs.size))) { s with heap:=h'.push { cls:=.type "tuple",data:=.seq acc },toks:=tk }):=
 .of_wp λprog w A R s h=>by
  obtain⟨hp,g,d,tk,os⟩:=s
  obtain⟨hh,hit,ht,h⟩:=h
  have hsub:=sub_tuple_self;have hinit:=init_tuple_lookup;have hmh:=madeHere_tuple;have hT:Shared.TypeIs ⟨hp,g,d,tk,os⟩ (.ref it) "reversed":=eD.typeIs (s:=⟨hp,g,d,tk,os⟩) hit;unfold Builtin.«tuple.__new__»;generalize pi:collect=CC
  wp_walk using wpAny_typeOf hT
  subst pi;refine aY6 (s:=⟨hp,g,d,tk,os⟩) hh hne hit ht ao λh' tk' acc kp i1=>?_
  refine bp7 (bq5 ?_);show wpAny _ _ (Builtin.Tuple.tupleExact acc.toList.toArray >>= λv=>ret v) _ _ _;unfold Builtin.Tuple.tupleExact;refine bp7 (bv9 ?_ (by show acc.toList.toArray.size<=sizeLine;rw[bq9,bB9,i1.1,sizeLine_eq];omega));refine bq5 ⟨_,rfl,?_⟩;have e:acc.toList.toArray=acc:=by simp
  rw[e];exact h h' tk' acc kp i1
theorem aY8 {Q:aw->ax->Prop}{it t:ay}{items:Array aw}(hh:A.handled=none)(hne:t≠it)(hit:eD s.heap it t ((items.size:Int)-1))(ht:IsTup s.heap t items)(ao:items.size<=2^24)(h:∀(h':Heap) tk (acc:Array aw),(∀b o',b≠it->s.heap.get? b=some o'->h'.get? b=some o')->ItemsOf (λi v=>items[items.size-1-i]? = some v) acc items.size->Q (.ref h'.objs.size) { s with heap:=h'.push { cls:=.type "tuple",data:=.seq acc },toks:=tk }) :
  wpAny (model prog w) A (call (.type "tuple") [.ref it]) Q E s:=
 callType_new F.called_tuple (by decide) (F.typeCall_tuple_1 _) (F.newCall_tuple_1 _) (λobj=>F.args_object_init_2 obj _) F.entry_tuple_new (aY7 it t items hne ao) ⟨by simp[hh],hit,ht,λh' tk acc hk i1=>⟨⟨_,br7 _ rfl,rfl⟩,h h' tk acc hk i1⟩⟩
theorem aY9 {t:ay}{items:Array aw}{Q:aw->ax->Prop}(ht:IsTup s.heap t items)(hz:(items.size:Int)<2^62)(h:∀tk,Q (.ref s.heap.objs.size) { s with heap:=s.heap.push (u7 t ((items.size:Int)-1)),toks:=tk }):wpAny (model prog w) A (call (.type "reversed") [.ref t]) Q E s:=
 callType_new aX1 (by decide) (PySem.F.typeCall_reversed_1 _) (PySem.F.newCall_reversed_1 _) (λobj=>PySem.F.args_object_init_2 obj _) PySem.F.entry_reversed_new (aX3 t items hz) ⟨ht,λtk=>⟨⟨_,br7 _ rfl,rfl⟩,h tk⟩⟩
end
end Raw
namespace L2
open PySem PySem.Spec PyProof.Rows
section
variable {X:Cx}
theorem aZ0 {xs:List V}{its acc:Array aw}(rv:aN xs its.toList)(h:ItemsOf (λi v=>its[its.size-1-i]? = some v) acc its.size):aN xs.reverse acc.toList:=by
 have e:acc.toList=its.toList.reverse:=by
  refine List.ext_getElem? λi=>?_
  by_cases hi:i<its.size
  ·obtain⟨hl,hv⟩:=h
   have h2:acc[i]? = some (acc[i]'(by omega)):=Array.getElem?_eq_getElem (by omega);rw[List.getElem?_reverse (by simpa using hi),bB9,by8,by8,h2,hv i _ h2]
  ·rw[bF4 (by rw[bB9,h.1];omega),bF4 (by rw[List.length_reverse,bB9];omega)]
 rw[e];exact rv.reverse
noncomputable def aZ1 (ta:TA):TE:=λσ H Q=>ta σ H λvs H1=>∃t xs,vs = [.ref t]/\H1 t=some (.tup xs)/\∀p,H1 p=none->Q (.ref p) (upd H1 p (.tup xs.reverse))
theorem aZ2 {a:Expr}{ta:TA}{p2 p3 pos pos2:Pos}(hc:X.calm=true)(hg:Gl X "tuple")(hm:X.mg "tuple" = none)(hgr:Gl X "reversed")(hmr:X.mg "reversed" = none)(ha:PA X [a] ta)(hs:starEach [a] X.env = [(false,eval a X.env)]:=by rfl)(he:starEach [.Call (.Name "reversed" p3) [a] [] pos2] X.env=(false,eval (.Call (.Name "reversed" p3) [a] [] pos2) X.env)::starEach [] X.env:=by rfl)(hpl:(backTo pos (starEach [] X.env)).any (·.1)=false:=by rfl)(hnl:starEach [] X.env = []:=by rfl) :
  PE X (.Call (.Name "tuple" p2) [.Call (.Name "reversed" p3) [a] [] pos2] [] pos) (aZ1 ta):=by
 intro ai s σ H Q I h;refine bC6 (lI I hg hm PyProof.Rows.boot_tuple ?_);refine bB0 ?_ he hpl;rw[he,hnl];show wpAny _ _ (spliced ((false,eval _ X.env)::[])) _ _ s;refine Calls.spliced_cons ?_;refine bC6 (lI I hgr hmr PyProof.Rows.boot_reversed (bB0 (aO (ha pos2 ai s σ H _ I h) λus s1 ⟨vs,H1,I1,r1,q1⟩=>?_) (by rw[hs];rfl) (by rfl)))
 obtain⟨t,xs,e,h1,q⟩:=q1
 subst e
 obtain⟨u,rfl,rx⟩:=jK r1
 cases rx
 obtain⟨hz,its,rv,tp,nd⟩:=(show bI X.prog X.w H1 s1.heap t (.tup xs) from I1.hok t _ h1)
 have hl:xs.length<=2^24:=by have e:=sizeLine_eq;omega
 have lv:its.length=xs.length:=rv.length.symm;have tlt:t<s1.heap.objs.size:=by obtain⟨o,ho,_⟩:=tp;exact br9 ho
 refine Raw.aY9 tp (by rw[bq9,lv];omega) λtk=>?_
 refine Calls.spliced_nil ?_;have I2:aA X ai σ H1 { s1 with heap:=s1.heap.push (Raw.u7 t ((its.toArray.size:Int)-1)),toks:=tk }:=I1.kept (t':=tk) λb o e=>bq0 _ e
 have fr:H1 s1.heap.objs.size=none:=I1.hok.fresh (bq4 _)
 obtain⟨f0,f1,f2,f3,f4,f5⟩:=I1.fpOk (b:=s1.heap.objs.size) (bq4 _) fr
 refine Raw.aY8 (s:={ s1 with heap:=s1.heap.push (Raw.u7 t ((its.toArray.size:Int)-1)),toks:=tk }) (t:=t) (items:=its.toArray) (I2.ok.hd hc) (bu3 tlt) ⟨_,br7 _ rfl,rfl,rfl⟩ (let ⟨o,ho,r⟩:=tp;⟨o,bq0 _ ho,r⟩) (by rw[bq9,lv];omega) λh' tk' acc kp it=>?_
 have vv:=aZ0 (its:=its.toArray) (by simpa using rv) it;have eq:acc.toList.toArray=acc:=by simp
 have I3:aA X ai σ H1 { s1 with heap:=h',toks:=tk' }:=I2.turned (t':=tk') (λb o hb e=>kp b o hb e) f0 f1 f3 f4 f5;have I4:aA X ai σ (upd H1 h'.objs.size (.tup xs.reverse)) { s1 with heap:=h'.push { cls:=.type "tuple",data:=.seq acc.toList.toArray },toks:=tk' }:=
  I3.laid (t':=tk') (λb o e=>bq0 _ e) (bq4 _) (show bI X.prog X.w _ _ _ (.tup _) from ⟨by rw[List.length_reverse];exact hz,acc.toList,vv,PyProof.Rows.IsTup.new _ _,hZ.new _ _ rfl⟩)
 rw[eq]at I4
 exact⟨.ref h'.objs.size,_,I4,rfl,q _ (I3.hok.fresh (bq4 _))⟩
end
end L2
namespace PP
open PySem L2
theorem aZ3 {K:ad}{M:ay->Prop}{H:Hp}{vs:List V}{xs:List PV}(r:Reps K M H vs xs):Reps K M H vs.reverse xs.reverse:=by
 induction vs generalizing xs with
 |nil=>cases r;exact .nil
 |cons v vs ih=>
  cases r with
  |cons r t=>rw[List.reverse_cons,List.reverse_cons];exact (ih t).append (.cons r .nil)
section
variable {X:Cx}{a:Expr}{tr:bX}{pos pos2 p2 p3:Pos}
theorem aZ4 (B:Bt X.mg)(bs:X.mg "reversed" = none)(ha:QA X [a] tr)(hc:X.calm=true:=by rfl)(hg:Gl X "tuple":=by rfl)(hgr:Gl X "reversed":=by rfl)(hs:starEach [a] X.env = [(false,eval a X.env)]:=by rfl)(he:starEach [.Call (.Name "reversed" p3) [a] [] pos2] X.env=(false,eval (.Call (.Name "reversed" p3) [a] [] pos2) X.env)::starEach [] X.env:=by rfl)(hpl:(backTo pos (starEach [] X.env)).any (·.1)=false:=by rfl)(hnl:starEach [] X.env = []:=by rfl) :
  QE X (.Call (.Name "tuple" p2) [.Call (.Name "reversed" p3) [a] [] pos2] [] pos) (aP ac6 tr):=
 bV (aZ2 hc hg B.tuple hgr bs ha hs he hpl hnl) λσ H Q' h=>by
  obtain⟨W,ρ,Q,px,q,k⟩:=h
  refine⟨W,ρ,_,px,q,λvs H1 xs s1 r1 q1=>?_⟩
  obtain⟨ys,e1,fl,q⟩:=q1
  have r2:=r1.any;rw[e1]at r2
  obtain⟨v,rfl,r3⟩:=r2.one
  obtain⟨p,us,rfl,hp,r4⟩:=r3.sqT
  exact⟨p,us,rfl,hp,λl hl=>k _ _ _ .fr (s1.trans (cS hl _)) (.tup bH ((aZ3 (r4.flat fl)).same (cS hl _) λ_ z=>z)) q⟩
end
end PP
namespace L2
open PySem PySem.Spec PyProof.Rows
section
variable {X:Cx}{ai:List (ay×Obj)}{σ:St}{H H':Hp}{s:ax}{a:ay}
theorem aA.frozeL {o:Obj}{us:List V}(I:aA X ai σ H s)(h:H a=some (.lst us))(e:s.heap.get? a=some o):aA X ai σ (upd H a (.frz o (.lst us))) s:=by
 have own:∀{c:ay}{y:ay},H c=some (.own y)->c≠a:=λ{c y} q z=>by rw[z,h]at q;cases q
 have tp:∀{c:ay}{xs:List V},H c=some (.tup xs)->c≠a:=λ{c xs} q z=>by rw[z,h]at q;cases q
 refine I.reH (a:=a) (λb n=>aK n) ⟨_,h⟩ (λxs q=>by rw[h]at q;cases q) (λo' v q=>by have:=I.base.frzs a o' v q;rw[h]at this;cases this) (λps q=>by rw[h]at q;cases q) λb v q=>?_
 by_cases hb:b=a
 ·subst hb
  rw[bH]at q;cases q
  exact⟨e,(I.hok b _ h).stay (λ_ _ _ q=>q) (λc q=>by rw[aK (own q)];exact q) λc xs q=>by rw[aK (tp q)];exact q⟩
 ·rw[aK hb]at q
  exact (I.hok b v q).stay (λ_ _ _ q=>q) (λc q=>by rw[aK (own q)];exact q) λc xs q=>by rw[aK (tp q)];exact q
noncomputable def ad1 (t:TE):TE:=λσ H Q=>t σ H λv H1=>∃a us,v = .ref a/\H1 a=some (.lst us)/\∀o,Q v (upd H1 a (.frz o (.lst us)))
theorem aZ5 {e:Expr}{t:TE}(h:PE X e t):PE X e (ad1 t):=by
 intro ai s σ H Q I hq;refine aO (h ai s σ H _ I hq) λv s1 h1=>?_
 obtain⟨x,H1,I1,r1,a,us,ex,ea,q⟩:=h1
 obtain⟨_,_,_,_,ho⟩:=(show bI X.prog X.w H1 s1.heap a (.lst us) from I1.hok a _ ea)
 exact⟨x,_,I1.frozeL ea ho,r1,q _⟩
end
end L2
namespace PP
open PySem L2
section
variable {X:Cx}{e:Expr}{te:aH}{σ:St}{H:Hp}{Q':VK}
noncomputable def z8 (te:aH):aH:=λρ Q=>te ρ λx g=>∃xs,x = .lst xs/\g = .fr/\flats xs=true/\Q (.fL xs) .fr
theorem aZ6 (h:LE X (z8 te) σ H Q'):ad1 (LE X te) σ H Q':=by
 obtain⟨W,ρ,Q,px,q,k⟩:=h
 refine⟨W,ρ,_,px,q,?_⟩;rintro v H1 x g s r ⟨xs,rfl,rfl,f,q⟩;cases r with
 |@lst a us _ m e r=>
  refine⟨a,us,rfl,e,λo=>k _ _ _ .fr (λb u hb=>?_) (.fL bH ((r.flat (M':=λ_=>False) f).keep (.upd e rfl λb z=>z.elim))) q⟩;have nb:b≠a:=λz=>by have m:H a=none:=m;rw[z,m]at hb;cases hb
  rw[aK nb];exact s b u hb
theorem aZ7 (h:QE X e te):QE X e (z8 te):=bV (aZ5 h) λ_ _ _=>aZ6
end
structure u8 (K:ad)(mg:Str->Option aw)(x:Str):Prop where
 ex:∃f,mg x=some (.ref f)/\PySem.W.nsIn K mainGlobals x=some (some (.ref f))
section
variable {X:Cx}{σ:L2.St}{H:Hp}{tr:bX}{Q':VK}{e:Expr}{es:List Expr}{pos p2 cp np:Pos}
theorem aZ8 {x:Str}(fv:u8 X.K X.mg x)(hg:Gl X x:=by rfl)(hd:(x==("__debug__":Str))=false:=by decide):QE X (.Name x pos) (qC (.fn x)):=by
 obtain⟨f,m,n⟩:=fv.ex
 exact bV (t:=tC (.ref f)) (λai s σ H Q I h=>rS I hg m ⟨.ref f,H,I,rfl,h⟩ hd) λ_ _ _=>pJ λ_=>.fn n
end
end PP
namespace Strip
noncomputable abbrev aD:=List (Nat×Bool)
noncomputable def has (m p:Nat):Nat:=(m >>> p) &&& 1
noncomputable def lD (w:ag)(behind burning ahead:Nat):Nat->ag->Nat->Nat
 |_,[],lit=>lit
 |p,want::r,lit=>lD w behind burning ahead (p+1) r (if ((has behind p+has ahead p+(if p<=1 then has burning (1-p) else 0):Nat):Int) >= want then lit ||| (1 <<< p) else lit)
noncomputable def bD (w:ag)(behind burning ahead:Nat):Nat:=lD w behind burning ahead 0 w burning
noncomputable def dW (w:ag)(a:aD)(ahead:Nat):Nat->Nat->Nat
 |0,b=>b
 |n+1,b=>let m:=bD w (a.getD b (0,false)).1 b ahead;if m=b then b else dW w a ahead n m
noncomputable def iS (w:ag)(a:aD)(seeds ahead:Nat):Nat×Bool:=
 let b:=dW w a ahead (w.length+1) seeds
 (b,b==a.length-1&&(a.getD (a.length-1) (0,false)).2)
noncomputable def next (w:ag)(a:aD)(seeds:Nat):aD:=(List.range a.length).map (iS w a seeds)
noncomputable def bB (w:ag):aD:=List.replicate (2^w.length) (0,true)
noncomputable def kept (a:aD):Bool:=(a.getD (a.length-1) (0,false)).2
noncomputable def lit (a:aD):Bool:=(a.getD 0 (0,false)).2
noncomputable def after (w:ag)(a:aD):List (Nat×aD):=((List.range a.length).map λs=>(s,next w a s)).filter λp=>kept p.2
noncomputable def fH (w:ag):Nat->List (aD×aD)->List (aD×aD)->List (aD×aD)
 |0,_,seen=>seen
 |_,[],seen=>seen
 |n+1,p::todo,seen=>if seen.contains p then fH w n todo seen else fH w n ((after w p.2).map (λq=>(next w p.1 q.1,q.2))++todo) (seen++[p])
noncomputable def yQ (w:ag)(R:List (aD×aD)):Bool:=
 R.all λp=>p.1.length==p.2.length&&(lit p.1||!lit p.2)&&(List.range p.2.length).all λs=>!kept (next w p.2 s)||(kept (next w p.1 s)&&R.contains (next w p.1 s,next w p.2 s))
noncomputable def bU (w:ag):Nat->aD->Nat
 |0,a=>if lit a then 1 else 0
 |n+1,a=>((List.range a.length).map λs=>if kept (next w a s) then bU w n (next w a s) else 0).sum
theorem u9 (w:ag)(n:Nat)(a:aD):bU w (n+1) a=((List.range a.length).map λs=>if kept (next w a s) then bU w n (next w a s) else 0).sum:=rfl
noncomputable def one (m:Nat):Nat:=has m 0+has m 1
noncomputable def row (w:ag):List Nat->aD->Bool
 |[],a=>lit a
 |s::r,a=>decide (s<a.length)&&kept (next w a s)&&row w r (next w a s)
noncomputable def dE (l:List Nat):Nat:=(l.map one).sum
section
variable {w:ag}{S:List aD}{R:List (aD×aD)}
theorem z9 (l l':List Nat):dE (l++l')=dE l+dE l':=by unfold dE;rw[bs9,List.sum_append]
end
section
variable {β:Type}
noncomputable def cV (ps:List (aD×β))(k:aD):Option β:=(ps.find? λp=>decide (p.1=k)).map (·.2)
noncomputable def eZ (ps:List (aD×β))(k:aD)(x:β):List (aD×β):=if (ps.any λp=>decide (p.1=k))=true then ps.map (λp=>if p.1=k then (p.1,x) else p) else ps++[(k,x)]
noncomputable def dX (J:β->β->β)(ps:List (aD×β))(k:aD)(z:β):List (aD×β):=eZ ps k (match cV ps k with|none=>z|some w=>J w z)
noncomputable def h8 (w:ag)(passed:β->Nat->β)(J:β->β->β)(later:List (aD×β))(p:aD×β):List (aD×β):=(after w p.1).foldl (λl q=>dX J l q.2 (passed p.2 q.1)) later
noncomputable def zA (w:ag)(passed:β->Nat->β)(J:β->β->β)(ps:List (aD×β)):List (aD×β):=ps.foldl (h8 w passed J) []
noncomputable def cM (w:ag)(passed:β->Nat->β)(J:β->β->β)(first:β):Nat->List (aD×β)
 |0=>[(bB w,first)]
 |n+1=>zA w passed J (cM w passed J first n)
theorem aZ9 {ps:List (aD×β)}{k:aD}{x:β}:(eZ ps k x).map (·.1)=if (ps.any λp=>decide (p.1=k))=true then ps.map (·.1) else ps.map (·.1)++[k]:=by
 unfold eZ;split
 ·rw[by0]
  refine bC0 λp _=>?_
  show (if p.1=k then (p.1,x) else p).1=p.1;split<;>rfl
 ·rw[bs9];rfl
theorem ad2 {ps:List (aD×β)}{k:aD}{x:β}(h:(ps.map (·.1)).Nodup):((eZ ps k x).map (·.1)).Nodup:=by
 rw[aZ9];split
 ·exact h
 ·rename_i n
  rw[List.nodup_append];refine⟨h,by simp,λa ha b hb=>?_⟩;obtain rfl:=bq1.mp hb;rintro rfl
  obtain⟨p,hp,e⟩:=bt7.mp ha
  exact n (List.any_eq_true.mpr ⟨p,hp,by simpa using e⟩)
theorem ad3 {J:β->β->β}{ps:List (aD×β)}{k:aD}{z:β}(h:(ps.map (·.1)).Nodup):((dX J ps k z).map (·.1)).Nodup:=ad2 h
end
noncomputable def wt (f:aD->Nat)(ps:List (aD×Nat)):Nat:=(ps.map λp=>p.2*f p.1).sum
theorem zB (f:aD->Nat)(p:aD×Nat)(r:List (aD×Nat)):wt f (p::r)=p.2*f p.1+wt f r:=rfl
theorem ba0 (f:aD->Nat)(l r:List (aD×Nat)):wt f (l++r)=wt f l+wt f r:=by unfold wt;rw[bs9,List.sum_append]
theorem ba1 {ps:List (aD×Nat)}{k:aD}{x:Nat}(h:k∉ps.map (·.1)):(ps.map λp=>if p.1=k then (p.1,x) else p)=ps:=by
 conv=>rhs;rw[<- List.map_id ps]
 refine bC0 λp hp=>?_
 have ne:¬p.1=k:=λe=>h (by rw[<- e];exact List.mem_map_of_mem hp)
 rw[if_neg ne];rfl
theorem ad4 (f:aD->Nat){k:aD}{z:Nat}:∀{ps:List (aD×Nat)}{v:Nat},(ps.map (·.1)).Nodup->cV ps k=some v->wt f (ps.map λp=>if p.1=k then (p.1,v+z) else p)=wt f ps+z*f k
 |[],v,_,e=>by simp[cV]at e
 |p::r,v,n,e=>by
  rw[bt3,bx1]at n;rw[bt3,zB,zB];by_cases h:p.1=k
  ·have ev:p.2=v:=by simpa[cV,bv4,h] using e
   rw[if_pos h,ba1 (by rw[<- h];exact n.1),ev,<- h];show (v+z)*f p.1+wt f r=v*f p.1+wt f r+z*f p.1;rw[Nat.add_mul];omega
  ·have ev:cV r k=some v:=by simpa[cV,bv4,h] using e
   rw[if_neg h,ad4 f n.2 ev];omega
theorem ba2 (f:aD->Nat){k:aD}{z:Nat}{ps:List (aD×Nat)}(n:(ps.map (·.1)).Nodup):wt f (dX (·+·) ps k z)=wt f ps+z*f k:=by
 unfold dX eZ;cases e:cV ps k with
 |none=>
  have no:¬(ps.any λp=>decide (p.1=k))=true:=λh=>by
   obtain⟨p,hp,q⟩:=List.any_eq_true.mp h
   have:(ps.find? λp=>decide (p.1=k))=none:=by simpa[cV] using e
   rw[List.find?_eq_none]at this;exact this p hp q
  rw[if_neg no,ba0];show wt f ps+(z*f k+0)=_;omega
 |some v=>
  have yes:(ps.any λp=>decide (p.1=k))=true:=by
   obtain⟨p,hp,_⟩:=Option.map_eq_some_iff.mp e
   exact List.any_eq_true.mpr ⟨p,bC2 hp,by have:=List.find?_some hp;simpa using this⟩
  rw[if_pos yes];exact ad4 f n e
theorem ad5 (w:ag)(f:aD->Nat)(v:Nat):∀(qs:List (Nat×aD)) {l:List (aD×Nat)},(l.map (·.1)).Nodup->(((qs.foldl (λl q=>dX (·+·) l q.2 v) l).map (·.1)).Nodup/\wt f (qs.foldl (λl q=>dX (·+·) l q.2 v) l)=wt f l+v*(qs.map λq=>f q.2).sum)
 |[],l,n=>⟨n,by simp⟩
 |q::r,l,n=>by
  obtain⟨h1,h2⟩:=ad5 w f v r (ad3 (J:=(·+·)) (k:=q.2) (z:=v) n)
  refine⟨h1,?_⟩;rw[List.foldl_cons,h2,ba2 f n,bt3,List.sum_cons,Nat.mul_add];omega
theorem ad6 (w:ag)(f:aD->Nat):∀(ps:List (aD×Nat)) {l:List (aD×Nat)},(l.map (·.1)).Nodup->(((ps.foldl (h8 w (λv _=>v) (·+·)) l).map (·.1)).Nodup/\wt f (ps.foldl (h8 w (λv _=>v) (·+·)) l)=wt f l+wt (λa=>((after w a).map λq=>f q.2).sum) ps)
 |[],l,n=>⟨n,by show _=_+0;simp⟩
 |p::r,l,n=>by
  obtain⟨g1,g2⟩:=ad5 w f p.2 (after w p.1) n
  obtain⟨h1,h2⟩:=ad6 w f r g1
  refine⟨h1,?_⟩;rw[List.foldl_cons,zB];have e:h8 w (λv _=>v) (·+·) l p=(after w p.1).foldl (λl q=>dX (·+·) l q.2 p.2) l:=rfl;rw[e,h2,g2];omega
theorem zC {α:Type}(p:α->Bool)(f:α->Nat):∀l:List α,((l.filter p).map f).sum=(l.map λx=>if p x then f x else 0).sum
 |[]=>rfl
 |x::r=>by
  rw[List.filter_cons,bt3,List.sum_cons,<- zC p f r];split
  ·rw[bt3,List.sum_cons]
  ·omega
theorem ba3 (w:ag)(n:Nat)(a:aD):((after w a).map λq=>bU w n q.2).sum=bU w (n+1) a:=by
 unfold after;rw[zC,u9,by0];rfl
theorem ad7 (w:ag):∀(n m:Nat),(((cM w (λv _=>v) (·+·) 1 n).map (·.1)).Nodup/\wt (bU w m) (cM w (λv _=>v) (·+·) 1 n)=bU w (n+m) (bB w))
 |0,m=>⟨by simp[cM],by show 1*bU w m (bB w)+0=_;rw[bE4];omega⟩
 |n+1,m=>by
  obtain⟨h1,h2⟩:=ad6 w (bU w m) (cM w (λv _=>v) (·+·) 1 n) (l:=[]) (by simp)
  refine⟨h1,?_⟩;show wt (bU w m) (zA w _ _ _)=_;unfold zA;rw[h2];have e:(λa=>((after w a).map λq=>bU w m q.2).sum)=bU w (m+1):=funext λa=>ba3 w m a
  rw[e,(ad7 w n (m+1)).2];show 0+_=_;rw[bE4,show n+(m+1)=n+1+m by omega]
theorem ba4 (w:ag)(n:Nat):(((cM w (λv _=>v) (·+·) 1 n).filter λp=>lit p.1).map (·.2)).sum=bU w n (bB w):=by
 have h:=(ad7 w n 0).2;rw[Nat.add_zero]at h;rw[<- h,zC];unfold wt;refine congrArg List.sum (bC0 λp _=>?_);show (if lit p.1 then p.2 else 0)=p.2*(if lit p.1 then 1 else 0);split<;>omega
noncomputable def jF (w:ag):List Nat->aD->Option aD
 |[],a=>some a
 |s::r,a=>if s<a.length/\kept (next w a s)=true then jF w r (next w a s) else none
theorem zD (w:ag)(l':List Nat):∀(l:List Nat) (a:aD),jF w (l++l') a=(jF w l a).bind (jF w l')
 |[],a=>rfl
 |s::r,a=>by
  show (if _ then _ else _)=(if _ then _ else _:Option aD).bind _;split
  ·exact zD w l' r _
  ·rfl
theorem ad8 (w:ag)(s:Nat)(a b:aD):jF w [s] a=some b↔(s,b)∈after w a:=by
 show (if _ then some (next w a s) else none)=some b↔_;unfold after;rw[bt8,bt7];constructor
 ·intro h
  split at h
  ·rename_i c
   cases h
   exact⟨⟨s,bz5.mpr c.1,rfl⟩,c.2⟩
  ·cases h
 ·rintro⟨⟨t,ht,e⟩,k⟩
  cases e;rw[if_pos ⟨bz5.mp ht,k⟩]
theorem zE (w:ag):∀(l:List Nat) (a:aD),row w l a=true↔∃b,jF w l a=some b/\lit b=true
 |[],a=>⟨λh=>⟨a,rfl,h⟩,λ⟨b,e,h⟩=>by cases e;exact h⟩
 |s::r,a=>by
  unfold row jF;rw[bt4,bt4,bs4,zE w r];constructor
  ·rintro⟨c,b,e,h⟩
   exact⟨b,by rw[if_pos c];exact e,h⟩
  ·rintro⟨b,e,h⟩
   split at e
   ·rename_i c;exact⟨c,b,e,h⟩
   ·cases e
noncomputable abbrev PR:=Nat×List Nat
structure iT (J:PR->PR->PR):Prop where
 or:∀x y,J x y=x∨J x y=y
 l:∀x y,(J x y).1<=x.1
 r:∀x y,(J x y).1<=y.1
noncomputable def pass (p:PR)(s:Nat):PR:=(p.1+one s,p.2++[s])
noncomputable def mS (C:aD->PR->Prop)(ps:List (aD×PR)):Prop:=∀b v,(b,v)∈ps->C b v
noncomputable def mT (C:aD->PR->Prop)(ps:List (aD×PR)):Prop:=∀b v,C b v->∃u,(b,u)∈ps/\u.1<=v.1
section
variable {J:PR→PR→PR}{C D:aD→PR→Prop}{k b:aD}{z u:PR}{ps:List (aD×PR)}
theorem ad9 {x:PR}(h:(b,u)∈eZ ps k x):(b=k/\u=x)∨(b,u)∈ps:=by
 unfold eZ at h;split at h
 ·obtain⟨p,hp,e⟩:=bt7.mp h
  split at e
  ·rename_i c;cases e;exact .inl ⟨c,rfl⟩
  ·subst e;exact .inr hp
 ·rcases bs3.mp h with h|h
  ·exact .inr h
  ·have:=bq1.mp h;cases this;exact .inl ⟨rfl,rfl⟩
theorem zF (ps:List (aD×PR))(k:aD)(x:PR):(k,x)∈eZ ps k x:=by
 unfold eZ;split
 ·rename_i h
  obtain⟨p,hp,e⟩:=List.any_eq_true.mp h
  have e:p.1=k:=by simpa using e
  exact bt7.mpr ⟨p,hp,by rw[if_pos e,e]⟩
 ·exact bs2 _ (by simp)
theorem ae0 {x:PR}(n:b≠k)(h:(b,u)∈ps):(b,u)∈eZ ps k x:=by
 unfold eZ;split
 ·exact bt7.mpr ⟨(b,u),h,by rw[if_neg n]⟩
 ·exact bt5 _ h
theorem ba5 {w:PR}(h:cV ps k=some w):(k,w)∈ps:=by
 unfold cV at h
 obtain⟨p,hp,e⟩:=Option.map_eq_some_iff.mp h
 have h1:=bC2 hp;have h2:p.1=k:=by have:=List.find?_some hp;simpa using this
 subst e h2;exact h1
theorem ae1 (n:(ps.map (·.1)).Nodup)(h:(k,u)∈ps):cV ps k=some u:=by
 induction ps with
 |nil=>cases h
 |cons p r ih=>
  rw[bt3,bx1]at n;unfold cV;rw[bv4];rcases br0.mp h with h|h
  ·subst h;simp
  ·have ne:¬p.1=k:=λe=>n.1 (by rw[e];exact List.mem_map_of_mem (f:=(·.1)) h)
   rw[bp9 ne];exact ih n.2 h
theorem ba6 (P:iT J)(n:(ps.map (·.1)).Nodup)(s:mS C ps)(c:mT C ps):mS (λb v=>C b v∨(b=k/\v=z)) (dX J ps k z)/\mT (λb v=>C b v∨(b=k/\v=z)) (dX J ps k z):=by
 unfold dX;cases e:cV ps k with
 |none=>
  refine⟨λb v h=>?_,λb v h=>?_⟩
  ·rcases ad9 h with⟨rfl,rfl⟩|h
   ·exact .inr ⟨rfl,rfl⟩
   ·exact .inl (s b v h)
  ·rcases h with h|⟨rfl,rfl⟩
   ·obtain⟨u,hu,l⟩:=c b v h
    have nb:b≠k:=λq=>by subst q;rw[ae1 n hu]at e;cases e
    exact⟨u,ae0 nb hu,l⟩
   ·exact⟨_,zF ps _ _,bq4 _⟩
 |some w=>
  have hw:=ba5 e;refine⟨λb v h=>?_,λb v h=>?_⟩
  ·rcases ad9 h with⟨rfl,rfl⟩|h
   ·rcases P.or w z with q|q
    ·show C b (J w z)∨_
     rw[q];exact .inl (s _ _ hw)
    ·exact .inr ⟨rfl,q⟩
   ·exact .inl (s b v h)
  ·rcases h with h|⟨rfl,rfl⟩
   ·obtain⟨u,hu,l⟩:=c b v h
    by_cases q:b=k
    ·subst q
     rw[ae1 n hu]at e;cases e
     exact⟨_,zF ps _ _,bt6 (P.l _ _) l⟩
    ·exact⟨u,ae0 q hu,l⟩
   ·exact⟨_,zF ps _ _,P.r w v⟩
theorem ae2 (P:iT J)(v:PR):∀(qs:List (Nat×aD)) {ps:List (aD×PR)}{C:aD->PR->Prop},(ps.map (·.1)).Nodup->mS C ps->mT C ps->
  ((qs.foldl (λl q=>dX J l q.2 (pass v q.1)) ps).map (·.1)).Nodup/\mS (λb u=>C b u∨∃s,(s,b)∈qs/\u=pass v s) (qs.foldl (λl q=>dX J l q.2 (pass v q.1)) ps)/\mT (λb u=>C b u∨∃s,(s,b)∈qs/\u=pass v s) (qs.foldl (λl q=>dX J l q.2 (pass v q.1)) ps)
 |[],ps,C,n,s,c=>⟨n,λb u h=>.inl (s b u h),λb u h=>c b u (h.elim id λ⟨_,z,_⟩=>by cases z)⟩
 |q::r,ps,C,n,s,c=>by
  obtain⟨s1,c1⟩:=ba6 (k:=q.2) (z:=pass v q.1) P n s c
  obtain⟨h1,h2,h3⟩:=ae2 P v r (ad3 (J:=J) (k:=q.2) (z:=pass v q.1) n) s1 c1
  refine⟨h1,λb u h=>?_,λb u h=>?_⟩
  ·rcases h2 b u h with (h|⟨rfl,e⟩)|⟨t,ht,e⟩
   ·exact .inl h
   ·exact .inr ⟨q.1,bq3,e⟩
   ·exact .inr ⟨t,bq8 _ ht,e⟩
  ·refine h3 b u ?_
   rcases h with h|⟨t,ht,e⟩
   ·exact .inl (.inl h)
   ·rcases br0.mp ht with z|z
    ·subst z;exact .inl (.inr ⟨rfl,e⟩)
    ·exact .inr ⟨t,z,e⟩
theorem ae3 (P:iT J)(w:ag):∀(vs:List (aD×PR)) {ps:List (aD×PR)}{C:aD->PR->Prop},(ps.map (·.1)).Nodup->mS C ps->mT C ps->
  ((vs.foldl (h8 w pass J) ps).map (·.1)).Nodup/\mS (λb u=>C b u∨∃a v s,(a,v)∈vs/\(s,b)∈after w a/\u=pass v s) (vs.foldl (h8 w pass J) ps)/\mT (λb u=>C b u∨∃a v s,(a,v)∈vs/\(s,b)∈after w a/\u=pass v s) (vs.foldl (h8 w pass J) ps)
 |[],ps,C,n,s,c=>⟨n,λb u h=>.inl (s b u h),λb u h=>c b u (h.elim id λ⟨_,_,_,z,_⟩=>by cases z)⟩
 |p::r,ps,C,n,s,c=>by
  obtain⟨n1,s1,c1⟩:=ae2 P p.2 (after w p.1) n s c
  obtain⟨h1,h2,h3⟩:=ae3 P w r n1 s1 c1
  refine⟨h1,λb u h=>?_,λb u h=>?_⟩
  ·rcases h2 b u h with (h|⟨t,ht,e⟩)|⟨a,v,t,hv,ht,e⟩
   ·exact .inl h
   ·exact .inr ⟨p.1,p.2,t,bq3,ht,e⟩
   ·exact .inr ⟨a,v,t,bq8 _ hv,ht,e⟩
  ·refine h3 b u ?_
   rcases h with h|⟨a,v,t,hv,ht,e⟩
   ·exact .inl (.inl h)
   ·rcases br0.mp hv with z|z
    ·subst z;exact .inl (.inr ⟨t,ht,e⟩)
    ·exact .inr ⟨a,v,t,z,ht,e⟩
theorem ba7 {l:List Nat}(h:l≠[]):dE l=dE l.dropLast+one (l.getLast h):=by
 have e:dE (l.dropLast++[l.getLast h])=dE l.dropLast+one (l.getLast h):=by
  rw[z9];show _+(one (l.getLast h)+0)=_;rw[Nat.add_zero]
 rwa [List.dropLast_concat_getLast h]at e
noncomputable def yV (w:ag)(n:Nat)(b:aD)(v:PR):Prop:=v.2.length=n/\jF w v.2 (bB w)=some b/\v.1=dE v.2
theorem ae4 (P:iT J)(w:ag):∀n,((cM w pass J (0,[]) n).map (·.1)).Nodup/\mS (yV w n) (cM w pass J (0,[]) n)/\mT (yV w n) (cM w pass J (0,[]) n)
 |0=>⟨by simp[cM],λb v h=>(by
   have e:(b,v)=(bB w,(0,[])):=bq1.mp h
   cases e;exact⟨rfl,rfl,rfl⟩),λb v ⟨h1,h2,h3⟩=>(by
   have e:v.2 = []:=bx4 h1;rw[e]at h2;cases h2
   exact⟨(0,[]),bq1.mpr rfl,bu8 _⟩)⟩
 |n+1=>by
  obtain⟨_,s0,c0⟩:=ae4 P w n
  obtain⟨h1,h2,h3⟩:=ae3 P w (cM w pass J (0,[]) n) (ps:=[]) (C:=λ_ _=>False) (by simp) (λ_ _ h=>by cases h) (λ_ _ h=>h.elim)
  refine⟨h1,λb u h=>?_,λb u ⟨g1,g2,g3⟩=>?_⟩
  ·rcases h2 b u h with z|⟨a,v,t,hv,ht,rfl⟩
   ·exact z.elim
   ·obtain⟨e1,e2,e3⟩:=s0 a v hv
    refine⟨by show (v.2++[t]).length=_;rw[br4,e1];rfl,?_,?_⟩
    ·show jF w (v.2++[t]) (bB w)=_
     rw[zD,e2];exact (ad8 w t a b).mpr ht
    ·show v.1+one t=dE (v.2++[t])
     rw[z9,e3];unfold dE;simp
  ·have nz:u.2≠[]:=λz=>by rw[z]at g1;cases g1
   have sp:u.2=u.2.dropLast++[u.2.getLast nz]:=(List.dropLast_concat_getLast nz).symm;rw[sp,zD]at g2;cases e:jF w u.2.dropLast (bB w) with
   |none=>rw[e]at g2;cases g2
   |some a=>
    rw[e]at g2;have ht:=(ad8 w _ a b).mp g2
    obtain⟨v,hv,lv⟩:=c0 a (dE u.2.dropLast,u.2.dropLast) ⟨by rw[List.length_dropLast,g1];rfl,e,rfl⟩
    obtain⟨x,hx,lx⟩:=h3 b (pass v (u.2.getLast nz)) (.inr ⟨a,v,_,hv,ht,rfl⟩)
    refine⟨x,hx,bt6 lx ?_⟩
    have:u.1=dE u.2.dropLast+one (u.2.getLast nz):=by rw[g3,ba7 nz]
    show v.1+_<=_;rw[this];exact Nat.add_le_add_right lv _
end
noncomputable def iI {β:Type}(J:β->β->β):Option β->β->Option β
 |none,z=>some z
 |some w,z=>some (J w z)
noncomputable def fJ {β:Type}(J:β->β->β)(ps:List (aD×β)):Option β:=(ps.filter λp=>lit p.1).foldl (λacc p=>iI J acc p.2) none
section
variable {J:PR→PR→PR}
theorem ae5 (P:iT J):∀(l:List (aD×PR)) (acc:Option PR),(∀v,l.foldl (λacc p=>iI J acc p.2) acc=some v->acc=some v∨∃b,(b,v)∈l)/\
  (∀u,(acc=some u∨∃b,(b,u)∈l)->∃v,l.foldl (λacc p=>iI J acc p.2) acc=some v/\v.1<=u.1)
 |[],acc=>⟨λv h=>.inl h,λu h=>h.elim (λe=>⟨u,e,bq4 _⟩) λ⟨_,z⟩=>by cases z⟩
 |p::r,acc=>by
  obtain⟨h1,h2⟩:=ae5 P r (iI J acc p.2)
  refine⟨λv h=>?_,λu h=>?_⟩
  ·rcases h1 v h with e|⟨b,hb⟩
   ·cases acc with
    |none=>
     have e:p.2=v:=bt2 e;exact .inr ⟨p.1,by rw[<- e];exact bq3⟩
    |some w=>
     have e:J w p.2=v:=bt2 e;rcases P.or w p.2 with q|q
     ·exact .inl (by rw[<- e,q])
     ·exact .inr ⟨p.1,by rw[<- e,q];exact bq3⟩
   ·exact .inr ⟨b,bq8 _ hb⟩
  ·rcases h with e|⟨b,hb⟩
   ·subst e
    obtain⟨v,hv,lv⟩:=h2 (J u p.2) (.inl rfl)
    exact⟨v,hv,bt6 lv (P.l u p.2)⟩
   ·rcases br0.mp hb with z|z
    ·subst z
     cases acc with
     |none=>exact h2 u (.inl rfl)
     |some w=>
      obtain⟨v,hv,lv⟩:=h2 (J w u) (.inl rfl)
      exact⟨v,hv,bt6 lv (P.r w u)⟩
    ·exact h2 u (.inr ⟨b,z⟩)
theorem qR (P:iT J)(w:ag)(n:Nat):(∀v,fJ J (cM w pass J (0,[]) n)=some v->v.2.length=n/\row w v.2 (bB w)=true/\v.1=dE v.2)/\
  ∀l,l.length=n->row w l (bB w)=true->∃v,fJ J (cM w pass J (0,[]) n)=some v/\v.1<=dE l:=by
 obtain⟨_,s,c⟩:=ae4 P w n
 obtain⟨h1,h2⟩:=ae5 P ((cM w pass J (0,[]) n).filter λp=>lit p.1) none
 refine⟨λv h=>?_,λl hl hr=>?_⟩
 ·rcases h1 v h with z|⟨b,hb⟩
  ·cases z
  ·obtain⟨hb,lb⟩:=bt8.mp hb
   obtain⟨e1,e2,e3⟩:=s b v hb
   exact⟨e1,(zE w v.2 _).mpr ⟨b,e2,lb⟩,e3⟩
 ·obtain⟨b,e,lb⟩:=(zE w l _).mp hr
  obtain⟨u,hu,lu⟩:=c b (dE l,l) ⟨hl,e,rfl⟩
  obtain⟨v,hv,lv⟩:=h2 u (.inr ⟨b,bt8.mpr ⟨hu,lb⟩⟩)
  exact⟨v,hv,bt6 lv lu⟩
end
noncomputable def qS (w:ag)(n:Nat):List Nat:=List.replicate n (2^w.length-1)
theorem ae6 {x:Nat}:∀{l:List Nat},x∈l->x<=l.sum
 |[],h=>by cases h
 |y::r,h=>by
  rw[List.sum_cons];rcases br0.mp h with rfl|h
  ·omega
  ·have:=ae6 h;omega
theorem ae7 (w:ag):∀(l:List Nat) (a:aD),row w l a=true->1<=bU w l.length a
 |[],a,h=>by show 1<=if lit a then 1 else 0;rw[if_pos (show lit a=true from h)];omega
 |s::r,a,h=>by
  unfold row at h;rw[bt4,bt4,bs4]at h;show 1<=bU w (r.length+1) a;rw[u9];have q:=ae7 w r _ h.2;have m:(if kept (next w a s) then bU w r.length (next w a s) else 0)∈(List.range a.length).map λs=>if kept (next w a s) then bU w r.length (next w a s) else 0:=bt7.mpr ⟨s,bz5.mpr h.1.1,rfl⟩
  rw[if_pos h.1.2]at m;exact bt6 q (ae6 m)
theorem ae8:∀(l:List (aD×Nat)) (acc:Option Nat),l.foldl (λacc p=>iI (·+·) acc p.2) acc=if acc=none/\l = [] then none else some (acc.getD 0+(l.map (·.2)).sum)
 |[],none=>rfl
 |[],some v=>by rw[if_neg (by simp)];rfl
 |p::r,acc=>by
  rw[List.foldl_cons,ae8 r];cases acc with
  |none=>
   rw[if_neg (by simp[iI]),if_neg (by simp)];rw[bt3,List.sum_cons];show some (p.2+_)=some (0+(p.2+_));rw[bE4]
  |some v=>
   rw[if_neg (by simp[iI]),if_neg (by simp)];rw[bt3,List.sum_cons];show some ((v+p.2)+_)=some (v+(p.2+_));rw[Nat.add_assoc]
noncomputable def b7 (w:ag):Prop:=1<=w.length/\w.length<=2
theorem b7.two {w:ag}(o:b7 w):(∃a,w = [a])∨∃a b,w = [a,b]:=by
 obtain⟨h1,h2⟩:=o
 match w,h1,h2 with
 |[a],_,_=>exact .inl ⟨a,rfl⟩
 |[a,b],_,_=>exact .inr ⟨a,b,rfl⟩
 |[],h1,_=>exact absurd h1 (by decide)
 |_::_::_::_,_,h2=>exact absurd h2 (by simp)
noncomputable def cW (w:ag)(a:aD):Prop:=a.length=2^w.length/\∀q∈a,q.1<2^w.length
theorem ba8 {w:ag}(o:b7 w)(bh bu ah:Nat):(w.length=1/\∃c:Bool,bD w bh bu ah=if c then bu ||| 1 else bu) ∨
  (w.length=2/\∃c d:Bool,bD w bh bu ah=if d then (if c then bu ||| 1 else bu) ||| 2 else if c then bu ||| 1 else bu):=by
 rcases o.two with⟨a,rfl⟩|⟨a,b,rfl⟩
 ·refine .inl ⟨rfl,decide (((has bh 0+has ah 0+(if 0<=1 then has bu (1-0) else 0):Nat):Int) >= a),?_⟩
  unfold bD lD;simp only[bs4];rfl
 ·refine .inr ⟨rfl,decide (((has bh 0+has ah 0+(if 0<=1 then has bu (1-0) else 0):Nat):Int) >= a),decide (((has bh 1+has ah 1+(if 1<=1 then has bu (1-1) else 0):Nat):Int) >= b),?_⟩
  unfold bD;simp only[lD,bs4];rfl
theorem qT {n:Nat}(h:n<2^2):n=0∨n=1∨n=2∨n=3:=by have:n<4:=h;omega
theorem o9 {n:Nat}(h:n<2^1):n=0∨n=1:=by have:n<2:=h;omega
theorem oA {w:ag}(o:b7 w)(bh ah:Nat){bu:Nat}(h:bu<2^w.length):bD w bh bu ah<2^w.length/\(bD w bh bu ah=bu∨one bu+1<=one (bD w bh bu ah))/\one bu<=w.length:=by
 rcases ba8 o bh bu ah with⟨e,c,z⟩|⟨e,c,d,z⟩
 ·rw[e]at h ⊢
  rw[z];rcases o9 h with rfl|rfl<;>cases c<;>decide
 ·rw[e]at h ⊢
  rw[z];rcases qT h with rfl|rfl|rfl|rfl<;>cases c<;>cases d<;>decide
theorem qU {w:ag}{a:aD}{ah n b:Nat}(hn:0<n)(e:bD w (a.getD b (0,false)).1 b ah=b):dW w a ah n b=b:=by
 obtain⟨m,rfl⟩:=Nat.exists_eq_succ_of_ne_zero (bA3 hn)
 show (if bD w (a.getD b (0,false)).1 b ah=b then b else _)=b;rw[if_pos e]
theorem qV {w:ag}{a:aD}{ah n b:Nat}(e:bD w (a.getD b (0,false)).1 b ah≠b):dW w a ah (n+1) b=dW w a ah n (bD w (a.getD b (0,false)).1 b ah):=by
 show (if bD w (a.getD b (0,false)).1 b ah=b then b else _)=_;rw[if_neg e]
theorem uA {w:ag}(o:b7 w)(a:aD)(ah:Nat):∀(n:Nat) {b:Nat},b<2^w.length->dW w a ah n b<2^w.length
 |0,_,h=>h
 |n+1,b,h=>by
  by_cases e:bD w (a.getD b (0,false)).1 b ah=b
  ·rw[qU (Nat.succ_pos _) e];exact h
  ·rw[qV e];exact uA o a ah n (oA o _ _ h).1
theorem kE {w:ag}(o:b7 w):cW w (bB w):=⟨List.length_replicate,λq h=>by rw[List.eq_of_mem_replicate h];exact by2 _⟩
theorem oB {w:ag}(o:b7 w){a:aD}(h:cW w a){s:Nat}(hs:s<2^w.length):cW w (next w a s):=by
 refine⟨by unfold next;rw[bq6,bB6];exact h.1,λq hq=>?_⟩;unfold next at hq
 obtain⟨ah,_,rfl⟩:=bt7.mp hq
 exact uA o a ah _ hs
theorem zG {w:ag}{a:aD}{q:Nat×aD}(h:q∈after w a):q.1<a.length/\q.2=next w a q.1/\kept q.2=true:=by
 unfold after at h
 obtain⟨h1,h2⟩:=bt8.mp h
 obtain⟨s,hs,rfl⟩:=bt7.mp h1
 exact⟨bz5.mp hs,rfl,h2⟩
theorem ae9 {w:ag}(o:b7 w){a:aD}(h:cW w a){q:Nat×aD}(hq:q∈after w a):cW w q.2:=by
 obtain⟨h1,h2,_⟩:=zG hq
 rw[h2];exact oB o h (by rw[<- h.1];exact h1)
theorem ba9 (w:ag)(a:aD):(after w a).length<=a.length:=by
 unfold after;refine bt6 (List.length_filter_le ..) ?_;rw[bq6,bB6];exact bq4 _
theorem oC {w:ag}(o:b7 w):2^w.length=2∨2^w.length=4:=by
 rcases o.two with⟨a,rfl⟩|⟨a,b,rfl⟩
 ·exact .inl rfl
 ·exact .inr rfl
theorem uB {α:Type}[DecidableEq α]:∀{l m:List α},l.Nodup->(∀x∈l,x∈m)->l.length<=m.length
 |[],_,_,_=>bu8 _
 |x::r,m,n,h=>by
  rw[bx1]at n
  have:=uB (m:=m.erase x) n.2 λy hy=>(List.mem_erase_of_ne (λe:y=x=>n.1 (by rw[<- e];exact hy))).mpr (h y (bq8 _ hy))
  rw[List.length_erase_of_mem (h x bq3)]at this
  have:0<m.length:=List.length_pos_of_mem (h x bq3)
  rw[bu9];omega
structure Closed (w:ag)(S:List aD):Prop where
 b:bB w∈S
 go:∀a∈S,∀q∈after w a,q.2∈S
 len:S.length<=5000
structure qW (w:ag)(Ks:List aD):Prop extends Closed w Ks where
 nd:Ks.Nodup
 wf:∀a∈Ks,cW w a
noncomputable abbrev sub (x y:Nat):Prop:=x ||| y=y
theorem iU {w:ag}(o:b7 w){n:Nat}(h:n<2^w.length):n<4:=by rcases oC o with e|e<;>omega
theorem fM {n:Nat}(h:n<4):n=0∨n=1∨n=2∨n=3:=by omega
theorem kF (x:Nat):sub x x:=Nat.or_self x
theorem bb0 {x y z:Nat}(h1:sub x y)(h2:sub y z):sub x z:=by
 show x ||| z=z
 rw[<- h2,<- Nat.or_assoc,h1]
theorem zH {x y:Nat}(h1:sub x y)(h2:sub y x):x=y:=by
 have h2:y ||| x=x:=h2
 have h1:x ||| y=y:=h1
 rw[<- h1,Nat.or_comm,h2]
theorem bb1 (x:Nat):sub 0 x:=Nat.zero_or x
theorem uC {x y p:Nat}(hx:x<4)(hy:y<4)(hp:p<2)(h:sub x y):has x p<=has y p:=by
 have hp2:p=0∨p=1:=by omega
 rcases hp2 with rfl|rfl
 ·rcases fM hx with rfl|rfl|rfl|rfl<;>rcases fM hy with rfl|rfl|rfl|rfl<;>first|exact absurd h (by decide)|decide
 ·rcases fM hx with rfl|rfl|rfl|rfl<;>rcases fM hy with rfl|rfl|rfl|rfl<;>first|exact absurd h (by decide)|decide
theorem zI {w:ag}(o:b7 w){x:Nat}(h:x<2^w.length):sub x (2^w.length-1):=by
 rcases o.two with⟨a,rfl⟩|⟨a,b,rfl⟩
 ·rcases o9 h with rfl|rfl
  ·show sub 0 1;decide
  ·show sub 1 1;decide
 ·rcases qT h with rfl|rfl|rfl|rfl
  ·show sub 0 3;decide
  ·show sub 1 3;decide
  ·show sub 2 3;decide
  ·show sub 3 3;decide
theorem oD (w:ag):2^w.length-1<2^w.length:=Nat.sub_lt (by2 _) (by decide)
theorem uD {w:ag}(o:b7 w){x:Nat}(h:x<2^w.length)(s:sub (2^w.length-1) x):x=2^w.length-1:=zH (zI o h) s
theorem af0 {c c':Bool}{x y:Nat}(hx:x<4)(hy:y<4)(h:sub x y)(hc:c=true->c'=true):sub (if c then x ||| 1 else x) (if c' then y ||| 1 else y):=by
 rcases fM hx with rfl|rfl|rfl|rfl<;>rcases fM hy with rfl|rfl|rfl|rfl<;>first|exact absurd h (by decide)|(cases c<;>cases c'<;>first|exact absurd (hc rfl) (by decide)|decide)
theorem bb2 {c c':Bool}{x y:Nat}(hx:x<4)(hy:y<4)(h:sub x y)(hc:c=true->c'=true):sub (if c then x ||| 2 else x) (if c' then y ||| 2 else y):=by
 rcases fM hx with rfl|rfl|rfl|rfl<;>rcases fM hy with rfl|rfl|rfl|rfl<;>first|exact absurd h (by decide)|(cases c<;>cases c'<;>first|exact absurd (hc rfl) (by decide)|decide)
theorem af1 {c:Bool}{x:Nat}(hx:x<4):(if c then x ||| 1 else x)<4:=by rcases fM hx with rfl|rfl|rfl|rfl<;>cases c<;>decide
noncomputable def cA (a:Int)(p bh bu ah:Nat):Bool:=decide (((has bh p+has ah p+has bu (1-p):Nat):Int) >= a)
theorem uE (a:Int)(bh bu ah:Nat):bD [a] bh bu ah=if cA a 0 bh bu ah then bu ||| 1 else bu:=by
 unfold bD lD cA;simp only[bs4];rfl
theorem oE (a b:Int)(bh bu ah:Nat):bD [a,b] bh bu ah=if cA b 1 bh bu ah then (if cA a 0 bh bu ah then bu ||| 1 else bu) ||| 2 else if cA a 0 bh bu ah then bu ||| 1 else bu:=by
 unfold bD cA;simp only[lD,bs4];rfl
theorem zJ {a:Int}{p bh bh' bu bu' ah ah':Nat}(hp:p<2)(h1:bh<4)(h1':bh'<4)(h2:bu<4)(h2':bu'<4)(h3:ah<4)(h3':ah'<4)(s1:sub bh bh')(s2:sub bu bu')(s3:sub ah ah')(h:cA a p bh bu ah=true):cA a p bh' bu' ah'=true:=by
 unfold cA at h ⊢;have h:=bz1 h;have m1:=uC h1 h1' hp s1;have m2:=uC h3 h3' hp s3;have m3:=uC (p:=1-p) h2 h2' (by omega) s2;exact bq2 (by omega)
theorem qI {w:ag}(o:b7 w){bh bh' bu bu' ah ah':Nat}(h1:bh<2^w.length)(h1':bh'<2^w.length)(h2:bu<2^w.length)(h2':bu'<2^w.length)(h3:ah<2^w.length)(h3':ah'<2^w.length)(s1:sub bh bh')(s2:sub bu bu')(s3:sub ah ah'):sub (bD w bh bu ah) (bD w bh' bu' ah'):=by
 have g1:=iU o h1;have g1':=iU o h1';have g2:=iU o h2;have g2':=iU o h2';have g3:=iU o h3;have g3':=iU o h3';rcases o.two with⟨a,rfl⟩|⟨a,b,rfl⟩
 ·rw[uE,uE]
  exact af0 g2 g2' s2 (zJ (by decide) g1 g1' g2 g2' g3 g3' s1 s2 s3)
 ·rw[oE,oE]
  exact bb2 (af1 g2) (af1 g2') (af0 g2 g2' s2 (zJ (by decide) g1 g1' g2 g2' g3 g3' s1 s2 s3)) (zJ (by decide) g1 g1' g2 g2' g3 g3' s1 s2 s3)
theorem uF {w:ag}(o:b7 w)(bh ah:Nat){bu:Nat}(h:bu<2^w.length):sub bu (bD w bh bu ah):=by
 rcases o.two with⟨a,rfl⟩|⟨a,b,rfl⟩
 ·rw[uE]
  rcases o9 h with rfl|rfl<;>cases cA a 0 bh _ ah<;>decide
 ·rw[oE]
  rcases qT h with rfl|rfl|rfl|rfl<;>cases cA a 0 bh _ ah<;>cases cA b 1 bh _ ah<;>decide
theorem af2 {w:ag}(o:b7 w)(a:aD)(ah:Nat):∀(n:Nat) {b:Nat},b<2^w.length->w.length+1<=n+one b->
  bD w (a.getD (dW w a ah n b) (0,false)).1 (dW w a ah n b) ah=dW w a ah n b/\sub b (dW w a ah n b)/\
  ∀g,(∀x,x<2^w.length->sub x g->sub (bD w (a.getD x (0,false)).1 x ah) g)->sub b g->sub (dW w a ah n b) g
 |0,b,hb,hm=>by
  have:=(oA o 0 0 hb).2.2
  omega
 |n+1,b,hb,hm=>by
  by_cases e:bD w (a.getD b (0,false)).1 b ah=b
  ·rw[qU (Nat.succ_pos _) e]
   exact⟨e,kF _,λg _ h=>h⟩
  ·rw[qV e]
   obtain⟨k1,k2,_⟩:=oA o (a.getD b (0,false)).1 ah hb
   have k2:=k2.resolve_left e
   obtain⟨h1,h2,h3⟩:=af2 o a ah n k1 (by omega)
   exact⟨h1,bb0 (uF o _ _ hb) h2,λg hg h=>h3 g hg (hg b hb h)⟩
noncomputable def cL (B:Nat->Nat)(k:Nat):Nat:=if k=0 then 0 else B (k-1)
noncomputable def cN (n ah:Nat)(B:Nat->Nat)(k:Nat):Nat:=if k+1<n then B (k+1) else ah
structure iJ (w:ag)(l:List Nat)(ah:Nat)(B:Nat->Nat):Prop where
 lt:∀k,k<l.length->B k<2^w.length
 sd:∀k (h:k<l.length),sub l[k] (B k)
 st:∀k,k<l.length->bD w (cL B k) (B k) (cN l.length ah B k)=B k
noncomputable def dY (w:ag)(l:List Nat):Prop:=∀s∈l,s<2^w.length
noncomputable def cX (w:ag)(l:List Nat):aD:=l.foldl (next w) (bB w)
theorem zK (w:ag)(l:List Nat)(s:Nat):cX w (l++[s])=next w (cX w l) s:=by unfold cX;rw[bD8];rfl
theorem zL {w:ag}(o:b7 w){l:List Nat}(h:dY w l):cW w (cX w l):=by
 have go:∀(n:Nat) {l:List Nat},l.length=n->dY w l->cW w (cX w l):=by
  intro n
  induction n with
  |zero=>
   intro l e _;rw[bx4 e];exact kE o
  |succ n ih=>
   intro l e h;rcases List.eq_nil_or_concat l with rfl|⟨l',s,rfl⟩
   ·cases e
   ·rw[List.concat_eq_append]at h e ⊢
    rw[zK];rw[br4]at e;exact oB o (ih (by simpa using e) λx hx=>h x (bt5 _ hx)) (h s (bs2 _ bq3))
 exact go _ rfl h
theorem bb3 {w:ag}{a:aD}{s ah:Nat}(h:ah<a.length):(next w a s).getD ah (0,false)=iS w a s ah:=by
 unfold next
 rw[br6,br5,bE2 h];rfl
structure o7 (w:ag)(l:List Nat)(ah:Nat)(q:Nat×Bool)(F:Nat->Nat):Prop where
 shut:iJ w l ah F
 le:∀G,iJ w l ah G->∀k,k<l.length->sub (F k) (G k)
 last:q.1=if l.length=0 then 0 else F (l.length-1)
 full:q.2=true↔∀k,k<l.length->F k=2^w.length-1
theorem iJ.less {w:ag}(o:b7 w){l:List Nat}{ah ah':Nat}{B:Nat->Nat}(h:iJ w l ah B)(h1:ah<2^w.length)(h2:ah'<2^w.length)(s:sub ah' ah):iJ w l ah' B:=by
 refine⟨h.lt,h.sd,λk hk=>?_⟩;have b0:cL B k<2^w.length:=by
  unfold cL;split
  ·exact by2 _
  ·exact h.lt _ (by omega)
 have e:=h.st k hk;refine zH ?_ (uF o _ _ (h.lt k hk));by_cases g:k+1<l.length
 ·unfold cN at e ⊢
  rw[if_pos g]at e ⊢;rw[e];exact kF _
 ·unfold cN at e ⊢
  rw[if_neg g]at e ⊢
  have:=qI o b0 b0 (h.lt k hk) (h.lt k hk) h2 h1 (kF _) (kF _) s
  rwa [e]at this
theorem bb4 {w:ag}(o:b7 w){n:Nat}(rec':∀{l:List Nat}{ah:Nat},l.length<n->dY w l->ah<2^w.length->∃F,o7 w l ah ((cX w l).getD ah (0,false)) F){l:List Nat}(ao:l.length=n)(hm:dY w l){ah:Nat}(h:ah<2^w.length):∃F,o7 w l ah ((cX w l).getD ah (0,false)) F:=by
 rcases List.eq_nil_or_concat l with rfl|⟨l',s,rfl⟩
 ·refine⟨λ_=>0,⟨λk hk=>absurd hk (bC1 _),λk hk=>absurd hk (bC1 _),λk hk=>absurd hk (bC1 _)⟩,λG _ k hk=>absurd hk (bC1 _),?_,?_⟩
  ·show ((bB w).getD ah (0,false)).1=0
   unfold bB;rw[br6,List.getElem?_replicate,if_pos h];rfl
  ·show ((bB w).getD ah (0,false)).2=true↔_
   unfold bB;rw[br6,List.getElem?_replicate,if_pos h]
   exact⟨λ_ k hk=>absurd hk (bC1 _),λ_=>rfl⟩
 ·rw[List.concat_eq_append]at hm ⊢
  have hm':dY w l':=λx hx=>hm x (bt5 _ hx)
  have hs:s<2^w.length:=hm s (bs2 _ bq3);have ih:∀{b:Nat},b<2^w.length->∃F,o7 w l' b ((cX w l').getD b (0,false)) F:=λ{b} hb=>rec' (by rw[List.concat_eq_append,br4]at ao;have q:l'.length+1=n:=ao;omega) hm' hb
  have wf:=zL o hm';rw[zK,bb3 (by rw[wf.1];exact h)]
  obtain⟨p1,p2,p3⟩:=af2 o (cX w l') ah (w.length+1) hs (Nat.le_add_right _ _)
  have bl:=uA o (cX w l') ah (w.length+1) hs;generalize eb:dW w (cX w l') ah (w.length+1) s=b at p1 p2 p3 bl;have es:iS w (cX w l') s ah=(b,b==(cX w l').length-1&&((cX w l').getD ((cX w l').length-1) (0,false)).2):=by unfold iS;rw[eb]
  rw[es,wf.1]
  obtain⟨F,hF⟩:=ih bl
  have ln:(l'++[s]).length=l'.length+1:=by rw[br4];rfl
  have cut:∀{G x},iJ w (l'++[s]) ah G->x<2^w.length->sub x (G l'.length)->iJ w l' x G:=by
   intro G x hG hx sx;have gl:G l'.length<2^w.length:=hG.lt _ (by omega);have sh:iJ w l' (G l'.length) G:=by
    refine⟨λk hk=>hG.lt k (by omega),λk hk=>?_,λk hk=>?_⟩
    ·have:=hG.sd k (by omega)
     rwa [List.getElem_append_left hk]at this
    ·have e:=hG.st k (by omega)
     unfold cN at e ⊢;rw[if_pos (by omega)]at e;by_cases g:k+1<l'.length
     ·rw[if_pos g];exact e
     ·rw[if_neg g,show l'.length=k+1 by omega];exact e
   exact sh.less o gl hx sx
  let F':Nat->Nat:=λk=>if k<l'.length then F k else b
  have f1:∀{k},k<l'.length->F' k=F k:=λhk=>if_pos hk
  have f2:F' l'.length=b:=if_neg (bw3 _);have bh1:∀{k},k<=l'.length->cL F' k=cL F k:=λ{k} hk=>by
   unfold cL;by_cases g:k=0
   ·rw[if_pos g,if_pos g]
   ·rw[if_neg g,if_neg g];exact f1 (by omega)
  have bhl:cL F' l'.length=((cX w l').getD b (0,false)).1:=by
   rw[bh1 (bq4 _),hF.last];rfl
  refine⟨F',⟨λk hk=>?_,λk hk=>?_,λk hk=>?_⟩,λG hG k hk=>?_,?_,?_⟩
  ·by_cases g:k<l'.length
   ·rw[f1 g];exact hF.shut.lt k g
   ·rw[show k=l'.length by omega,f2];exact bl
  ·by_cases g:k<l'.length
   ·rw[f1 g,List.getElem_append_left g];exact hF.shut.sd k g
   ·have:k=l'.length:=by omega
    subst this;rw[f2];simpa using p2
  ·by_cases g:k<l'.length
   ·rw[bh1 (by omega),f1 g]
    have e:=hF.shut.st k g;unfold cN at e ⊢;rw[if_pos (by omega)];by_cases g2:k+1<l'.length
    ·rw[f1 g2];rw[if_pos g2]at e;exact e
    ·rw[if_neg g2]at e
     rw[show k+1=l'.length by omega,f2];exact e
   ·have:k=l'.length:=by omega
    subst this;unfold cN;rw[if_neg (by omega),f2,bhl];exact p1
  ·have gl:G l'.length<2^w.length:=hG.lt _ (by omega)
   have bg:sub b (G l'.length):=p3 _ (λx hx sx=>by
    obtain⟨Fx,hx2⟩:=ih hx
    have cx:=cut hG hx sx;have el:=hx2.last;rw[el];have e:=hG.st l'.length (by omega);unfold cN at e;rw[if_neg (by omega)]at e;have m:sub (bD w (if l'.length=0 then 0 else Fx (l'.length-1)) x ah) (bD w (cL G l'.length) (G l'.length) ah):=by
     refine qI o ?_ ?_ hx gl h h ?_ sx (kF _)
     ·split
      ·exact by2 _
      ·exact hx2.shut.lt _ (by omega)
     ·unfold cL;split
      ·exact by2 _
      ·exact hG.lt _ (by omega)
     ·unfold cL
      by_cases z:l'.length=0
      ·rw[if_pos z,if_pos z];exact kF _
      ·rw[if_neg z,if_neg z];exact hx2.le G cx _ (by omega)
    rwa [e]at m) (by
     have:=hG.sd l'.length (by omega)
     simpa using this)
   by_cases g:k<l'.length
   ·rw[f1 g];exact hF.le G (cut hG bl bg) k g
   ·rw[show k=l'.length by omega,f2];exact bg
  ·rw[ln,if_neg (by omega)]
   show b=F' (l'.length+1-1);rw[Nat.add_sub_cancel,f2]
  ·show (b==2^w.length-1&&((cX w l').getD (2^w.length-1) (0,false)).2)=true↔_
   rw[bt4];constructor
   ·rintro⟨h1,h2⟩
    have h1:b=2^w.length-1:=by simpa using h1
    rw[<- h1]at h2;intro k hk;by_cases g:k<l'.length
    ·rw[f1 g];exact hF.full.mp h2 k g
    ·rw[show k=l'.length by omega,f2];exact h1
   ·intro a
    have h1:b=2^w.length-1:=by have:=a l'.length (by omega);rwa [f2]at this
    refine⟨by simpa using h1,?_⟩;rw[<- h1];exact hF.full.mpr λk hk=>by have:=a k (by omega);rwa [f1 hk]at this
theorem af3 {w:ag}(o:b7 w){l:List Nat}(hm:dY w l){ah:Nat}(h:ah<2^w.length):∃F,o7 w l ah ((cX w l).getD ah (0,false)) F:=by
 have go:∀(n:Nat) {l:List Nat}{ah:Nat},l.length<n->dY w l->ah<2^w.length->∃F,o7 w l ah ((cX w l).getD ah (0,false)) F:=by
  intro n
  induction n with
  |zero=>exact λhl=>absurd hl (bC1 _)
  |succ n ih=>
   intro l ah hl hm h;exact bb4 o (n:=l.length) (λhl2=>ih (br3 hl2 (Nat.le_of_lt_succ hl))) rfl hm h
 exact go _ (Nat.lt_succ_self _) hm h
theorem zM {w:ag}(o:b7 w):∀(r:List Nat) {l:List Nat},dY w l->(row w r (cX w l)=true↔dY w r/\(∀m,m<r.length->kept (cX w (l++r.take (m+1)))=true)/\lit (cX w (l++r))=true)
 |[],l,_=>by
  rw[bu0]
  exact⟨λh=>⟨(λ_ z=>nomatch z),λm z=>absurd z (bC1 _),h⟩,λh=>h.2.2⟩
 |s::r,l,hl=>by
  have wl:=(zL o hl).1;show (decide (s<(cX w l).length)&&kept (next w (cX w l) s)&&row w r (next w (cX w l) s))=true↔_;rw[<- zK,bt4,bt4,bs4,wl];constructor
  ·rintro⟨⟨h1,h2⟩,h3⟩
   have hl2:dY w (l++[s]):=λx hx=>(bs3.mp hx).elim (hl x) λz=>by rw[bq1.mp z];exact h1
   obtain⟨q1,q2,q3⟩:=(zM o r hl2).mp h3
   refine⟨λx hx=>(br0.mp hx).elim (λe=>by rw[e];exact h1) (q1 x),λm hm=>?_,by rw[bs6]at q3;exact q3⟩;cases m with
   |zero=>exact h2
   |succ m=>
    have:=q2 m (by rw[bu9]at hm;omega)
    rw[bs6]at this;exact this
  ·rintro⟨q1,q2,q3⟩
   have h1:=q1 s bq3;have hl2:dY w (l++[s]):=λx hx=>(bs3.mp hx).elim (hl x) λz=>by rw[bq1.mp z];exact h1
   refine⟨⟨h1,q2 0 (by rw[bu9];omega)⟩,(zM o r hl2).mpr ⟨λx hx=>q1 x (bq8 _ hx),λm hm=>?_,by rw[bs6];exact q3⟩⟩
   have:=q2 (m+1) (by rw[bu9];omega)
   rw[bs6];exact this
theorem bb5 {w:ag}{a:aD}(h:a.length=2^w.length):kept a=(a.getD (2^w.length-1) (0,false)).2:=by unfold kept;rw[h]
theorem af4 {w:ag}(o:b7 w){l:List Nat}(hm:dY w l):row w l (bB w)=true↔∀B,iJ w l 0 B->∀k,k<l.length->B k=2^w.length-1:=by
 have z:=zM o l (l:=[]) (λ_ z=>nomatch z);rw[List.nil_append]at z;refine Iff.trans z ?_
 obtain⟨F,hF⟩:=af3 o hm (by2 w.length)
 have litF:lit (cX w l)=true↔∀k,k<l.length->F k=2^w.length-1:=hF.full
 constructor
 ·rintro⟨_,_,h⟩ B hB k hk
  have:=hF.le B hB k hk
  rw[litF.mp h k hk]at this;exact uD o (hB.lt k hk) this
 ·intro h
  have all:=h F hF.shut;refine⟨hm,λm hm2=>?_,litF.mpr all⟩;rw[List.nil_append];have hm1:dY w (l.take (m+1)):=λx hx=>hm x (bD5 hx)
  obtain⟨G1,h1⟩:=af3 o hm1 (oD w)
  rw[bb5 (zL o hm1).1];refine h1.full.mpr λk hk=>?_
  have tl:(l.take (m+1)).length=m+1:=by rw[List.length_take];omega
  rw[tl]at hk
  let G:Nat->Nat:=λk=>if k<m+1 then G1 k else 2^w.length-1
  have g1:∀{k},k<m+1->G k=G1 k:=λhk=>if_pos hk
  have g2:∀{k},¬k<m+1->G k=2^w.length-1:=λhk=>if_neg hk
  have gl:∀k,k<l.length->G k<2^w.length:=λk hk=>by
   by_cases g:k<m+1
   ·rw[g1 g];exact h1.shut.lt k (by rw[tl];exact g)
   ·rw[g2 g];exact oD w
  have bl:∀{k},k<=l.length->cL G k<2^w.length:=λ{k} hk=>by
   unfold cL;split
   ·exact by2 _
   ·exact gl _ (by omega)
  have hG:iJ w l 0 G:=by
   refine⟨gl,λk hk=>?_,λk hk=>?_⟩
   ·by_cases g:k<m+1
    ·rw[g1 g]
     have:=h1.shut.sd k (by rw[tl];exact g)
     rwa [List.getElem_take]at this
    ·rw[g2 g];exact zI o (hm _ (by6 hk))
   ·by_cases g:k<m+1
    ·have e:=h1.shut.st k (by rw[tl];exact g)
     have eb:cL G k=cL G1 k:=by
      unfold cL;by_cases z:k=0
      ·rw[if_pos z,if_pos z]
      ·rw[if_neg z,if_neg z];exact g1 (by omega)
     rw[tl]at e;refine zH ?_ (uF o _ _ (gl k hk));have e1:bD w (cL G k) (G k) (cN (m+1) (2^w.length-1) G1 k)=G k:=by rw[eb,g1 g];exact e
     have a1:cN (m+1) (2^w.length-1) G1 k<2^w.length:=by
      unfold cN;by_cases y:k+1<m+1
      ·rw[if_pos y];exact h1.shut.lt _ (by rw[tl];exact y)
      ·rw[if_neg y];exact oD w
     have a2:cN l.length 0 G k<2^w.length:=by
      unfold cN;by_cases y:k+1<l.length
      ·rw[if_pos y];exact gl _ y
      ·rw[if_neg y];exact by2 _
     have sa:sub (cN l.length 0 G k) (cN (m+1) (2^w.length-1) G1 k):=by
      unfold cN;by_cases y1:k+1<m+1
      ·rw[if_pos y1,if_pos (by omega),g1 y1];exact kF _
      ·rw[if_neg y1]
       split
       ·exact zI o (gl _ (by assumption))
       ·exact bb1 _
     have bk:=bl (by9 hk)
     have:=qI o bk bk (gl k hk) (gl k hk) a2 a1 (kF _) (kF _) sa
     rwa [e1]at this
    ·rw[g2 g]
     have:=uF o (cL G k) (cN l.length 0 G k) (oD w)
     exact uD o (oA o _ _ (oD w)).1 this
  have:=hF.le G hG k (by omega)
  rw[all k (by omega)]at this
  have:=uD o (gl k (by omega)) this
  rwa [g1 hk]at this
theorem af5 (p:Nat):has 0 p=0:=by unfold has;rw[Nat.zero_shiftRight];rfl
theorem af6 {w:ag}(o:b7 w){bh bu ah:Nat}(hb:bu<2^w.length):bD w bh bu ah=bu↔∀p,p<w.length->cA (w.getD p 0) p bh bu ah=true->has bu p=1:=by
 rcases o.two with⟨a,rfl⟩|⟨a,b,rfl⟩
 ·rw[uE]
  have e:∀Q:Nat->Prop,(∀p,p<[a].length->Q p)↔Q 0:=λQ=>⟨λh=>h 0 (by show 0<1;decide),λh p hp=>by have:p<1:=hp;rw[show p=0 by omega];exact h⟩
  rw[e];show _↔(cA a 0 bh bu ah=true->_);rcases o9 hb with rfl|rfl<;>cases cA a 0 bh _ ah<;>decide
 ·rw[oE]
  have e:∀Q:Nat->Prop,(∀p,p<[a,b].length->Q p)↔Q 0/\Q 1:=λQ=>⟨λh=>⟨h 0 (by show 0<2;decide),h 1 (by show 1<2;decide)⟩,λh p hp=>by
   have:p<2:=hp
   have:p=0∨p=1:=by omega
   rcases this with rfl|rfl
   ·exact h.1
   ·exact h.2⟩
  rw[e];show _↔(cA a 0 bh bu ah=true->_)/\(cA b 1 bh bu ah=true->_);rcases qT hb with rfl|rfl|rfl|rfl<;>cases cA a 0 bh _ ah<;>cases cA b 1 bh _ ah<;>decide
noncomputable def h9 (a b:Bool):Nat:=(if a then 1 else 0)+if b then 2 else 0
theorem af7 (a b:Bool):has (h9 a b) 0=(if a then 1 else 0)/\has (h9 a b) 1=if b then 1 else 0:=by cases a<;>cases b<;>decide
theorem af8 {n:Nat}(h:n<4):h9 (decide (has n 0=1)) (decide (has n 1=1))=n:=by rcases fM h with rfl|rfl|rfl|rfl<;>decide
theorem bb6 {a a' b b':Bool}(h1:a=true->a'=true)(h2:b=true->b'=true):sub (h9 a b) (h9 a' b'):=by
 cases a<;>cases a'<;>cases b<;>cases b'<;>first|exact absurd (h1 rfl) (by decide)|exact absurd (h2 rfl) (by decide)|decide
theorem af9 {n:Nat}(h:n<4){p:Nat}(hp:p<2):has n p=0∨has n p=1:=by
 have:p=0∨p=1:=by omega
 rcases fM h with rfl|rfl|rfl|rfl<;>rcases this with rfl|rfl<;>decide
theorem ag0 {w:ag}(o:b7 w){n:Nat}(h:n<2^w.length):n=2^w.length-1↔∀p,p<w.length->has n p=1:=by
 rcases o.two with⟨a,rfl⟩|⟨a,b,rfl⟩
 ·constructor
  ·rintro rfl p hp
   have:p<1:=hp
   rw[show p=0 by omega];show has 1 0=1;decide
  ·intro g
   have:=g 0 (by show 0<1;decide)
   show n=1;rcases o9 h with rfl|rfl
   ·exact absurd this (by decide)
   ·rfl
 ·constructor
  ·rintro rfl p hp
   have:p<2:=hp
   have:p=0∨p=1:=by omega
   rcases this with rfl|rfl
   ·show has 3 0=1;decide
   ·show has 3 1=1;decide
  ·intro g
   have g0:=g 0 (by show 0<2;decide);have g1:=g 1 (by show 1<2;decide);show n=3;rcases qT h with rfl|rfl|rfl|rfl
   ·exact absurd g0 (by decide)
   ·exact absurd g1 (by decide)
   ·exact absurd g0 (by decide)
   ·rfl
end Strip
namespace Core
open PySem L2 PP
open Strip (b7 sub has bD iJ cL cN dY h9 cA)
noncomputable def bW (U:ag)(c k p:Nat):Bool:=decide (p<c)&&decide (((k*c+p:Nat):Int)∈U)
noncomputable def cC (U:ag)(c k:Nat):Nat:=h9 (bW U c k 0) (bW U c k 1)
theorem oF {U:ag}{c k p:Nat}(hp:p<2):has (cC U c k) p=if bW U c k p then 1 else 0:=by
 have:p=0∨p=1:=by omega
 rcases this with rfl|rfl
 ·exact (Strip.af7 _ _).1
 ·exact (Strip.af7 _ _).2
theorem oG {U:ag}{w:ag}(o:b7 w)(k:Nat):cC U w.length k<2^w.length:=by
 rcases o.two with⟨a,rfl⟩|⟨a,b,rfl⟩
 ·have e:bW U 1 k 1=false:=by unfold bW;rw[bp9 (by decide)];rfl
  show h9 (bW U 1 k 0) (bW U 1 k 1)<2;rw[e];cases bW U 1 k 0<;>decide
 ·show h9 (bW U 2 k 0) (bW U 2 k 1)<4
  cases bW U 2 k 0<;>cases bW U 2 k 1<;>decide
theorem ag1 {U V:ag}{c k p:Nat}(h:∀x∈U,x∈V)(b:bW U c k p=true):bW V c k p=true:=by
 unfold bW at b ⊢;rw[bt4,bs4,bs4]at b ⊢
 exact⟨b.1,h _ b.2⟩
theorem ag2 {A B:ag}(na:A.Nodup)(nb:B.Nodup)(h:∀x,x∈A↔x∈B):A.length=B.length:=Nat.le_antisymm (na.length_le_of_subset λx hx=>(h x).mp hx) (nb.length_le_of_subset λx hx=>(h x).mpr hx)
theorem uG {P:Prop}[Decidable P]{e:Int}{U:ag}:((if P then [e] else []).filter λx=>decide (x∈U)).length=if P then (if e∈U then 1 else 0) else 0:=by
 by_cases h:P
 ·rw[if_pos h,if_pos h]
  by_cases g:e∈U
  ·rw[if_pos g]
   show (match decide (e∈U) with|true=>[e]|false=>[]).length=1;rw[bq2 g];rfl
  ·rw[if_neg g]
   show (match decide (e∈U) with|true=>[e]|false=>[]).length=0;rw[bp9 g];rfl
 ·rw[if_neg h,if_neg h];rfl
structure gB (c n:Nat)(ls:aa):Prop where
 hc:c=1∨c=2
 ord:ls.Pairwise eN
 mem:∀l,l∈ls↔l∈mQ (c*n) c++mR (((c:Int))*(n:Int)) c
section
variable {c n:Nat}{ls:aa}
theorem gB.iff (s:gB c n ls){x y:Int}:(x,y)∈ls↔0<=x/\y<(c:Int)*(n:Int)/\((y=x+1/\(x+1)%(c:Int)>0)∨y=x+(c:Int)):=by
 rw[s.mem,bs3];unfold mQ mR;rw[bt7,bt7];constructor
 ·rintro (⟨h,hh,e⟩|⟨h,hh,e⟩)
  ·cases e
   obtain⟨h1,h2⟩:=bt8.mp hh
   have h2:=bz1 h2;have h1:=dC.mp h1;refine⟨h1.1,?_,.inl ⟨rfl,h2⟩⟩;rw[bE0]at h1;rcases s.hc with rfl|rfl<;>omega
  ·cases e
   have h1:=dC.mp hh
   exact⟨h1.1,by omega,.inr rfl⟩
 ·rintro⟨h1,h2,h3⟩
  rcases h3 with⟨e,h3⟩|e
  ·subst e
   exact .inl ⟨x,bt8.mpr ⟨dC.mpr ⟨h1,by rw[bE0];omega⟩,bq2 h3⟩,rfl⟩
  ·subst e
   exact .inr ⟨x,dC.mpr ⟨h1,by omega⟩,rfl⟩
theorem gB.lt (s:gB c n ls):∀l∈ls,l.1<l.2:=λl hl=>by
 have:=(s.iff (x:=l.1) (y:=l.2)).mp hl
 rcases s.hc with e|e<;>(subst e;omega)
theorem bb7 {ls:aa}{k x:Int}:x∈bN ls k↔(k,x)∈ls∨(x,k)∈ls:=by
 rw[aa3];constructor
 ·rintro⟨l,hl,⟨h1,h2⟩|⟨h1,h2⟩⟩
  ·left;rw[<- h1,<- h2];exact hl
  ·right;rw[<- h1,<- h2];exact hl
 ·rintro (h|h)
  ·exact⟨_,h,.inl ⟨rfl,rfl⟩⟩
  ·exact⟨_,h,.inr ⟨rfl,rfl⟩⟩
theorem gB.nd (s:gB c n ls)(h:Int):(bN ls h).Nodup:=aa4 s.lt s.ord
theorem gB.count (s:gB c n ls)(U:ag){k p:Nat}(hk:k<n)(hp:p<c) :
  ((bN ls ((k*c+p:Nat):Int)).filter λx=>decide (x∈U)).length=has (cL (cC U c) k) p+has (cN n 0 (cC U c) k) p+has (cC U c k) (1-p):=by
 have c2:c<=2:=by rcases s.hc with e|e<;>omega
 let E:ag:=(if 1<=k then [(((k-1)*c+p:Nat):Int)] else [])++(if k+1<n then [(((k+1)*c+p:Nat):Int)] else [])++(if 1-p<c then [((k*c+(1-p):Nat):Int)] else [])
 have mE:∀x,x∈bN ls ((k*c+p:Nat):Int)↔x∈E:=λx=>by
  rw[bb7,s.iff,s.iff];show _↔x∈_++_++_;rw[bs3,bs3];have m1:∀{P:Prop} [Decidable P] {e:Int},(x∈if P then [e] else [])↔P/\x=e:=λ{P} _ {e}=>by
   by_cases h:P
   ·rw[if_pos h];exact⟨λz=>⟨h,bq1.mp z⟩,λz=>bq1.mpr z.2⟩
   ·rw[if_neg h];exact⟨(λz=>nomatch z),λz=>absurd z.1 h⟩
  rw[m1,m1,m1];rcases s.hc with e|e
  ·subst e
   rw[show p=0 by omega];simp only[Nat.mul_one];omega
  ·subst e
   have:p=0∨p=1:=by omega
   rcases this with e|e<;>(subst e;omega)
 have nE:E.Nodup:=by
  show (_++_++_:ag).Nodup;have c0:1<=c:=by rcases s.hc with e|e<;>omega
  have l1:1<=k->(k-1)*c+p<k*c+p:=λh=>by
   have:=Nat.mul_lt_mul_of_pos_right (show k-1<k by omega) c0;omega
  have l2:k*c+p<(k+1)*c+p:=by
   have:=Nat.mul_lt_mul_of_pos_right (show k<k+1 by omega) c0;omega
  rcases s.hc with e|e
  ·subst e
   rw[show p=0 by omega];simp only[Nat.mul_one];rw[if_neg (show ¬(1-0<1) by decide),bu0];by_cases h1:1<=k<;>by_cases h2:k+1<n<;>simp[h1,h2]<;>omega
  ·subst e
   have:p=0∨p=1:=by omega
   rcases this with e|e<;>subst e<;>by_cases h1:1<=k<;>by_cases h2:k+1<n<;>simp[h1,h2]<;>omega
 rw[ag2 ((s.nd _).filter _) (nE.filter λx=>decide (x∈U)) λx=>by rw[bt8,bt8,mE x]];show ((_++_++_:ag).filter _).length=_;rw[bw1,bw1,br4,br4,uG,uG,uG];have p2:p<2:=by omega
 have b1:has (cL (cC U c) k) p=if 1<=k then (if (((k-1)*c+p:Nat):Int)∈U then 1 else 0) else 0:=by
  unfold cL;by_cases h:1<=k
  ·rw[if_neg (by omega),if_pos h,oF p2]
   unfold bW;rw[bq2 hp,bz6];by_cases g:(((k-1)*c+p:Nat):Int)∈U
   ·rw[if_pos g,if_pos (bq2 g)]
   ·rw[if_neg g,if_neg (by rw[bp9 g];exact bq7)]
  ·rw[if_pos (by omega),if_neg h,Strip.af5]
 have b2:has (cN n 0 (cC U c) k) p=if k+1<n then (if (((k+1)*c+p:Nat):Int)∈U then 1 else 0) else 0:=by
  unfold cN;by_cases h:k+1<n
  ·rw[if_pos h,if_pos h,oF p2]
   unfold bW;rw[bq2 hp,bz6];by_cases g:(((k+1)*c+p:Nat):Int)∈U
   ·rw[if_pos g,if_pos (bq2 g)]
   ·rw[if_neg g,if_neg (by rw[bp9 g];exact bq7)]
  ·rw[if_neg h,if_neg h,Strip.af5]
 have b3:has (cC U c k) (1-p)=if 1-p<c then (if ((k*c+(1-p):Nat):Int)∈U then 1 else 0) else 0:=by
  rw[oF (by omega)];unfold bW;by_cases h:1-p<c
  ·rw[if_pos h,bq2 h,bz6]
   by_cases g:((k*c+(1-p):Nat):Int)∈U
   ·rw[if_pos g,if_pos (bq2 g)]
   ·rw[if_neg g,if_neg (by rw[bp9 g];exact bq7)]
  ·rw[if_neg h,bp9 h];rfl
 rw[b1,b2,b3]
end
theorem ag3 {ws:ag}:∀{n k p:Nat},k<n->p<ws.length->(List.replicate n ws).flatten.getD (k*ws.length+p) 0=ws.getD p 0
 |0,_,_,h,_=>absurd h (bC1 _)
 |n+1,k,p,hk,hp=>by
  show (ws++(List.replicate n ws).flatten).getD (k*ws.length+p) 0=_;rw[br6,br6];cases k with
  |zero=>rw[Nat.zero_mul,bE4,bz9 hp]
  |succ k=>
   have e:(k+1)*ws.length+p=ws.length+(k*ws.length+p):=by rw[Nat.add_mul,Nat.one_mul];omega
   rw[e,bB2 (Nat.le_add_right _ _),Nat.add_sub_cancel_left]
   have:=ag3 (ws:=ws) (n:=n) (k:=k) (p:=p) (by omega) hp
   rwa [br6,br6]at this
section
variable {ws:ag}{n:Nat}{ls:aa}{ns:ag}
theorem jG (ws:ag)(n:Nat):(eC ws n).length=ws.length*n:=by
 have:=aW4 ws (L:=(n:Int)) (bE9 n)
 rw[<- bE0]at this;exact Int.natCast_inj.mp this
theorem bb8 (ws:ag){n k p:Nat}(hk:k<n)(hp:p<ws.length):(eC ws (n:Int)).getD ((((k*ws.length+p:Nat):Int)).toNat) 0=ws.getD p 0:=by
 unfold eC;rw[bu1,bu1];exact ag3 hk hp
theorem uH {k p c n:Nat}(hk:k<n)(hp:p<c):k*c+p<c*n:=by
 have:=Nat.mul_le_mul_right c (show k+1<=n by omega)
 rw[Nat.add_mul,Nat.one_mul,bD1 n c]at this;omega
theorem zN {c n:Nat}(hc:0<c){x:Int}(h0:0<=x)(h1:x<((c*n:Nat):Int)):∃k p,k<n/\p<c/\x=((k*c+p:Nat):Int):=by
 obtain⟨m,rfl⟩:∃m:Nat,x=m:=⟨x.toNat,by omega⟩
 refine⟨m/c,m%c,?_,Nat.mod_lt _ hc,?_⟩
 ·rw[Nat.div_lt_iff_lt_mul hc,bD1];omega
 ·have:=Nat.div_add_mod m c
  rw[bD1]at this;omega
noncomputable def hI (ns:ag)(c n:Nat):List Nat:=(List.range n).map (cC ns c)
theorem kG (ns:ag)(c n:Nat):(hI ns c n).length=n:=by unfold hI;rw[bq6,bB6]
theorem zO {c k:Nat}(h:k<(hI ns c n).length):(hI ns c n)[k]=cC ns c k:=(List.getElem_map ..).trans (by rw[List.getElem_range])
theorem bb9 (o:b7 ws)(ns:ag)(n:Nat):dY ws (hI ns ws.length n):=λs hs=>by
 obtain⟨k,_,rfl⟩:=bt7.mp hs
 exact oG o k
theorem ag4 (s:gB ws.length n ls)(U:ag){k p:Nat}(hk:k<n)(hp:p<ws.length):cA (ws.getD p 0) p (cL (cC U ws.length) k) (cC U ws.length k) (cN n 0 (cC U ws.length) k)=decide ((eC ws (n:Int)).getD ((((k*ws.length+p:Nat):Int)).toNat) 0<=(((bN ls ((k*ws.length+p:Nat):Int)).filter λx=>decide (x∈U)).length:Int)):=by
 rw[bb8 ws hk hp,s.count U hk hp];rfl
theorem uI {U:ag}{c k p:Nat}(hp:p<c)(p2:p<2):has (cC U c k) p=1↔((k*c+p:Nat):Int)∈U:=by
 rw[oF p2];unfold bW;rw[bq2 hp,bz6];by_cases g:((k*c+p:Nat):Int)∈U
 ·rw[if_pos (bq2 g)];exact⟨λ_=>g,λ_=>rfl⟩
 ·rw[if_neg (by rw[bp9 g];exact bq7)];exact⟨(λz=>nomatch z),λz=>absurd z g⟩
theorem zP (o:b7 ws)(s:gB ws.length n ls){U:ag}:gN (eC ws (n:Int)) ls U↔∀k,k<n->bD ws (cL (cC U ws.length) k) (cC U ws.length k) (cN n 0 (cC U ws.length) k)=cC U ws.length k:=by
 have c2:ws.length<=2:=o.2;constructor
 ·intro sh k hk
  refine (Strip.af6 o (oG o k)).mpr λp hp q=>(uI hp (by omega)).mpr ?_
  rw[ag4 s U hk hp]at q
  have:=sh ((k*ws.length+p:Nat):Int) (dC.mpr ⟨bE9 _,by rw[jG];exact Int.ofNat_lt.mpr (uH hk hp)⟩)
  unfold kin at this;rw[q,Bool.and_true]at this;simpa using this
 ·intro st h hh
  have hh:=dC.mp hh;rw[jG]at hh
  obtain⟨k,p,hk,hp,rfl⟩:=zN o.1 hh.1 hh.2
  have q:=(Strip.af6 o (oG o k)).mp (st k hk) p hp;rw[ag4 s U hk hp,uI hp (by omega)]at q;unfold kin;by_cases g:((k*ws.length+p:Nat):Int)∈U
  ·rw[bq2 g];rfl
  ·rw[Bool.eq_false_iff]
   intro z;rw[bt4]at z;exact g (q z.2)
noncomputable def d6 (B:Nat->Nat)(c n:Nat):ag:=(rng (c*n)).filter λh=>decide (has (B (h.toNat/c)) (h.toNat%c)=1)
theorem zQ {B:Nat->Nat}{c k p:Nat}(hk:k<n)(hp:p<c):((k*c+p:Nat):Int)∈d6 B c n↔has (B k) p=1:=by
 unfold d6;rw[bt8,bs4,bu1];have e1:(k*c+p)/c=k:=by rw[bD1,Nat.mul_add_div (by omega),Nat.div_eq_of_lt hp,Nat.add_zero]
 have e2:(k*c+p)%c=p:=by rw[bD1,Nat.mul_add_mod,Nat.mod_eq_of_lt hp]
 rw[e1,e2]
 exact⟨λz=>z.2,λz=>⟨dC.mpr ⟨bE9 _,Int.ofNat_lt.mpr (uH hk hp)⟩,z⟩⟩
theorem ag5 (o:b7 ws){B:Nat->Nat}{k:Nat}(hk:k<n)(hb:B k<2^ws.length):cC (d6 B ws.length n) ws.length k=B k:=by
 have b:∀p,p<ws.length->bW (d6 B ws.length n) ws.length k p=decide (has (B k) p=1):=λp hp=>by
  unfold bW;rw[bq2 hp,bz6];exact decide_eq_decide.mpr (zQ hk hp)
 have h4:=Strip.iU o hb;unfold cC;rcases o.two with⟨a,rfl⟩|⟨a,d,rfl⟩
 ·have e1:bW (d6 B 1 n) 1 k 1=decide (has (B k) 1=1):=by
   unfold bW;rw[bp9 (by decide)];rcases Strip.o9 hb with e|e<;>rw[e]<;>rfl
  have e0:=b 0 (by show 0<1;decide);show h9 (bW (d6 B 1 n) 1 k 0) (bW (d6 B 1 n) 1 k 1)=B k;rw[e1,show bW (d6 B 1 n) 1 k 0=decide (has (B k) 0=1) from e0];exact Strip.af8 h4
 ·rw[b 0 (by show 0<2;decide),b 1 (by show 1<2;decide)]
  exact Strip.af8 h4
theorem bc0 (o:b7 ws)(s:gB ws.length n ls)(ns:ag):o8 (eC ws (n:Int)) ls ns=true↔Strip.row ws (hI ns ws.length n) (Strip.bB ws)=true:=by
 have c2:ws.length<=2:=o.2;rw[yR,Strip.af4 o (bb9 o ns n),kG];constructor
 ·intro f B hB k hk
  have lt:∀k,k<n->B k<2^ws.length:=λk hk=>hB.lt k (by rw[kG];exact hk)
  have em:∀k,k<n->cC (d6 B ws.length n) ws.length k=B k:=λk hk=>ag5 o hk (lt k hk)
  have sh:gN (eC ws (n:Int)) ls (d6 B ws.length n):=(zP o s).mpr λk hk=>by
   have e:=hB.st k (by rw[kG];exact hk);rw[kG]at e;have e1:cL (cC (d6 B ws.length n) ws.length) k=cL B k:=by
    unfold cL;by_cases z:k=0
    ·rw[if_pos z,if_pos z]
    ·rw[if_neg z,if_neg z];exact em _ (by omega)
   have e2:cN n 0 (cC (d6 B ws.length n) ws.length) k=cN n 0 B k:=by
    unfold cN;by_cases z:k+1<n
    ·rw[if_pos z,if_pos z];exact em _ z
    ·rw[if_neg z,if_neg z]
   rw[e1,e2,em k hk];exact e
  have sb:∀x∈ns,x∈rng (eC ws (n:Int)).length->x∈d6 B ws.length n:=λx hx hr=>by
   have hh:=dC.mp hr;rw[jG]at hh
   obtain⟨k,p,hk,hp,rfl⟩:=zN o.1 hh.1 hh.2
   refine (zQ hk hp).mpr ?_;have sd:=hB.sd k (by rw[kG];exact hk);rw[zO]at sd;have m:=Strip.uC (p:=p) (Strip.iU o (oG o k)) (Strip.iU o (lt k hk)) (by omega) sd;rw[(uI hp (by omega)).mpr hx]at m
   have:=Strip.af9 (Strip.iU o (lt k hk)) (p:=p) (by omega)
   omega
  let U:=d6 B ws.length n++ns.filter λx=>!decide (x∈rng (eC ws (n:Int)).length)
  have same:∀k p,k<n->p<ws.length->(((k*ws.length+p:Nat):Int)∈U↔((k*ws.length+p:Nat):Int)∈d6 B ws.length n):=λk p hk hp=>by
   show _∈_++_↔_;rw[bs3];refine⟨λz=>z.elim id λz=>?_,.inl⟩
   have:=(bt8.mp z).2
   rw[bq2 (dC.mpr ⟨bE9 _,by rw[jG];exact Int.ofNat_lt.mpr (uH hk hp)⟩)]at this;cases this
  have mU:∀k,k<n->cC U ws.length k=B k:=λk hk=>by
   rw[<- em k hk];unfold cC bW;congr 1
   ·by_cases q:0<ws.length
    ·rw[bq2 q,bz6,bz6];exact decide_eq_decide.mpr (same k 0 hk q)
    ·rw[bp9 q];rfl
   ·by_cases q:1<ws.length
    ·rw[bq2 q,bz6,bz6];exact decide_eq_decide.mpr (same k 1 hk q)
    ·rw[bp9 q];rfl
  have shU:gN (eC ws (n:Int)) ls U:=(zP o s).mpr λk hk=>by
   have e:=hB.st k (by rw[kG];exact hk);rw[kG]at e;have e1:cL (cC U ws.length) k=cL B k:=by
    unfold cL;by_cases z:k=0
    ·rw[if_pos z,if_pos z]
    ·rw[if_neg z,if_neg z];exact mU _ (by omega)
   have e2:cN n 0 (cC U ws.length) k=cN n 0 B k:=by
    unfold cN;by_cases z:k+1<n
    ·rw[if_pos z,if_pos z];exact mU _ z
    ·rw[if_neg z,if_neg z]
   rw[e1,e2,mU k hk];exact e
  have all:=f U shU λx hx=>by
   show x∈_++_;rw[bs3];by_cases q:x∈rng (eC ws (n:Int)).length
   ·exact .inl (sb x hx q)
   ·exact .inr (bt8.mpr ⟨hx,by rw[bp9 q];rfl⟩)
  refine (Strip.ag0 o (lt k hk)).mpr λp hp=>(zQ hk hp).mp ((same k p hk hp).mp (all _ ?_))
  exact dC.mpr ⟨bE9 _,by rw[jG];exact Int.ofNat_lt.mpr (uH hk hp)⟩
 ·intro a U sU hU h hh
  have hh:=dC.mp hh;rw[jG]at hh
  obtain⟨k,p,hk,hp,rfl⟩:=zN o.1 hh.1 hh.2
  have sB:iJ ws (hI ns ws.length n) 0 (cC U ws.length):=by
   refine⟨λk _=>oG o k,λk hk=>?_,λk hk=>?_⟩
   ·rw[zO]
    exact Strip.bb6 (ag1 hU) (ag1 hU)
   ·rw[kG]at hk ⊢
    exact (zP o s).mp sU k hk
  have:=a _ sB k hk
  exact (uI hp (by omega)).mp ((Strip.ag0 o (oG o k)).mp this p hp)
end
end Core
namespace PP
open PySem L2
noncomputable abbrev kH (k:List (Int×Bool)):PV:=.tup (k.map λq=>.tup [.int q.1,.bl q.2])
noncomputable def qX (k:Int)(y:PV):Prop:=y = .int k∨∃b:Bool,y = .bl b/\k=if b then 1 else 0
theorem uJ {K:ad}{M:ay->Prop}{H:Hp}{v:V}{k:List (Int×Bool)}(r:aG K M H v (kH k)):∃b,v = .ref b/\fP H k b:=by
 generalize e:kH k=x at r;cases r with
 |tup h r=>
  cases e;refine⟨_,rfl,_,h,?_⟩;clear h
  rename_i us
  induction k generalizing us with
  |nil=>cases r;exact .nil
  |cons p k ih=>
   rw[bt3]at r;cases r with
   |cons r1 t=>
    refine .cons ?_ (ih t);generalize e:PV.tup [PV.int p.1,PV.bl p.2]=z at r1;cases r1 with
    |tup h r2=>
     cases e;cases r2 with
     |cons q1 t1=>
      cases t1 with
      |cons q2 t2=>
       cases t2;cases q1;cases q2
       exact⟨_,rfl,h⟩
    |_=>cases e
 |_=>cases e
theorem qX.rep {K:ad}{M:ay->Prop}{H:Hp}{v:V}{y:PV}{k:Int}(n:qX k y)(r:aG K M H v y):lR k v:=by
 rcases n with rfl|⟨b,rfl,rfl⟩
 ·cases r;exact .inl rfl
 ·cases r;exact .inr ⟨b,rfl,rfl⟩
noncomputable def bc1:PV->PV
 |.fA ps=>.dA ps
 |x=>x
noncomputable def lE (x y:PV)(o:Option PV):Prop:=(∃ps k,bc1 x = .dA ps/\y=kH k/\o=dJ ps k)∨∃ps k,x = .dB ps/\qX k y/\o=dJ ps k
theorem zR {K:ad}{M M2:ay->Prop}{H:Hp}{v w:V}{x y:PV}{o:Option PV}(h:lE x y o)(rx:aG K M H v x)(ry:aG K M2 H w y):∃a o',v = .ref a/\kR H a w o'/\(o=none->o'=none)/\∀z,o=some z->∃u,o'=some u/\aG K M H u z:=by
 rcases h with⟨ps,k,ex,rfl,rfl⟩|⟨ps,k,rfl,n,rfl⟩
 ·obtain⟨b,rfl,hb⟩:=uJ ry
  cases rx with
  |dA m h e r=>cases ex;exact⟨_,_,rfl,.inl ⟨_,k,b,.inl h,rfl,hb,rfl⟩,(lX k e r).1,(lX k e r).2⟩
  |fA h e r=>cases ex;exact⟨_,_,rfl,.inl ⟨_,k,b,.inr ⟨_,h⟩,rfl,hb,rfl⟩,(lX k e r).1,(lX k e r).2⟩
  |_=>cases ex
 ·cases rx with
  |dB m h e r=>exact⟨_,_,rfl,.inr ⟨_,k,.inl h,n.rep ry,rfl⟩,(lX k e r).1,(lX k e r).2⟩
section
variable {X:Cx}{σ:L2.St}{H:Hp}{D:dZ}{tk td te tv:aH}{Q':VK}
noncomputable def oH (neg:Bool)(tk td:aH):aH:=λρ Q=>tk ρ λy _=>td ρ λx _=>∃o,lE x y o/\Q (.bl (if neg=true then !o.isSome else o.isSome)) .fr
theorem bc2 (h:LE X (oH false tk td) σ H Q'):O7 (LE X tk) (LE X td) σ H Q':=by
 obtain⟨W,ρ,Q,px,q,k⟩:=h
 refine⟨W,ρ,_,px,q,λw H1 y g s r q=>⟨W,ρ,_,px.mono s,q,?_⟩⟩;rintro v H2 x g' s2 r2 ⟨o,ak,q⟩
 obtain⟨a,o',rfl,dg,h1,h2⟩:=zR ak r2 (r.same s2 λ_ z=>z)
 refine⟨a,o',rfl,dg,?_⟩;rw[R6 h1 h2];exact k _ _ _ .fr (s.trans s2) (.bl _) q
theorem bc3 (h:LE X (oH true tk td) σ H Q'):O8 (LE X tk) (LE X td) σ H Q':=by
 obtain⟨W,ρ,Q,px,q,k⟩:=h
 refine⟨W,ρ,_,px,q,λw H1 y g s r q=>⟨W,ρ,_,px.mono s,q,?_⟩⟩;rintro v H2 x g' s2 r2 ⟨o,ak,q⟩
 obtain⟨a,o',rfl,dg,h1,h2⟩:=zR ak r2 (r.same s2 λ_ z=>z)
 refine⟨a,o',rfl,dg,?_⟩;rw[R6 h1 h2];exact k _ _ _ .fr (s.trans s2) (.bl _) q
noncomputable def kI (td tk:aH):aH:=λρ Q=>td ρ λx g=>tk ρ λy _=>∃z,lE x y (some z)/\Q z g
theorem bc4 (h:LE X (kI td tk) σ H Q'):O6 (LE X td) (LE X tk) σ H Q':=by
 obtain⟨W,ρ,Q,px,q,k⟩:=h
 refine⟨W,ρ,_,px,q,λv H1 x g s r q=>⟨W,ρ,_,px.mono s,q,?_⟩⟩;rintro w H2 y g' s2 r2 ⟨z,ak,q⟩
 obtain⟨a,o',rfl,dg,h1,h2⟩:=zR ak (r.same s2 λ_ z=>z) r2
 obtain⟨u,rfl,ru⟩:=h2 z rfl
 exact⟨a,u,rfl,dg,k _ _ _ g (s.trans s2) ru q⟩
noncomputable def zS (i:Nat)(tk te:aH):aX:=λD ρ=>te ρ λz g=>∃ps,ρ[i]? = some (some (.own (.dA ps)))/\tk ρ λy _=>∃k,y=kH k/\Nw g z/\ps.length<16000000/\D.nx (ρ.set i (some (.own (.dA (fY ps k z)))))
theorem bc5 {i:Nat}(h:LS X (zS i tk te) D σ H):nG (dF i) (LE X tk) (LE X te) D σ H:=by
 obtain⟨W,ρ,D',px,q,k⟩:=h
 refine⟨W,ρ,_,px,q,?_⟩;rintro w H1 z g s rz ⟨ps,hi,q⟩
 obtain⟨v,ev,a,rfl,wa,kvs,ea,e1,r⟩:=(px.mono s).sl i _ hi
 refine⟨_,ev,W,ρ,_,px.mono s,q,?_⟩;rintro kv H2 y g' s2 ry ⟨kk,rfl,nw,hl,q⟩
 obtain⟨b,rfl,hb⟩:=uJ ry
 have ea2:=s2 _ _ ea;refine⟨a,_,rfl,.inl ⟨_,kk,b,ea2,rfl,hb,iO (by rw[nN e1];omega),rfl⟩,?_⟩
 obtain⟨h1,h2⟩:=x6 kk ((Nw.rep px nw rz).same s2 λ_ z=>z) e1 (r.same s2 λ_ z=>z)
 exact k.nx W σ _ _ ((Ev.same (s.trans s2)).trans (Ev.upd wa)) ((px.mono (s.trans s2)).updOwn hi ev wa rfl (y:=.dA (fY ps kk z)) ⟨_,bH,h1,h2.keep (.upd ea2 rfl λb m=>⟨j6 wa m,m⟩)⟩) q
theorem bc6 (h:LE X (qC (.dA [])) σ H Q'):O9 σ H Q':=by
 obtain⟨W,ρ,Q,px,q,k⟩:=h
 exact λp hp=>k _ _ _ .fr (cS hp _) (.dA hp bH rfl .nil) q
theorem bc7 (h:LE X (qC (.dB [])) σ H Q'):P3 σ H Q':=by
 obtain⟨W,ρ,Q,px,q,k⟩:=h
 exact λp hp=>k _ _ _ .fr (cS hp _) (.dB hp bH rfl .nil) q
noncomputable def zT (tk tv:aH):aH:=λρ Q=>tk ρ λy _=>tv ρ λz _=>flat z=true/\∃k,y=kH k/\Q (.dA [(k,z)]) .fr
theorem bc8 (h:LE X (zT tk tv) σ H Q'):P4 (LE X tk) (LE X tv) σ H Q':=by
 obtain⟨W,ρ,Q,px,q,k⟩:=h
 intro p hp;have s0:aI H (upd H p (.dA [])):=cS hp _;refine⟨W,ρ,_,px.mono s0,q,λw H1 y g s r q=>⟨W,ρ,_,(px.mono s0).mono s,q,?_⟩⟩;rintro v H2 z g' s2 rz ⟨fl,kk,rfl,q2⟩;have ep:H2 p=some (.dA []):=s2 _ _ (s _ _ bH)
 obtain⟨b,rfl,nb⟩:=uJ r
 have nb2:fP H2 kk b:=nb.keeps λc xs e=>s2 _ _ e
 refine⟨ep,b,kk,rfl,nb2,?_⟩;have tot:aI H (upd H2 p (.dA [(kk,v)])):=λc o e=>by
  rw[aK (λz=>by rw[z,hp]at e;cases e)];exact s2 _ _ (s _ _ (s0 _ _ e))
 refine k _ _ _ .fr tot (.dA (ps:=[(kk,z)]) hp bH rfl (.cons ?_ .nil)) q2;exact (rz.flat (M':=λ_=>False) fl).keep (.upd ep rfl λ_ z=>z.elim)
end
section
variable {X:Cx}{a b e ke:Expr}{pos:Pos}{ta tb te tk tv:aH}
theorem hV (hu:X.A.units+16<cLine)(ha:QE X a ta)(hb:QE X b tb)(hs:wB b:=by exact λ_ _=>rfl):QE X (.Subscript a b pos) (kI ta tb):=bV (aC5 hu ha hb hs) λ_ _ _=>bc4
theorem uK (hu:X.A.units+16<cLine)(hk:QE X a tk)(hd:QE X b te)(hm:behindInMarks .In b=false:=by rfl):QT X (.Compare a [.In] [b] pos) (bL (oH false tk te)):=nO (C8 (aC6 hu hk hd) hm) λ_ _ _ h=>bc2 (sT h)
theorem bc9 (hu:X.A.units+16<cLine)(hk:QE X a tk)(hd:QE X b te)(hm:behindInMarks .NotIn b=false:=by rfl):QT X (.Compare a [.NotIn] [b] pos) (bL (oH true tk te)):=nO (C8 (aC7 hu hk hd) hm) λ_ _ _ h=>bc3 (sT h)
theorem zU:QE X (.Dict [] [] pos) (qC (.dA [])):=bV aC9 λ_ _ _=>bc6
theorem ag6:QE X (.Dict [] [] pos) (qC (.dB [])):=bV aD0 λ_ _ _=>bc7
theorem ag7 (hu:X.A.units+16<cLine)(hk:QE X ke tk)(hv:QE X e tv):QE X (.Dict [some ke] [e] pos) (zT tk tv):=bV (aD1 hu hk hv) λ_ _ _=>bc8
theorem bd0 {i:Nat}{x:Str}{xpos tpos:Pos}(hu:X.A.units+16<cLine)(hk:QE X a tk)(he:QE X e te)(hN:X.N[i]? = some x:=by rfl)(hv:eQ X.env.scope x:=by first|exact Or.inl rfl|exact Or.inr (Or.inl rfl)|exact Or.inr (Or.inr rfl))(hd:(x==("__debug__":Str))=false:=by decide)(hcd:(x==("__classdict__":Str))=false:=by decide)(hs:swapsWith e (some (.Subscript (.Name x xpos) a tpos)) pos.line X.env=pure false:=by rfl):QS X (.Assign [.Subscript (.Name x xpos) a tpos] e pos) (zS i tk te):=e9 (jR hu (i6 hN hv hd hcd) hk he hs) λ_ _ _=>bc5
end
end PP
namespace L2
open PySem PySem.Spec PyProof.Rows
section
variable {X:Cx}{CX:fD}{k:Nat}{sp:Sp}{E:XK}{x:Str}{p pos:Pos}{e:Expr}{es:List Expr}{t:TA}{i:Nat}
theorem iB.fnAt {P:az}{w:bc}{H:Hp}{h:Heap}{f:ay}{l:bC}(q:iB H f l)(ok:bT P w H h):PySem.W.FnAt f h:=by
 obtain⟨pm,ctv,c,ho,_⟩:=q.at ok
 exact⟨_,_,_,_,ho⟩
noncomputable def bd1 (i:Nat)(G:bC->Sp->Prop)(E:XK)(t:TA):TE:=λσ H Q=>∃f l sp,σ[i]? = some (some (.ref f))/\iB H f l/\G l sp/\t σ H λvs H1=>iB H1 f l/\sp vs H1 Q E
theorem bd2 {G:bC->Sp->Prop}(F:∀l sp,G l sp->wS X.prog X.w X.K X.mg X.base CX k l sp)(hr:bM k X.A)(hN:X.N[i]? = some x)(hv:eQ X.env.scope x)(hx:lO CX X E)(ha:PA X (e::es) t)(hdb:(x==("__debug__":Str))=false:=by decide)(hcd:(x==("__classdict__":Str))=false:=by decide)(he:starEach (e::es) X.env=(false,eval e X.env)::starEach es X.env:=by rfl)(hpl:(backTo pos (starEach es X.env)).any (·.1)=false:=by rfl) :
  PE X (.Call (.Name x p) (e::es) [] pos) (bd1 i G E t):=by
 intro ai s σ H Q I h
 obtain⟨f,l,sp,hσ,la,g,h⟩:=h
 refine bC6 (aO (i6 (pos:=p) hN hv hdb hcd ai s σ H (λv H'=>v = .ref f/\H'=H) I ⟨_,hσ,rfl,rfl⟩) λu s0 h0=>?_)
 obtain⟨v,H',I0,r0,rfl,rfl⟩:=h0
 obtain rfl:u = .ref f:=r0;refine PySem.W.callWith_F (la.fnAt I0.hok) (aO (ha pos ai s0 σ H' _ I0 h) λus s1 ⟨vs,H1,I1,r,la1,q⟩=>⟨la1.fnAt I1.hok,?_⟩) he hpl;refine wpAny_call (codeAny_mono ((F l sp g).run X.A X.stack s1 H1 f us vs Q E hr I1.env0 la1 r q) λrs s' hq=>?_);cases rs with
 |error ev=>exact hx ai σ H1 s1 ev s' I1 hq
 |ok fl=>
  cases fl with
  |ret u=>exact I1.after hq
  |next=>exact False.elim hq
  |brk=>exact False.elim hq
  |cont=>exact False.elim hq
end
end L2
namespace PP
open PySem L2 PyProof.Rows PySem.Spec
section
variable {X:Cx}{σ:L2.St}{H:Hp}{tr:bX}{Q':VK}{e:Expr}{es:List Expr}{pos p2 np:Pos}{P0:ay}{l:bC}
noncomputable def qY (l:bC):aH:=λ_ Q=>Q (.lm l) .fr
theorem bd3 (hT:∃t:Tok,X.H₀ P0=some (.tbl #[.str l.qual t]))(h:LE X (qY l) σ H Q'):O4 P0 l σ H Q':=by
 obtain⟨W,ρ,Q,px,q,k⟩:=h
 obtain⟨t,hT⟩:=hT
 exact⟨⟨t,px.same _ _ hT⟩,λf H' s hf la=>k (.ref f) H' (.lm l) .fr s (.lm la) q⟩
theorem zV {params:Arguments}{body:Expr}{scope:Scope}{c0:ay}(hT:∃t:Tok,X.H₀ P0=some (.tbl #[.str l.qual t]))(hl:l=⟨X.env.qual++"<lambda>",params,body,scope⟩)(hcode:X.env.code = .ref c0)(hK:PySem.W.codeHdIn X.K c0 P0=true)(B:iP X.base X.mg P0)(hgP:mainGlobals≠P0)(hdef:defaultsOf params X.env=([],[]):=by rfl)(hcl:closureFor scope X.env=pure []:=by rfl):QE X (.Lambda params body scope pos) (qY l):=
 bV (aB6 hl hcode hK B hgP hdef hcl) λ_ _ _=>bd3 hT
noncomputable def gQ (P:az)(w:bc)(K:ad)(mg:Str->Option aw)(base:Heap)(k:Nat)(l:bC)(p:b9):Prop:=wS P w K mg base cG k l (nK K p)
noncomputable def zW (i:Nat)(tab:List (bC×b9))(t:bX):aH:=λρ Q=>∃g l p,ρ[i]? = some (some (.sh g (.lm l)))/\(l,p)∈tab/\aP p t ρ Q
theorem qZ (i:Nat){k j:Nat}{x:Str}{tab:List (bC×b9)}(ds:∀z,z∈tab->gQ X.prog X.w X.K X.mg X.base k z.1 z.2)(hr:bM j X.A)(ha:QA X (e::es) tr)(hkj:k<=j:=by decide)(hN:X.N[i]? = some x:=by rfl)(hv:eQ X.env.scope x:=by first|exact Or.inl rfl|exact Or.inr (Or.inl rfl)|exact Or.inr (Or.inr rfl))(hdb:(x==("__debug__":Str))=false:=by decide)(hcd:(x==("__classdict__":Str))=false:=by decide)(he:starEach (e::es) X.env=(false,eval e X.env)::starEach es X.env:=by rfl)(hpl:(backTo pos (starEach es X.env)).any (·.1)=false:=by rfl):QE X (.Call (.Name x p2) (e::es) [] pos) (zW i tab tr):=by
 refine bV (bd2 (k:=k) (t:=LA X tr) (E:=E0) (CX:=cG) (G:=λl sp=>∃z,z∈tab/\z.1=l/\sp=nK X.K z.2) (λl sp g=>?_) (hr.mono hkj) hN hv nB ha hdb hcd he hpl) λσ H Q' h=>?_
 ·obtain⟨z,hz,rfl,rfl⟩:=g
  exact ds z hz
 obtain⟨W,ρ,Q,px,⟨g,l,p,hi,hz,q⟩,k⟩:=h
 obtain⟨v,hv,r⟩:=px.sl i _ hi
 have r:aG X.K (Ms X.H₀ W g) H v (.lm l):=r;cases r with
 |lm la=>
  refine⟨_,l,_,hv,la,⟨_,hz,rfl,rfl⟩,W,ρ,_,px,q,λvs H1 xs s1 r1 q1=>⟨la.same s1,_,_,r1.any,q1,λv H' x s2 r2 q2=>k v H' x .fr (s1.trans s2) (r2.same (aI.refl _) λ_ z=>s1.free z) q2⟩⟩
theorem gQ.of {P:az}{w:bc}{K:ad}{mg:Str->Option aw}{base:Heap}{k:Nat}{l:bC}{N ps:List Str}{p:b9}(S:FnScope N ps l.scope)(hb:∀(pm cv ctv:aw) (us:List aw),us.length=ps.length->bindArgs (wR l pm cv ctv) ⟨us,[]⟩=pure (ps.zip us))(len:∀xs Q,p xs Q->xs.length=ps.length)(body:∀(f:ay) (cv:aw) (A:ba) (outer:List Env) (s:ax) (H:Hp) (E:XK),bM k (A.deeper (envOfC l.qual l.scope s.heap.objs.size f cv))->
   ∃t,QE (cJ cG P w K mg base N l.qual l.scope f cv A outer s H E) l.body t/\∀xs Q,p xs Q->t (bG N xs) λx _=>flat x=true/\Q x):gQ P w K mg base (k+1) l p:=by
 refine aB7 S hb (λvs H Q E h=>?_) λA outer s H f cv vs Q E hr h=>?_
 ·obtain⟨xs,Qp,r,q,_⟩:=h
  rw[r.length];exact len xs Qp q
 ·obtain⟨xs,Qp,r,q,k⟩:=h
  obtain⟨t,ht,hq⟩:=body f cv A outer s H E hr
  exact⟨_,ht,λ_=>False,bG N xs,_,kY r,hq xs Qp q,λv H' x g s rx ⟨fx,qx⟩=>k v H' x s (rx.flat fx) qx⟩
end
noncomputable def jn {κ:Type}[DecidableEq κ](J:PV->PV->PV)(ps:List (κ×PV))(k:κ)(z:PV):PV:=match dJ ps k with
 |none=>z
 |some w=>J w z
noncomputable def ag8 (K:ad)(g:PV)(Ok:PV->Prop)(J:PV->PV->PV):Sp:=λvs H Q _=>∃d b y f ks kvs ps z,vs = [.ref d,.ref b,y,f]/\H d=some (.dA kvs)/\fP H ks b/\kvs.map (·.1)=ps.map (·.1)/\Reps K (λ_=>True) H (kvs.map (·.2)) (ps.map (·.2))/\
 (∀w,dJ ps ks=some w->Ok w)/\aG K (λ_=>True) H y z/\flat z=true/\Ok z/\aG K (λ_=>True) H f g/\ps.length<16000000/\∀H' v,aI H H'->aG K (λ_=>False) H' v (jn J ps ks z)->flat (jn J ps ks z)=true->Q .non (upd H' d (.dA (fU kvs ks v)))
noncomputable def ag9 (K:ad)(g:PV)(Ok:PV->Prop)(J:PV->PV->PV):Sp:=λvs H Q _=>∃d x y f ks kvs ps z,vs = [.ref d,x,y,f]/\H d=some (.dB kvs)/\lR ks x/\kvs.map (·.1)=ps.map (·.1)/\Reps K (λ_=>True) H (kvs.map (·.2)) (ps.map (·.2))/\
 (∀w,dJ ps ks=some w->Ok w)/\aG K (λ_=>True) H y z/\flat z=true/\Ok z/\aG K (λ_=>True) H f g/\ps.length<16000000/\∀H' v,aI H H'->aG K (λ_=>False) H' v (jn J ps ks z)->flat (jn J ps ks z)=true->Q .non (upd H' d (.dB (fU kvs ks v)))
structure kJ (P:az)(w:bc)(K:ad)(mg:Str->Option aw)(base:Heap)(k:Nat)(x:Str)(ps:List Str)(g:PV)(Ok:PV->Prop)(J:PV->PV->PV):Prop where
 ex:∃f fd,d7 P w K mg base cG k f fd ps (ag8 K g Ok J)/\i8 K fd ps []/\PySem.W.keepIn K (.ref f)=true/\mg x=some (.ref f)
structure kK (P:az)(w:bc)(K:ad)(mg:Str->Option aw)(base:Heap)(k:Nat)(x:Str)(ps:List Str)(g:PV)(Ok:PV->Prop)(J:PV->PV->PV):Prop where
 ex:∃f fd,d7 P w K mg base cG k f fd ps (ag9 K g Ok J)/\i8 K fd ps []/\PySem.W.keepIn K (.ref f)=true/\mg x=some (.ref f)
noncomputable def ah0:cO:=bL (oH false (aB 1) (aB 0))
theorem bd4 {k:Int}{x:V}{K:ad}{M:ay->Prop}{H:Hp}(n:lR k x):∃y,qX k y/\aG K M H x y:=by
 rcases n with rfl|⟨b,rfl,e⟩
 ·exact⟨.int k,.inl rfl,.int _⟩
 ·exact⟨.bl b,.inr ⟨b,rfl,e⟩,.bl _⟩
section
variable {P:az}{w:bc}{K:ad}{mg:Str→Option aw}{base:Heap}{k:Nat}{x:Str}{p1 p2 p3 p4:Str}{st:Stmt}{f:ay}{fd:FuncData}{g:PV}{Ok:PV→Prop}{J:PV→PV→PV}
theorem kJ.of (F:bK K x x st f fd)(m:mg x=some (.ref f))(S:FnScope [p1,p2,p3,p4] [p1,p2,p3,p4] (aJ st))(hb:∀(kV doc pm:aw) (an:Option ay) (cdv ct:aw) (us:List aw),us.length = [p1,p2,p3,p4].length->bindArgs (PySem.W.fnOf x x (bE st) (bA st) (aJ st) .none kV doc pm an cdv ct) ⟨us,[]⟩=pure ([p1,p2,p3,p4].zip us))(body:∀(cdv:aw) (A:ba) (outer:List Env) (s:ax) (H:Hp) (E:XK),bM k (A.deeper (envOfC x (aJ st) s.heap.objs.size f cdv))->
   ∃te:aH,dN (cJ cG P w K mg base [p1,p2,p3,p4] x (aJ st) f cdv A outer s H E).nox (bA st) (rV (LT (cJ cG P w K mg base [p1,p2,p3,p4] x (aJ st) f cdv A outer s H E).nox ah0)
    (nG (dF 0) (dF 1) (LE (cJ cG P w K mg base [p1,p2,p3,p4] x (aJ st) f cdv A outer s H E).nox te)) (nG (dF 0) (dF 1) (dF 2)))/\
    ∀d y w z,lE d y (some w)->Ok w->Ok z->te (bG [p1,p2,p3,p4] [d,y,z,g]) λv _=>v=J w z/\flat v=true):kJ P w K mg base (k+1) x [p1,p2,p3,p4] g Ok J:=by
 refine⟨f,fd,F.ok S (λvs H Q E h=>?_) (λcdv A outer s H vs Q E hr h=>?_),F.binds hb,F.kp,m⟩
 ·obtain⟨d,b,y,f',ks,kvs,ps,z,rfl,_⟩:=h
  rfl
 ·obtain⟨te,hbd,hte⟩:=body cdv A outer s H E hr
  refine⟨_,hbd,?_⟩
  obtain⟨d,b,y,f',ks,kvs,ps,z,rfl,ed,eb,e1,r,al,ry,fz,oz,rg,hl,q⟩:=h
  have px:=kY (N:=[p1,p2,p3,p4]) (K:=K) (H:=H) (vs:=[.ref d,.ref b,y,f']) (xs:=[.dA ps,kH ks,z,g]) (.cons (.dA trivial ed e1 r) (.cons (ab8 eb) (.cons ry (.cons rg .nil))));refine⟨_,_,λc=>c=(dJ ps ks).isSome,px,⟨_,rfl,_,rfl,dJ ps ks,.inl ⟨ps,ks,rfl,rfl,rfl⟩,_,rfl,rfl⟩,λc H1 s1 ec=>?_⟩;subst ec;cases ev:dJ ps ks with
  |none=>
   rw[if_neg (by simp)];have ej:jn J ps ks z=z:=by unfold jn;rw[ev]
   refine⟨y,rfl,.ref d,rfl,.ref b,rfl,d,_,rfl,.inl ⟨_,ks,b,s1 _ _ ed,rfl,eb.keeps λc xs e=>s1 _ _ e,iO (by rw[nN e1];omega),rfl⟩,q H1 y s1 ?_ ?_⟩
   ·rw[ej];exact (ry.flat fz).same s1 λ_ z=>z
   ·rw[ej];exact fz
  |some w=>
   rw[if_pos (by rfl)];have ej:jn J ps ks z=J w z:=by unfold jn;rw[ev]
   refine⟨_,_,_,px.mono s1,hte (.dA ps) (kH ks) w z (.inl ⟨ps,ks,rfl,rfl,ev.symm⟩) (al w ev) oz,λv H2 v2 g2 s2 rv hv=>?_⟩
   obtain⟨rfl,fv⟩:=hv
   have s12:=s1.trans s2;refine⟨.ref d,rfl,.ref b,rfl,d,_,rfl,.inl ⟨_,ks,b,s12 _ _ ed,rfl,eb.keeps λc xs e=>s12 _ _ e,iO (by rw[nN e1];omega),rfl⟩,q H2 v s12 ?_ ?_⟩
   ·rw[ej];exact rv.flat fv
   ·rw[ej];exact fv
theorem kK.of (F:bK K x x st f fd)(m:mg x=some (.ref f))(S:FnScope [p1,p2,p3,p4] [p1,p2,p3,p4] (aJ st))(hb:∀(kV doc pm:aw) (an:Option ay) (cdv ct:aw) (us:List aw),us.length = [p1,p2,p3,p4].length->bindArgs (PySem.W.fnOf x x (bE st) (bA st) (aJ st) .none kV doc pm an cdv ct) ⟨us,[]⟩=pure ([p1,p2,p3,p4].zip us))(body:∀(cdv:aw) (A:ba) (outer:List Env) (s:ax) (H:Hp) (E:XK),bM k (A.deeper (envOfC x (aJ st) s.heap.objs.size f cdv))->
   ∃te:aH,dN (cJ cG P w K mg base [p1,p2,p3,p4] x (aJ st) f cdv A outer s H E).nox (bA st) (rV (LT (cJ cG P w K mg base [p1,p2,p3,p4] x (aJ st) f cdv A outer s H E).nox ah0)
    (nG (dF 0) (dF 1) (LE (cJ cG P w K mg base [p1,p2,p3,p4] x (aJ st) f cdv A outer s H E).nox te)) (nG (dF 0) (dF 1) (dF 2)))/\
    ∀d y w z,lE d y (some w)->Ok w->Ok z->te (bG [p1,p2,p3,p4] [d,y,z,g]) λv _=>v=J w z/\flat v=true):kK P w K mg base (k+1) x [p1,p2,p3,p4] g Ok J:=by
 refine⟨f,fd,F.ok S (λvs H Q E h=>?_) (λcdv A outer s H vs Q E hr h=>?_),F.binds hb,F.kp,m⟩
 ·obtain⟨d,b,y,f',ks,kvs,ps,z,rfl,_⟩:=h
  rfl
 ·obtain⟨te,hbd,hte⟩:=body cdv A outer s H E hr
  refine⟨_,hbd,?_⟩
  obtain⟨d,xv,y,f',ks,kvs,ps,z,rfl,ed,en,e1,r,al,ry,fz,oz,rg,hl,q⟩:=h
  obtain⟨xp,np,rx⟩:=bd4 (K:=K) (M:=λ_=>True) (H:=H) en
  have px:=kY (N:=[p1,p2,p3,p4]) (K:=K) (H:=H) (vs:=[.ref d,xv,y,f']) (xs:=[.dB ps,xp,z,g]) (.cons (.dB trivial ed e1 r) (.cons rx (.cons ry (.cons rg .nil))));refine⟨_,_,λc=>c=(dJ ps ks).isSome,px,⟨_,rfl,_,rfl,dJ ps ks,.inr ⟨ps,ks,rfl,np,rfl⟩,_,rfl,rfl⟩,λc H1 s1 ec=>?_⟩;subst ec;cases ev:dJ ps ks with
  |none=>
   rw[if_neg (by simp)];have ej:jn J ps ks z=z:=by unfold jn;rw[ev]
   refine⟨y,rfl,.ref d,rfl,xv,rfl,d,_,rfl,.inr ⟨_,ks,s1 _ _ ed,en,iO (by rw[nN e1];omega),rfl⟩,q H1 y s1 ?_ ?_⟩
   ·rw[ej];exact (ry.flat fz).same s1 λ_ z=>z
   ·rw[ej];exact fz
  |some w=>
   rw[if_pos (by rfl)];have ej:jn J ps ks z=J w z:=by unfold jn;rw[ev]
   refine⟨_,_,_,px.mono s1,hte (.dB ps) xp w z (.inr ⟨ps,ks,rfl,np,ev.symm⟩) (al w ev) oz,λv H2 v2 g2 s2 rv hv=>?_⟩
   obtain⟨rfl,fv⟩:=hv
   have s12:=s1.trans s2;refine⟨.ref d,rfl,xv,rfl,d,_,rfl,.inr ⟨_,ks,s12 _ _ ed,en,iO (by rw[nN e1];omega),rfl⟩,q H2 v s12 ?_ ?_⟩
   ·rw[ej];exact rv.flat fv
   ·rw[ej];exact fv
end
section
variable {X:Cx}{σ:L2.St}{H:Hp}{D:dZ}{t1 t2 t3:aH}{g:PV}{Ok:PV→Prop}{J:PV→PV→PV}
noncomputable def zX (i:Nat)(g:PV)(Ok:PV->Prop)(J:PV->PV->PV)(t1 t2 t3:aH):aX:=λD ρ=>∃ps,ρ[i]? = some (some (.own (.dA ps)))/\t1 ρ λy _=>t2 ρ λz _=>t3 ρ λf _=>∃k,y=kH k/\f=g/\flat z=true/\Ok z/\(∀w,dJ ps k=some w->Ok w)/\ps.length<16000000/\D.nx (ρ.set i (some (.own (.dA (fY ps k (jn J ps k z))))))
noncomputable def zY (i:Nat)(g:PV)(Ok:PV->Prop)(J:PV->PV->PV)(t1 t2 t3:aH):aX:=λD ρ=>∃ps,ρ[i]? = some (some (.own (.dB ps)))/\t1 ρ λy _=>t2 ρ λz _=>t3 ρ λf _=>∃k,qX k y/\f=g/\flat z=true/\Ok z/\(∀w,dJ ps k=some w->Ok w)/\ps.length<16000000/\D.nx (ρ.set i (some (.own (.dB (fY ps k (jn J ps k z))))))
theorem bd5 {i:Nat}(h:LS X (zX i g Ok J t1 t2 t3) D σ H):n4 (nA (ag8 X.K g Ok J) [] E0 (gD (dF i) (gD (LE X t1) (gD (LE X t2) (gD (LE X t3) kP))))) D σ H:=by
 obtain⟨W,ρ,D',px,⟨ps,hi,q⟩,k⟩:=h
 obtain⟨v,ev,a,rfl,wa,kvs,ea,e1,r⟩:=px.sl i _ hi
 refine⟨_,ev,W,ρ,_,px,q,?_⟩;intro v1 H1 y g1 s1 r1 q1;refine⟨W,ρ,_,px.mono s1,q1,?_⟩;intro v2 H2 z g2 s2 r2 q2;refine⟨W,ρ,_,px.mono (s1.trans s2),q2,?_⟩;rintro v3 H3 f g3 s3 r3 ⟨kk,rfl,rfl,fz,oz,al,hl,q3⟩
 obtain⟨b,rfl,hb⟩:=uJ r1
 have s23:=s2.trans s3;have s13:=s1.trans s23;have ea3:=s13 _ _ ea;refine⟨a,b,v2,v3,kk,kvs,ps,z,rfl,ea3,hb.keeps λc xs e=>s23 _ _ e,e1,r.same s13 λ_ _=>trivial,al,((r2.flat (M':=λ_=>True) fz).same s3 λ_ z=>z),fz,oz,r3.same (aI.refl _) λ_ _=>trivial,hl,λH4 v s4 rv fv=>?_⟩;have s14:=s13.trans s4;have ea4:=s4 _ _ ea3
 obtain⟨h1,h2⟩:=x6 kk (rv.flat (M':=Ms X.H₀ W true) fv) e1 (r.same s14 λ_ z=>z)
 exact k.nx W σ _ _ ((Ev.same s14).trans (Ev.upd wa)) ((px.mono s14).updOwn hi ev wa rfl (y:=.dA (fY ps kk (jn J ps kk z))) ⟨_,bH,h1,h2.keep (.upd ea4 rfl λb m=>⟨j6 wa m,m⟩)⟩) q3
theorem bd6 {i:Nat}(h:LS X (zY i g Ok J t1 t2 t3) D σ H):n4 (nA (ag9 X.K g Ok J) [] E0 (gD (dF i) (gD (LE X t1) (gD (LE X t2) (gD (LE X t3) kP))))) D σ H:=by
 obtain⟨W,ρ,D',px,⟨ps,hi,q⟩,k⟩:=h
 obtain⟨v,ev,a,rfl,wa,kvs,ea,e1,r⟩:=px.sl i _ hi
 refine⟨_,ev,W,ρ,_,px,q,?_⟩;intro v1 H1 y g1 s1 r1 q1;refine⟨W,ρ,_,px.mono s1,q1,?_⟩;intro v2 H2 z g2 s2 r2 q2;refine⟨W,ρ,_,px.mono (s1.trans s2),q2,?_⟩;rintro v3 H3 f g3 s3 r3 ⟨kk,n,rfl,fz,oz,al,hl,q3⟩;have s23:=s2.trans s3;have s13:=s1.trans s23;have ea3:=s13 _ _ ea;refine⟨a,v1,v2,v3,kk,kvs,ps,z,rfl,ea3,n.rep r1,e1,r.same s13 λ_ _=>trivial,al,((r2.flat (M':=λ_=>True) fz).same s3 λ_ z=>z),fz,oz,r3.same (aI.refl _) λ_ _=>trivial,hl,λH4 v s4 rv fv=>?_⟩;have s14:=s13.trans s4;have ea4:=s4 _ _ ea3
 obtain⟨h1,h2⟩:=x6 kk (rv.flat (M':=Ms X.H₀ W true) fv) e1 (r.same s14 λ_ z=>z)
 exact k.nx W σ _ _ ((Ev.same s14).trans (Ev.upd wa)) ((px.mono s14).updOwn hi ev wa rfl (y:=.dB (fY ps kk (jn J ps kk z))) ⟨_,bH,h1,h2.keep (.upd ea4 rfl λb m=>⟨j6 wa m,m⟩)⟩) q3
theorem ah1 {k j:Nat}{x y:Str}{ps:List Str}{a b c:Expr}{p2 p3 pos pos2:Pos}(d:kJ X.prog X.w X.K X.mg X.base k x ps g Ok J)(hr:bM j X.A)(i:Nat)(ha:QE X a t1)(hb:QE X b t2)(hc:QE X c t3)(hkj:k<=j:=by decide)(hN:X.N[i]? = some y:=by rfl)(hv:eQ X.env.scope y:=by first|exact Or.inl rfl|exact Or.inr (Or.inl rfl)|exact Or.inr (Or.inr rfl))(hd:(y==("__debug__":Str))=false:=by decide)(hcd:(y==("__classdict__":Str))=false:=by decide)(hg:Gl X x:=by rfl)(hdb:(x==("__debug__":Str))=false:=by decide)(he:starEach [.Name y p3,a,b,c] X.env=(false,eval (.Name y p3) X.env)::starEach [a,b,c] X.env:=by rfl)(he2:starEach [a,b,c] X.env=(false,eval a X.env)::starEach [b,c] X.env:=by rfl)(he3:starEach [b,c] X.env=(false,eval b X.env)::starEach [c] X.env:=by rfl)(he4:starEach [c] X.env=(false,eval c X.env)::starEach [] X.env:=by rfl)(hpl:(backTo pos (starEach [a,b,c] X.env)).any (·.1)=false:=by rfl)(hs:swapsWith (.Call (.Name x p2) [.Name y p3,a,b,c] [] pos) none pos2.line X.env=pure false:=by rfl):QS X (.Expr (.Call (.Name x p2) [.Name y p3,a,b,c] [] pos) pos2) (zX i g Ok J t1 t2 t3):=by
 obtain⟨f,fd,F,b,kp,m⟩:=d.ex
 exact e9 (lJ (p8 F (hr.mono hkj) hg m kp b .nil nB (eR (i6 hN hv hd hcd) (eR ha (eR hb (eR hc iM he4) he3) he2) he) hdb he hpl) hs) λ_ _ _=>bd5
theorem ah2 {k j:Nat}{x y:Str}{ps:List Str}{a b c:Expr}{p2 p3 pos pos2:Pos}(d:kK X.prog X.w X.K X.mg X.base k x ps g Ok J)(hr:bM j X.A)(i:Nat)(ha:QE X a t1)(hb:QE X b t2)(hc:QE X c t3)(hkj:k<=j:=by decide)(hN:X.N[i]? = some y:=by rfl)(hv:eQ X.env.scope y:=by first|exact Or.inl rfl|exact Or.inr (Or.inl rfl)|exact Or.inr (Or.inr rfl))(hd:(y==("__debug__":Str))=false:=by decide)(hcd:(y==("__classdict__":Str))=false:=by decide)(hg:Gl X x:=by rfl)(hdb:(x==("__debug__":Str))=false:=by decide)(he:starEach [.Name y p3,a,b,c] X.env=(false,eval (.Name y p3) X.env)::starEach [a,b,c] X.env:=by rfl)(he2:starEach [a,b,c] X.env=(false,eval a X.env)::starEach [b,c] X.env:=by rfl)(he3:starEach [b,c] X.env=(false,eval b X.env)::starEach [c] X.env:=by rfl)(he4:starEach [c] X.env=(false,eval c X.env)::starEach [] X.env:=by rfl)(hpl:(backTo pos (starEach [a,b,c] X.env)).any (·.1)=false:=by rfl)(hs:swapsWith (.Call (.Name x p2) [.Name y p3,a,b,c] [] pos) none pos2.line X.env=pure false:=by rfl):QS X (.Expr (.Call (.Name x p2) [.Name y p3,a,b,c] [] pos) pos2) (zY i g Ok J t1 t2 t3):=by
 obtain⟨f,fd,F,b,kp,m⟩:=d.ex
 exact e9 (lJ (p8 F (hr.mono hkj) hg m kp b .nil nB (eR (i6 hN hv hd hcd) (eR ha (eR hb (eR hc iM he4) he3) he2) he) hdb he hpl) hs) λ_ _ _=>bd6
end
end PP
namespace L2
open PySem PySem.Spec PyProof.Rows
section
variable {X:Cx}{CX:fD}{k:Nat}{E:XK}{x:Str}{p pos:Pos}{e:Expr}{es:List Expr}{t:TA}{i:Nat}
noncomputable def bd7 (i:Nat)(G:ay->Sp->Prop)(E:XK)(t:TA):TE:=λσ H Q=>∃f sp,σ[i]? = some (some (.ref f))/\G f sp/\t σ H λvs H1=>sp vs H1 Q E
theorem bd8 {G:ay->Sp->Prop}(F:∀f sp,G f sp->∃fd ps,d7 X.prog X.w X.K X.mg X.base CX k f fd ps sp/\PySem.W.keepIn X.K (.ref f)=true/\i8 X.K fd ps [])(hr:bM k X.A)(hN:X.N[i]? = some x)(hv:eQ X.env.scope x)(hx:lO CX X E)(ha:PA X (e::es) t)(hdb:(x==("__debug__":Str))=false:=by decide)(hcd:(x==("__classdict__":Str))=false:=by decide)(he:starEach (e::es) X.env=(false,eval e X.env)::starEach es X.env:=by rfl)(hpl:(backTo pos (starEach es X.env)).any (·.1)=false:=by rfl) :
  PE X (.Call (.Name x p) (e::es) [] pos) (bd7 i G E t):=by
 intro ai s σ H Q I h
 obtain⟨f,sp,hσ,g,h⟩:=h
 obtain⟨fd,ps,F,hk,hb⟩:=F f sp g
 refine bC6 (aO (i6 (pos:=p) hN hv hdb hcd ai s σ H (λv H'=>v = .ref f/\H'=H) I ⟨_,hσ,rfl,rfl⟩) λu s0 h0=>?_)
 obtain⟨v,H',I0,r0,rfl,rfl⟩:=h0
 obtain rfl:u = .ref f:=r0;refine PySem.W.callWith_K (h₀:=X.base) I0.ok.mod.kin hk (aO (ha pos ai s0 σ H' _ I0 h) λus s1 ⟨vs,H1,I1,r,q⟩=>⟨I1.kIn,?_⟩) he hpl;exact J7 F hr hb .nil hx I1 r (by rw[bu0];exact q)
end
end L2
namespace PP
open PySem L2 PyProof.Rows PySem.Spec
section
variable {X:Cx}{σ:L2.St}{H:Hp}{tr:bX}{Q':VK}{e:Expr}{es:List Expr}{pos p2 np:Pos}
noncomputable def ah3 (i:Nat)(tab:List (Str×b9))(t:bX):aH:=λρ Q=>∃g x p,ρ[i]? = some (some (.sh g (.fn x)))/\(x,p)∈tab/\aP p t ρ Q
theorem bd9 (i:Nat){k j:Nat}{x:Str}{tab:List (Str×b9)}(ds:∀z,z∈tab->(∃f,X.mg z.1=some (.ref f)/\PySem.W.nsIn X.K mainGlobals z.1=some (some (.ref f)))/\∃ps,Df X.prog X.w X.K X.mg X.base k z.1 ps z.2)(hr:bM j X.A)(ha:QA X (e::es) tr)(hkj:k<=j:=by decide)(hN:X.N[i]? = some x:=by rfl)(hv:eQ X.env.scope x:=by first|exact Or.inl rfl|exact Or.inr (Or.inl rfl)|exact Or.inr (Or.inr rfl))(hdb:(x==("__debug__":Str))=false:=by decide)(hcd:(x==("__classdict__":Str))=false:=by decide)(he:starEach (e::es) X.env=(false,eval e X.env)::starEach es X.env:=by rfl)(hpl:(backTo pos (starEach es X.env)).any (·.1)=false:=by rfl):QE X (.Call (.Name x p2) (e::es) [] pos) (ah3 i tab tr):=by
 refine bV (bd8 (k:=k) (t:=LA X tr) (E:=E0) (CX:=cG) (G:=λf sp=>∃z,z∈tab/\X.mg z.1=some (.ref f)/\sp=nK X.K z.2) (λf sp g=>?_) (hr.mono hkj) hN hv nB ha hdb hcd he hpl) λσ H Q' h=>?_
 ·obtain⟨z,hz,m,rfl⟩:=g
  obtain⟨_,ps,d⟩:=ds z hz
  obtain⟨f',fd,F,b,kp,m'⟩:=d.ex
  rw[m]at m';cases m'
  exact⟨fd,ps,F,kp,b⟩
 obtain⟨W,ρ,Q,px,⟨g,y,p,hi,hz,q⟩,k⟩:=h
 obtain⟨v,hv,r⟩:=px.sl i _ hi
 have r:aG X.K (Ms X.H₀ W g) H v (.fn y):=r;cases r with
 |fn n=>
  obtain⟨f,m,n'⟩:=(ds _ hz).1
  rw[n']at n;cases n
  exact⟨_,_,hv,⟨_,hz,m,rfl⟩,W,ρ,_,px,q,λvs H1 xs s1 r1 q1=>⟨_,_,r1.any,q1,λv H' x s2 r2 q2=>k v H' x .fr (s1.trans s2) (r2.same (aI.refl _) λ_ z=>s1.free z) q2⟩⟩
end
noncomputable def gR (T:List (ay×Str))(H:Hp):Prop:=∀z∈T,∃t:Tok,H z.1=some (.tbl #[.str z.2 t])
theorem gR.same {T:List (ay×Str)}{H H':Hp}(h:gR T H)(s:aI H H'):gR T H':=λz hz=>let ⟨t,e⟩:=h z hz;⟨t,s _ _ e⟩
noncomputable def r6 (K:ad)(T:List (ay×Str))(p:b9):Sp:=λvs H Q E=>gR T H/\nK K p vs H Q E
structure eO (P:az)(w:bc)(K:ad)(mg:Str->Option aw)(base:Heap)(T:List (ay×Str))(k:Nat)(x:Str)(ps:List Str)(p:b9):Prop where
 ex:∃f fd,d7 P w K mg base cG k f fd ps (r6 K T p)/\i8 K fd ps []/\PySem.W.keepIn K (.ref f)=true/\mg x=some (.ref f)
section
variable {X:Cx}{σ:L2.St}{H:Hp}{tr:bX}{Q':VK}{e:Expr}{es:List Expr}{pos p2:Pos}{T:List (ay×Str)}
theorem be0 {p:b9}{E:XK}(hT:gR T X.H₀)(h:LE X (aP p tr) σ H Q'):nA (r6 X.K T p) [] E (LA X tr) σ H Q':=by
 obtain⟨W,ρ,Q,px,q,k⟩:=h
 exact⟨W,ρ,_,px,q,λvs H1 xs s1 r1 q1=>⟨hT.same (px.same.trans s1),_,_,by rw[bu0];exact r1.any,q1,λv H' x s2 r2 q2=>k v H' x .fr (s1.trans s2) (r2.same (aI.refl _) λ_ z=>s1.free z) q2⟩⟩
theorem mV {k j:Nat}{x:Str}{ps:List Str}{p:b9}(hT:gR T X.H₀)(d:eO X.prog X.w X.K X.mg X.base T k x ps p)(hr:bM j X.A)(ha:QA X (e::es) tr)(hkj:k<=j:=by decide)(hg:Gl X x:=by rfl)(hdb:(x==("__debug__":Str))=false:=by decide)(he:starEach (e::es) X.env=(false,eval e X.env)::starEach es X.env:=by rfl)(hpl:(backTo pos (starEach es X.env)).any (·.1)=false:=by rfl):QE X (.Call (.Name x p2) (e::es) [] pos) (aP p tr):=by
 obtain⟨f,fd,F,b,kp,m⟩:=d.ex
 exact bV (p8 F (hr.mono hkj) hg m kp b .nil nB ha hdb he hpl) λ_ _ _=>be0 hT
theorem eO.of {P:az}{w:bc}{K:ad}{mg:Str->Option aw}{base:Heap}{k:Nat}{x:Str}{ps N:List Str}{p:b9}{st:Stmt}{f:ay}{fd:FuncData}(F:bK K x x st f fd)(m:mg x=some (.ref f))(S:FnScope N ps (aJ st))(hb:∀(kV doc pm:aw) (an:Option ay) (cdv ct:aw) (us:List aw),us.length=ps.length->bindArgs (PySem.W.fnOf x x (bE st) (bA st) (aJ st) .none kV doc pm an cdv ct) ⟨us,[]⟩=pure (ps.zip us))(len:∀xs Q,p xs Q->xs.length=ps.length)(body:∀(cdv:aw) (A:ba) (outer:List Env) (s:ax) (H:Hp) (E:XK),bM k (A.deeper (envOfC x (aJ st) s.heap.objs.size f cdv))->gR T H->
   ∃t,g8 (cJ cG P w K mg base N x (aJ st) f cdv A outer s H E).nox (bA st) t/\∀xs Q,p xs Q->t { nx:=λ_=>Q .non,rt:=Q } (bG N xs)):eO P w K mg base T (k+1) x ps p:=by
 refine⟨f,fd,F.ok S (λvs H Q E h=>?_) (λcdv A outer s H vs Q E hr h=>?_),F.binds hb,F.kp,m⟩
 ·obtain⟨_,xs,Qp,r,q,_⟩:=h
  rw[r.length];exact len xs Qp q
 ·obtain⟨hT,xs,Qp,r,q,k⟩:=h
  obtain⟨t,ht,hq⟩:=body cdv A outer s H E hr hT
  refine⟨_,ht,λ_=>False,bG N xs,_,kY r,hq xs Qp q,?_,?_,?_,?_⟩
  ·exact λW' σ' H' ρ' e px q=>k _ _ _ px.same .non q
  ·exact λv H' x s r q=>k _ _ _ s r q
  ·exact λW' σ' H' ρ' e px q=>q
  ·exact λW' σ' H' ρ' e px q=>q
end
end PP
namespace L2
open PySem PySem.Spec PyProof.Rows
noncomputable def jH (T:List (ay×Str)):Hp:=λb=>(T.find? λz=>decide (z.1=b)).map λz=>.tbl #[.str z.2 0]
noncomputable def r9 (H:Hp):Prop:=∀b,H b=none∨(∃o xs,H b=some (.frz o (.lst xs)))∨∃ps,H b=some (.tbl ps)
noncomputable def ah4 (K:ad)(h:Heap)(T:List (ay×Str)):Prop:=(∀z∈T,h.get? z.1=some (PySem.W.tabObj #[])/\K.lookup z.1=none/\isCodeTable h z.1)/\(T.map (·.1)).Nodup
theorem ah5 (T:List (ay×Str)):r9 (jH T):=λb=>by
 unfold jH;cases T.find? λz=>decide (z.1=b) with
 |none=>exact .inl rfl
 |some z=>exact .inr (.inr ⟨_,rfl⟩)
theorem zZ {T:List (ay×Str)}{b:ay}(h:jH T b≠none):∃z∈T,b=z.1:=by
 unfold jH at h;cases e:T.find? λz=>decide (z.1=b) with
 |none=>rw[e]at h;exact absurd rfl h
 |some z=>exact⟨z,bC2 e,by have:=List.find?_some e;exact (by simpa using this:z.1=b).symm⟩
theorem ah6:∀{T:List (ay×Str)}{z:ay×Str},(T.map (·.1)).Nodup->z∈T->(T.find? λy=>decide (y.1=z.1))=some z
 |[],_,_,h=>by cases h
 |y::r,z,n,h=>by
  rw[bt3,bx1]at n;rw[bv4];rcases br0.mp h with rfl|h
  ·simp
  ·have ne:¬y.1=z.1:=λe=>n.1 (e▸List.mem_map_of_mem h)
   rw[bp9 ne];exact ah6 n.2 h
theorem ah7 {T:List (ay×Str)}(n:(T.map (·.1)).Nodup):PP.gR T (jH T):=λz hz=>⟨0,by unfold jH;rw[ah6 n hz];rfl⟩
theorem ah8 {P:az}{w:bc}{H:Hp}{h:Heap}{T:List (ay×Str)}{b:ay}{u:HO}(t:∀z∈T,h.get? z.1=some (PySem.W.tabObj #[]))(e:jH T b=some u):bI P w H h b u:=by
 unfold jH at e;cases q:T.find? λz=>decide (z.1=b) with
 |none=>rw[q]at e;cases e
 |some z=>
  rw[q]at e;cases e;have hb:z.1=b:=by have:=List.find?_some q;simpa using this
  have g:=t z (bC2 q);rw[hb]at g
  exact⟨#[],g,trivial,λpos cv h=>by cases h⟩
theorem be1 {P:az}{w:bc}{K:ad}{mg mb:Str->Option aw}{CX:fD}{k:Nat}{fa a:ay}{fd:FuncData}{x:Str}{sp:Sp}{s₁:ax}{vs:List aw}{ns:ag}{T:List (ay×Str)}(KX:K.In s₁.heap)(hns:s₁.heap.Ns mainGlobals mg)(hb:s₁.heap.Ns builtinsNs mb)(hbb:∀x:Str,x≠"__name__"->mb x=bootBuiltins x)(hlim:s₁.heap.NoLimit)(hg:s₁.gens = #[])(ha:s₁.heap.get? a=some { cls:=.type "list",data:=.seq vs.toArray })(hi:IntsAre vs ns)(hl:ns.length<=sizeLine)(hr:bM k callerA)(TK:ah4 K s₁.heap T)(bmain:∃bm ob,mg "__builtins__" = some (.ref bm)/\bm≠builtinsNs/\s₁.heap.get? bm=some ob/\ob.cls = .type "module"/\ob.dict=some builtinsNs/\ob.data = .plain)(F:∀base:Heap,K.In base->base.Ns mainGlobals mg->(∀z∈T,iP base mg z.1)->d7 P w K mg base CX k fa fd [x] sp)(hbind:∀(s:ax) (u:aw),BindsTo s fd ⟨[u],[]⟩ [(x,u)])(hsp:∀H:Hp,r9 H->PP.gR T H->b8 K H a (ns.map V.int)->sp [.ref a] H (λv _=>v = .bl true) λ_ _ _=>False)(hCX:∀H e s',CX [] H s₁ (λ_ _ _=>False) e s'->False) :
  codeAny (model P w) callerA (.call (.ref fa) ⟨[.ref a],[]⟩) (λr s'=>r = .ok (.ret (.bool true))/\OldK s₁.heap s'.heap/\s'.os=s₁.os/\AllBare s'.gens) s₁:=by
 have rv:=N3 hi;have lenV:=hi.length;have core:∀H:Hp,r9 H->PP.gR T H->b8 K H a (ns.map V.int)->bT P w H s₁.heap->(∀b,H b≠none->b=a∨∃z∈T,b=z.1)->(H a≠none->K.lookup a=none)->
   codeAny (model P w) callerA (.call (.ref fa) ⟨[.ref a],[]⟩) (λr s'=>r = .ok (.ret (.bool true))/\OldK s₁.heap s'.heap/\s'.os=s₁.os/\AllBare s'.gens) s₁:=by
  intro H hO hT hS hok hA hK;have base_of:∀{b:ay}{o:Obj},s₁.heap.get? b=some o->H b=none->(iY s₁.heap H).get? b=some o:=λe n=>aq7 e n
  have noA:∀{b:ay}{o:Obj}{es:Array DictEntry}{ep:Nat},s₁.heap.get? b=some o->o.data = .dict es ep->H b=none:=λ{b o es ep} e d=>by
   cases q:H b with
   |none=>rfl
   |some u=>
    rcases hA b (by rw[q];simp) with e'|⟨z,hz,e'⟩
    ·subst e'
     rw[ha]at e;cases e;have d':Data.seq vs.toArray _=Data.dict es ep:=d;cases d'
    ·subst e'
     rw[(TK.1 z hz).1]at e;cases e;have d':Data.fields #[]=Data.dict es ep:=d;cases d'
  have nsK:∀{b:ay}{m:Str->Option aw},s₁.heap.Ns b m->(iY s₁.heap H).Ns b m:=λ{b m} ⟨o,es,ep,e,d,r⟩=>⟨o,es,ep,base_of e (noA e d),d,r⟩
  have hKb:K.In (iY s₁.heap H):=λb o e=>base_of (KX b o e) (by
   cases q:H b with
   |none=>rfl
   |some u=>
    rcases hA b (by rw[q];simp) with e'|⟨z,hz,e'⟩
    ·subst e'
     rw[hK (by rw[q];simp)]at e;cases e
    ·subst e'
     rw[(TK.1 z hz).2.1]at e;cases e)
  have hbA:∀z∈T,iP (iY s₁.heap H) mg z.1:=λz hz=>by
   obtain⟨bm,ob,b1,b2,b3,b4,b5,b6⟩:=bmain
   have nP:∀y∈T,bm≠y.1:=λy hy e=>by
    rw[e,(TK.1 y hy).1]at b3;cases b3;have d':Data.fields #[]=Data.plain:=b6;cases d'
   refine⟨bm,ob,b1,b2,λe=>?_,nP z hz,base_of b3 ?_,b4,b5,b6⟩
   ·obtain⟨o,es,ep,e1,e2,_⟩:=hns
    rw[e,e1]at b3;cases b3;rw[b6]at e2;cases e2
   ·cases q:H bm with
    |none=>rfl
    |some u=>
     rcases hA bm (by rw[q];simp) with e'|⟨y,hy,e'⟩
     ·rw[e',ha]at b3;cases b3
      have d':Data.seq vs.toArray _=Data.plain:=b6;cases d'
     ·exact absurd e' (nP y hy)
  have hM:Mod K mg (iY s₁.heap H):=⟨hKb,nsK hns,⟨mb,nsK hb,hbb⟩,let ⟨mc,h1,h2⟩:=hlim;⟨mc,nsK h1,h2⟩⟩;have e0:p6 P w K mg (iY s₁.heap H) callerA [] s₁ H:=⟨rfl,hM,λb o e=>aq8 e,Nat.le_of_eq (aq6 _ _),trivial,λb hb=>absurd (show b∈([]:List ay) from hb) (by simp),hok,.of_eq hg⟩;refine codeAny_mono ((F _ hKb (nsK hns) hbA).run callerA [] s₁ H ⟨[.ref a],[]⟩ [.ref a] [.ref a] _ _ hr e0 (hbind s₁ (.ref a)) (.cons rfl .nil) (hsp H hO hT hS)) λr s' h=>?_
  cases r with
  |error e=>exact (hCX H e s' h).elim
  |ok fl=>
   cases fl with
   |next=>exact False.elim h
   |brk=>exact False.elim h
   |cont=>exact False.elim h
   |ret u=>
    obtain⟨v,H',os,bare,un,hok',r',q⟩:=h
    have q':v = .bl true:=q;subst q';obtain rfl:u=Value.bool true:=r';refine⟨rfl,⟨λb o e=>?_,λb o e=>?_⟩,os,bare⟩
    ·cases q:H b with
     |none=>exact .inl (un.keep b o e q (by intro z;exact absurd (show b∈([]:List ay) from z) (by simp)) (by simp))
     |some u=>
      rcases hO b with z|⟨ob,xs,z⟩|⟨ps,z⟩
      ·rw[q]at z;cases z
      ·have z2:=un.frzs b ob _ z
       obtain⟨e1,_⟩:=hok b _ z
       obtain⟨e2,_⟩:=hok' b _ z2
       rw[e]at e1;cases e1;exact .inl e2
      ·rcases hA b (by rw[q];simp) with e'|⟨y,hy,e'⟩
       ·subst e'
        obtain⟨qs,e1,_⟩:=(show bI P w H s₁.heap b (.tbl ps) from hok b _ z)
        rw[ha]at e1;cases e1
       ·subst e'
        obtain⟨more,z2⟩:=un.tbls _ ps z
        obtain⟨qs,e2,_⟩:=(show bI P w H' s'.heap y.1 (.tbl (ps++more)) from hok' _ _ z2)
        rw[(TK.1 y hy).1]at e;cases e;exact .inr (.inl ⟨(TK.1 y hy).2.2,rfl,#[],qs,rfl,by simpa using e2⟩)
    ·exact un.there b o e (by simp)
 cases hk:K.lookup a with
 |some o=>
  have e:=KX a o hk;rw[ha]at e;cases e;have aT:∀z∈T,z.1≠a:=λz hz e=>by have:=(TK.1 z hz).1;rw[e,ha]at this;cases this
  refine core (jH T) (ah5 T) (ah7 TK.2) (.inr ⟨_,vs.toArray,_,hk,rfl,rfl,rfl,by rw[bq9,lenV];exact hl,by simpa using rv⟩) (λb u z=>ah8 (λy hy=>(TK.1 y hy).1) z) (λb z=>.inr (zZ z)) λz=>(by
   obtain⟨y,hy,e⟩:=zZ z
   exact absurd e.symm (aT y hy))
 |none=>
  have aT:∀z∈T,z.1≠a:=λz hz e=>by have:=(TK.1 z hz).1;rw[e,ha]at this;cases this
  refine core (λb=>if b=a then some (.frz { cls:=.type "list",data:=.seq vs.toArray } (.lst (ns.map V.int))) else jH T b) (λb=>?_) (λz hz=>?_) (.inl (.inr ⟨{ cls:=.type "list",data:=.seq vs.toArray },if_pos rfl⟩)) (λb u z=>?_) (λb z=>?_) λ_=>hk
  ·by_cases hb:b=a
   ·exact .inr (.inl ⟨_,_,if_pos hb⟩)
   ·rcases ah5 T b with e|⟨o,xs,e⟩|⟨ps,e⟩
    ·exact .inl ((if_neg hb).trans e)
    ·exact .inr (.inl ⟨o,xs,(if_neg hb).trans e⟩)
    ·exact .inr (.inr ⟨ps,(if_neg hb).trans e⟩)
  ·obtain⟨t,e⟩:=ah7 TK.2 z hz
   exact⟨t,(if_neg (aT z hz)).trans e⟩
  ·by_cases hb:b=a
   ·have z':=(if_pos hb).symm.trans z
    cases z';subst hb
    exact⟨ha,by rw[bq6];exact hl,vs,_,rv,ha⟩
   ·have z':=(if_neg hb).symm.trans z
    exact ah8 (λy hy=>(TK.1 y hy).1) z'
  ·by_cases hb:b=a
   ·exact .inl hb
   ·exact .inr (zZ λe=>z ((if_neg hb).trans e))
theorem ah9 {K:ad}{h:Heap}{c P:ay}(X:K.In h)(e:PySem.W.codeHdIn K c P=true):isCodeTable h P:=by
 obtain⟨o,vs,_,_,_,_,_,_,_,h1,h2,h3,h4,_⟩:=PySem.W.codeHd_of_K X e
 exact⟨c,o,vs,h1,h2,h3,h4⟩
theorem be2 {K:ad}{H:Hp}{a:ay}{ns:ag}(hO:r9 H)(h:b8 K H a (ns.map V.int)):PP.jS K H a ns:=by
 rcases h with (h|⟨o,h⟩)|h
 ·rcases hO a with e|⟨o,xs,e⟩|⟨ps,e⟩<;>(rw[h]at e;cases e)
 ·exact .inl ⟨o,h⟩
 ·exact .inr h
theorem be3 {l:PySem.W.OpenLaw}{n k:Nat}{q:az}{loose:List Str}{XP:(Str->Option aw)->Heap->Prop}{YP:bc->Heap->Prop}{d:DefRec}{K:Params->ad}{CX:bc->fD}{sp:bc->Sp}{x:Str}{T:List (ay×Str)}(hn:l.most=some n)(hn2:n<=sizeLine)(hdf:d.params.defaults = [])(hr:bM k callerA)(hY:∀(w:bc) (h:Heap),YP w h->(K w.params).In h)(hT:∀(w:bc) (h:Heap),YP w h->ah4 (K w.params) h T)(F:∀(w:bc) (mg:Str->Option aw) (fa:ay) (h:Heap),(K w.params).In h->h.Ns mainGlobals mg->mg d.name=some (.ref fa)->
   ∃fd:FuncData,(∀(s:ax) (u:aw),BindsTo s fd ⟨[u],[]⟩ [(x,u)])/\
    ∀base:Heap,(K w.params).In base->base.Ns mainGlobals mg->(∀z∈T,iP base mg z.1)->d7 l.prog w (K w.params) mg base (CX w) k fa fd [x] (sp w))(hsp:∀(w:bc) (H:Hp) (a:ay) (ns:ag),ns.length<=n->r9 H->PP.gR T H->b8 (K w.params) H a (ns.map V.int)->sp w [.ref a] H (λv _=>v = .bl true) λ_ _ _=>False)(hCX:∀(w:bc) (H:Hp) (s:ax) (e:aw) (s':ax),CX w [] H s (λ_ _ _=>False) e s'->False) :
  PySem.W.WalkO q loose XP YP l.row.toRowW d [] (λf vs=>PySem.call f vs):=by
 refine Att.az1 hn hdf λw s₀ s₁ mg mb fa o pm cd doc a vs ns G Y ho hd hcd hmg hobj hints ao hg=>?_
 have KX:=hY w _ Y
 obtain⟨fd,hb,hF⟩:=F w mg fa _ KX G.T.g hmg
 exact be1 KX G.T.g G.T.b G.T.builtins G.T.nolimit hg hobj hints (bt6 ao hn2) hr (hT w _ Y) G.T.bmain hF hb (λH hO hT hS=>hsp w H a ns ao hO hT hS) λH e s'=>hCX w H s₁ e s'
end L2
namespace PP
open PySem L2
noncomputable def iK:b9:=λxs Q=>∃m p:Nat,xs = [.int m,.int p]/\m<4/\p<2/\Q (.int (Strip.has m p))
noncomputable def ai0:aX:=cT (q2 (eG λi j=>.int (Builtin.bitAnd i j)) (q2 (RI (λ_ j=>0<=j) λi j=>.int (i/2^j.toNat)) (aB 0) (aB 1)) (qC (.int 1)))
theorem be4 {m p:Nat}(hm:m<4)(hp:p<2):Builtin.bitAnd ((m:Int)/2^((p:Int).toNat)) 1=(Strip.has m p:Int):=by
 have h1:m=0∨m=1∨m=2∨m=3:=by omega
 have h2:p=0∨p=1:=by omega
 rcases h1 with rfl|rfl|rfl|rfl<;>rcases h2 with rfl|rfl<;>decide +kernel
theorem be5:∀xs Q,iK xs Q->ai0 { nx:=λ_=>Q .non,rt:=Q } (bG ["mask","place"] xs):=by
 rintro _ Q ⟨m,p,rfl,hm,hp,q⟩;refine⟨_,rfl,_,rfl,_,_,rfl,rfl,by show (0:Int)<=(p:Int);omega,_,_,rfl,rfl,?_⟩;have e:PV.int (Builtin.bitAnd ((m:Int)/2^((p:Int).toNat)) 1) = .int (Strip.has m p):=by rw[be4 hm hp]
 refine⟨trivial,?_⟩;show Q _;exact (congrArg Q e).mpr q
noncomputable def rA:b9:=λxs Q=>∃m:Nat,xs = [.int m]/\m<4/\Q (.int (Strip.one m))
noncomputable def ai1:aX:=cT (q2 (eG λi j=>.int (i+j)) (aP iK (aF (aB 0) (aF (qC (.int 0)) aM))) (aP iK (aF (aB 0) (aF (qC (.int 1)) aM))))
theorem be6:∀xs Q,rA xs Q->ai1 { nx:=λ_=>Q .non,rt:=Q } (bG ["mask"] xs):=by
 rintro _ Q ⟨m,rfl,hm,q⟩;refine⟨_,rfl,m,0,rfl,hm,by decide,_,rfl,m,1,rfl,hm,by decide,_,_,rfl,rfl,?_⟩;have e:PV.int ((Strip.has m 0:Int)+(Strip.has m 1:Int)) = .int (Strip.one m):=by unfold Strip.one;rw[Int.natCast_add]
 refine⟨trivial,?_⟩;show Q _;exact (congrArg Q e).mpr q
end PP
namespace L2
open PySem PySem.Spec PyProof.Rows
section
variable {X:Cx}{ai:List (ay×Obj)}{σ:St}{H:Hp}{s:ax}{a:ay}{tg l e:Expr}{tl t:TE}
noncomputable def A0 (t:TE):TE:=λσ H Q=>t σ H λv H1=>∃a kvs,v = .ref a/\H1 a=some (.dA kvs)/\∀o,Q v (upd H1 a (.frz o (.dA kvs)))
theorem ai2 (h:PE X e t):PE X e (A0 t):=by
 intro ai s σ H Q I hq;refine aO (h ai s σ H _ I hq) λv s1 h1=>?_
 obtain⟨x,H1,I1,r1,a,kvs,ex,ea,q⟩:=h1
 obtain⟨es,ep,ys,⟨o,e1,e2,e3⟩,_⟩:=aU5 I1 ea
 exact⟨x,_,I1.frozeD ea rfl e1,r1,q _⟩
theorem be7 {o:Obj}{kvs:List (List (Int×Bool)×V)}(I:aA X ai σ H s)(h:H a=some (.frz o (.dA kvs))):∃es ep ys,o.ExactDict/\o.data = .dict es ep/\s.heap.get? a=some o/\(a==sysModules)=false/\Paired (yS H) ys (kvs.map (·.1))/\aN ys (es.toList.map (·.key)):=by
 obtain⟨e0,z,far,xs,rel,o',es,ep,e1,e2,e3,e4,nd⟩:=(show bI X.prog X.w H s.heap a (.frz o (.dA kvs)) from I.hok a _ h)
 rw[e0]at e1;cases e1;refine⟨es,ep,xs.map λq=>V.ref q.2.1,e2,e3,e0,far,?_,?_⟩
 ·clear e4 nd h z
  induction rel with
  |nil=>exact .nil
  |cons r rs ih=>exact .cons ⟨_,rfl,r.2.1⟩ ih
 ·rw[e4]
  clear rel e4 nd
  induction xs with
  |nil=>exact .nil
  |cons q qs ih=>exact .cons rfl ih
noncomputable def ai3 (tl:TE):TI:=λσ H R=>tl σ H λx H1=>∃a o kvs,x = .ref a/\H1 a=some (.frz o (.dA kvs))/\∀ys,Paired (yS H1) ys (kvs.map (·.1))->R (X4 a o ys) H1
theorem be8 (hl:PE X l tl):PI X tg l (ai3 tl):=by
 intro ai s σ H R I h;refine aO (hl ai s σ H _ I h) λv s1 h1=>?_
 obtain⟨x,H1,I1,r1,a,o,kvs,e,ha,q⟩:=h1
 subst e;cases r1
 obtain⟨es,ep,ys,e2,e3,e1,far,pk,vl⟩:=be7 I1 ha
 have hf:H1 s1.heap.objs.size=none:=I1.hok.fresh (bq4 _);refine Raw.made far ⟨o,e1,e2,e3⟩ ?_;refine⟨s1.heap.objs.size,[s1.heap.objs.size],_,_,H1,rfl,I1.kept (t':=s1.toks) λb o e=>bq0 _ e,aM5 a _ ⟨e2,e3⟩ vl,⟨_,br7 _ rfl,rfl,rfl⟩,λb hb=>?_,q ys pk⟩;obtain rfl:b=s1.heap.objs.size:=by simpa using hb
 exact I1.fpOk (bq4 _) hf
theorem be9 (hc:X.calm=true)(hu:X.A.units+6<cLine):e8 X (.builtin "min") (λxs H Q=>∃x y a c ns ms,xs = [x,y]/\PP.aG X.K (λ_=>True) H x (iH a ns)/\PP.aG X.K (λ_=>True) H y (iH c ms)/\Q (if HT.cK (c::ms) (a::ns)=true then y else x) H):=by
 intro ai s σ H xs us Q I r h
 obtain⟨x,y,a,c,ns,ms,rfl,q1,q2,q⟩:=h
 obtain⟨u,w',rfl,r1,r2⟩:=vP r
 refine aW9 (lt:=HT.cK (c::ms) (a::ns)) (I.ok.hd hc) (λh k Q E old hq=>?_) λh k old=>⟨_,H,I.kept (t':=k) old,?_,q⟩
 ·exact aT6 (A:=X.A.in1) (by show X.A.units+1+4<cLine;omega) (I.kept (t':=k) old) q2 q1 r2 r1 hq
 ·split
  ·exact r2
  ·exact r1
end
end L2
namespace PP
open PySem L2
section
variable {X:Cx}{σ:St}{H:Hp}{D:dZ}{Q':VK}{te:aH}{e a b:Expr}{ta tb:aH}{tr:bX}{pos p2 p3:Pos}{R:It→Hp→Prop}
noncomputable def uL (te:aH):aH:=λρ Q=>te ρ λx g=>∃ps,x = .dA ps/\g = .fr/\flats (ps.map (·.2))=true/\Q (.fA ps) .fr
theorem bf0 (h:LE X (uL te) σ H Q'):A0 (LE X te) σ H Q':=by
 obtain⟨W,ρ,Q,px,q,k⟩:=h
 refine⟨W,ρ,_,px,q,?_⟩;rintro v H1 x g s r ⟨ps,rfl,rfl,f,q⟩;cases r with
 |@dA a kvs _ m e ek r=>
  refine⟨a,kvs,rfl,e,λo=>k _ _ _ .fr (λb u hb=>?_) (.fA bH ek ((r.flat (M':=λ_=>False) f).keep (.upd e rfl λb z=>z.elim))) q⟩;have nb:b≠a:=λz=>by have m:H a=none:=m;rw[z,m]at hb;cases hb
  rw[aK nb];exact s b u hb
theorem uM (h:QE X e te):QE X e (uL te):=bV (ai2 h) λ_ _ _=>bf0
noncomputable def rB (i:Nat)(te:aH):aX:=λD ρ=>te ρ λx g=>g = .fr/\((∃ps,x = .dA ps/\flats (ps.map (·.2))=true)∨∃ps,x = .dB ps/\flats (ps.map (·.2))=true)/\D.nx (ρ.set i (some (.own x)))
theorem bf1 {i:Nat}(h:LS X (rB i te) D σ H):iZ (LE X te) (dO i) D σ H:=by
 obtain⟨W,ρ,D',px,q,k⟩:=h
 refine⟨W,ρ,_,px,q,?_⟩;rintro v H1 x g s r ⟨rfl,o,q⟩
 obtain⟨a,rfl,m,w⟩:∃a,v = .ref a/\H a=none/\∀M',iC X.K M' H1 a x:=by
  rcases o with⟨ps,rfl,f⟩|⟨ps,rfl,f⟩
  ·cases r with
   |dA m e q r=>exact⟨_,rfl,m,λ_=>⟨_,e,q,r.flat f⟩⟩
  ·cases r with
   |dB m e q r=>exact⟨_,rfl,m,λ_=>⟨_,e,q,r.flat f⟩⟩
 exact k.nx _ _ H1 _ (Ev.own s m) (px.setOwn s m (w _)) q
theorem rC {i:Nat}{x:Str}(hN:X.N.Nodup)(he:QE X e te)(hi:X.N[i]? = some x:=by rfl)(hx:i5 X.env.scope x:=by first|exact Or.inl rfl|exact Or.inr rfl)(hs:swapsWith e (some (.Name x p2)) pos.line X.env=pure false:=by rfl)(hf:X.fn x=true∨X.env.scope.names.lookup x=some .local:=by first|exact .inl rfl|exact .inr rfl) :
  QS X (.Assign [.Name x p2] e pos) (rB i te):=e9 (oW hN hi hx he hs hf) λ_ _ _=>bf1
noncomputable def A1 (j i:Nat):aX:=λD ρ=>∃ps,ρ[j]? = some (some (.own (.dA ps)))/\D.nx ((ρ.set j (some (.sh true (.fA ps)))).set i (some (.sh true (.fA ps))))
theorem bf2 {K:ad}{H0:Hp}{W:ay->Prop}{ρ:bR}{i:Nat}{a:ay}{o:Obj}{ps:List (List (Int×Bool)×PV)}{kvs:List (List (Int×Bool)×V)}(p:PX K H0 W σ ρ H)(hi:ρ[i]? = some (some (.own (.dA ps))))(ha:σ[i]? = some (some (.ref a)))(wa:W a)(e0:H a=some (.dA kvs))(r:aG K (Ms H0 (nI W a) true) (upd H a (.frz o (.dA kvs))) (.ref a) (.fA ps)):PX K H0 (nI W a) σ (ρ.set i (some (.sh true (.fA ps)))) (upd H a (.frz o (.dA kvs))):=by
 obtain⟨w0,_⟩:=p.wm a wa
 have kp:∀g,fV (Ms H0 W g) (Ms H0 (nI W a) g) H (upd H a (.frz o (.dA kvs))):=λg=>.upd e0 rfl λb m=>⟨j6 wa m,Q2 m⟩
 refine⟨by rw[bx2];exact p.len,λb u e=>by rw[aK (λz=>by rw[z,w0]at e;cases e)];exact p.same _ _ e,λb z=>?_,λj m h=>?_,λj k y' z b h1 h2 h3 h4=>?_⟩
 ·obtain⟨h1,o2,h2,h3⟩:=p.wm b z.1
  exact⟨h1,o2,by rw[aK z.2];exact h2,h3⟩
 ·rcases gW h with⟨rfl,hl,e⟩|⟨hne,h⟩
  ·cases e
   exact⟨_,ha,r⟩
  ·obtain⟨u,e,q⟩:=p.sl j m h
   refine⟨u,e,?_⟩;cases m with
   |sh g y=>exact aG.keep (kp g) q
   |own y=>
    obtain⟨b,e1,e2,q⟩:=q
    have hb:b≠a:=λz=>by
     subst e1;rw[z]at e;exact hne (p.dis j i _ _ a h hi e ha)
    exact⟨b,e1,⟨e2,hb⟩,q.keep (kp true) λo z=>by rw[aK hb];exact z⟩
   |kp g c ks=>exact⟨⟨q.1.1.keep (.upd e0 rfl λb m=>m.elim),q.1.2⟩,q.2.upd e0 rfl⟩
 ·rcases gW h1 with⟨_,_,e⟩|⟨_,h1⟩
  ·cases e
  ·rcases gW h2 with⟨_,_,e⟩|⟨_,h2⟩
   ·cases e
   ·exact p.dis j k _ _ b h1 h2 h3 h4
theorem bf3 {i j:Nat}(h:LS X (A1 j i) D σ H):iZ (A0 (dF j)) (dO i) D σ H:=by
 obtain⟨W,ρ,D',px,⟨ps,hj,q⟩,k⟩:=h
 obtain⟨v,ev,a,rfl,wa,kvs,e0,ek,r⟩:=px.sl j _ hj
 refine⟨_,ev,a,kvs,rfl,e0,λo=>?_⟩;have r1:aG X.K (Ms X.H₀ (nI W a) true) (upd H a (.frz o (.dA kvs))) (.ref a) (.fA ps):=.fA bH ek (r.keep (.upd e0 rfl λb m=>⟨j6 (g:=true) wa m,Q2 (g:=true) m⟩));exact k.nx (nI W a) _ _ _ (λb u e n _=>⟨by rw[aK (λz=>n (by rw[z];exact wa))];exact e,λz=>n z.1⟩) ((bf2 px hj ev wa e0 r1).setSh r1) q
theorem ai4 (j:Nat){i:Nat}{x y:Str}(hN:X.N.Nodup)(he:PE X (.Name y p3) (dF j):=by exact pv _)(hi:X.N[i]? = some x:=by rfl)(hx:i5 X.env.scope x:=by first|exact Or.inl rfl|exact Or.inr rfl)(hs:swapsWith (.Name y p3) (some (.Name x p2)) pos.line X.env=pure false:=by rfl)(hf:X.fn x=true∨X.env.scope.names.lookup x=some .local:=by first|exact .inl rfl|exact .inr rfl) :
  QS X (.Assign [.Name x p2] (.Name y p3) pos) (A1 j i):=e9 (oW hN hi hx (ai2 he) hs hf) λ_ _ _=>bf3
noncomputable def uN (te:aH):fX:=λρ Q=>te ρ λx _=>∃ps:List (List (Int×Bool)×PV),x = .fA ps/\Q (ps.map λp=>.tup (p.1.map λq=>.tup [.int q.1,.bl q.2])) true
theorem bf4 (h:LI X (uN te) σ H R):ai3 (LE X te) σ H R:=by
 obtain⟨W,ρ,Q,px,q,k⟩:=h
 refine⟨W,ρ,_,px,q,?_⟩;rintro v H1 x g s r ⟨ps,rfl,q⟩;cases r with
 |@fA a o kvs _ e ek r=>
  have px1:=px.mono s;have noW:∀{b:ay}{u:HO},H1 b=some u->fE u=false->¬W b:=λ{b u} e m z=>by
   obtain⟨_,w,e2,m2⟩:=px1.wm b z
   rw[e]at e2;cases e2;rw[m]at m2;cases m2
  refine⟨a,o,kvs,rfl,e,λys pk=>k _ _ _ _ s ?_ q⟩;have ll:=pk.length;have lk:=nN ek;rw[bq6]at ll;refine⟨λW' H' i ev hi=>⟨⟨_,(ev _ _ e (noW e rfl) rfl).1⟩,by rw[bq6]at hi;omega⟩,λW' H' i v H2 ev y hi=>?_,λW' H' ev=>⟨⟨_,(ev _ _ e (noW e rfl) rfl).1⟩,by rw[bq6];omega⟩⟩
  obtain⟨rfl,y⟩:=y
  refine⟨aI.refl _,?_⟩
  obtain⟨key,hkey,q2,rfl,hq2⟩:=aa6 pk y
  rw[ek,br5]at hkey;cases e2:ps[i]? with
  |none=>rw[e2]at hkey;cases hkey
  |some pp=>
   rw[e2]at hkey;have e3:pp.1=key:=bt2 hkey;refine⟨.tup (pp.1.map λq=>.tup [.int q.1,.bl q.2]),by rw[br5,e2];rfl,?_⟩;rw[e3];exact ab8 (hq2.keeps λb xs e=>(ev _ _ e (noW e rfl) rfl).1)
theorem uO {tg l:Expr}(hl:QE X l te):QI X tg l (uN te):=t7 (be8 hl) λ_ _ _=>bf4
noncomputable abbrev ai5 (ta tb:aH):aH:=q2 (eG λi j=>.int (Builtin.bitOr i j)) ta tb
theorem bf5 (ha:QE X a ta)(hb:QE X b tb):QE X (.BinOp a .BitOr b pos) (ai5 ta tb):=iG au9 sR ha hb
noncomputable def uP:List PV->(PV->Prop)->Prop:=λxs Q=>∃(a c:Int) (ns ms:ag),xs = [iH a ns,iH c ms]/\Q (if HT.cK (c::ms) (a::ns)=true then iH c ms else iH a ns)
theorem bf6:fW X uP (λxs H Q=>∃x y a c ns ms,xs = [x,y]/\aG X.K (λ_=>True) H x (iH a ns)/\aG X.K (λ_=>True) H y (iH c ms)/\Q (if HT.cK (c::ms) (a::ns)=true then y else x) H):=by
 rintro H vs xs Q Q' r ⟨a,c,ns,ms,rfl,q⟩ k
 obtain⟨v,w,rfl,r1,r2⟩:=r.two
 refine⟨v,w,a,c,ns,ms,rfl,r1,r2,k _ _ _ (aI.refl _) ?_ q⟩;split
 ·exact r2.flat (u6 _ _)
 ·exact r1.flat (u6 _ _)
theorem bf7 (B:Bt X.mg)(hc:X.calm=true)(hu:X.A.units+6<cLine)(ha:QA X [a,b] tr)(hg:Gl X "min":=by rfl)(he:starEach [a,b] X.env=(false,eval a X.env)::starEach [b] X.env:=by rfl)(hpl:(backTo pos (starEach [b] X.env)).any (·.1)=false:=by rfl):QE X (.Call (.Name "min" p2) [a,b] [] pos) (aP uP tr):=
 pV (be9 hc hu) bf6 hg B.min PyProof.Rows.boot_min ha (he:=he) (hpl:=hpl)
end
open Strip (aD b7 cW)
open Core (d5 si)
theorem bf8 {b:Bool}{x:PV}{P:Prop}(h:(Slot.sh b x).tag = .rd):P:=by cases b<;>cases h
noncomputable def ki (a:aD):List (Int×Bool):=a.map λq=>((q.1:Int),q.2)
theorem A2:∀{a b:aD},ki a=ki b->a=b
 |[],[],_=>rfl
 |[],_::_,h=>by cases h
 |_::_,[],h=>by cases h
 |x::r,y::t,h=>by
  injection h with h1 h2
  injection h1 with h3 h4
  rw[A2 h2,show x=y from Prod.ext (Int.ofNat.inj h3) h4]
noncomputable abbrev bF (a:aD):PV:=kH (ki a)
noncomputable def fN (p:Nat×aD):PV:=.tup [.int p.1,bF p.2]
noncomputable def gS (q:Nat×Bool):PV:=.tup [.int q.1,.bl q.2]
theorem rD (a:aD):kT (bF a)=some (a.map gS):=by
 show some ((ki a).map _)=_;unfold ki;rw[by0];rfl
theorem A3 (a:aD):pQ (bF a)=some a.length:=by
 show some ((ki a).map _).length=_;unfold ki;rw[bq6,bq6]
theorem uQ {a:aD}{b:Nat}(h:b<a.length):L2.atI (a.map gS) (b:Int)=some (gS (a.getD b (0,false))):=by
 refine K9 ?_;rw[br5,br2 h,br6,br2 h];rfl
theorem bf9 {a:aD}(h:0<a.length):L2.atI (a.map gS) (-1)=some (gS (a.getD (a.length-1) (0,false))):=by
 have ne:a≠[]:=λz=>by rw[z]at h;cases h
 obtain⟨l,x,rfl⟩:∃l x,a=l++[x]:=⟨a.dropLast,a.getLast ne,(List.dropLast_concat_getLast ne).symm⟩
 rw[bs9];refine (L2.ax4 (l.map gS) (gS x)).trans ?_;rw[br4];simp
theorem ai6 (a:aD):flats (a.map gS)=true:=by
 induction a with
 |nil=>rfl
 |cons x r ih=>show (flat (gS x)&&flats (r.map gS))=true;rw[ih];rfl
theorem rE (a:aD):flat (bF a)=true:=by
 show flats ((ki a).map _)=true;have e:((ki a).map λq=>PV.tup [.int q.1,.bl q.2])=a.map gS:=by unfold ki;rw[by0];rfl
 rw[e];exact ai6 a
theorem ai7 (p:Nat×aD):flat (fN p)=true:=by
 show (flat (.int p.1)&&(flat (bF p.2)&&true))=true;rw[rE];rfl
theorem A4 (l:List (Nat×aD)):flats (l.map fN)=true:=by
 induction l with
 |nil=>rfl
 |cons x r ih=>show (flat (fN x)&&flats (r.map fN))=true;rw[ih,ai7];rfl
noncomputable def oI:b9:=λxs Q=>∃x ws,∃bh bu ah:Nat,xs = [x,.int bh,.int bu,.int ah]/\d5 x ws/\b7 ws/\bh<2^ws.length/\bu<2^ws.length/\ah<2^ws.length/\Q (.int (Strip.bD ws bh bu ah:Nat))
noncomputable def ai8:aX:=(aY (bZ 4 (aB 2))
 (aY (gH (u5 (aB 0)) (lV 5 6)
  (dQ (bL (xB (fZ (fZ (aP iK (aF (aB 1) (aF (aB 5) aM))) (aP iK (aF (aB 3) (aF (aB 5) aM)))) (aP iK (aF (aB 2) (aF (S0 (qC (.int 1)) (aB 5)) aM)))) (aB 6)))
   (bZ 4 (ai5 (aB 4) (S3 (qC (.int 1)) (aB 5)))) dP))
 (pN 4)))
theorem A5 {w:ag}(o:b7 w){n:Nat}(h:n<2^w.length):n<4:=by rcases Strip.oC o with e|e<;>omega
theorem bg0 {l p:Nat}(hl:l<4)(hp:p<2):Builtin.bitOr (l:Int) (1*2^((p:Int)).toNat)=((l ||| (1 <<< p):Nat):Int):=by
 have h1:l=0∨l=1∨l=2∨l=3:=by omega
 have h2:p=0∨p=1:=by omega
 rcases h1 with rfl|rfl|rfl|rfl<;>rcases h2 with rfl|rfl<;>decide +kernel
theorem bg1 {l p:Nat}(hl:l<4)(hp:p<2):l ||| (1 <<< p)<4:=by
 have h1:l=0∨l=1∨l=2∨l=3:=by omega
 have h2:p=0∨p=1:=by omega
 rcases h1 with rfl|rfl|rfl|rfl<;>rcases h2 with rfl|rfl<;>decide +kernel
theorem bg2:∀xs Q,oI xs Q->ai8 { nx:=λ_=>Q .non,rt:=Q } (bG ["wants","behind","burning","ahead","lit","place","want"] xs):=by
 rintro _ Q ⟨x,ws,bh,bu,ah,rfl,hx,ow,h1,h2,h3,q⟩;have h1:=A5 ow h1;have h2:=A5 ow h2;have h3:=A5 ow h3;refine⟨_,rfl,trivial,_,rfl,intz ws,hx.symm,bf8,λi ρ=>∃lit:Nat,∃y5 y6,ρ = [some (.sh (flat x) x),si bh,si bu,si ah,si lit,y5,y6]/\lit<4/\Strip.lD ws bh bu ah i (ws.drop i) lit=Strip.bD ws bh bu ah,⟨bu,none,none,rfl,h2,rfl⟩,?_,?_⟩
 ·rintro i z ρ hz ⟨lit,y5,y6,rfl,hl,e⟩
  have hi:i<(intz ws).length:=by
   have:=(bs1.mp hz).1
   rwa [o5]at this
  have hi2:i<ws.length:=by rwa [bq6]at hi
  have hw:(intz ws)[i]? = some (.int ws[i]):=by rw[br5,br2 hi2];rfl
  rw[u0 hw]at hz;cases hz;have p2:i<2:=by have:=ow.2;omega
  refine⟨_,_,rfl,?_⟩;have c1:((1:Int)-(i:Int))=((1-i:Nat):Int):=by omega
  refine⟨_,rfl,_,rfl,bh,i,rfl,h1,p2,_,rfl,_,rfl,ah,i,rfl,h3,p2,_,_,rfl,rfl,_,rfl,_,rfl,_,_,rfl,rfl,bu,1-i,by rw[<- c1];rfl,h2,by omega,_,_,rfl,rfl,_,rfl,_,_,rfl,rfl,_,rfl,?_⟩;have dr:ws.drop i=ws[i]::ws.drop (i+1):=List.drop_eq_getElem_cons hi2;rw[dr]at e;unfold Strip.lD at e;rw[if_pos (show i<=1 by omega)]at e;have ce:((Strip.has bh i:Int)+(Strip.has ah i:Int)+(Strip.has bu (1-i):Int))=((Strip.has bh i+Strip.has ah i+Strip.has bu (1-i):Nat):Int):=by omega
  show if decide ((Strip.has bh i:Int)+(Strip.has ah i:Int)+(Strip.has bu (1-i):Int) >= ws[i])=true then _ else _
  rw[ce];by_cases g:((Strip.has bh i+Strip.has ah i+Strip.has bu (1-i):Nat):Int) >= ws[i]
  ·rw[if_pos g]at e
   rw[bq2 g];refine bQ ⟨_,rfl,_,rfl,_,_,rfl,rfl,⟨by omega,by omega,by decide⟩,_,_,rfl,rfl,trivial,?_⟩
   exact⟨lit ||| (1 <<< i),_,_,by rw[<- bg0 hl p2];rfl,bg1 hl p2,e⟩
  ·rw[if_neg g]at e
   rw[bp9 g];exact bJ ⟨lit,_,_,rfl,hl,e⟩
 ·rintro ρ ⟨lit,y5,y6,rfl,hl,e⟩
  have e0:ws.drop (lC (intz ws)).length = []:=List.drop_eq_nil_of_le (by rw[o5,bq6];exact bq4 _);rw[e0]at e;have e:lit=_:=e;refine⟨_,rfl,trivial,?_⟩;show Q (.int (lit:Int));rw[e];exact q
noncomputable def rG:b9:=λxs Q=>∃x ws a,∃s ah:Nat,xs = [x,bF a,.int s,.int ah]/\d5 x ws/\b7 ws/\cW ws a/\s<2^ws.length/\ah<2^ws.length/\Q (gS (Strip.iS ws a s ah))
noncomputable def ai9:aX:=(aY (bZ 4 (aB 2))
 (aY (bZ 5 (aP oI (aF (aB 0) (aF (d8 (d8 (aB 1) (aB 4)) (qC (.int 0))) (aF (aB 4) (aF (aB 3) aM))))))
 (aY (pO (bL (S4 (aB 5) (aB 4)))
  (aY (bZ 4 (aB 5))
  (bZ 5 (aP oI (aF (aB 0) (aF (d8 (d8 (aB 1) (aB 4)) (qC (.int 0))) (aF (aB 4) (aF (aB 3) aM))))))))
 (aY (bZ 6 (S0 (aP eI (aF (aB 1) aM)) (qC (.int 1))))
 (cT (eU (aF (aB 4) (aF (pL (mB (aB 4) (aB 6)) (d8 (d8 (aB 1) (aB 6)) (qC (.int 1)))) aM))))))))
theorem aj0 {w:ag}{a:aD}(h:cW w a){b:Nat}(hb:b<2^w.length):(a.getD b (0,false)).1<2^w.length:=by
 rw[<- h.1]at hb;rw[br6,br2 hb];exact h.2 _ (by6 hb)
theorem bg3:∀xs Q,rG xs Q->ai9 { nx:=λ_=>Q .non,rt:=Q } (bG ["wants","answer","seeds","ahead","burning","more","whole"] xs):=by
 rintro _ Q ⟨x,ws,a,s,ah,rfl,hx,ow,wf,h1,h2,q⟩;have wl:=wf.1;refine⟨_,rfl,trivial,?_⟩;refine⟨_,rfl,_,rfl,_,rfl,_,_,_,rD a,rfl,uQ (by rw[wl];exact h1),_,_,_,rfl,rfl,rfl,_,rfl,_,rfl,x,ws,(a.getD s (0,false)).1,s,ah,rfl,hx,ow,aj0 wf h1,h1,h2,trivial,?_⟩;have fa:flat (bF a)=true:=rE a;refine⟨λm ρ=>∃b:Nat,ρ = [some (.sh (flat x) x),some (.sh (flat (bF a)) (bF a)),si s,si ah,si b,si (Strip.bD ws (a.getD b (0,false)).1 b ah),none]/\b<2^ws.length/\ws.length+1<=m+Strip.one b/\Strip.dW ws a ah m b=Strip.dW ws a ah (ws.length+1) s,⟨ws.length+1,s,rfl,h1,by omega,rfl⟩,?_⟩;rintro m ρ ⟨b,rfl,hb,hm,e⟩
 obtain⟨k1,k2,k3⟩:=Strip.oA ow (a.getD b (0,false)).1 ah hb
 have mp:0<m:=by omega
 refine⟨_,rfl,_,rfl,.inl ⟨_,_,rfl,rfl,_,rfl,?_⟩⟩;by_cases g:Strip.bD ws (a.getD b (0,false)).1 b ah=b
 ·rw[show (if true=true then !decide (((Strip.bD ws (a.getD b (0,false)).1 b ah:Nat):Int)=(b:Int)) else decide (((Strip.bD ws (a.getD b (0,false)).1 b ah:Nat):Int)=(b:Int)))=false by rw[if_pos rfl,g,bq2 rfl];rfl]
  rw[Strip.qU mp g]at e;refine bJ ?_;have w0:0<a.length:=by rw[wl];exact by2 _
  have c1:((a.length:Int)-1)=((a.length-1:Nat):Int):=by omega
  refine⟨_,rfl,_,_,rfl,A3 a,_,_,rfl,rfl,trivial,?_⟩;have es:Strip.iS ws a s ah=(b,b==a.length-1&&(a.getD (a.length-1) (0,false)).2):=by unfold Strip.iS;rw[<- e]
  rw[es]at q;refine⟨_,rfl,_,rfl,_,rfl,.inl ⟨_,_,rfl,rfl,_,rfl,?_⟩⟩;show if (if false=true then !decide ((b:Int)=(a.length:Int)-1) else decide ((b:Int)=(a.length:Int)-1))=true then _ else _
  rw[if_neg bq7,c1];by_cases d:b=a.length-1
  ·rw[bq2 (show ((b:Nat):Int)=((a.length-1:Nat):Int) by rw[d])]
   refine bQ ⟨_,rfl,_,rfl,_,_,_,rD a,by show PV.int ((a.length:Int)-1)=_;rw[c1],uQ (by omega),_,_,_,rfl,rfl,rfl,by show 2<=1000;decide,rfl,trivial,?_⟩;rw[show (b==a.length-1&&(a.getD (a.length-1) (0,false)).2)=(a.getD (a.length-1) (0,false)).2 by rw[d];simp]at q;exact q
  ·rw[bp9 (show ¬((b:Nat):Int)=((a.length-1:Nat):Int) by omega)]
   refine bJ ⟨by show 2<=1000;decide,rfl,trivial,?_⟩;rw[show (b==a.length-1&&(a.getD (a.length-1) (0,false)).2)=false by rw[show (b==a.length-1)=false by simpa using d];rfl]at q;exact q
 ·rw[show (if true=true then !decide (((Strip.bD ws (a.getD b (0,false)).1 b ah:Nat):Int)=(b:Int)) else decide (((Strip.bD ws (a.getD b (0,false)).1 b ah:Nat):Int)=(b:Int)))=true by rw[if_pos rfl,bp9 (λz=>g (Int.natCast_inj.mp z))];rfl]
  obtain⟨m',rfl⟩:=Nat.exists_eq_succ_of_ne_zero (bA3 mp)
  rw[show m'.succ=m'+1 from rfl,Strip.qV g]at e;have k2:=k2.resolve_left g;refine bQ ⟨_,rfl,trivial,?_⟩;refine⟨_,rfl,_,rfl,_,rfl,_,_,_,rD a,rfl,uQ (by rw[wl];exact k1),_,_,_,rfl,rfl,rfl,_,rfl,_,rfl,x,ws,(a.getD (Strip.bD ws (a.getD b (0,false)).1 b ah) (0,false)).1,_,ah,rfl,hx,ow,aj0 wf k1,k1,h2,trivial,?_⟩
  exact⟨m',Nat.lt_succ_self _,_,rfl,k1,by omega,e⟩
noncomputable def rH:b9:=λxs Q=>∃x ws a,∃s:Nat,xs = [x,bF a,.int s]/\d5 x ws/\b7 ws/\cW ws a/\s<2^ws.length/\Q (bF (Strip.next ws a s))
noncomputable def aj1:aX:=(cT (aP pT (aF (gX (j7 (aP eI (aF (aB 1) aM))) [none,some 0,some 1,some 2] (dU 0) iE (aP rG (aF (aB 1) (aF (aB 2) (aF (aB 3) (aF (aB 0) aM)))))) aM)))
theorem bg4 (a:aD):bF a = .tup (a.map gS):=by
 show PV.tup ((ki a).map _)=_;unfold ki;rw[by0];rfl
theorem bg5:∀xs Q,rH xs Q->aj1 { nx:=λ_=>Q .non,rt:=Q } (bG ["wants","answer","seeds"] xs):=by
 rintro _ Q ⟨x,ws,a,s,rfl,hx,ow,wf,h1,q⟩;have wl:=wf.1;have al:a.length<=4:=by rcases Strip.oC ow with e|e<;>omega
 refine⟨_,rfl,_,_,rfl,A3 a,_,rfl,by omega,by omega,by rw[dS];omega,λi acc=>acc=((List.range i).map (Strip.iS ws a s)).map gS,rfl,?_,?_⟩
 ·rintro i z acc hz rfl
  have hi:i<a.length:=by
   have:=(bs1.mp hz).1
   rw[dS]at this;omega
  rw[pR (by omega)]at hz;cases hz;refine⟨_,rfl,_,rfl,_,rfl,_,rfl,x,ws,a,s,i,by rw[Int.zero_add];rfl,hx,ow,wf,h1,by omega,trivial,?_⟩;dsimp only;rw[bF6,bs9,bs9];rfl
 rintro acc rfl;have e:(iD 0 ((a.length:Int)).toNat).length=a.length:=by rw[dS];exact bu1 _
 rw[e];refine⟨⟨_,_,rfl,rfl,ai6 _,?_⟩,λns z=>by cases z⟩;refine⟨trivial,?_⟩
 have:=bg4 (Strip.next ws a s)
 rw[this]at q;exact q
open Strip (aD b7 cW Closed qW)
open Core (d5 si)
section
variable {β:Type}
noncomputable def dR (r:β->PV)(ps:List (aD×β)):List (List (Int×Bool)×PV):=ps.map λp=>(ki p.1,r p.2)
theorem aj2 (a k:aD):decide (ki a=ki k)=decide (a=k):=decide_eq_decide.mpr ⟨A2,λe=>by rw[e]⟩
theorem kM (r:β->PV)(k:aD):∀ps:List (aD×β),dJ (dR r ps) (ki k)=(Strip.cV ps k).map r
 |[]=>rfl
 |p::ps=>by
  have ih:=kM r k ps;unfold dJ dR Strip.cV at ih ⊢;rw[bt3,bv4,bv4,aj2];cases decide (p.1=k) with
  |true=>rfl
  |false=>exact ih
theorem bg6 (r:β->PV)(k:aD)(ps:List (aD×β)):((dR r ps).any λp=>decide (p.1=ki k))=ps.any λp=>decide (p.1=k):=by
 unfold dR;rw[List.any_map];congr 1
 funext p
 exact aj2 p.1 k
theorem A6 (r:β->PV)(k:aD)(x:β)(ps:List (aD×β)):fY (dR r ps) (ki k) (r x)=dR r (Strip.eZ ps k x):=by
 unfold fY Strip.eZ;rw[bg6];cases ps.any λp=>decide (p.1=k) with
 |true=>
  rw[if_pos rfl,if_pos rfl];unfold dR;rw[by0,by0];refine bC0 λp _=>?_
  show (if ki p.1=ki k then (ki p.1,r x) else (ki p.1,r p.2))=_;by_cases e:p.1=k
  ·rw[if_pos (by rw[e])]
   show _=(ki (if p.1=k then (p.1,x) else p).1,r (if p.1=k then (p.1,x) else p).2);rw[if_pos e]
  ·rw[if_neg (λz=>e (A2 z))]
   show _=(ki (if p.1=k then (p.1,x) else p).1,r (if p.1=k then (p.1,x) else p).2);rw[if_neg e]
 |false=>
  rw[if_neg bq7,if_neg bq7];unfold dR;rw[bs9];rfl
theorem uR (r:β->PV)(ps:List (aD×β)):(dR r ps).length=ps.length:=bq6 _
end
noncomputable def rF (l:List (Nat×aD)):PV:=.fL (l.map fN)
noncomputable def dH (ws:ag)(Ks:List aD):List (aD×List (Nat×aD)):=Ks.map λa=>(a,Strip.after ws a)
theorem uS {ws:ag}{k:aD}:∀{Ks:List aD},Strip.cV (dH ws Ks) k=if k∈Ks then some (Strip.after ws k) else none
 |[]=>rfl
 |a::r=>by
  have ih:=uS (ws:=ws) (k:=k) (Ks:=r);unfold Strip.cV dH at ih ⊢;rw[bt3,bv4];by_cases e:a=k
  ·subst e
   rw[show decide (a=a)=true from bq2 rfl,if_pos bq3];rfl
  ·rw[show decide ((a,Strip.after ws a).1=k)=false from bp9 e]
   refine ih.trans ?_;by_cases m:k∈r
   ·rw[if_pos m,if_pos (bq8 _ m)]
   ·rw[if_neg m,if_neg (λz=>(br0.mp z).elim (λz=>e z.symm) m)]
theorem bg7 {ws:ag}{k:aD}{Ks:List aD}(h:k∉Ks):Strip.eZ (dH ws Ks) k (Strip.after ws k)=dH ws (Ks++[k]):=by
 have e:((dH ws Ks).any λp=>decide (p.1=k))=false:=by
  rw[Bool.eq_false_iff];intro z
  obtain⟨p,hp,z⟩:=List.any_eq_true.mp z
  obtain⟨a,ha,rfl⟩:=bt7.mp hp
  exact h ((bz1 z:a=k)▸ha)
 unfold Strip.eZ;rw[e,if_neg bq7];unfold dH;rw[bs9];rfl
noncomputable def oJ:b9:=λxs Q=>∃x ws,xs = [x,bF (Strip.bB ws)]/\d5 x ws/\b7 ws/\(∃S,Closed ws S)/\∀Ks,qW ws Ks->Q (.dA (dR rF (dH ws Ks)))
noncomputable def aj3:aX:=(aY (rB 2 (qC (.dA [])))
 (aY (nJ 3 (pM (aF (aB 1) aM)))
 (aY (pO (jV (aB 3))
  (aY (wY 3 4)
  (dQ (bL (oH true (aB 4) (aB 2))) (aY (bZ 5 (gX (j7 (aP eI (aF (aB 4) aM))) [none,some 0,some 4] (dU 0) iE (eU (aF (aB 0) (aF (aP rH (aF (aB 1) (aF (aB 2) (aF (aB 0) aM)))) aM)))))
   (aY (zS 2 (aB 4) (z8 (gX (kU (aB 5)) [none] (dU 0) (jV (d8 (d8 (d8 (aB 0) (qC (.int 1))) (x8 (qC (.int 1)))) (qC (.int 1)))) (aB 0))))
   (sY 3 (gX (kU (kI (aB 2) (aB 4))) [none,none] (lV 0 1) iE (aB 1))))) dP)))
 (pN 2))))
noncomputable def iV (ws:ag)(a:aD):List (Nat×aD):=(List.range a.length).map λs=>(s,Strip.next ws a s)
theorem bg8:∀xs Q,oJ xs Q->aj3 { nx:=λ_=>Q .non,rt:=Q } (bG ["wants","begin","following","waiting","answer","pairs"] xs):=by
 rintro _ Q ⟨x,ws,rfl,hx,ow,⟨S,cl⟩,q⟩;have fb:flat (bF (Strip.bB ws))=true:=rE _;refine⟨rfl,.inl ⟨[],rfl,rfl⟩,?_⟩;have f1:flats [bF (Strip.bB ws)]=true:=by show (flat (bF (Strip.bB ws))&&true)=true;rw[fb];rfl
 refine⟨_,rfl,by show 1<=1000;decide,f1,rfl,f1,?_⟩
 refine⟨λm ρ=>∃Ks wl y4 y5,ρ = [some (.sh (flat x) x),some (.sh (flat (bF (Strip.bB ws))) (bF (Strip.bB ws))),some (.own (.dA (dR rF (dH ws Ks)))),some (.own (.lst (wl.map bF))),y4,y5]/\Ks.Nodup/\(∀a∈Ks,a∈S/\cW ws a)/\(∀a∈wl,a∈S/\cW ws a)/\
  (Strip.bB ws∈Ks∨Strip.bB ws∈wl)/\(∀a∈Ks,∀p∈Strip.after ws a,p.2∈Ks∨p.2∈wl)/\m=5*(S.length-Ks.length)+wl.length/\wl.length<=4*Ks.length+1,⟨_,[],[Strip.bB ws],none,none,rfl,bF0,λ_ h=>(nomatch h),λa h=>by rw[bq1.mp h];exact⟨cl.b,Strip.kE ow⟩,.inr bq3,λ_ h=>(nomatch h),rfl,by show 1<=1;decide⟩,?_⟩
 rintro m ρ ⟨Ks,wl,y4,y5,rfl,nd,k1,k2,k3,k4,rfl,wl5⟩;have kl:=Strip.uB nd λa h=>(k1 a h).1
 have sl:=cl.len;refine⟨_,rfl,_,rfl,?_⟩;dsimp only;rcases List.eq_nil_or_concat wl with rfl|⟨wl',a,rfl⟩
 ·refine bJ ?_
  have g:qW ws Ks:=⟨⟨k3.resolve_right (λz=>by cases z),λa ha p hp=>(k4 a ha p hp).resolve_right (λz=>by cases z),by omega⟩,nd,λa ha=>(k1 a ha).2⟩
  exact⟨_,rfl,trivial,q Ks g⟩
 rw[List.concat_eq_append]at k2 k3 k4 wl5 ⊢
 obtain⟨aS,aW⟩:=k2 a (bs2 _ bq3)
 have al:a.length<=4:=by have:=aW.1;rcases Strip.oC ow with e|e<;>omega
 have a0:0<a.length:=by rw[aW.1];exact by2 _
 have ne:(!((wl'++[a]).map bF).isEmpty)=true:=by
  cases wl'<;>rfl
 show if (!((wl'++[a]).map bF).isEmpty)=true then _ else _
 rw[ne];have k2':∀b∈wl',b∈S/\cW ws b:=λb hb=>k2 b (bt5 _ hb)
 have len1:(wl'++[a]).length=wl'.length+1:=by rw[br4];rfl
 rw[len1]at wl5;refine bQ ⟨wl'.map bF,bF a,by rw[bs9];rfl,?_⟩;refine⟨_,rfl,_,rfl,(Strip.cV (dH ws Ks) a).map rF,.inl ⟨dR rF (dH ws Ks),ki a,rfl,rfl,(kM rF a _).symm⟩,_,rfl,?_⟩;dsimp only;rw[if_pos rfl,uS];by_cases hk:a∈Ks
 ·rw[if_pos hk]
  refine bJ ⟨_,by rw[len1];omega,Ks,wl',_,_,rfl,nd,k1,k2',?_,λb hb p hp=>?_,rfl,by omega⟩
  ·rcases k3 with z|z
   ·exact .inl z
   ·rcases bs3.mp z with z|z
    ·exact .inr z
    ·rw[bq1.mp z];exact .inl hk
  ·rcases k4 b hb p hp with z|z
   ·exact .inl z
   ·rcases bs3.mp z with z|z
    ·exact .inr z
    ·rw[bq1.mp z];exact .inl hk
 rw[if_neg hk];have nd2:(Ks++[a]).Nodup:=List.nodup_append.mpr ⟨nd,bx1.mpr ⟨(λz=>by cases z),bF0⟩,λb hb c hc e=>hk (by rw[<- bq1.mp hc,<- e];exact hb)⟩;have kl2:(Ks++[a]).length<=S.length:=Strip.uB nd2 λb hb=>by
  rcases bs3.mp hb with z|z
  ·exact (k1 b z).1
  ·rw[bq1.mp z];exact aS
 have len2:(Ks++[a]).length=Ks.length+1:=by rw[br4];rfl
 refine bQ ⟨_,rfl,_,_,rfl,A3 a,_,rfl,by omega,by omega,by rw[dS];omega,λi acc=>acc=((List.range i).map λs=>(s,Strip.next ws a s)).map fN,rfl,?_,?_⟩
 ·rintro i z acc hz rfl
  have hi:i<a.length:=by
   have:=(bs1.mp hz).1
   rw[dS]at this;omega
  rw[pR (by omega)]at hz;cases hz;refine⟨_,rfl,_,rfl,_,rfl,_,rfl,x,ws,a,i,by rw[Int.zero_add];rfl,hx,ow,aW,by rw[<- aW.1];exact hi,by show 2<=1000;decide,?_,trivial,?_⟩
  ·show (flat (.int _)&&(flat (bF (Strip.next ws a i))&&true))=true
   rw[rE];rfl
  ·dsimp only
   rw[bF6,bs9,bs9];congr 1;show [PV.tup [PV.int (0+(i:Int)),bF (Strip.next ws a i)]] = [PV.tup [PV.int (i:Int),bF (Strip.next ws a i)]];rw[Int.zero_add]
 rintro acc rfl;have e:(iD 0 ((a.length:Int)).toNat).length=a.length:=by rw[dS];exact bu1 _
 rw[e];refine⟨trivial,?_⟩;have pl:(iV ws a).length<=4:=by unfold iV;rw[bq6,bB6];exact al
 refine⟨_,rfl,_,rfl,(λz=>by cases z),by show ((iV ws a).map fN).length<=_;rw[bq6];omega,λi acc=>acc=(((iV ws a).take i).filter λp=>Strip.kept p.2).map fN,rfl,?_,?_⟩
 ·rintro i z acc hz rfl
  have hz:((iV ws a).map fN)[i]? = some z:=hz;rw[br5]at hz;cases hp:(iV ws a)[i]? with
  |none=>rw[hp]at hz;cases hz
  |some p=>
   rw[hp]at hz;cases hz;have tk:(iV ws a).take (i+1)=(iV ws a).take i++[p]:=by rw[bB5,hp];rfl
   obtain⟨s,hs,rfl⟩:=bt7.mp (bv1 hp)
   have hs:=bz5.mp hs;have nw:cW ws (Strip.next ws a s):=Strip.oB ow aW (by rw[<- aW.1];exact hs);have n0:0<(Strip.next ws a s).length:=by rw[nw.1];exact by2 _
   refine⟨_,rfl,_,_,_,rfl,rfl,rfl,_,rfl,_,_,_,rD _,rfl,bf9 n0,_,_,_,rfl,rfl,rfl,_,rfl,?_⟩;dsimp only;have ek:(Strip.next ws a s).getD ((Strip.next ws a s).length-1) (0,false)=(Strip.next ws a s).getD ((Strip.next ws a s).length-1) (0,false):=rfl;show if Strip.kept (Strip.next ws a s)=true then _ else _
   rw[tk,bw1];cases hk2:Strip.kept (Strip.next ws a s) with
   |true=>
    refine bQ ⟨_,rfl,?_,?_⟩
    ·show Nw (Slot.sh (false||flat (fN (s,Strip.next ws a s))) _).tag _
     rw[ai7];trivial
    ·have fc:[(s,Strip.next ws a s)].filter (λp=>Strip.kept p.2) = [(s,Strip.next ws a s)]:=by
      show (match Strip.kept (Strip.next ws a s) with|true=>_|false=>_)=_;rw[hk2];rfl
     rw[bs9,fc];rfl
   |false=>
    refine bJ ?_;have fc:[(s,Strip.next ws a s)].filter (λp=>Strip.kept p.2) = []:=by
     show (match Strip.kept (Strip.next ws a s) with|true=>_|false=>_)=_;rw[hk2];rfl
    rw[fc,bu0]
 rintro acc rfl;have ea:((iV ws a).take ((iV ws a).map fN).length).filter (λp=>Strip.kept p.2)=Strip.after ws a:=by
  rw[bq6,bC8];rfl
 have ea:((iV ws a).take (((List.range a.length).map λs=>(s,Strip.next ws a s)).map fN).length).filter (λp=>Strip.kept p.2)=Strip.after ws a:=ea;rw[ea];refine⟨_,rfl,rfl,A4 _,_,rfl,_,rfl,ki a,rfl,trivial,by rw[uR];unfold dH;rw[bq6];omega,?_⟩;have ep:fY (dR rF (dH ws Ks)) (ki a) (.fL ((Strip.after ws a).map fN))=dR rF (dH ws (Ks++[a])):=(A6 rF a (Strip.after ws a) _).trans (by rw[bg7 hk]);rw[ep];have af:=Strip.ba9 ws a;have hg:dJ (dR rF (dH ws (Ks++[a]))) (ki a)=some (rF (Strip.after ws a)):=by rw[kM,uS,if_pos (bs2 _ bq3)];rfl
 refine⟨_,rfl,_,rfl,_,rfl,rF (Strip.after ws a),.inl ⟨_,ki a,rfl,rfl,hg.symm⟩,_,rfl,(λz=>A4 _),by rw[bq6];omega,λi acc=>acc=((Strip.after ws a).take i).map λp=>bF p.2,rfl,?_,?_⟩
 ·rintro i z acc hz rfl
  rw[br5]at hz;cases hp:(Strip.after ws a)[i]? with
  |none=>rw[hp]at hz;cases hz
  |some p=>
   rw[hp]at hz;cases hz;refine⟨_,_,rfl,_,rfl,?_,?_⟩
   ·show Nw (Slot.sh (false||flat (bF p.2)) _).tag _
    rw[rE];trivial
   ·dsimp only
    rw[bB5,hp,bs9];rfl
 rintro acc rfl;have et:(Strip.after ws a).take ((Strip.after ws a).map fN).length=Strip.after ws a:=by rw[bq6,bC8]
 rw[et];refine⟨_,.inr rfl,.inl trivial,by rw[bq6,bq6];omega,?_⟩;have ew:wl'.map bF++((Strip.after ws a).map λp=>bF p.2)=(wl'++(Strip.after ws a).map λp=>p.2).map bF:=by rw[bs9,by0];rfl
 rw[ew];refine⟨_,?_,Ks++[a],wl'++(Strip.after ws a).map λp=>p.2,_,_,rfl,nd2,λb hb=>?_,λb hb=>?_,?_,λb hb p hp=>?_,rfl,?_⟩
 ·rw[len1,len2,br4,bq6];omega
 ·rcases bs3.mp hb with z|z
  ·exact k1 b z
  ·rw[bq1.mp z];exact⟨aS,aW⟩
 ·rcases bs3.mp hb with z|z
  ·exact k2' b z
  ·obtain⟨p,hp,rfl⟩:=bt7.mp z
   exact⟨cl.go a aS p hp,Strip.ae9 ow aW hp⟩
 ·rcases k3 with z|z
  ·exact .inl (bt5 _ z)
  ·rcases bs3.mp z with z|z
   ·exact .inr (bt5 _ z)
   ·rw[bq1.mp z];exact .inl (bs2 _ bq3)
 ·rcases bs3.mp hb with z|z
  ·rcases k4 b z p hp with z|z
   ·exact .inl (bt5 _ z)
   ·rcases bs3.mp z with z|z
    ·exact .inr (bt5 _ z)
    ·rw[bq1.mp z];exact .inl (bs2 _ bq3)
  ·rw[bq1.mp z]at hp
   exact .inr (bs2 _ (bt7.mpr ⟨p,hp,rfl⟩))
 ·rw[len2,br4,bq6];omega
open Strip (aD b7 cW Closed qW)
open Core (d5 si)
section
variable {β:Type}
structure Kd (Ks:List aD)(Bd:β->Prop)(ps:List (aD×β)):Prop where
 nd:(ps.map (·.1)).Nodup
 mem:∀p∈ps,p.1∈Ks/\Bd p.2
theorem bg9 {ps:List (aD×β)}{k:aD}{b:β}(h:Strip.cV ps k=some b):(k,b)∈ps:=by
 unfold Strip.cV at h;cases e:ps.find? λp=>decide (p.1=k) with
 |none=>rw[e]at h;cases h
 |some p=>
  rw[e]at h;have h1:p.2=b:=bt2 h;have h2:=List.find?_some e;have h2:p.1=k:=by simpa using h2
  have:=bC2 e
  rw[<- h1,<- h2];exact this
theorem aj4 {ps:List (aD×β)}{p:aD×β}(n:(ps.map (·.1)).Nodup)(h:p∈ps):Strip.cV ps p.1=some p.2:=by
 induction ps with
 |nil=>cases h
 |cons q r ih=>
  rw[bt3,bx1]at n;unfold Strip.cV at ih ⊢;rw[bv4];rcases br0.mp h with rfl|h
  ·rw[bq2 rfl];rfl
  ·rw[bp9 (λe:q.1=p.1=>n.1 (by rw[e];exact List.mem_map_of_mem h))]
   exact ih n.2 h
variable {Ks:List aD}{Bd:β→Prop}{ps:List (aD×β)}{J:β→β→β}{k:aD}{z:β}
theorem Kd.put (h:Kd Ks Bd ps)(hk:k∈Ks)(hz:Bd z):Kd Ks Bd (Strip.eZ ps k z):=by
 refine⟨Strip.ad2 h.nd,λp hp=>?_⟩;unfold Strip.eZ at hp;split at hp
 ·obtain⟨q,hq,rfl⟩:=bt7.mp hp
  by_cases e:q.1=k
  ·rw[if_pos e];exact⟨(h.mem q hq).1,hz⟩
  ·rw[if_neg e];exact h.mem q hq
 ·rcases bs3.mp hp with hp|hp
  ·exact h.mem p hp
  ·rw[bq1.mp hp];exact⟨hk,hz⟩
theorem Kd.join (hJ:∀a b,Bd a->Bd b->Bd (J a b))(h:Kd Ks Bd ps)(hk:k∈Ks)(hz:Bd z):Kd Ks Bd (Strip.dX J ps k z):=by
 unfold Strip.dX;refine h.put hk ?_;cases e:Strip.cV ps k with
 |none=>exact hz
 |some w=>exact hJ _ _ (h.mem _ (bg9 e)).2 hz
theorem Kd.len (h:Kd Ks Bd ps):ps.length<=Ks.length:=by
 rw[<- bq6 (·.1)];exact Strip.uB h.nd λx hx=>by obtain⟨p,hp,rfl⟩:=bt7.mp hx;exact (h.mem p hp).1
theorem Kd.folds {ws:ag}{pass:β->Nat->β}{Bd':β->Prop}(hJ:∀a b,Bd' a->Bd' b->Bd' (J a b)){v:β}(hp:∀s,s<4->Bd' (pass v s)){a:aD}(al:a.length<=4)(go:∀q∈Strip.after ws a,q.2∈Ks):∀(m:Nat) {l:List (aD×β)},Kd Ks Bd' l->Kd Ks Bd' (((Strip.after ws a).take m).foldl (λl q=>Strip.dX J l q.2 (pass v q.1)) l):=by
 intro m l h
 have:∀q∈(Strip.after ws a).take m,q∈Strip.after ws a:=λq hq=>bD5 hq
 generalize (Strip.after ws a).take m=qs at this
 induction qs generalizing l with
 |nil=>exact h
 |cons q r ih=>
  have hq:=this q bq3;exact ih (h.join hJ (go q hq) (hp _ (by have:=(Strip.zG hq).1;omega))) λx hx=>this x (bq8 _ hx)
open Classical in
noncomputable def iW (r:β->PV)(J:β->β->β)(w z:PV):PV:=if h:(∃a,r a=w)/\∃b,r b=z then r (J h.1.choose h.2.choose) else .non
theorem A7 {r:β->PV}(inj:∀{a b},r a=r b->a=b)(a b:β):iW r J (r a) (r b)=r (J a b):=by
 have h:(∃x,r x=r a)/\∃y,r y=r b:=⟨⟨a,rfl⟩,b,rfl⟩
 unfold iW;rw[dif_pos h,inj h.1.choose_spec,inj h.2.choose_spec]
noncomputable def fB (r:β->PV)(x:PV):Prop:=∃b,r b=x
theorem bh0 {r:β->PV}(inj:∀{a b},r a=r b->a=b):fY (dR r ps) (ki k) (jn (iW r J) (dR r ps) (ki k) (r z))=dR r (Strip.dX J ps k z):=by
 unfold jn Strip.dX;rw[kM];cases Strip.cV ps k with
 |none=>exact A6 r k z ps
 |some w=>
  show fY (dR r ps) (ki k) (iW r J (r w) (r z))=_;rw[A7 inj];exact A6 r k _ ps
noncomputable def eB (r:β->PV):Option β->List (Int×PV)
 |none=>[]
 |some v=>[(1,r v)]
theorem bh2 {r:β->PV}(inj:∀{a b},r a=r b->a=b)(o:Option β):fY (eB r o) 1 (jn (iW r J) (eB r o) 1 (r z))=eB r (Strip.iI J o z):=by
 cases o with
 |none=>rfl
 |some w=>
  have e:jn (iW r J) (eB r (some w)) 1 (r z)=iW r J (r w) (r z):=rfl;rw[e,A7 inj];rfl
end
noncomputable abbrev mW (tab:List (bC×b9)):aH:=zW 3 tab (aF (kI (aB 0) (aB 1)) (aF (aB 2) aM))
theorem aj5 {β:Type}{r:β->PV}{J:β->β->β}{l:bC}{p:b9}{tab:List (bC×b9)}(inj:∀{a b},r a=r b->a=b)(fl:∀b,flat (r b)=true)(hm:(l,p)∈tab)(hp:∀a b (Q:PV->Prop),Q (r (J a b))->p [r a,r b] Q) :
  ∀d y w z,lE d y (some w)->fB r w->fB r z->mW tab (bG ["values","key","value","joined"] [d,y,z,.lm l]) λv _=>v=iW r J w z/\flat v=true:=by
 rintro d y _ _ ak ⟨a,rfl⟩ ⟨b,rfl⟩;refine⟨_,l,p,rfl,hm,?_⟩;refine⟨_,rfl,_,rfl,r a,ak,_,rfl,?_⟩;refine hp a b _ ⟨(A7 inj a b).symm,fl _⟩
noncomputable def uT {β:Type}(r:β->PV)(first:β)(pass:β->Nat->β)(J:β->β->β)(gP gJ:PV):b9:=λxs Q=>∃x ws,∃n:Nat,∃v,xs = [x,.int n,r first,gP,gJ]/\d5 x ws/\b7 ws/\(∃S,Closed ws S)/\n<=300/\Strip.fJ J (Strip.cM ws pass J first n)=some v/\Q (r v)
noncomputable def A8 (tc:aH)(gJ:PV)(Ok:PV->Prop)(JV:PV->PV->PV):aX:=aY (bZ 5 (aN1 (eU (aF (eU (aF (qC (.int 0)) (aF (qC (.bl true)) aM))) aM)) (S3 (qC (.int 1)) (aP eI (aF (aB 0) aM)))))
 (aY (bZ 6 (uL (aP oJ (aF (aB 0) (aF (aB 5) aM)))))
 (aY (bZ 7 (uL (zT (aB 5) (aB 2))))
 (aY (gH (j7 (aB 1)) (dU 8)
  (aY (rB 9 (qC (.dA [])))
  (aY (gH (uN (aB 7)) (dU 10)
   (gH (kU (kI (aB 6) (aB 10))) (lV 11 12)
    (zX 9 gJ Ok JV (aB 12) tc (aB 4))))
  (A1 9 7))))
 (aY (rB 13 (qC (.dB [])))
 (aY (gH (uN (aB 7)) (dU 10)
  (dQ (jV (d8 (d8 (aB 10) (qC (.int 0))) (qC (.int 1)))) (zY 13 gJ Ok JV (qC (.bl true)) (kI (aB 7) (aB 10)) (aB 4)) dP))
 (cT (kI (aB 13) (qC (.bl true)))))))))
theorem bh3 {ws:ag}(o:b7 ws):PV.tup (List.replicate ((1:Int)*2^((ws.length:Int)).toNat).toNat [PV.tup [PV.int 0,PV.bl true]]).flatten=bF (Strip.bB ws):=by
 rcases o.two with⟨a,rfl⟩|⟨a,b,rfl⟩<;>rfl
theorem aj6 {β:Type}{r:β->PV}{first:β}{pass:β->Nat->β}{J:β->β->β}{gP gJ:PV}{tc:aH}(Bd:Nat->β->Prop)(inj:∀{a b},r a=r b->a=b)(fl:∀b,flat (r b)=true)(h0:Bd 0 first)(hJ:∀i a b,Bd i a->Bd i b->Bd i (J a b))(hP:∀i v s,Bd i v->s<4->Bd (i+1) (pass v s))(htc:∀(ρ:bR) (Q:PK) ps k b (s i:Nat),(∃g,ρ[3]? = some (some (.sh g gP)))->(∃g,ρ[7]? = some (some (.sh g (.fA (dR r ps)))))->(∃g,ρ[10]? = some (some (.sh g (bF k))))->(∃g,ρ[11]? = some (some (.sh g (.int s))))->
   Strip.cV ps k=some b->Bd i b->i<=300->s<4->Q (r (pass b s)) .fr->tc ρ Q) :
  ∀xs Q,uT r first pass J gP gJ xs Q->A8 tc gJ (fB r) (iW r J) { nx:=λ_=>Q .non,rt:=Q } (bG ["wants","length","first","passed","joined","begin","following","values","turn","later","answer","seeds","behind","ends"] xs):=by
 rintro _ Q ⟨x,ws,n,v,rfl,hx,ow,cl,hn,hv,q⟩;have wl:ws.length=1∨ws.length=2:=by have:=ow.1;have:=ow.2;omega
 have hl:pQ x=some ws.length:=hx.len;refine⟨by decide,rfl,by decide,rfl,_,rfl,x,ws.length,rfl,hl,_,_,rfl,rfl,⟨by omega,by omega,by decide⟩,[.tup [.int 0,.bl true]],_,rfl,rfl,rfl,by simp,?_,?_,by decide,trivial,?_⟩
 ·rcases wl with e|e<;>rw[e]<;>decide
 ·rcases wl with e|e<;>rw[e]<;>decide
 rw[bh3 ow];refine⟨_,rfl,_,rfl,x,ws,rfl,hx,ow,cl,λKs gd=>?_⟩;have fF:flats ((dR rF (dH ws Ks)).map (·.2))=true:=by
  unfold dR dH;rw[by0,by0];generalize Ks=L
  induction L with
  |nil=>rfl
  |cons a t ih=>show (flat (rF (Strip.after ws a))&&_)=true;rw[show flat (rF (Strip.after ws a))=true from A4 _];exact ih
 refine⟨dR rF (dH ws Ks),rfl,rfl,fF,trivial,?_⟩;refine⟨_,rfl,_,rfl,fl first,ki (Strip.bB ws),rfl,[(ki (Strip.bB ws),r first)],rfl,rfl,?_,trivial,?_⟩
 ·show (flat (r first)&&true)=true
  rw[fl];rfl
 have kl:Ks.length<=5000:=gd.len
 let vw:Nat->List (aD×β):=λi=>Strip.cM ws pass J first i
 have al:∀a∈Ks,a.length<=4:=λa ha=>by have:=(gd.wf a ha).1;rcases Strip.oC ow with e|e<;>omega
 have kd:∀i,Kd Ks (Bd i) (vw i):=λi=>by
  induction i with
  |zero=>exact⟨bx1.mpr ⟨(λz=>by cases z),bF0⟩,λp hp=>by rw[bq1.mp hp];exact⟨gd.b,h0⟩⟩
  |succ i ih=>
   show Kd Ks (Bd (i+1)) ((vw i).foldl (Strip.h8 ws pass J) [])
   have:∀p∈vw i,p.1∈Ks/\Bd i p.2:=ih.mem
   have go:∀{qs:List (aD×β)}{l:List (aD×β)},(∀p∈qs,p.1∈Ks/\Bd i p.2)->Kd Ks (Bd (i+1)) l->Kd Ks (Bd (i+1)) (qs.foldl (Strip.h8 ws pass J) l):=by
    intro qs
    induction qs with
    |nil=>exact λ_ h=>h
    |cons p t ih2=>
     intro l hq h
     obtain⟨hk,hb⟩:=hq p bq3
     refine ih2 (λx hx=>hq x (bq8 _ hx)) ?_
     have:=Kd.folds (ws:=ws) (pass:=pass) (v:=p.2) (hJ (i+1)) (λs hs=>hP i p.2 s hb hs) (al p.1 hk) (gd.go p.1 hk) (Strip.after ws p.1).length h
     rwa [bC8]at this
   exact go this ⟨bF0,λ_ z=>by cases z⟩
 refine⟨_,rfl,(n:Int),rfl,by omega,by omega,λi ρ=>∃y8 y9 y10 y11 y12,ρ = [some (.sh (flat x) x),si n,some (.sh (flat (r first)) (r first)),some (.sh (flat gP) gP),some (.sh (flat gJ) gJ),some (.sh true (bF (Strip.bB ws))),some (.sh true (.fA (dR rF (dH ws Ks)))),some (.sh true (.fA (dR r (vw i)))),y8,y9,y10,y11,y12,none],⟨_,_,_,_,_,rfl⟩,?_,?_⟩
 ·rintro i z ρ hz ⟨y8,y9,y10,y11,y12,rfl⟩
  have hi:i<n:=by
   have:=(bs1.mp hz).1
   rw[dS]at this;omega
  refine⟨rfl,.inl ⟨[],rfl,rfl⟩,?_⟩;refine⟨_,rfl,dR r (vw i),rfl,λj ρ=>∃y8 y10 y11 y12,ρ = [some (.sh (flat x) x),si n,some (.sh (flat (r first)) (r first)),some (.sh (flat gP) gP),some (.sh (flat gJ) gJ),some (.sh true (bF (Strip.bB ws))),some (.sh true (.fA (dR rF (dH ws Ks)))),some (.sh true (.fA (dR r (vw i)))),y8,some (.own (.dA (dR r (((vw i).take j).foldl (Strip.h8 ws pass J) [])))),y10,y11,y12,none]/\Kd Ks (Bd (i+1)) (((vw i).take j).foldl (Strip.h8 ws pass J) []),⟨_,_,_,_,rfl,⟨bF0,λ_ z=>by cases z⟩⟩,?_,?_⟩
  ·rintro j z2 ρ hz2 ⟨y8,y10,y11,y12,rfl,hk⟩
   unfold dR at hz2;rw[by0,br5]at hz2;cases hp:(vw i)[j]? with
   |none=>rw[hp]at hz2;cases hz2
   |some p=>
    rw[hp]at hz2;cases hz2;have pm:p∈vw i:=bv1 hp
    obtain⟨pk,pb⟩:=(kd i).mem p pm
    have tk:(vw i).take (j+1)=(vw i).take j++[p]:=by rw[bB5,hp];rfl
    have pv2:=aj4 (kd i).nd pm;have fv:dJ (dR rF (dH ws Ks)) (ki p.1)=some (rF (Strip.after ws p.1)):=by rw[kM,uS,if_pos pk];rfl
    refine⟨_,rfl,_,rfl,rF (Strip.after ws p.1),.inl ⟨_,ki p.1,rfl,rfl,fv.symm⟩,_,rfl,(λz=>by cases z),λm ρ=>∃y11 y12,ρ = [some (.sh (flat x) x),si n,some (.sh (flat (r first)) (r first)),some (.sh (flat gP) gP),some (.sh (flat gJ) gJ),some (.sh true (bF (Strip.bB ws))),some (.sh true (.fA (dR rF (dH ws Ks)))),some (.sh true (.fA (dR r (vw i)))),y8,some (.own (.dA (dR r (((Strip.after ws p.1).take m).foldl (λl q=>Strip.dX J l q.2 (pass p.2 q.1)) (((vw i).take j).foldl (Strip.h8 ws pass J) []))))),some (.sh true (bF p.1)),y11,y12,none]/\Kd Ks (Bd (i+1)) (((Strip.after ws p.1).take m).foldl (λl q=>Strip.dX J l q.2 (pass p.2 q.1)) (((vw i).take j).foldl (Strip.h8 ws pass J) [])),⟨_,_,rfl,hk⟩,?_,?_⟩
    ·rintro m z3 ρ hz3 ⟨y11,y12,rfl,hk3⟩
     have hz3:((Strip.after ws p.1).map fN)[m]? = some z3:=hz3;rw[br5]at hz3;cases hq:(Strip.after ws p.1)[m]? with
     |none=>rw[hq]at hz3;cases hz3
     |some u=>
      rw[hq]at hz3;cases hz3;have um:=bv1 hq;have us:=(Strip.zG um).1;have ul:=al p.1 pk;have tk3:(Strip.after ws p.1).take (m+1)=(Strip.after ws p.1).take m++[u]:=by rw[bB5,hq];rfl
      refine⟨_,_,rfl,_,rfl,_,rfl,?_⟩;refine htc _ _ (vw i) p.1 p.2 u.1 i ⟨_,rfl⟩ ⟨_,rfl⟩ ⟨_,rfl⟩ ⟨_,rfl⟩ pv2 pb (by omega) (by omega) ?_;refine⟨_,rfl,ki u.2,rfl,rfl,fl _,⟨_,rfl⟩,λw hw=>?_,by rw[uR];have:=hk3.len;omega,?_⟩
      ·rw[kM]at hw
       cases e:Strip.cV _ u.2 with
       |none=>rw[e]at hw;cases hw
       |some b=>rw[e]at hw;cases hw;exact⟨b,rfl⟩
      ·refine⟨some (.sh true (.int u.1)),some (.sh true (bF u.2)),?_,?_⟩
       rotate_left
       ·rw[tk3,bD8]
        exact hk3.join (hJ (i+1)) (gd.go p.1 pk u um) (hP i p.2 u.1 pb (by omega))
       ·rw[bh0 inj,tk3,bD8];rfl
    ·rintro ρ ⟨y11,y12,rfl,hk3⟩
     have e:((Strip.after ws p.1).take ((Strip.after ws p.1).map fN).length)=Strip.after ws p.1:=by rw[bq6,bC8]
     rw[e]at hk3 ⊢;refine⟨y8,some (.sh true (bF p.1)),y11,y12,?_,?_⟩
     rotate_left
     ·rw[tk,bD8];exact hk3
     ·rw[tk,bD8];rfl
  ·rintro ρ ⟨y8,y10,y11,y12,rfl,hk⟩
   have e:(vw i).take ((dR r (vw i)).map λp=>PV.tup (p.1.map λq=>.tup [.int q.1,.bl q.2])).length=vw i:=by rw[bq6,uR,bC8]
   rw[e]
   exact⟨_,rfl,y8,_,y10,y11,y12,rfl⟩
 rintro ρ ⟨y8,y9,y10,y11,y12,rfl⟩;have e:(iD 0 ((n:Int)).toNat).length=n:=by rw[dS];exact bu1 _
 rw[e];refine⟨rfl,.inr ⟨[],rfl,rfl⟩,?_⟩;refine⟨_,rfl,dR r (vw n),rfl,λj ρ=>∃y10,ρ = [some (.sh (flat x) x),si n,some (.sh (flat (r first)) (r first)),some (.sh (flat gP) gP),some (.sh (flat gJ) gJ),some (.sh true (bF (Strip.bB ws))),some (.sh true (.fA (dR rF (dH ws Ks)))),some (.sh true (.fA (dR r (vw n)))),y8,y9,y10,y11,y12,some (.own (.dB (eB r ((((vw n).take j).filter λp=>Strip.lit p.1).foldl (λacc p=>Strip.iI J acc p.2) none))))],⟨_,rfl⟩,?_,?_⟩
 ·rintro j z2 ρ hz2 ⟨y10,rfl⟩
  unfold dR at hz2;rw[by0,br5]at hz2;cases hp:(vw n)[j]? with
  |none=>rw[hp]at hz2;cases hz2
  |some p=>
   rw[hp]at hz2;cases hz2;have pm:p∈vw n:=bv1 hp
   obtain⟨pk,pb⟩:=(kd n).mem p pm
   have tk:(vw n).take (j+1)=(vw n).take j++[p]:=by rw[bB5,hp];rfl
   have pv2:=aj4 (kd n).nd pm;have a0:0<p.1.length:=by rw[(gd.wf _ pk).1];exact by2 _
   refine⟨_,rfl,_,_,_,rD _,rfl,uQ (b:=0) a0,_,_,_,rfl,rfl,rfl,_,rfl,?_⟩;show if Strip.lit p.1=true then _ else _
   cases hl2:Strip.lit p.1 with
   |true=>
    refine bQ ⟨_,rfl,_,rfl,_,rfl,r p.2,.inl ⟨_,ki p.1,rfl,rfl,by rw[kM,pv2];rfl⟩,_,rfl,1,.inr ⟨true,rfl,rfl⟩,rfl,fl _,⟨_,rfl⟩,λw hw=>?_,?_,some (.sh true (bF p.1)),?_⟩
    ·generalize ((((vw n).take j).filter λp=>Strip.lit p.1).foldl (λacc p=>Strip.iI J acc p.2) none)=o at hw
     cases o with
     |none=>cases hw
     |some b=>cases hw;exact⟨b,rfl⟩
    ·generalize ((((vw n).take j).filter λp=>Strip.lit p.1).foldl (λacc p=>Strip.iI J acc p.2) none)=o
     cases o with
     |none=>show 0<16000000;decide
     |some b=>show 1<16000000;decide
    ·have fc:[p].filter (λp=>Strip.lit p.1) = [p]:=by
      show (match Strip.lit p.1 with|true=>_|false=>_)=_;rw[hl2];rfl
     rw[tk,bw1,bD8,fc,bh2 inj];rfl
   |false=>
    refine bJ ⟨some (.sh true (bF p.1)),?_⟩;have fc:[p].filter (λp=>Strip.lit p.1) = []:=by
     show (match Strip.lit p.1 with|true=>_|false=>_)=_;rw[hl2];rfl
    rw[tk,bw1,bD8,fc];rfl
 rintro ρ ⟨y10,rfl⟩;have e:(vw n).take ((dR r (vw n)).map λp=>PV.tup (p.1.map λq=>.tup [.int q.1,.bl q.2])).length=vw n:=by rw[bq6,uR,bC8]
 rw[e];have ee:((vw n).filter λp=>Strip.lit p.1).foldl (λacc p=>Strip.iI J acc p.2) none=some v:=hv;rw[ee]
 exact⟨_,rfl,r v,.inr ⟨_,1,rfl,.inr ⟨true,rfl,rfl⟩,rfl⟩,fl v,q⟩
end PP
namespace L2
open PySem PyProof.Rows
theorem aj7 {a c:Int}{ns ms:ag}:(HT.cK (c::ms) (a::ns)=true->c<=a)/\(HT.cK (c::ms) (a::ns)=false->a<=c):=by
 rw[HT.jL];by_cases e:c=a
 ·rw[if_pos e,e];exact⟨λ_=>bD4 _,λ_=>bD4 _⟩
 ·rw[if_neg e]
  exact⟨λh=>Int.le_of_lt (bz1 h),λh=>Int.not_lt.mp (of_decide_eq_false h)⟩
end L2
namespace PP
open PySem L2 PyProof.Rows PySem.Spec
section
variable {P:az}{w:bc}{K:ad}{mg:Str→Option aw}{base:Heap}{T:List (ay×Str)}
theorem bh4 {k:Nat}{x:Str}{ps N:List Str}{p:b9}{st:Stmt}{f:ay}{fd:FuncData}(F:bK K x x st f fd)(S:FnScope N ps (aJ st))(len:∀xs Q,p xs Q->xs.length=ps.length)(body:∀(cdv:aw) (A:ba) (outer:List Env) (s:ax) (H:Hp) (E:XK),bM k (A.deeper (envOfC x (aJ st) s.heap.objs.size f cdv))->gR T H->
   ∃t,g8 (cJ cG P w K mg base N x (aJ st) f cdv A outer s H E).nox (bA st) t/\∀xs Q,p xs Q->t { nx:=λ_=>Q .non,rt:=Q } (bG N xs)):d7 P w K mg base cG (k+1) f fd ps (r6 K T p):=by
 refine F.ok S (λvs H Q E h=>?_) (λcdv A outer s H vs Q E hr h=>?_)
 ·obtain⟨_,xs,Qp,r,q,_⟩:=h
  rw[r.length];exact len xs Qp q
 ·obtain⟨hT,xs,Qp,r,q,k⟩:=h
  obtain⟨t,ht,hq⟩:=body cdv A outer s H E hr hT
  refine⟨_,ht,λ_=>False,bG N xs,_,kY r,hq xs Qp q,?_,?_,?_,?_⟩
  ·exact λW' σ' H' ρ' e px q=>k _ _ _ px.same .non q
  ·exact λv H' x s r q=>k _ _ _ s r q
  ·exact λW' σ' H' ρ' e px q=>q
  ·exact λW' σ' H' ρ' e px q=>q
theorem eO.ofC {k:Nat}{x:Str}{ps N:List Str}{p:b9}{st:Stmt}{f c0:ay}{oc:aw}{od an:Option ay}{osl:Array (Option aw)}{kV doc pm ct:aw}(l:K.lookup f=some ⟨oc,od,.func (PySem.W.fnOf x x (bE st) (bA st) (aJ st) .none kV doc pm an (.ref c0) ct),osl⟩)(c:PySem.W.codeIn K (.ref c0) x=true)(kp:PySem.W.keepIn K (.ref f)=true)(m:mg x=some (.ref f))(S:FnScope N ps (aJ st))(hb:∀(kV doc pm:aw) (an:Option ay) (cdv ct:aw) (us:List aw),us.length=ps.length->bindArgs (PySem.W.fnOf x x (bE st) (bA st) (aJ st) .none kV doc pm an cdv ct) ⟨us,[]⟩=pure (ps.zip us))(len:∀xs Q,p xs Q->xs.length=ps.length)(body:∀(A:ba) (outer:List Env) (s:ax) (H:Hp) (E:XK),bM k (A.deeper (envOfC x (aJ st) s.heap.objs.size f (.ref c0)))->gR T H->
   ∃t,g8 (cJ cG P w K mg base N x (aJ st) f (.ref c0) A outer s H E).nox (bA st) t/\∀xs Q,p xs Q->t { nx:=λ_=>Q .non,rt:=Q } (bG N xs)):eO P w K mg base T (k+1) x ps p:=by
 refine⟨f,_,vS l c S (λvs H Q E h=>?_) (λA outer s H vs Q E hr h=>?_),(cZ l c kp).binds hb,kp,m⟩
 ·obtain⟨_,xs,Qp,r,q,_⟩:=h
  rw[r.length];exact len xs Qp q
 ·obtain⟨hT,xs,Qp,r,q,k⟩:=h
  obtain⟨t,ht,hq⟩:=body A outer s H E hr hT
  refine⟨_,dN.nox ht,λ_=>False,bG N xs,_,kY r,hq xs Qp q,?_,?_,?_,?_⟩
  ·exact λW' σ' H' ρ' e px q=>k _ _ _ px.same .non q
  ·exact λv H' x s r q=>k _ _ _ s r q
  ·exact λW' σ' H' ρ' e px q=>q
  ·exact λW' σ' H' ρ' e px q=>q
noncomputable def uU (K:ad)(T:List (ay×Str)):Sp:=λvs H Q E=>gR T H/\aO5 K vs H Q E
theorem bh5 {k:Nat}{f:ay}{fd:FuncData}(F:d7 P w K mg base cG k f fd ["script"] (r6 K T Core.Z5)):d7 P w K mg base cG k f fd ["script"] (uU K T):=
 F.imp λvs H Q E h=>by
  obtain⟨hT,a,ns,rfl,hs,hl,q⟩:=h
  refine⟨hT,[.scr ns],λz=>z = .bl true,.cons (.scr hs) .nil,⟨ns,rfl,hl,rfl⟩,?_⟩;rintro v H' x _ r rfl;cases r;exact q H'
theorem aj8 {f c:ay}{x:Str}{st:Stmt}{oc kV doc pm ct:aw}{od an:Option ay}{osl:Array (Option aw)}(l:K.lookup f=some ⟨oc,od,.func (PySem.W.fnOf x x (bE st) (bA st) (aJ st) .none kV doc pm an (.ref c) ct),osl⟩) :
  ∃oc od kV doc pm an ct osl,K.lookup f=some ⟨oc,od,.func (PySem.W.fnOf x x (bE st) (bA st) (aJ st) .none kV doc pm an (.ref c) ct),osl⟩:=⟨_,_,_,_,_,_,_,_,l⟩
theorem aj9 {a b:ay}(h:(a==b)=false):a≠b:=λe=>by rw[e]at h;simp at h
end
noncomputable def bh6:Expr->Arguments
 |.Lambda a _ _ _=>a
 |_=>{ posonlyargs:=[],args:=[],vararg:=none,kwonlyargs:=[],kw_defaults:=[],kwarg:=none,defaults:=[] }
noncomputable def bh7:Expr->Expr
 |.Lambda _ b _ _=>b
 |e=>e
noncomputable def bh8:Expr->Scope
 |.Lambda _ _ s _=>s
 |_=>{ kind:=.function,names:=[],isGenerator:=false,isCoroutine:=false }
noncomputable def A9 (q:Str)(e:Expr):bC:=⟨q,bh6 e,bh7 e,bh8 e⟩
noncomputable def B0 (st:Stmt)(j:Nat):Expr:=match (bA st).getLast? with
 |some (.Return (some (.Call _ es _ _)) _)=>es.getD j (.Name "" ⟨0,0,0,0⟩)
 |_=>.Name "" ⟨0,0,0,0⟩
open Strip (aD b7 cW Closed qW)
open Core (d5 si gO)
noncomputable def rJ:b9:=λxs Q=>∃x y,xs = [x,y]/\flat x=true/\Q x
noncomputable def oK:b9:=λxs Q=>∃a b:Int,xs = [.int a,.int b]/\Q (.int (a+b))
noncomputable def oM:b9:=uP
theorem bh9:∀xs Q,rJ xs Q->aB 0 (bG ["many","seeds"] xs) λx _=>flat x=true/\Q x:=by
 rintro _ Q ⟨x,y,rfl,f,q⟩
 exact⟨_,rfl,f,q⟩
theorem bi0:∀xs Q,oK xs Q->fZ (aB 0) (aB 1) (bG ["one","other"] xs) λx _=>flat x=true/\Q x:=by
 rintro _ Q ⟨a,b,rfl,q⟩
 exact⟨_,rfl,_,rfl,_,_,rfl,rfl,rfl,q⟩
theorem bi1:∀xs Q,oM xs Q->aP uP (aF (aB 0) (aF (aB 1) aM)) (bG ["one","other"] xs) λx _=>flat x=true/\Q x:=by
 rintro _ Q ⟨a,c,ns,ms,rfl,q⟩;refine⟨_,rfl,_,rfl,a,c,ns,ms,rfl,?_,q⟩;split<;>exact u6 _ _
theorem ak0 {β:Type}{r:β->PV}{first:β}{pass:β->Nat->β}{J:β->β->β}{gP gJ:PV}:∀xs Q,uT r first pass J gP gJ xs Q->xs.length=5:=by rintro _ Q ⟨_,_,_,_,rfl,_⟩;rfl
theorem bi2:∀xs Q,rJ xs Q->xs.length=2:=by rintro _ Q ⟨x,y,rfl,_⟩;rfl
theorem bi3:∀xs Q,oK xs Q->xs.length=2:=by rintro _ Q ⟨x,y,rfl,_⟩;rfl
theorem bi4:∀xs Q,oM xs Q->xs.length=2:=by rintro _ Q ⟨a,c,ns,ms,rfl,_⟩;rfl
noncomputable abbrev rN (v:Nat):PV:=.int v
theorem ak1:∀{a b:Nat},rN a=rN b->a=b:=λh=>Int.ofNat.inj (PV.int.inj h)
noncomputable abbrev uV (l1 l2:bC):b9:=uT rN 1 (λv _=>v) (λa b=>a+b) (.lm l1) (.lm l2)
noncomputable abbrev bi5 (l1:bC):List (bC×b9):=[(l1,rJ)]
noncomputable abbrev B1 (l2:bC):List (bC×b9):=[(l2,oK)]
noncomputable abbrev tcN (l1:bC):aH:=zW 3 (bi5 l1) (aF (kI (aB 7) (aB 10)) (aF (aB 11) aM))
noncomputable abbrev JN:PV->PV->PV:=iW rN λa b=>a+b
noncomputable abbrev ak2 (l1 l2:bC):aX:=A8 (tcN l1) (.lm l2) (fB rN) JN
theorem ak3 (l2:bC):∀d y w z,lE d y (some w)->fB rN w->fB rN z->mW (B1 l2) (bG ["values","key","value","joined"] [d,y,z,.lm l2]) λv _=>v=JN w z/\flat v=true:=
 aj5 ak1 (λ_=>rfl) bq3 λa b Q q=>⟨a,b,rfl,by rw[<- Int.natCast_add];exact q⟩
theorem bi6 (l1 l2:bC):∀xs Q,uV l1 l2 xs Q->ak2 l1 l2 { nx:=λ_=>Q .non,rt:=Q } (bG ["wants","length","first","passed","joined","begin","following","values","turn","later","answer","seeds","behind","ends"] xs):=
 aj6 (λ_ _=>True) ak1 (λ_=>rfl) trivial (λ_ _ _ _ _=>trivial) (λ_ _ _ _ _=>trivial) λρ Q ps k b s i ⟨_,e3⟩ ⟨_,e7⟩ ⟨_,e10⟩ ⟨_,e11⟩ hv _ _ _ q=>
  ⟨_,l1,_,e3,bq3,_,e7,_,e10,rN b,.inl ⟨_,ki k,rfl,rfl,by rw[kM,hv];rfl⟩,_,e11,_,_,rfl,rfl,q⟩
noncomputable def oN:b9:=λxs Q=>∃x ws,∃n v:Nat,xs = [x,.int n]/\d5 x ws/\gO ws/\(∃S,Closed ws S)/\n<=300/\Strip.fJ (λa b=>a+b) (Strip.cM ws (λv _=>v) (λa b=>a+b) 1 n)=some v/\Q (.int v)
noncomputable def ak4 (l1 l2:bC):aX:=(aY (kS (aP (Core.kC λ_=>False) (aF (aB 0) (aF (aB 1) aM))))
 (aY (kS (aP (Core.kD λ_=>False) (aF (aB 1) (aF (qC (.int 300)) aM))))
 (cT (aP (uV l1 l2) (aF (aB 0) (aF (aB 1) (aF (qC (.int 1)) (aF (qY l1) (aF (qY l2) aM)))))))))
theorem rK {ws:ag}(h:gO ws):b7 ws:=⟨List.length_pos_iff.mpr h.1,h.2.1⟩
theorem bi7 (l1 l2:bC):∀xs Q,oN xs Q->ak4 l1 l2 { nx:=λ_=>Q .non,rt:=Q } (bG ["wants","length"] xs):=by
 rintro _ Q ⟨x,ws,n,v,rfl,hx,ok,cl,hn,hv,q⟩;refine⟨_,rfl,_,rfl,x,ws,n,rfl,hx,λ_ _=>?_,λz=>z ⟨ok,by omega⟩⟩;refine⟨_,rfl,n,300,rfl,λ_=>?_,λz=>by omega⟩
 exact⟨_,rfl,_,rfl,x,ws,n,v,rfl,hx,rK ok,cl,hn,hv,trivial,q⟩
noncomputable def rP (v:Strip.PR):PV:=iH v.1 (v.2.map Int.ofNat)
theorem ak5:∀{a b:Strip.PR},rP a=rP b->a=b:=by
 rintro⟨a,l⟩ ⟨b,m⟩ h
 injection h with h
 injection h with h1 h2
 injection h2 with h2 _
 injection h2 with h2
 have e1:a=b:=Int.ofNat.inj (PV.int.inj h1);subst e1;have e2:∀{l m:List Nat},intz (l.map Int.ofNat)=intz (m.map Int.ofNat)->l=m:=by
  intro l
  induction l with
  |nil=>intro m h;cases m with
   |nil=>rfl
   |cons=>cases h
  |cons x r ih=>intro m h;cases m with
   |nil=>cases h
   |cons y t=>
    injection h with h1 h2
    rw[ih h2,show x=y from Int.ofNat.inj (PV.int.inj h1)]
 have h3:l=m:=e2 h2;rw[h3]
theorem B2 (v:Strip.PR):flat (rP v)=true:=u6 _ _
noncomputable def JP (x y:Strip.PR):Strip.PR:=if HT.cK ((y.1:Int)::y.2.map Int.ofNat) ((x.1:Int)::x.2.map Int.ofNat)=true then y else x
theorem oO:Strip.iT JP:=by
 refine⟨λx y=>?_,λx y=>?_,λx y=>?_⟩
 ·unfold JP;split
  ·exact .inr rfl
  ·exact .inl rfl
 ·unfold JP;split
  ·rename_i h;have:=aj7.1 h;omega
  ·exact bq4 _
 ·unfold JP;split
  ·exact bq4 _
  ·rename_i h;have:=aj7.2 (Bool.eq_false_iff.mpr h);omega
noncomputable abbrev uW (l:bC):b9:=uT rP (0,[]) Strip.pass JP (.fn "with_slice") (.lm l)
noncomputable def rL:b9:=λxs Q=>∃v:Strip.PR,∃s:Nat,xs = [rP v,.int s]/\v.2.length<=300/\s<4/\Q (rP (Strip.pass v s))
noncomputable def ak6:aX:=(cT (eU (aF (fZ (d8 (aB 0) (qC (.int 0))) (aP rA (aF (aB 1) aM))) (aF (aa0 (d8 (aB 0) (qC (.int 1))) (eU (aF (aB 1) aM))) aM))))
theorem bi8:∀xs Q,rL xs Q->ak6 { nx:=λ_=>Q .non,rt:=Q } (bG ["pair","seeds"] xs):=by
 rintro _ Q ⟨v,s,rfl,hl,hs,q⟩;have fi:flats (intz (v.2.map Int.ofNat))=true:=j5 _;have e:PV.tup [.int ((v.1:Int)+(Strip.one s:Int)),.tup (intz (v.2.map Int.ofNat)++[.int (s:Int)])]=rP (Strip.pass v s):=by
  show _=PV.tup [.int ((v.1+Strip.one s:Nat):Int),.tup (intz ((v.2++[s]).map Int.ofNat))];rw[Int.natCast_add,bs9,show intz (v.2.map Int.ofNat++[s].map Int.ofNat)=intz (v.2.map Int.ofNat)++intz ([s].map Int.ofNat) from bs9 ..];rfl
 have ll:(intz (v.2.map Int.ofNat)).length=v.2.length:=by rw[Core.dD,bq6]
 refine⟨_,rfl,_,_,_,rfl,rfl,rfl,_,rfl,s,rfl,hs,_,_,rfl,rfl,_,rfl,_,_,_,rfl,rfl,rfl,_,rfl,by show 1<=1000;decide,rfl,_,_,rfl,rfl,fi,rfl,by rw[ll];show v.2.length+1<=16000000;omega,by show 2<=1000;decide,?_,trivial,?_⟩
 ·have:=B2 (Strip.pass v s)
  rw[<- e]at this;exact this
 ·exact (congrArg Q e).mpr q
noncomputable abbrev bi9:List (Str×b9):=[("with_slice",rL)]
noncomputable abbrev B3 (l:bC):List (bC×b9):=[(l,oM)]
noncomputable abbrev tcP:aH:=ah3 3 bi9 (aF (kI (aB 7) (aB 10)) (aF (aB 11) aM))
noncomputable abbrev oP:PV->PV->PV:=iW rP JP
noncomputable abbrev ak7 (l:bC):aX:=A8 tcP (.lm l) (fB rP) oP
theorem ak8 (l:bC):∀d y w z,lE d y (some w)->fB rP w->fB rP z->mW (B3 l) (bG ["values","key","value","joined"] [d,y,z,.lm l]) λv _=>v=oP w z/\flat v=true:=
 aj5 ak5 B2 bq3 λa b Q q=>⟨a.1,b.1,a.2.map Int.ofNat,b.2.map Int.ofNat,rfl,by
  unfold JP at q;split
  ·rename_i h;rw[if_pos h]at q;exact q
  ·rename_i h;rw[if_neg h]at q;exact q⟩
theorem bj0 (l:bC):∀xs Q,uW l xs Q->ak7 l { nx:=λ_=>Q .non,rt:=Q } (bG ["wants","length","first","passed","joined","begin","following","values","turn","later","answer","seeds","behind","ends"] xs):=
 aj6 (λi v=>v.2.length=i) ak5 B2 rfl (λi a b ha hb=>by rcases oO.or a b with e|e<;>rw[e]<;>assumption) (λi v s h _=>by show (v.2++[s]).length=_;rw[br4,h];rfl) λρ Q ps k b s i ⟨_,e3⟩ ⟨_,e7⟩ ⟨_,e10⟩ ⟨_,e11⟩ hv hb hi hs q=>
  ⟨_,_,_,e3,bq3,_,e7,_,e10,rP b,.inl ⟨_,ki k,rfl,rfl,by rw[kM,hv];rfl⟩,_,e11,b,s,rfl,by omega,hs,q⟩
noncomputable def mX:b9:=λxs Q=>∃x ws,∃n:Nat,∃v,xs = [x,.int n]/\d5 x ws/\b7 ws/\(∃S,Closed ws S)/\n<=300/\Strip.fJ JP (Strip.cM ws Strip.pass JP (0,[]) n)=some v/\Q (rP v)
noncomputable def ak9 (l:bC):aX:=(cT (aP (uW l) (aF (aB 0) (aF (aB 1) (aF (eU (aF (qC (.int 0)) (aF (eU aM) aM))) (aF (qC (.fn "with_slice")) (aF (qY l) aM)))))))
theorem bj1 (l:bC):∀xs Q,mX xs Q->ak9 l { nx:=λ_=>Q .non,rt:=Q } (bG ["wants","length"] xs):=by
 rintro _ Q ⟨x,ws,n,v,rfl,hx,ok,cl,hn,hv,q⟩
 exact⟨_,rfl,_,rfl,bu8 _,rfl,by show 2<=1000;decide,rfl,x,ws,n,v,rfl,hx,ok,cl,hn,hv,trivial,q⟩
noncomputable def oQ:b9:=λxs Q=>∃x ws,∃n:Nat,∃v:Strip.PR,xs = [x,.int n]/\d5 x ws/\gO ws/\(∃S,Closed ws S)/\n<=300/\Strip.fJ JP (Strip.cM ws Strip.pass JP (0,[]) n)=some v/\Q (.int v.1)
noncomputable def al0:aX:=(aY (kS (aP (Core.kC λ_=>False) (aF (aB 0) (aF (aB 1) aM))))
 (aY (kS (aP (Core.kD λ_=>False) (aF (aB 1) (aF (qC (.int 300)) aM))))
 (cT (d8 (aP mX (aF (aB 0) (aF (aB 1) aM))) (qC (.int 0))))))
theorem bj2:∀xs Q,oQ xs Q->al0 { nx:=λ_=>Q .non,rt:=Q } (bG ["wants","length"] xs):=by
 rintro _ Q ⟨x,ws,n,v,rfl,hx,ok,cl,hn,hv,q⟩;refine⟨_,rfl,_,rfl,x,ws,n,rfl,hx,λ_ _=>?_,λz=>z ⟨ok,by omega⟩⟩;refine⟨_,rfl,n,300,rfl,λ_=>?_,λz=>by omega⟩
 exact⟨_,rfl,_,rfl,x,ws,n,v,rfl,hx,rK ok,cl,hn,hv,_,_,_,rfl,rfl,rfl,trivial,q⟩
end PP
namespace Strip
noncomputable def mY (M:Nat):List (Nat×Bool):=(List.range M).flatMap λb=>[(b,false),(b,true)]
theorem bj3 (M:Nat):(mY M).length=2*M:=by
 unfold mY
 induction M with
 |zero=>rfl
 |succ M ih=>rw[bF6,List.flatMap_append,br4,ih];show 2*M+2=_;omega
theorem bj4 {M:Nat}{q:Nat×Bool}(h:q.1<M):q∈mY M:=by
 unfold mY;refine bE6.mpr ⟨q.1,bz5.mpr h,?_⟩
 obtain⟨b,t⟩:=q
 cases t
 ·exact bq3
 ·exact bq8 _ bq3
noncomputable def mZ (M:Nat):Nat->List aD
 |0=>[[]]
 |m+1=>(mY M).flatMap λq=>(mZ M m).map λr=>q::r
theorem al1 (M:Nat):∀m,(mZ M m).length=(2*M)^m
 |0=>rfl
 |m+1=>by
  have ih:=al1 M m;show ((mY M).flatMap λq=>(mZ M m).map λr=>q::r).length=_;have go:∀l:List (Nat×Bool),(l.flatMap λq=>(mZ M m).map λr=>q::r).length=l.length*(2*M)^m:=λl=>by
   induction l with
   |nil=>rw[List.length_nil,Nat.zero_mul];rfl
   |cons x r ihl=>rw[List.flatMap_cons,br4,ihl,bq6,ih,bu9,Nat.add_mul,Nat.one_mul,Nat.add_comm]
  rw[go,bj3,Nat.pow_succ,bD1]
theorem B4 {M:Nat}:∀{m:Nat}{a:aD},a.length=m->(∀q∈a,q.1<M)->a∈mZ M m
 |0,a,h,_=>by rw[bx4 h];exact bq3
 |m+1,[],h,_=>by cases h
 |m+1,q::r,h,g=>bE6.mpr ⟨q,bj4 (g q bq3),bt7.mpr ⟨r,B4 (by simpa using h) λx hx=>g x (bq8 _ hx),rfl⟩⟩
theorem al2 {M:Nat}:∀{m:Nat}{a:aD},a∈mZ M m->a.length=m/\∀q∈a,q.1<M
 |0,a,h=>by rw[bq1.mp h];exact⟨rfl,λq z=>nomatch z⟩
 |m+1,a,h=>by
  obtain⟨q,hq,h⟩:=bE6.mp h
  obtain⟨r,hr,rfl⟩:=bt7.mp h
  obtain⟨h1,h2⟩:=al2 hr
  refine⟨by rw[bu9,h1],λx hx=>(br0.mp hx).elim (λe=>?_) (h2 x)⟩;subst e;unfold mY at hq
  obtain⟨b,hb,hq⟩:=bE6.mp hq
  have hb:=bz5.mp hb;rcases br0.mp hq with rfl|hq
  ·exact hb
  ·rw[bq1.mp hq];exact hb
theorem uX {w:ag}(o:b7 w):∃S,Closed w S:=by
 refine⟨mZ (2^w.length) (2^w.length),B4 (kE o).1 (kE o).2,λa ha q hq=>?_,?_⟩
 ·obtain⟨h1,h2⟩:=al2 ha
  have:=ae9 o (a:=a) ⟨h1,h2⟩ hq
  exact B4 this.1 this.2
 ·rw[al1]
  rcases oC o with e|e<;>rw[e]<;>decide
theorem bj5 (w:ag)(n:Nat):dY w (qS w n):=λs hs=>by rw[List.eq_of_mem_replicate hs];exact oD w
theorem al3 (w:ag)(n:Nat):(qS w n).length=n:=List.length_replicate
theorem al4 {w:ag}(o:b7 w)(n:Nat):row w (qS w n) (bB w)=true:=
 (af4 o (bj5 w n)).mpr λB hB k hk=>by
  have:=hB.sd k hk
  rw[show (qS w n)[k]=2^w.length-1 from List.getElem_replicate ..]at this;exact uD o (hB.lt k hk) this
theorem al5 {w:ag}(o:b7 w)(n:Nat):fJ (·+·) (cM w (λv _=>v) (·+·) 1 n)=some (bU w n (bB w)):=by
 have c:=ba4 w n;have p:1<=bU w n (bB w):=by
  have q:=ae7 w _ _ (al4 o n);rw[al3]at q;exact q
 unfold fJ;rw[ae8,if_neg]
 ·rw[c];show some (0+_)=_;rw[bE4]
 ·rintro⟨_,e⟩
  rw[e]at c;rw[<- c]at p;exact absurd p (by decide)
theorem al6 {J:PR->PR->PR}(P:iT J){w:ag}(o:b7 w)(n:Nat):∃v,fJ J (cM w pass J (0,[]) n)=some v:=by
 obtain⟨v,hv,_⟩:=(qR P w n).2 (qS w n) (al3 w n) (al4 o n)
 exact⟨v,hv⟩
end Strip
namespace Core
open PySem L2 PP
open Strip (b7 h9 one dE bU row bB)
theorem bj6 {U:ag}{c k:Nat}:one (cC U c k)=(if bW U c k 0 then 1 else 0)+if bW U c k 1 then 1 else 0:=by
 unfold one;rw[oF (by decide),oF (by decide)]
theorem B5 {U:ag}{c k p:Nat}(hp:p<c):(if bW U c k p=true then 1 else 0)=if ((k*c+p:Nat):Int)∈U then 1 else 0:=by
 unfold bW;rw[bq2 hp,bz6];by_cases g:((k*c+p:Nat):Int)∈U
 ·rw[if_pos (bq2 g),if_pos g]
 ·rw[if_neg (by rw[bp9 g];exact bq7),if_neg g]
theorem B6 {e:Int}{U:ag}:([e].filter λx=>decide (x∈U)).length=if e∈U then 1 else 0:=by
 have:=uG (P:=True) (e:=e) (U:=U)
 rwa [if_pos trivial,if_pos trivial]at this
theorem al7 (c:Nat)(hc:c=1∨c=2)(U:ag):∀n,dE (hI U c n)=((rng (c*n)).filter λx=>decide (x∈U)).length
 |0=>by rcases hc with rfl|rfl<;>rfl
 |n+1=>by
  have ih:=al7 c hc U n;have e:hI U c (n+1)=hI U c n++[cC U c n]:=by unfold hI;rw[bF6,bs9];rfl
  rw[e,Strip.z9,ih];show _+(one (cC U c n)+0)=_;rw[Nat.add_zero,bj6];have rs:∀m,rng (m+1)=rng m++[(m:Int)]:=λm=>by unfold rng;rw[bF6,bs9];rfl
  rcases hc with rfl|rfl
  ·rw[show 1*(n+1)=1*n+1 by omega,rs,bw1,br4,B6,B5 (by decide),show bW U 1 n 1=false by unfold bW;rw[bp9 (by decide)];rfl]
   rw[show n*1+0=1*n by omega];rfl
  ·rw[show 2*(n+1)=2*n+1+1 by omega,rs,rs,bw1,bw1,br4,br4,B6,B6,B5 (by decide),B5 (by decide),show n*2+0=2*n by omega,show n*2+1=2*n+1 by omega]
   omega
theorem bj7 {c n:Nat}(hc:c=1∨c=2){ns:ag}(hs:kA (c*n) ns=true):dE (hI ns c n)=ns.length:=by
 rw[al7 c hc];refine ag2 ((aa1 _).filter _) ((yB (o0 hs).1).imp λh=>Int.ne_of_lt h) λx=>?_
 rw[bt8,bs4]
 exact⟨λz=>z.2,λz=>⟨dC.mpr ((o0 hs).2 x z),z⟩⟩
theorem uY {ws:ag}(o:b7 ws):ws.length=1∨ws.length=2:=by have:=o.1;have:=o.2;omega
end Core
namespace Strip
noncomputable def sw (n:Nat):Nat:=h9 (decide (has n 1=1)) (decide (has n 0=1))
theorem uZ {n:Nat}(h:n<4):sw (sw n)=n:=by rcases fM h with rfl|rfl|rfl|rfl<;>decide
theorem v0 (n:Nat):sw n<4:=by unfold sw;cases decide (has n 1=1)<;>cases decide (has n 0=1)<;>decide
theorem B7 {n p:Nat}(h:n<4)(hp:p<2):has (sw n) p=has n (1-p):=by
 have:p=0∨p=1:=by omega
 rcases fM h with rfl|rfl|rfl|rfl<;>rcases this with rfl|rfl<;>decide
theorem bj8 {n:Nat}(h:n<4):one (sw n)=one n:=by rcases fM h with rfl|rfl|rfl|rfl<;>decide
theorem al8 {a:Int}{p bh bu ah:Nat}(h1:bh<4)(h2:bu<4)(h3:ah<4)(hp:p<2):cA a p (sw bh) (sw bu) (sw ah)=cA a (1-p) bh bu ah:=by
 unfold cA;rw[B7 h1 hp,B7 h3 hp,B7 h2 (by omega)]
theorem bj9 (a b:Int){bh bu ah:Nat}(h1:bh<4)(h2:bu<4)(h3:ah<4):bD [b,a] (sw bh) (sw bu) (sw ah)=sw (bD [a,b] bh bu ah):=by
 rw[oE,oE,al8 h1 h2 h3 (by decide),al8 h1 h2 h3 (by decide)];show (if cA a 0 bh bu ah=true then _ else _)=_;rw[show (1-0:Nat)=1 from rfl];rcases fM h2 with rfl|rfl|rfl|rfl<;>cases cA a 0 bh _ ah<;>cases cA b 1 bh _ ah<;>decide
theorem oR (a b:Int):b7 [a,b]:=⟨by show 1<=2;decide,by show 2<=2;decide⟩
noncomputable def cY (x:aD):aD:=(List.range 4).map λi=>(sw (x.getD (sw i) (0,false)).1,(x.getD (sw i) (0,false)).2)
theorem v5 {x:aD}{i:Nat}(h:i<4):(cY x).getD i (0,false)=(sw (x.getD (sw i) (0,false)).1,(x.getD (sw i) (0,false)).2):=by
 unfold cY;rw[br6,br5,bE2 h];rfl
theorem rM (x:aD):(cY x).length=4:=by unfold cY;rw[bq6,bB6]
section
variable {a b:Int}{x:aD}
theorem bk0 (wf:cW [a,b] x){i:Nat}(h:i<4):(x.getD i (0,false)).1<4:=by
 have l4:x.length=4:=wf.1;rw[br6,br2 (by rw[l4];exact h)];exact wf.2 _ (by6 _)
theorem al9 (wf:cW [a,b] x){ah:Nat}(h:ah<4):∀(n:Nat) {c:Nat},c<4->dW [b,a] (cY x) (sw ah) n (sw c)=sw (dW [a,b] x ah n c)
 |0,_,_=>rfl
 |n+1,c,hc=>by
  have o:=oR a b;have e1:bD [b,a] ((cY x).getD (sw c) (0,false)).1 (sw c) (sw ah)=sw (bD [a,b] (x.getD c (0,false)).1 c ah):=by
   rw[v5 (v0 c),uZ hc];exact bj9 a b (bk0 wf hc) hc h
  have k4:bD [a,b] (x.getD c (0,false)).1 c ah<4:=(oA o (x.getD c (0,false)).1 ah (bu:=c) hc).1;by_cases e:bD [a,b] (x.getD c (0,false)).1 c ah=c
  ·rw[qU (Nat.succ_pos _) e,qU (Nat.succ_pos _) (by rw[e1,e])]
  ·rw[qV e,qV (by rw[e1];exact λz=>e (by rw[<- uZ k4,z,uZ hc])),e1]
   exact al9 wf h n k4
theorem bk1 (wf:cW [a,b] x){s ah:Nat}(hs:s<4):dW [a,b] x ah 3 s<4:=uA (oR a b) x ah 3 hs
theorem am0 (wf:cW [a,b] x){s:Nat}(hs:s<4):next [b,a] (cY x) (sw s)=cY (next [a,b] x s):=by
 have l4:x.length=4:=wf.1;unfold next
 rw[rM,l4];unfold cY;refine bC0 λi hi=>?_
 have hi:=bz5.mp hi;have nx:(((List.range 4).map (iS [a,b] x s)).getD (sw i) (0,false))=iS [a,b] x s (sw i):=by
  rw[br6,br5,bE2 (v0 i)];rfl
 rw[nx];have es:=al9 wf (ah:=sw i) (v0 i) 3 hs;rw[uZ hi]at es;have b4:=bk1 wf (ah:=sw i) hs;unfold iS;show (dW [b,a] (cY x) i 3 (sw s),dW [b,a] (cY x) i 3 (sw s)==(cY x).length-1&&((cY x).getD ((cY x).length-1) (0,false)).2)=_;rw[es,rM,l4,v5 (by decide)];generalize dW [a,b] x (sw i) 3 s=c at b4;show (sw c,sw c==3&&(x.getD (sw 3) (0,false)).2)=(sw (c,c==3&&(x.getD 3 (0,false)).2).1,(c==3&&(x.getD 3 (0,false)).2));rw[show sw 3=3 by decide,show (sw c==3)=(c==3) by rcases fM b4 with rfl|rfl|rfl|rfl<;>decide]
theorem am1 (l4:x.length=4):kept (cY x)=kept x:=by
 unfold kept;rw[rM,l4,v5 (by decide)];show (x.getD (sw 3) (0,false)).2=_;rw[show sw 3=3 by decide]
theorem am2:lit (cY x)=lit x:=by
 unfold lit;rw[v5 (by decide)];show (x.getD (sw 0) (0,false)).2=_;rw[show sw 0=0 by decide]
theorem am3:cY (bB [a,b])=bB [b,a]:=by
 show cY (List.replicate 4 (0,true))=List.replicate 4 (0,true);decide
theorem am4:∀(n:Nat) {x:aD},cW [a,b] x->bU [b,a] n (cY x)=bU [a,b] n x
 |0,x,_=>by unfold bU;rw[am2]
 |n+1,x,wf=>by
  have l4:x.length=4:=wf.1;have o:=oR a b;have t:∀s,s<4->(if kept (next [b,a] (cY x) (sw s)) then bU [b,a] n (next [b,a] (cY x) (sw s)) else 0)=if kept (next [a,b] x s) then bU [a,b] n (next [a,b] x s) else 0:=λs hs=>by
   have nw:=oB o wf (s:=s) hs;rw[am0 wf hs,am1 nw.1,am4 n nw]
  rw[u9,u9,rM,l4];have t0:=t 0 (by decide);have t1:=t 1 (by decide);have t2:=t 2 (by decide);have t3:=t 3 (by decide);rw[show sw 0=0 by decide]at t0;rw[show sw 1=2 by decide]at t1;rw[show sw 2=1 by decide]at t2;rw[show sw 3=3 by decide]at t3;show _+(_+(_+(_+0)))=_+(_+(_+(_+0)));dsimp only;rw[t0,t1,t2,t3];omega
theorem am5:∀(l:List Nat) {x:aD},cW [a,b] x->row [a,b] l x=true->row [b,a] (l.map sw) (cY x)=true
 |[],x,_,h=>by
  show lit (cY x)=true;rw[am2];exact h
 |s::r,x,wf,h=>by
  have l4:x.length=4:=wf.1;have o:=oR a b;unfold row at h;simp only[bt4,bs4]at h;have hs:s<4:=by have:=h.1.1;omega
  have nw:=oB o wf (s:=s) hs;show (decide (sw s<(cY x).length)&&kept (next [b,a] (cY x) (sw s))&&row [b,a] (r.map sw) (next [b,a] (cY x) (sw s)))=true;rw[am0 wf hs,am1 nw.1,h.1.2,am5 r nw h.2,rM,bq2 (v0 s)];rfl
theorem v6 {w:ag}(o:b7 w):∀(l:List Nat) {x:aD},cW w x->row w l x=true->dY w l
 |[],_,_,_=>λs h=>nomatch h
 |s::r,x,wf,h=>by
  unfold row at h;simp only[bt4,bs4]at h;have hs:s<2^w.length:=by rw[<- wf.1];exact h.1.1
  exact λy hy=>(br0.mp hy).elim (λe=>by rw[e];exact hs) (v6 o r (oB o wf hs) h.2 y)
theorem am6:∀{l:List Nat},(∀s∈l,s<4)->dE (l.map sw)=dE l
 |[],_=>rfl
 |s::r,h=>by
  show one (sw s)+dE (r.map sw)=one s+dE r;rw[bj8 (h s bq3),am6 λy hy=>h y (bq8 _ hy)]
theorem bk2 (n:Nat):bU [b,a] n (bB [b,a])=bU [a,b] n (bB [a,b]):=by
 have:=am4 (a:=a) (b:=b) n (kE (oR a b))
 rwa [am3]at this
theorem am7 {J:PR->PR->PR}(P:iT J){n:Nat}{v u:PR}(hv:fJ J (cM [a,b] pass J (0,[]) n)=some v)(hu:fJ J (cM [b,a] pass J (0,[]) n)=some u):u.1<=v.1:=by
 have o:=oR a b
 obtain⟨a1,a2,a3⟩:=(qR P [a,b] n).1 v hv
 have r:=am5 v.2 (kE o) a2;rw[am3]at r
 obtain⟨u',hu',le⟩:=(qR P [b,a] n).2 (v.2.map sw) (by rw[bq6,a1]) r
 rw[hu]at hu';cases hu';rw[am6 (v6 o v.2 (kE o) a2),<- a3]at le;exact le
end
theorem bk3 {w:ag}(o:b7 w)(n:Nat):b7 w.reverse/\bU w.reverse n (bB w.reverse)=bU w n (bB w)/\∀{J:PR->PR->PR},iT J->∀{v u:PR},fJ J (cM w pass J (0,[]) n)=some v->fJ J (cM w.reverse pass J (0,[]) n)=some u->u.1=v.1:=by
 rcases o.two with⟨a,rfl⟩|⟨a,b,rfl⟩
 ·exact⟨o,rfl,λ{J} P v u hv hu=>by
   have hu:fJ J (cM [a] pass J (0,[]) n)=some u:=hu
   rw[hv]at hu;cases hu;rfl⟩
 ·exact⟨⟨by show 1<=2;decide,by show 2<=2;decide⟩,bk2 n,λP _ _ hv hu=>Nat.le_antisymm (am7 P hv hu) (am7 P hu hv)⟩
end Strip
namespace Core
open PySem L2 PP
open Strip (b7 has dE bU bB h9 dY)
noncomputable def gT (l:List Nat)(c:Nat):ag:=d6 (λk=>l.getD k 0) c l.length
theorem bk4 {B:Nat->Nat}{c i:Nat}(hc:c=1∨c=2):d6 B c (i+1)=d6 B c i++((List.range c).filter λp=>decide (has (B i) p=1)).map λp=>((i*c+p:Nat):Int):=by
 have rs:∀m,rng (m+1)=rng m++[(m:Int)]:=λm=>by unfold rng;rw[bF6,bs9];rfl
 unfold d6;rcases hc with rfl|rfl
 ·rw[show 1*(i+1)=1*i+1 by omega,rs,bw1]
  congr 1;show (match decide (has (B ((((1*i:Nat):Int)).toNat/1)) ((((1*i:Nat):Int)).toNat%1)=1) with|true=>[((1*i:Nat):Int)]|false=>[])=List.map _ (match decide (has (B i) 0=1) with|true=>[0]|false=>[]);rw[bu1,show 1*i/1=i by omega,show 1*i%1=0 by omega];cases decide (has (B i) 0=1)
  ·rfl
  ·show [((1*i:Nat):Int)] = [((i*1+0:Nat):Int)]
   rw[show 1*i=i*1+0 by omega]
 ·rw[show 2*(i+1)=2*i+1+1 by omega,rs,rs,bs6,bw1]
  congr 1;have e1:(((2*i:Nat):Int)).toNat=2*i:=bu1 _;have e2:(((2*i+1:Nat):Int)).toNat=2*i+1:=bu1 _;have f:∀(p q:Bool) (x y:Int),(match p with|true=>x::(match q with|true=>[y]|false=>[])|false=>(match q with|true=>[y]|false=>[]))=(if p then [x] else [])++if q then [y] else []:=λp q x y=>by cases p<;>cases q<;>rfl
  show (match decide (has (B ((((2*i:Nat):Int)).toNat/2)) ((((2*i:Nat):Int)).toNat%2)=1) with|true=>((2*i:Nat):Int)::(match decide (has (B ((((2*i+1:Nat):Int)).toNat/2)) ((((2*i+1:Nat):Int)).toNat%2)=1) with|true=>[((2*i+1:Nat):Int)]|false=>[])|false=>(match decide (has (B ((((2*i+1:Nat):Int)).toNat/2)) ((((2*i+1:Nat):Int)).toNat%2)=1) with|true=>[((2*i+1:Nat):Int)]|false=>[]))=_;rw[e1,e2,show 2*i/2=i by omega,show 2*i%2=0 by omega,show (2*i+1)/2=i by omega,show (2*i+1)%2=1 by omega,f];show _=List.map _ (match decide (has (B i) 0=1) with|true=>0::(match decide (has (B i) 1=1) with|true=>[1]|false=>[])|false=>(match decide (has (B i) 1=1) with|true=>[1]|false=>[]));cases decide (has (B i) 0=1)<;>cases decide (has (B i) 1=1)
  ·rfl
  ·show [((2*i+1:Nat):Int)] = [((i*2+1:Nat):Int)]
   rw[bD1]
  ·show [((2*i:Nat):Int)] = [((i*2+0:Nat):Int)]
   rw[bD1];rfl
  ·show [((2*i:Nat):Int),((2*i+1:Nat):Int)] = [((i*2+0:Nat):Int),((i*2+1:Nat):Int)]
   rw[bD1];rfl
theorem bk5 {ws:ag}(o:b7 ws){l:List Nat}(h:dY ws l):hI (gT l ws.length) ws.length l.length=l:=by
 refine List.ext_getElem (kG _ _ _) λk h1 h2=>?_
 rw[zO];have g:l.getD k 0=l[k]:=by rw[br6,br2 h2];rfl
 unfold gT;rw[ag5 o (B:=λk=>l.getD k 0) h2 (by show l.getD k 0<_;rw[g];exact h _ (by6 h2))];exact g
theorem bk6 (l:List Nat)(c:Nat):kA (c*l.length) (gT l c)=true:=aR4 _ _
theorem bk7 {J:Strip.PR->Strip.PR->Strip.PR}(P:Strip.iT J){ws:ag}{n:Nat}{ls:aa}(o:b7 ws)(s:gB ws.length n ls){v:Strip.PR}(hv:Strip.fJ J (Strip.cM ws Strip.pass J (0,[]) n)=some v) :
  v.2.length=n/\dY ws v.2/\kA (ws.length*n) (gT v.2 ws.length)=true/\(gT v.2 ws.length).length=v.1/\o8 (eC ws (n:Int)) ls (gT v.2 ws.length)=true:=by
 obtain⟨h1,h2,h3⟩:=(Strip.qR P ws n).1 v hv
 have m:=Strip.v6 o v.2 (Strip.kE o) h2;have e:=bk5 o m;have hs:=bk6 v.2 ws.length;rw[h1]at e hs;refine⟨h1,m,hs,?_,?_⟩
 ·rw[<- bj7 (uY o) hs,e,h3]
 ·rw[bc0 o s,e];exact h2
open Strip (b7 bU bB)
theorem bk8 {ws:ag}{n:Nat}{ls:aa}(o:b7 ws)(ord:ls.Pairwise eN)(mem:∀l,l∈ls↔l∈mQ ((ws.length:Int)*(n:Int)).toNat ws.length++mR ((ws.length:Int)*(n:Int)) ws.length):gB ws.length n ls:=
 ⟨uY o,ord,λl=>by rw[mem,show ((ws.length:Int)*(n:Int)).toNat=ws.length*n by rw[<- bE0];rfl]⟩
theorem gB.wb {ws:ag}{n:Nat}{ls:aa}(s:gB ws.length n ls)(h:ws.length*n<=40):Wb (eC ws (n:Int)) ls:=by
 have inn:∀l∈ls,(0<=l.1/\l.1<((ws.length*n:Nat):Int))/\0<=l.2/\l.2<((ws.length*n:Nat):Int):=λl hl=>by
  have q:=(s.iff (x:=l.1) (y:=l.2)).mp hl
  have:=s.lt l hl
  rw[bE0];rcases s.hc with e|e<;>rw[e]at q ⊢<;>omega
 refine⟨by rw[jG];exact h,?_,λl hl=>by rw[jG];exact inn l hl⟩;have nd:ls.Nodup:=s.ord.imp λh e=>by
  subst e;unfold eN at h;omega
 have sub:∀l∈ls,l∈(rng (ws.length*n)).flatMap λx=>[(x,x+1),(x,x+(ws.length:Int))]:=λl hl=>by
  have q:=(s.iff (x:=l.1) (y:=l.2)).mp hl;refine bE6.mpr ⟨l.1,dC.mpr (inn l hl).1,?_⟩;rcases q.2.2 with⟨e,_⟩|e
  ·rw[show l=(l.1,l.1+1) from Prod.ext rfl e];exact bq3
  ·rw[show l=(l.1,l.1+(ws.length:Int)) from Prod.ext rfl e];exact bq8 _ bq3
 have:=nd.length_le_of_subset sub
 have fl:∀k:ag,(k.flatMap λx=>[(x,x+1),(x,x+(ws.length:Int))]).length=2*k.length:=λk=>by
  induction k with
  |nil=>rfl
  |cons x r ih=>simp only[List.flatMap_cons,br4,ih,bu9,List.length_nil];omega
 rw[fl,nZ]at this;omega
end Core
namespace PP
open PySem L2
open Strip (b7 bU bB)
open Core
noncomputable def rO:b9:=λxs Q=>∃x ws,∃n:Nat,∃v:Strip.PR,xs = [x,.int n]/\d5 x ws/\gO ws/\ws.length*n<=40/\Strip.fJ JP (Strip.cM ws Strip.pass JP (0,[]) n)=some v/\Q (.tup (intz (gT v.2 ws.length)))
noncomputable def am8:aX:=(aY (kS (aP (kC λ_=>False) (aF (aB 0) (aF (aB 1) aM))))
 (aY (bZ 2 (aP eI (aF (aB 0) aM)))
 (aY (kS (aP (kD λ_=>False) (aF (aB 1) (aF (jW (qC (.int 40)) (aB 2)) aM))))
 (aY (nJ 3 (pM aM))
 (aY (gH (u5 (d8 (aP mX (aF (aB 0) (aF (aB 1) aM))) (qC (.int 1)))) (lV 4 5)
  (sY 3 (gX (j7 (aB 2)) [none,some 5,some 4,some 2] (dU 0) (jV (aP iK (aF (aB 1) (aF (aB 0) aM)))) (fZ (S2 (aB 2) (aB 3)) (aB 0)))))
 (cT (aP pT (aF (aB 3) aM))))))))
theorem bk9:∀xs Q,rO xs Q->am8 { nx:=λ_=>Q .non,rt:=Q } (bG ["wants","length","width","hearths","turn","seeds"] xs):=by
 rintro _ Q ⟨x,ws,n,v,rfl,hx,ok,h40,hv,q⟩;have o:=rK ok;have hc:=uY o;have cl:=Strip.uX o
 obtain⟨a1,a2,a3⟩:=(Strip.qR oO ws n).1 v hv
 have m:=Strip.v6 o v.2 (Strip.kE o) a2;have n40:n<=40:=bt6 (Nat.le_mul_of_pos_left n o.1) h40;have mb:∀i,i<n->v.2.getD i 0<4:=λi hi=>by
  rw[<- a1]at hi;rw[br6,br2 hi];exact Strip.iU o (m _ (by6 hi))
 refine⟨_,rfl,_,rfl,x,ws,n,rfl,hx,λ_ _=>?_,λz=>z ⟨ok,by omega⟩⟩;refine⟨_,rfl,_,_,rfl,hx.len,trivial,?_⟩;refine⟨_,rfl,_,rfl,_,_,rfl,rfl,⟨by omega,by omega⟩,n,40/(ws.length:Int),rfl,λ_=>?_,λz=>?_⟩
 rotate_left
 ·exfalso
  rcases hc with e|e<;>rw[e]at z h40<;>omega
 refine⟨by show 0<=1000;decide,rfl,rfl,rfl,?_⟩;have hg:(intz (v.2.map Int.ofNat)).length=n:=by rw[dD,bq6,a1]
 refine⟨_,rfl,_,rfl,x,ws,n,v,rfl,hx,o,cl,by omega,hv,_,_,_,rfl,rfl,rfl,intz (v.2.map Int.ofNat),.inr rfl,(λz=>by cases z),λi ρ=>∃y4 y5,ρ = [some (.sh (flat x) x),si n,si (ws.length:Nat),some (.own (.lst (intz (d6 (λk=>v.2.getD k 0) ws.length i)))),y4,y5]/\i<=n,⟨none,none,by rcases hc with e|e<;>rw[e]<;>rfl,bu8 _⟩,?_,?_⟩
 ·rintro i z ρ hz ⟨y4,y5,rfl,_⟩
  have hi:i<n:=by
   have:=(bs1.mp hz).1
   rwa [o5,hg]at this
  have hi2:i<v.2.length:=by rw[a1];exact hi
  have hw:(intz (v.2.map Int.ofNat))[i]? = some (.int ((v.2.getD i 0:Nat):Int)):=by
   show ((v.2.map Int.ofNat).map PV.int)[i]? = _;rw[br5,br5,br2 hi2,br6,br2 hi2];rfl
  rw[u0 hw]at hz;cases hz;have bi:=mb i hi;generalize eb:v.2.getD i 0=b at bi;refine⟨_,_,rfl,?_⟩;have cl2:(d6 (λk=>v.2.getD k 0) ws.length i).length<=100:=by
   unfold d6;refine bt6 (List.length_filter_le ..) ?_;rw[nZ];exact bt6 (Nat.mul_le_mul_left _ (by9 hi)) (by omega)
  refine⟨_,rfl,_,rfl,(ws.length:Int),rfl,by omega,by omega,by rw[dS];omega,λj acc=>acc=intz (((List.range j).filter λp=>decide (Strip.has b p=1)).map λp=>((i*ws.length+p:Nat):Int)),rfl,?_,?_⟩
  ·rintro j z acc hz rfl
   have hj:j<ws.length:=by
    have:=(bs1.mp hz).1
    rw[dS]at this;omega
   rw[pR (by omega)]at hz;cases hz;have j2:j<2:=by have:=o.2;omega
   have ej:(0:Int)+(j:Int)=(j:Int):=Int.zero_add _;refine⟨_,rfl,_,rfl,b,j,by rw[ej];rfl,bi,j2,_,rfl,?_⟩;dsimp only;rw[bF6,bw1,bs9];rcases Strip.af9 bi j2 with e|e
   ·rw[e]
    refine bJ ?_;rw[show [j].filter (λp=>decide (Strip.has b p=1)) = [] by show (match decide (Strip.has b j=1) with|true=>[j]|false=>[]) = [];rw[e];rfl];rw[List.map_nil,bu0]
   ·rw[e]
    refine bQ ⟨_,rfl,_,rfl,_,_,rfl,rfl,.inl ⟨by omega,by omega⟩,_,rfl,_,_,rfl,rfl,trivial,?_⟩;rw[show [j].filter (λp=>decide (Strip.has b p=1)) = [j] by show (match decide (Strip.has b j=1) with|true=>[j]|false=>[]) = [j];rw[e];rfl];show _=((_++[((i*ws.length+j:Nat):Int)]).map PV.int);rw[bs9,ej,Int.natCast_add,bE0];rfl
  rintro acc rfl;have e:(iD 0 ((ws.length:Int)).toNat).length=ws.length:=by rw[dS];exact bu1 _
  rw[e];refine⟨_,.inr rfl,.inl trivial,?_,some (.sh true (.int (i:Int))),some (.sh true (.int (b:Int))),?_,hi⟩
  ·rw[dD,dD,bq6]
   have:((List.range ws.length).filter λp=>decide (Strip.has b p=1)).length<=ws.length:=bt6 (List.length_filter_le ..) (by rw[bB6];exact bq4 _)
   have:=o.2
   omega
  ·show _ = [_,_,_,some (Slot.own (.lst (intz (d6 (λk=>v.2.getD k 0) ws.length (i+1))))),_,_]
   rw[bk4 hc,eb];show _ = [_,_,_,some (Slot.own (.lst ((d6 (λk=>v.2.getD k 0) ws.length i++_).map PV.int))),_,_];rw[bs9];rfl
 rintro ρ ⟨y4,y5,rfl,_⟩;rw[o5,hg];refine⟨_,rfl,⟨_,_,rfl,rfl,j5 _,trivial,?_⟩,λns z=>by cases z⟩;have ec:gT v.2 ws.length=d6 (λk=>v.2.getD k 0) ws.length n:=by unfold gT;rw[a1]
 rw[ec]at q;exact q
noncomputable def am9:aX:=(aY (bZ 3 (aP qO (aF (aB 1) (aF (aB 2) aM))))
 (aY (bZ 4 (aP rO (aF (aB 1) (aF (aB 2) aM))))
 (aY (dQ (jT (jU (bL (aP qM (aF (aB 4) (aF (aP eI (aF (d8 (aB 3) (qC (.int 0))) aM)) aM))))) (jU (bL (aP qL (aF (aB 3) (aF (aB 4) aM)))))) (cT (qC (.bl false))) dP)
 (aY (bZ 5 (aP oQ (aF (aB 1) (aF (aB 2) aM))))
 (aY (dQ (jT (jU (bL (aP mM (aF (aB 5) aM)))) (bL (S4 (aP eI (aF (aB 4) aM)) (aB 5)))) (cT (qC (.bl false))) dP)
 (aY (bZ 6 (aP ac6 (aF (aB 1) aM)))
 (cT (pL (mB (aP oQ (aF (aB 6) (aF (aB 2) aM))) (aB 5)) (mB (aP oN (aF (aB 6) (aF (aB 2) aM))) (aP oN (aF (aB 1) (aF (aB 2) aM))))))))))))
noncomputable def ao0:aX:=(aY (bZ 1 (aP qN (aF (aP lB (aF (aB 0) (aF (qC (.int 0)) aM))) aM)))
 (aY (bZ 2 (j8 (jW (aP lB (aF (aB 0) (aF (qC (.int 1)) aM))) (qC (.int 4))) (qC (.int 9))))
 (aY (dQ (bL (mB (j8 (aP lB (aF (aB 0) (aF (qC (.int 1)) aM))) (qC (.int 4))) (qC (.int 1)))) (bZ 2 (j8 (jW (aP lB (aF (aB 0) (aF (qC (.int 1)) aM))) (qC (.int 4))) (fZ (jW (qC (.int 40)) (aP eI (aF (aB 1) aM))) (qC (.int 1))))) dP)
 am9)))
noncomputable def B8:b9:=Z5
theorem ao1 {ws:ag}(h:gO ws):gO ws.reverse:=⟨by intro z;exact h.1 (List.reverse_eq_nil_iff.mp z),by rw[List.length_reverse];exact h.2.1,λx hx=>h.2.2 x (List.mem_reverse.mp hx)⟩
theorem ao2 {s:PV}{ws:ag}{n:Nat}{Q:PV->Prop}(ok:gO ws)(h40:ws.length*n<=40)(q:Q (.bl true)):am9 { nx:=λ_=>Q .non,rt:=Q } [some (.sh true s),some (.sh true (.tup (intz ws))),si n,none,none,none,none]:=by
 have o:=rK ok;have w1:=o.1;have n40:n<=40:=bt6 (Nat.le_mul_of_pos_left n w1) h40;have hx:d5 (.tup (intz ws)) ws:=.inl rfl;have cl:=Strip.uX o
 obtain⟨v,hv⟩:=Strip.al6 oO o n
 obtain⟨o2,ec,el⟩:=Strip.bk3 o n
 obtain⟨u,hu⟩:=Strip.al6 oO o2 n
 have le:=el oO hv hu;refine⟨_,rfl,_,rfl,ws,(n:Int),rfl,ok,by omega,by omega,λls ord mem=>?_⟩;have sl:=bk8 o ord mem;have wb:=sl.wb h40
 obtain⟨g1,g2,g3,g4,g5⟩:=bk7 oO o sl hv
 refine⟨trivial,?_⟩;refine⟨_,rfl,_,rfl,.tup (intz ws),ws,n,v,rfl,hx,ok,h40,hv,trivial,?_⟩;have em:(intz (eC ws (n:Int))).length=ws.length*n:=by rw[dD,jG]
 have inn:∀x∈gT v.2 ws.length,x∈rng (eC ws (n:Int)).length:=λx hx=>dC.mpr (by rw[jG];exact (o0 g3).2 x hx)
 refine⟨_,rfl,_,rfl,_,_,_,rfl,rfl,rfl,_,_,rfl,rfl,gT v.2 ws.length,ws.length*n,by rw[em];rfl,g3,_,rfl,bJ ⟨_,rfl,_,rfl,eC ws (n:Int),ls,.tup (intz (gT v.2 ws.length)),gT v.2 ws.length,rfl,wb,.inl rfl,inn,_,rfl,?_⟩⟩;rw[g5];refine bJ ?_;refine⟨_,rfl,_,rfl,.tup (intz ws),ws,n,v,rfl,hx,ok,cl,by omega,hv,trivial,?_⟩;refine⟨_,rfl,_,rfl,_,rfl,bJ ⟨_,rfl,_,_,rfl,rfl,_,rfl,.inl ⟨_,_,rfl,rfl,_,rfl,?_⟩⟩⟩;show if (if true=true then !decide (((intz (gT v.2 ws.length)).length:Int)=(v.1:Int)) else _)=true then _ else _
 rw[if_pos rfl,dD,g4,bq2 rfl];refine bJ ?_;refine⟨_,rfl,intz ws,rfl,j5 _,trivial,?_⟩;have er:(intz ws).reverse=intz ws.reverse:=by show (ws.map PV.int).reverse=ws.reverse.map PV.int;rw[List.map_reverse]
 rw[er];have hx2:d5 (.tup (intz ws.reverse)) ws.reverse:=.inl rfl;refine⟨_,rfl,_,rfl,.tup (intz ws.reverse),ws.reverse,n,u,rfl,hx2,ao1 ok,Strip.uX o2,by omega,hu,_,rfl,.inl ⟨_,_,rfl,rfl,_,rfl,?_⟩⟩;show if decide ((u.1:Int)=(v.1:Int))=true then _ else _
 rw[le,bq2 rfl];refine bQ ⟨_,rfl,_,rfl,.tup (intz ws.reverse),ws.reverse,n,_,rfl,hx2,ao1 ok,Strip.uX o2,by omega,Strip.al5 o2 n,_,rfl,_,rfl,.tup (intz ws),ws,n,_,rfl,hx,ok,cl,by omega,Strip.al5 o n,.inl ⟨_,_,rfl,rfl,trivial,?_⟩⟩;show Q (.bl (decide (((bU ws.reverse n (bB ws.reverse):Nat):Int)=(bU ws n (bB ws):Nat))));rw[ec,bq2 rfl];exact q
theorem bl0:∀xs Q,B8 xs Q->ao0 { nx:=λ_=>Q .non,rt:=Q } (bG ["script","wants","length","web","seeds","least","back"] xs):=by
 rintro _ Q ⟨ns,rfl,hl,q⟩;have d4:(0:Int)<4:=by decide
 have d9:(0:Int)<9:=by decide
 refine⟨_,rfl,.scr ns,ns,0,rfl,.inl rfl,by decide,_,rfl,λws ok=>⟨trivial,?_⟩⟩;have o:=rK ok;have hc:=uY o
 obtain⟨m,em,hm⟩:∃m:Nat,ns.getD 1 0/4%9=m/\m<=8:=⟨(ns.getD 1 0/4%9).toNat,by omega,by omega⟩
 refine⟨_,rfl,.scr ns,ns,1,rfl,.inl rfl,by decide,_,_,rfl,rfl,⟨by decide,by decide⟩,_,_,rfl,rfl,d9,trivial,?_⟩;refine⟨_,rfl,.scr ns,ns,1,rfl,.inl rfl,by decide,_,_,rfl,rfl,d4,.inl ⟨_,_,rfl,rfl,_,rfl,?_⟩⟩;show if decide (ns.getD 1 0%4=1)=true then _ else _
 by_cases g:ns.getD 1 0%4=1
 ·rw[bq2 g]
  obtain⟨n,en,hn⟩:∃n:Nat,ns.getD 1 0/4%(40/(ws.length:Int)+1)=n/\ws.length*n<=40:=by
   rcases hc with e|e<;>rw[e]
   ·exact⟨(ns.getD 1 0/4%(40/((1:Nat):Int)+1)).toNat,by omega,by omega⟩
   ·exact⟨(ns.getD 1 0/4%(40/((2:Nat):Int)+1)).toNat,by omega,by omega⟩
  have el:(intz ws).length=ws.length:=dD ws;refine bQ ⟨_,rfl,.scr ns,ns,1,rfl,.inl rfl,by decide,_,_,rfl,rfl,⟨by decide,by decide⟩,_,rfl,_,_,rfl,rfl,_,_,rfl,rfl,⟨by rw[el];omega,by rw[el];omega⟩,_,_,rfl,rfl,_,_,rfl,rfl,?_,trivial,?_⟩
  ·show (0:Int)<40/((intz ws).length:Int)+1
   rw[el];rcases hc with e|e<;>rw[e]<;>decide
  have h:=ao2 (s:=.scr ns) (n:=n) ok hn q;rw[<- en]at h;rw[el];dsimp only[List.set];exact h
 ·rw[bp9 g]
  refine bJ ?_;have h:=ao2 (s:=.scr ns) (n:=m) ok (by rcases hc with e|e<;>rw[e]<;>omega) q;rw[<- em]at h;dsimp only[List.set];exact h
end PP
namespace K_k85
open PySem PySem.W L2 PP Core
theorem _root_.L2.FnScope.au {N P:List Str}{s:Scope}(a:s.kind=.function:=by rfl)(b:s.isCoroutine=false:=by rfl)(c:s.isGenerator=false:=by rfl)(d:N.Nodup:=by decide +kernel)(e:N.take P.length=P:=by rfl)(f:∀x∈P,s.names.lookup x=some .local∨s.names.lookup x=some .cell:=by decide +kernel)(g:∀y∈s.names,y.2≠.free:=by decide +kernel):FnScope N P s:=⟨a,b,c,d,e,f,g⟩
noncomputable def aC (i:Nat):Stmt:=PySem.Challenge.pw_kindleweb_k85_whole_seeds_told_light.main.body.getD i (.Pass ⟨0,0,0,0⟩)
section
variable {P:az}{w:bc}{K:Frag}{mg:Str→Option aw}{base:Heap}{f:ay}{fd:FuncData}{T:List (ay×Str)}
noncomputable def lG:bC:=A9 "strip_count.<locals>.<lambda>" (B0 (aC 11) 3)
theorem bl1:gQ P w K mg base 1 lG rJ:=
 gQ.of (N:=["many","seeds"]) (ps:=["many","seeds"]) .au (λ_ _ _ us hl=>by obtain⟨_,_,rfl⟩:=us2 hl;rfl) bi2 (λf cv A outer s H E hr=>⟨_,(qv 0),bh9⟩)
noncomputable def fC:bC:=A9 "strip_count.<locals>.<lambda>" (B0 (aC 11) 4)
theorem ao3:gQ P w K mg base 1 fC oK:=
 gQ.of (N:=["one","other"]) (ps:=["one","other"]) .au (λ_ _ _ us hl=>by obtain⟨_,_,rfl⟩:=us2 hl;rfl) bi3 (λf cv A outer s H E hr=>⟨_,(gI (qv 0) (qv 1)),bi0⟩)
noncomputable def lF:bC:=A9 "fewest.<locals>.<lambda>" (B0 (aC 14) 4)
theorem ao4 (B:Bt mg):gQ P w K mg base 1 lF oM:=
 gQ.of (N:=["one","other"]) (ps:=["one","other"]) .au (λ_ _ _ us hl=>by obtain⟨_,_,rfl⟩:=us2 hl;rfl) bi4 (λf cv A outer s H E hr=>⟨_,(bf7 B rfl (by show (A.deeper (PyProof.Rows.envOfC lF.qual lF.scope s.heap.objs.size f cv)).units+6<cLine;have:=hr.units;omega) (aE (qv 0) (aE (qv 1) aL))),bi1⟩)
noncomputable abbrev ao5:Stmt:=aC 27
theorem v7:FnScope ["web","beside","one","other"] ["web"] (aJ ao5):=.au
theorem bl2 (F:bK K "_law_beside" "_law_beside" ao5 f fd):d7 P w K mg base cG 1 f fd ["web"] Z0:=by
 refine F.ok v7 (λvs H Q E h=>?_) (λcdv A outer s H vs Q E hr h=>?_)
 ·obtain⟨v,ws,ls,rfl,_⟩:=h
  rfl
 obtain⟨v,ws,ls,rfl,W,hn,hm,hin,q⟩:=h
 refine⟨_,rT (aA0 (i:=1) (N:=["hearth"]) (fr:=[none]) rfl (eF.of rfl rfl) (G0 (p9 vW (pv 0) vD (λ_ _=>rfl)))
   ⟨λ_ _ _ _=>jJ (i:=0) (bA9 _ _) rfl (Or.inl rfl) (.inr rfl),λ_ _ _ _=>N6,λ_ _ _ _=>J6 iM⟩ v7.nd rfl rfl rfl)
  (rT (G4 PassesOwn.never rfl (G0 (p9 vW (pv 0) vD (λ_ _=>rfl))) (vI (n:=2) rfl (n5 (jJ (i:=2) v7.nd rfl (Or.inl rfl) (.inr rfl)) (n5 (jJ (i:=3) v7.nd rfl (Or.inl rfl) (.inr rfl)) vH)) )
   (rT (lJ (sF bD7 PySem.F.slot_list_append PySem.F.type_list_append sG (p9 vV (pv 1) (pv 2) (λ_ _=>rfl)) (eR (pv 3) iM)))
   (fQ (lJ (sF bD7 PySem.F.slot_list_append PySem.F.type_list_append sG (p9 vV (pv 1) (pv 3) (λ_ _=>rfl)) (eR (pv 2) iM))))))
  (fQ (vF (pv 1)))),?_⟩
 obtain⟨a,p,q',ys,rfl,ha,hp,hq,hL⟩:=W.at_
 have lw:(ws.map V.int).length=ws.length:=bq6 _
 refine⟨_,rfl,a,_,_,_,rfl,rfl,aQ.of ha,rfl,p,rfl,⟨_,aQ.of hp⟩,aA3 (aA2 (aQ.of hp)) (λi acc H'=>∃bs:List ay,acc=bs.map V.ref/\bs.length=i/\bs.Nodup/\∀b∈bs,H b=none/\H' b=some (.lst [])) (by rw[lw];exact by9 (N4 hn))
  (λD hD=>⟨[],rfl,rfl,bF0,λ_ z=>nomatch z⟩) (λi x acc D H' hx c hPv=>?_) (λD acc H' hD sm hDa ao hPv=>?_)⟩
 ·obtain⟨bs,rfl,hbl,nd,hb⟩:=hPv
  refine⟨wk0 (n:=none),aA9 ⟨bu8 _,λr hr'=>?_⟩⟩;have hrD:r≠D:=λz=>by rw[z,c.acc]at hr';cases hr'
  have hrH:H r=none:=c.same.free hr';refine c.yes (cS hr' _) ⟨bs++[r],by simp,by simp[hbl],?_,λb hm=>?_⟩
  ·refine List.nodup_append.mpr ⟨nd,bA9 _ _,λb hb1 b' hb2 e=>?_⟩
   rw[bq1.mp hb2]at e;rw[e]at hb1;rw[(hb r hb1).2]at hr';cases hr'
  ·rcases bs3.mp hm with hm|hm
   ·have hbD:b≠D:=λz=>by
     rw[z]at hm
     have:=(hb D hm).2
     rw[c.acc]at this
     have:bs.map V.ref = []:=by injection this with e1;injection e1
     have:bs = []:=List.map_eq_nil_iff.mp this
     rw[this]at hm;simp at hm
    refine⟨(hb b hm).1,?_⟩;rw[aK hbD,aK (dI (hb b hm).2 hr')];exact (hb b hm).2
   ·rw[bq1.mp hm]
    exact⟨hrH,by rw[aK hrD,bH]⟩
 ·obtain⟨bs,rfl,hbl,nd,hb⟩:=hPv
  rw[lw]at hbl;have R0:jQ H H' D bs (λk=>bN (ls.take 0) k):=by
   refine⟨hD,λb hm=>⟨(hb b hm).1,λz=>?_⟩,nd,hDa,λk b hk=>(hb b (bv1 hk)).2,sm⟩;rw[z]at hm
   have:=(hb D hm).2
   rw[hDa]at this
   have:bs.map V.ref = []:=by injection this with e1;injection e1
   have:bs = []:=List.map_eq_nil_iff.mp this
   rw[this]at hm;simp at hm
  have lL:=hL.length
  refine⟨_,rfl,a,_,_,_,rfl,rfl,aQ.of (sm _ _ ha),rfl,q',rfl,⟨_,aQ.of (sm _ _ hq)⟩,at6 (K:=K) (a:=q') (xs:=ys) (λi σ H2=>∃x y:Option V,σ = [some (.ref a),some (.ref D),x,y]/\jQ H H2 D bs (λk=>bN (ls.take i) k))
   ⟨none,none,rfl,R0⟩ (λi σ H2 _ ⟨_,_,_,R⟩=>aQ.of (R.same _ _ hq)) ?_ ?_⟩
  ·rintro i y σ H2 hi ⟨x1,x2,rfl,R⟩
   obtain⟨l,b,hl,rfl,hbt⟩:=hL.get hi
   have hlm:l∈ls:=bv1 hl
   obtain⟨⟨h1,h2⟩,h3,h4⟩:=hin l hlm
   have k1:l.1.toNat<bs.length:=by omega
   have k2:l.2.toNat<bs.length:=by omega
   have e1:bs[l.1.toNat]? = some (bs[l.1.toNat]):=br2 k1;have e2:bs[l.2.toNat]? = some (bs[l.2.toNat]):=br2 k2;refine⟨b,_,rfl,aQ.of (R.same _ _ hbt),rfl,_,_,rfl,_,_,rfl,rfl,?_⟩;refine⟨_,rfl,_,rfl,D,_,_,.ref bs[l.1.toNat],rfl,rfl,b8.of R.row,pF h1 (by rw[br5,e1];rfl),pG (b8.of (R.rows _ _ e1)),_,rfl,_,_,_,rfl,rfl,R.rows _ _ e1,?_,?_⟩
   ·rw[bq6]
    have:=wQ (ls.take i) (l.1.toNat:Nat)
    rw[List.length_take]at this;exact iO (by omega)
   ·have R1:=R.app e1 l.2
    refine⟨_,rfl,_,rfl,D,_,_,.ref bs[l.2.toNat],rfl,rfl,b8.of R1.row,pF h3 (by rw[br5,e2];rfl),pG (b8.of (R1.rows _ _ e2)),_,rfl,_,_,_,rfl,rfl,R1.rows _ _ e2,?_,?_⟩
    ·rw[bq6]
     have:=wQ (ls.take i) (l.2.toNat:Nat)
     rw[List.length_take]at this;split
     ·rw[br4,List.length_singleton];exact iO (by omega)
     ·exact iO (by omega)
    ·have R2:=R1.app e2 l.1
     refine⟨_,_,rfl,R2.congr λk hk=>?_⟩;rw[aA8 hl];have c1:(k=l.1.toNat)↔l.1=(k:Int):=by omega
     have c2:(k=l.2.toNat)↔l.2=(k:Int):=by omega
     by_cases d1:k=l.1.toNat
     ·by_cases d2:k=l.2.toNat
      ·rw[if_pos d2,if_pos d1,if_pos (c1.mp d1),if_pos (c2.mp d2)];simp
      ·rw[if_neg d2,if_pos d1,if_pos (c1.mp d1),if_neg (λz=>d2 (c2.mpr z))];simp
     ·by_cases d2:k=l.2.toNat
      ·rw[if_pos d2,if_neg d1,if_neg (λz=>d1 (c1.mpr z)),if_pos (c2.mp d2)];simp
      ·rw[if_neg d2,if_neg d1,if_neg (λz=>d1 (c1.mpr z)),if_neg (λz=>d2 (c2.mpr z))];simp
  ·
   rintro σ H2 ⟨x1,x2,rfl,R⟩;refine⟨_,rfl,q D bs H2 hbl ?_⟩;rw[lL,bC8]at R;exact R
theorem bl3:FnScope ["wants","length"] ["wants","length"] (aJ (aC 9)):=.au
theorem bl4 (B:Bt mg)(F:bK K "looked_through" "looked_through" (aC 9) f fd)(m:mg "looked_through" = some (.ref f))(x_BadBoard:Xc K mg base "BadBoard"){u_MOST_WIDE:Nat}(m_MOST_WIDE:mg "MOST_WIDE" = some (.int 2 u_MOST_WIDE)){u_MOST_WANTED_ON_STRIPS:Nat}(m_MOST_WANTED_ON_STRIPS:mg "MOST_WANTED_ON_STRIPS" = some (.int 6 u_MOST_WANTED_ON_STRIPS)):gY P w K mg base 1 "looked_through" ["wants","length"] kC:=
 gY.of F m bl3 (λ_ _ _ _ _ _ us hl=>by obtain⟨_,_,rfl⟩:=us2 hl;rfl) ac0 (λEp xs Q h=>by unfold kC at h;repeat (first|(obtain⟨rfl,_⟩:=h;rfl)|(obtain⟨_,h⟩:=h))) aW1 (λcdv A outer s H E Ep hr hX=>by
  exact (aU (eL (pU (mC (nR (eW B (aE (qv 0) aL)) aV) (mC (xE (eW B (aE (qv 0) aL)) (qH rfl m_MOST_WIDE)) (mC (nR (aV7 B rfl (aE (qv 0) aL)) aV) (t9 (xE (aV8 B rfl (aE (qv 0) aL)) (qH rfl m_MOST_WANTED_ON_STRIPS))))))) (aZ (yN hX x_BadBoard (aE xC aL))) eJ)
   (aZ (eL (nR (qv 1) aV) (aZ (yN hX x_BadBoard (aE xC aL))) eJ))))
theorem bl5:FnScope ["length","most"] ["length","most"] (aJ (aC 10)):=.au
theorem bl6 (B:Bt mg)(F:bK K "held_to" "held_to" (aC 10) f fd)(m:mg "held_to" = some (.ref f))(x_TooMany:Xc K mg base "TooMany"):gY P w K mg base 1 "held_to" ["length","most"] kD:=
 gY.of F m bl5 (λ_ _ _ _ _ _ us hl=>by obtain⟨_,_,rfl⟩:=us2 hl;rfl) ac1 (λEp xs Q h=>by unfold kD at h;repeat (first|(obtain⟨rfl,_⟩:=h;rfl)|(obtain⟨_,h⟩:=h))) aW2 (λcdv A outer s H E Ep hr hX=>by
  exact (aZ (eL (xE (qv 0) (qv 1)) (aZ (yN hX x_TooMany (aE xC aL))) eJ)))
theorem bl7:FnScope ["mask","place"] ["mask","place"] (aJ (aC 16)):=.au
theorem bl8 (B:Bt mg)(F:bK K "has" "has" (aC 16) f fd)(m:mg "has" = some (.ref f)) :Df P w K mg base 1 "has" ["mask","place"] iK:=
 Df.of F m bl7 (λ_ _ _ _ _ _ us hl=>by obtain⟨_,_,rfl⟩:=us2 hl;rfl) (λxs Q h=>by unfold iK at h;repeat (first|(obtain⟨rfl,_⟩:=h;rfl)|(obtain⟨_,h⟩:=h))) (λcdv A outer s H E hr=>by
  exact⟨(ai0),(aZ (d0 (aS5 (aH6 (qv 0) (qv 1)) aV))),be5⟩)
theorem bl9:FnScope ["script","k"] ["script","k"] (aJ (aC 25)):=.au
theorem bm0 (B:Bt mg)(F:bK K "_law_cell_at" "_law_cell_at" (aC 25) f fd)(m:mg "_law_cell_at" = some (.ref f)) :Df P w K mg base 1 "_law_cell_at" ["script","k"] lB:=
 Df.of F m bl9 (λ_ _ _ _ _ _ us hl=>by obtain⟨_,_,rfl⟩:=us2 hl;rfl) (λxs Q h=>by unfold lB at h;repeat (first|(obtain⟨rfl,_⟩:=h;rfl)|(obtain⟨_,h⟩:=h))) (λcdv A outer s H E hr=>by
  exact⟨(Y2),(aU (eL (nR (qv 1) (eW B (aE (qv 0) aL))) (aZ (d0 (cU (qv 0) (qv 1)))) eJ)
   (aZ (d0 aV))),aN3⟩)
theorem bm1:FnScope ["found"] ["found"] (aJ (aC 26)):=.au
theorem bm2 (B:Bt mg)(F:bK K "_law_whole" "_law_whole" (aC 26) f fd)(m:mg "_law_whole" = some (.ref f)) :Df P w K mg base 1 "_law_whole" ["found"] mM:=
 Df.of F m bm1 (λ_ _ _ _ _ _ us hl=>by obtain⟨_,rfl⟩:=us1 hl;rfl) (λxs Q h=>by unfold mM at h;repeat (first|(obtain⟨rfl,_⟩:=h;rfl)|(obtain⟨_,h⟩:=h))) (λcdv A outer s H E hr=>by
  exact⟨(Y4 K),(aZ (d0 (xI (aI8 B (qv 0)) (xH (aI0 (aI9 B (qv 0))))))),aN4 (yJ K).ii (yJ K).ib⟩)
theorem bm3:FnScope ["cell"] ["cell"] (aJ (aC 31)):=.au
theorem bm4 (B:Bt mg)(F:bK K "_law_wants" "_law_wants" (aC 31) f fd)(m:mg "_law_wants" = some (.ref f)) :Df P w K mg base 1 "_law_wants" ["cell"] qN:=
 Df.of F m bm3 (λ_ _ _ _ _ _ us hl=>by obtain⟨_,rfl⟩:=us1 hl;rfl) (λxs Q h=>by unfold qN at h;repeat (first|(obtain⟨rfl,_⟩:=h;rfl)|(obtain⟨_,h⟩:=h))) (λcdv A outer s H E hr=>by
  exact⟨(ac2),(aU (eL (xG (j9 (qv 0) aV) aV) (aZ (d0 (fG (aE (j9 (jX (qv 0) aV) aV) aL)))) eJ)
   (aU (eL (xG (j9 (qv 0) aV) aV) (aZ (d0 (fG (aE (j9 (jX (qv 0) aV) aV) (aE (j9 (jX (qv 0) aV) aV) aL))))) eJ)
   (aZ (d0 (fG (aE (gI aV (j9 (jX (qv 0) aV) aV)) (aE (gI aV (j9 (jX (qv 0) aV) aV)) aL))))))),aW6⟩)
theorem ao6:FnScope ["wants","length","width","links","slice_number","place","hearth"] ["wants","length"] (aJ (aC 32)):=.au
theorem bm5 (B:Bt mg)(F:bK K "_law_strip" "_law_strip" (aC 32) f fd)(m:mg "_law_strip" = some (.ref f)) :Df P w K mg base 1 "_law_strip" ["wants","length"] qO:=
 Df.of F m ao6 (λ_ _ _ _ _ _ us hl=>by obtain⟨_,_,rfl⟩:=us2 hl;rfl) (λxs Q h=>by unfold qO at h;repeat (first|(obtain⟨rfl,_⟩:=h;rfl)|(obtain⟨_,h⟩:=h))) (λcdv A outer s H E hr=>by
  have nd:=ao6.nd
  exact⟨(ac5),(aU (cH (i:=2) nd (eW B (aE (qv 0) aL)))
   (aU (tD (i:=3) nd (xJ aL))
   (aU (jC 4 nd (jY rfl B.range (qv 1))
    (aZ (jC 5 nd (jY rfl B.range (qv 2))
     (aU (cH (i:=6) nd (gI (S9 (qv 4) (qv 2)) (qv 5)))
     (aU (eL (nR (gI (qv 5) aV) (qv 2)) (aZ (T4 3 (fG (aE (qv 6) (aE (gI (qv 6) aV) aL))))) eJ)
     (aZ (eL (nR (gI (qv 4) aV) (qv 1)) (aZ (T4 3 (fG (aE (qv 6) (aE (gI (qv 6) (qv 2)) aL))))) eJ)))))))
   (aZ (d0 (fG (aE (aV6 (tE B (aE (qv 0) aL)) (qv 1)) (aE (tE B (aE (aR9 B (aE (qv 3) aL)) aL)) aL)))))))),aW7⟩)
theorem bm6:FnScope ["mask"] ["mask"] (aJ (aC 17)):=.au
theorem bm7 (B:Bt mg)(F:bK K "count_in" "count_in" (aC 17) f fd)(m:mg "count_in" = some (.ref f))(d_has:Df P w K mg base 1 "has" ["mask","place"] iK):Df P w K mg base 2 "count_in" ["mask"] rA:=
 Df.of F m bm6 (λ_ _ _ _ _ _ us hl=>by obtain⟨_,rfl⟩:=us1 hl;rfl) (λxs Q h=>by unfold rA at h;repeat (first|(obtain⟨rfl,_⟩:=h;rfl)|(obtain⟨_,h⟩:=h))) (λcdv A outer s H E hr=>by
  exact⟨(ai1),(aZ (d0 (gI (cQ d_has hr (aE (qv 0) (aE aV aL))) (cQ d_has hr (aE (qv 0) (aE aV aL)))))),be6⟩)
theorem v8:FnScope ["values","key","value","joined"] ["values","key","value","joined"] (aJ (aC 19)):=.au
theorem bm8 (F:bK K "join_in" "join_in" (aC 19) f fd)(m:mg "join_in" = some (.ref f))(lm:gQ P w K mg base 1 fC oK):kJ P w K mg base 2 "join_in" ["values","key","value","joined"] (.lm fC) (fB rN) JN:=
 kJ.of F m v8 (λ_ _ _ _ _ _ us hl=>by obtain⟨_,_,_,_,rfl⟩:=mP hl;rfl) (λcdv A outer s H E hr=>by
  have hu16:(A.deeper (PyProof.Rows.envOfC "join_in" (aJ (aC 19)) s.heap.objs.size f cdv)).units+16<cLine:=by have:=hr.units;omega
  exact⟨mW (B1 fC),fQ (oV (uK hu16 (qv 1) (qv 0)) (fQ (jR hu16 (pv 0) (pv 1) (qZ 3 (λz hz=>by obtain rfl:=bq1.mp hz;exact lm) hr (aE (hV hu16 (qv 0) (qv 1)) (aE (qv 2) aL))) rfl)) (fQ (jR hu16 (pv 0) (pv 1) (pv 2) rfl))),ak3 fC⟩)
theorem bm9 (F:bK K "join_in" "join_in" (aC 19) f fd)(m:mg "join_in" = some (.ref f))(lm:gQ P w K mg base 1 fC oK):kK P w K mg base 2 "join_in" ["values","key","value","joined"] (.lm fC) (fB rN) JN:=
 kK.of F m v8 (λ_ _ _ _ _ _ us hl=>by obtain⟨_,_,_,_,rfl⟩:=mP hl;rfl) (λcdv A outer s H E hr=>by
  have hu16:(A.deeper (PyProof.Rows.envOfC "join_in" (aJ (aC 19)) s.heap.objs.size f cdv)).units+16<cLine:=by have:=hr.units;omega
  exact⟨mW (B1 fC),fQ (oV (uK hu16 (qv 1) (qv 0)) (fQ (jR hu16 (pv 0) (pv 1) (qZ 3 (λz hz=>by obtain rfl:=bq1.mp hz;exact lm) hr (aE (hV hu16 (qv 0) (qv 1)) (aE (qv 2) aL))) rfl)) (fQ (jR hu16 (pv 0) (pv 1) (pv 2) rfl))),ak3 fC⟩)
theorem bn0 (F:bK K "join_in" "join_in" (aC 19) f fd)(m:mg "join_in" = some (.ref f))(lm:gQ P w K mg base 1 lF oM):kJ P w K mg base 2 "join_in" ["values","key","value","joined"] (.lm lF) (fB rP) oP:=
 kJ.of F m v8 (λ_ _ _ _ _ _ us hl=>by obtain⟨_,_,_,_,rfl⟩:=mP hl;rfl) (λcdv A outer s H E hr=>by
  have hu16:(A.deeper (PyProof.Rows.envOfC "join_in" (aJ (aC 19)) s.heap.objs.size f cdv)).units+16<cLine:=by have:=hr.units;omega
  exact⟨mW (B3 lF),fQ (oV (uK hu16 (qv 1) (qv 0)) (fQ (jR hu16 (pv 0) (pv 1) (qZ 3 (λz hz=>by obtain rfl:=bq1.mp hz;exact lm) hr (aE (hV hu16 (qv 0) (qv 1)) (aE (qv 2) aL))) rfl)) (fQ (jR hu16 (pv 0) (pv 1) (pv 2) rfl))),ak8 lF⟩)
theorem bn1 (F:bK K "join_in" "join_in" (aC 19) f fd)(m:mg "join_in" = some (.ref f))(lm:gQ P w K mg base 1 lF oM):kK P w K mg base 2 "join_in" ["values","key","value","joined"] (.lm lF) (fB rP) oP:=
 kK.of F m v8 (λ_ _ _ _ _ _ us hl=>by obtain⟨_,_,_,_,rfl⟩:=mP hl;rfl) (λcdv A outer s H E hr=>by
  have hu16:(A.deeper (PyProof.Rows.envOfC "join_in" (aJ (aC 19)) s.heap.objs.size f cdv)).units+16<cLine:=by have:=hr.units;omega
  exact⟨mW (B3 lF),fQ (oV (uK hu16 (qv 1) (qv 0)) (fQ (jR hu16 (pv 0) (pv 1) (qZ 3 (λz hz=>by obtain rfl:=bq1.mp hz;exact lm) hr (aE (hV hu16 (qv 0) (qv 1)) (aE (qv 2) aL))) rfl)) (fQ (jR hu16 (pv 0) (pv 1) (pv 2) rfl))),ak8 lF⟩)
theorem ao7:FnScope ["wants","behind","burning","ahead","lit","place","want"] ["wants","behind","burning","ahead"] (aJ (aC 23)):=.au
theorem bn2 (B:Bt mg)(F:bK K "with_kindled" "with_kindled" (aC 23) f fd)(m:mg "with_kindled" = some (.ref f))(d_has:Df P w K mg base 1 "has" ["mask","place"] iK):Df P w K mg base 2 "with_kindled" ["wants","behind","burning","ahead"] oI:=
 Df.of F m ao7 (λ_ _ _ _ _ _ us hl=>by obtain⟨_,_,_,_,rfl⟩:=mP hl;rfl) (λxs Q h=>by unfold oI at h;repeat (first|(obtain⟨rfl,_⟩:=h;rfl)|(obtain⟨_,h⟩:=h))) (λcdv A outer s H E hr=>by
  have nd:=ao7.nd
  exact⟨(ai8),(aU (cH (i:=4) nd (qv 2))
   (aU (tF 5 6 nd (Z8 rfl B.enum (qv 0))
    (aZ (eL (xF (gI (gI (cQ d_has hr (aE (qv 1) (aE (qv 5) aL))) (cQ d_has hr (aE (qv 3) (aE (qv 5) aL)))) (cQ d_has hr (aE (qv 2) (aE (S8 aV (qv 5)) aL)))) (qv 6)) (aZ (cH (i:=4) nd (bf5 (qv 4) (xD aV (qv 5))))) eJ)))
   (aZ (xK 4)))),bg2⟩)
theorem ao8:FnScope ["web","seeds","beside","burning","left","hearth","count"] ["web","seeds"] (aJ (aC 28)):=.au
theorem bn3 (B:Bt mg)(F:bK K "_law_burning" "_law_burning" (aC 28) f fd)(m:mg "_law_burning" = some (.ref f))(d__law_beside:Df P w K mg base 1 "_law_beside" ["web"] aa7):Df P w K mg base 2 "_law_burning" ["web","seeds"] qK:=
 Df.of F m ao8 (λ_ _ _ _ _ _ us hl=>by obtain⟨_,_,rfl⟩:=us2 hl;rfl) (λxs Q h=>by unfold qK at h;repeat (first|(obtain⟨rfl,_⟩:=h;rfl)|(obtain⟨_,h⟩:=h))) (λcdv A outer s H E hr=>by
  have nd:=ao8.nd
  exact⟨(aa8),(aU (cH (i:=2) nd (cQ d__law_beside hr (aE (qv 0) aL)))
   (aU (tD (i:=3) nd (U0 (N:=["hearth","seeds"]) (fr:=[none,some 1]) (jY rfl B.range (eW B (aE (cU (qv 0) aV) aL))) (λ_ _ _ _=>(aI5 (qv 0) (qv 1)))))
   (aU (cH (i:=4) nd g9)
   (aU (xL PassesOwn.never (nT (qv 4))
    (aU (cH (i:=4) nd g9)
    (aZ (jC 5 nd (jY rfl B.range (eW B (aE (cU (qv 0) aV) aL)))
     (aU (cH (i:=6) nd (eW B (aE (tG (N:=["other","burning"]) (fr:=[none,some 3]) (mF (cU (qv 2) (qv 5))) (λ_ _ _ _=>(kX (cU (qv 1) (qv 0)))) (λ_ _ _ _=>(qv 0))) aL)))
     (aZ (eL (pU (aH9 (mD (kX (cU (qv 3) (qv 5)))) (aH8 (xF (qv 6) (cU (cU (qv 0) aV) (qv 5)))))) (aU (aJ3 (i:=3) (qv 5) g9)
      (aZ (cH (i:=4) nd g9))) eJ)))))))
   (aZ (xK 3)))))),aS8⟩)
theorem ao9:FnScope ["found","many","last","hearth"] ["found","many"] (aJ (aC 30)):=.au
theorem bn4 (B:Bt mg)(F:bK K "_law_is_set" "_law_is_set" (aC 30) f fd)(m:mg "_law_is_set" = some (.ref f))(d__law_whole:Df P w K mg base 1 "_law_whole" ["found"] mM):Df P w K mg base 2 "_law_is_set" ["found","many"] qM:=
 Df.of F m ao9 (λ_ _ _ _ _ _ us hl=>by obtain⟨_,_,rfl⟩:=us2 hl;rfl) (λxs Q h=>by unfold qM at h;repeat (first|(obtain⟨rfl,_⟩:=h;rfl)|(obtain⟨_,h⟩:=h))) (λcdv A outer s H E hr=>by
  have nd:=ao9.nd
  exact⟨(ab0 K),(aU (eL (mD (nT (aJ0 B (qv 0)))) (aZ (d0 g9)) eJ)
   (aU (cH (i:=2) nd (T6 aV))
   (aU (jC 3 nd (mF (qv 0))
    (aU (eL (pU (mC (mD (nT (cQ d__law_whole hr (aE (qv 3) aL)))) (mC (aH7 (qv 3) (qv 2)) (t9 (xF (qv 3) (qv 1)))))) (aZ (d0 g9)) eJ)
    (aZ (cH (i:=2) nd (qv 3)))))
   (aZ (d0 g9))))),aT0 (yJ K).tt⟩)
theorem bn5:FnScope ["pair","seeds"] ["pair","seeds"] (aJ (aC 15)):=.au
theorem bn6 (B:Bt mg)(F:bK K "with_slice" "with_slice" (aC 15) f fd)(m:mg "with_slice" = some (.ref f))(d_count_in:Df P w K mg base 2 "count_in" ["mask"] rA):Df P w K mg base 3 "with_slice" ["pair","seeds"] rL:=
 Df.of F m bn5 (λ_ _ _ _ _ _ us hl=>by obtain⟨_,_,rfl⟩:=us2 hl;rfl) (λxs Q h=>by unfold rL at h;repeat (first|(obtain⟨rfl,_⟩:=h;rfl)|(obtain⟨_,h⟩:=h))) (λcdv A outer s H E hr=>by
  exact⟨(ak6),(aZ (d0 (fG (aE (gI (cU (qv 0) aV) (cQ d_count_in hr (aE (qv 1) aL))) (aE (aQ4 (cU (qv 0) aV) (fG (aE (qv 1) aL))) aL))))),bi8⟩)
theorem ap0:FnScope ["wants","answer","seeds","ahead","burning","more","whole"] ["wants","answer","seeds","ahead"] (aJ (aC 22)):=.au
theorem bn7 (B:Bt mg)(F:bK K "settled" "settled" (aC 22) f fd)(m:mg "settled" = some (.ref f))(d_with_kindled:Df P w K mg base 2 "with_kindled" ["wants","behind","burning","ahead"] oI):Df P w K mg base 3 "settled" ["wants","answer","seeds","ahead"] rG:=
 Df.of F m ap0 (λ_ _ _ _ _ _ us hl=>by obtain⟨_,_,_,_,rfl⟩:=mP hl;rfl) (λxs Q h=>by unfold rG at h;repeat (first|(obtain⟨rfl,_⟩:=h;rfl)|(obtain⟨_,h⟩:=h))) (λcdv A outer s H E hr=>by
  have nd:=ap0.nd
  exact⟨(ai9),(aU (cH (i:=4) nd (qv 2))
   (aU (cH (i:=5) nd (cQ d_with_kindled hr (aE (qv 0) (aE (cU (cU (qv 1) (qv 4)) aV) (aE (qv 4) (aE (qv 3) aL))))))
   (aU (xL PassesOwn.never (T1 (qv 5) (qv 4))
    (aU (cH (i:=4) nd (qv 5))
    (aZ (cH (i:=5) nd (cQ d_with_kindled hr (aE (qv 0) (aE (cU (cU (qv 1) (qv 4)) aV) (aE (qv 4) (aE (qv 3) aL)))))))))
   (aU (cH (i:=6) nd (S8 (eW B (aE (qv 1) aL)) aV))
   (aZ (d0 (fG (aE (qv 4) (aE (xI (t8 (qv 4) (qv 6)) (xH (cU (cU (qv 1) (qv 6)) aV))) aL))))))))),bg3⟩)
theorem bn8:FnScope ["web","seeds"] ["web","seeds"] (aJ (aC 29)):=.au
theorem bn9 (B:Bt mg)(F:bK K "_law_lights" "_law_lights" (aC 29) f fd)(m:mg "_law_lights" = some (.ref f))(d__law_burning:Df P w K mg base 2 "_law_burning" ["web","seeds"] qK):Df P w K mg base 3 "_law_lights" ["web","seeds"] qL:=
 Df.of F m bn8 (λ_ _ _ _ _ _ us hl=>by obtain⟨_,_,rfl⟩:=us2 hl;rfl) (λxs Q h=>by unfold qL at h;repeat (first|(obtain⟨rfl,_⟩:=h;rfl)|(obtain⟨_,h⟩:=h))) (λcdv A outer s H E hr=>by
  exact⟨(aa9),(aZ (d0 (t8 (eW B (aE (tG (N:=["fire"]) (fr:=[none]) (mF (cQ d__law_burning hr (aE (qv 0) (aE (qv 1) aL)))) (λ_ _ _ _=>(mD (kX (qv 0)))) (λ_ _ _ _=>(qv 0))) aL)) aV))),aS9⟩)
theorem bo0:FnScope ["wants","answer","seeds"] ["wants","answer","seeds"] (aJ (aC 21)):=.au
theorem bo1 (B:Bt mg)(F:bK K "next_answer" "next_answer" (aC 21) f fd)(m:mg "next_answer" = some (.ref f))(d_settled:Df P w K mg base 3 "settled" ["wants","answer","seeds","ahead"] rG):Df P w K mg base 4 "next_answer" ["wants","answer","seeds"] rH:=
 Df.of F m bo0 (λ_ _ _ _ _ _ us hl=>by obtain⟨_,_,_,rfl⟩:=us3 hl;rfl) (λxs Q h=>by unfold rH at h;repeat (first|(obtain⟨rfl,_⟩:=h;rfl)|(obtain⟨_,h⟩:=h))) (λcdv A outer s H E hr=>by
  exact⟨(aj1),(aZ (d0 (tE B (aE (U0 (N:=["ahead","wants","answer","seeds"]) (fr:=[none,some 0,some 1,some 2]) (jY rfl B.range (eW B (aE (qv 1) aL))) (λ_ _ _ _=>(cQ d_settled hr (aE (qv 1) (aE (qv 2) (aE (qv 3) (aE (qv 0) aL))))))) aL)))),bg5⟩)
theorem ap1:FnScope ["wants","begin","following","waiting","answer","pairs"] ["wants","begin"] (aJ (aC 20)):=.au
theorem bo2 (B:Bt mg)(F:bK K "answers_behind" "answers_behind" (aC 20) f fd)(m:mg "answers_behind" = some (.ref f))(d_next_answer:Df P w K mg base 4 "next_answer" ["wants","answer","seeds"] rH):Df P w K mg base 5 "answers_behind" ["wants","begin"] oJ:=
 Df.of F m ap1 (λ_ _ _ _ _ _ us hl=>by obtain⟨_,_,rfl⟩:=us2 hl;rfl) (λxs Q h=>by unfold oJ at h;repeat (first|(obtain⟨rfl,_⟩:=h;rfl)|(obtain⟨_,h⟩:=h))) (λcdv A outer s H E hr=>by
  have nd:=ap1.nd;have hu16:(A.deeper (PyProof.Rows.envOfC "answers_behind" (aJ (aC 20)) s.heap.objs.size f cdv)).units+16<cLine:=by have:=hr.units;omega
  exact⟨aj3,(aU (rC (i:=2) nd zU)
   (aU (tD (i:=3) nd (xJ (aE (qv 1) aL)))
   (aU (xL PassesOwn.never (kX (qv 3))
    (aU (aS0 nd 3 4)
    (aZ (eL (bc9 hu16 (qv 4) (qv 2)) (aU (aJ1 (N:=["seeds","wants","answer"]) (fr:=[none,some 0,some 4]) (i:=5) nd (jY rfl B.range (eW B (aE (qv 4) aL))) (λ_ _ _ _=>(fG (aE (qv 0) (aE (cQ d_next_answer hr (aE (qv 1) (aE (qv 2) (aE (qv 0) aL)))) aL)))))
     (aU (bd0 (i:=2) hu16 (qv 4) (aZ7 (tG (N:=["pair"]) (fr:=[none]) (mF (qv 5)) (λ_ _ _ _=>(kX (cU (cU (cU (qv 0) aV) (T6 aV)) aV))) (λ_ _ _ _=>(qv 0)))))
     (aZ (U1 3 (aQ2 (N:=["seeds","behind"]) (fr:=[none,none]) (mF (hV hu16 (qv 2) (qv 4))) (λ_ _ _ _=>(qv 1))))))) eJ))))
   (aZ (xK 2))))),bg8⟩)
theorem v9:FnScope ["wants","length","first","passed","joined","begin","following","values","turn","later","answer","seeds","behind","ends"] ["wants","length","first","passed","joined"] (aJ (aC 18)):=.au
theorem bo3 (B:Bt mg)(F:bK K "gone_through" "gone_through" (aC 18) f fd)(m:mg "gone_through" = some (.ref f))(d_answers_behind:Df P w K mg base 5 "answers_behind" ["wants","begin"] oJ)(jA:kJ P w K mg base 2 "join_in" ["values","key","value","joined"] (.lm fC) (fB rN) JN)(jB:kK P w K mg base 2 "join_in" ["values","key","value","joined"] (.lm fC) (fB rN) JN)(lp:gQ P w K mg base 1 lG rJ):Df P w K mg base 6 "gone_through" ["wants","length","first","passed","joined"] (uV lG fC):=
 Df.of F m v9 (λ_ _ _ _ _ _ us hl=>by obtain⟨_,_,_,_,_,rfl⟩:=us5 hl;rfl) ak0 (λcdv A outer s H E hr=>by
  have nd:=v9.nd;have hu16:(A.deeper (PyProof.Rows.envOfC "gone_through" (aJ (aC 18)) s.heap.objs.size f cdv)).units+16<cLine:=by have:=hr.units;omega
  exact⟨(ak2 lG fC),(aU (cH (i:=5) nd (Y7 (fG (aE (fG (aE aV (aE g9 aL))) aL)) (xD aV (eW B (aE (qv 0) aL)))))
   (aU (cH (i:=6) nd (uM (cQ d_answers_behind hr (aE (qv 0) (aE (qv 5) aL)))))
   (aU (cH (i:=7) nd (uM (ag7 hu16 (qv 5) (qv 2))))
   (aU (jC 8 nd (jY rfl B.range (qv 1))
    (aU (rC (i:=9) nd zU)
    (aU (jC 10 nd (uO (qv 7))
     (aZ (tF 11 12 nd (mF (hV hu16 (qv 6) (qv 10)))
      (aZ (ah1 jA hr 9 (qv 12) (qZ 3 (λz hz=>by obtain rfl:=bq1.mp hz;exact lp) hr (aE (hV hu16 (qv 7) (qv 10)) (aE (qv 11) aL))) (qv 4))))))
    (aZ (ai4 9 (i:=7) nd)))))
   (aU (rC (i:=13) nd ag6)
   (aU (jC 10 nd (uO (qv 7))
    (aZ (eL (kX (cU (cU (qv 10) aV) aV)) (aZ (ah2 jB hr 13 g9 (hV hu16 (qv 7) (qv 10)) (qv 4))) eJ)))
   (aZ (d0 (hV hu16 (qv 13) g9))))))))),(bi6 lG fC)⟩)
theorem bo4 (B:Bt mg)(F:bK K "gone_through" "gone_through" (aC 18) f fd)(m:mg "gone_through" = some (.ref f))(d_answers_behind:Df P w K mg base 5 "answers_behind" ["wants","begin"] oJ)(jA:kJ P w K mg base 2 "join_in" ["values","key","value","joined"] (.lm lF) (fB rP) oP)(jB:kK P w K mg base 2 "join_in" ["values","key","value","joined"] (.lm lF) (fB rP) oP)(fv:u8 K mg "with_slice")(lp:Df P w K mg base 3 "with_slice" ["pair","seeds"] rL):Df P w K mg base 6 "gone_through" ["wants","length","first","passed","joined"] (uW lF):=
 Df.of F m v9 (λ_ _ _ _ _ _ us hl=>by obtain⟨_,_,_,_,_,rfl⟩:=us5 hl;rfl) ak0 (λcdv A outer s H E hr=>by
  have nd:=v9.nd;have hu16:(A.deeper (PyProof.Rows.envOfC "gone_through" (aJ (aC 18)) s.heap.objs.size f cdv)).units+16<cLine:=by have:=hr.units;omega
  exact⟨(ak7 lF),(aU (cH (i:=5) nd (Y7 (fG (aE (fG (aE aV (aE g9 aL))) aL)) (xD aV (eW B (aE (qv 0) aL)))))
   (aU (cH (i:=6) nd (uM (cQ d_answers_behind hr (aE (qv 0) (aE (qv 5) aL)))))
   (aU (cH (i:=7) nd (uM (ag7 hu16 (qv 5) (qv 2))))
   (aU (jC 8 nd (jY rfl B.range (qv 1))
    (aU (rC (i:=9) nd zU)
    (aU (jC 10 nd (uO (qv 7))
     (aZ (tF 11 12 nd (mF (hV hu16 (qv 6) (qv 10)))
      (aZ (ah1 jA hr 9 (qv 12) (bd9 3 (λz hz=>by obtain rfl:=bq1.mp hz;exact⟨fv.ex,_,lp⟩) hr (aE (hV hu16 (qv 7) (qv 10)) (aE (qv 11) aL))) (qv 4))))))
    (aZ (ai4 9 (i:=7) nd)))))
   (aU (rC (i:=13) nd ag6)
   (aU (jC 10 nd (uO (qv 7))
    (aZ (eL (kX (cU (cU (qv 10) aV) aV)) (aZ (ah2 jB hr 13 g9 (hV hu16 (qv 7) (qv 10)) (qv 4))) eJ)))
   (aZ (d0 (hV hu16 (qv 13) g9))))))))),(bj0 lF)⟩)
theorem bo5:FnScope ["wants","length"] ["wants","length"] (aJ (aC 11)):=.au
theorem bo6 {c0 P0:ay}{oc:aw}{od an:Option ay}{osl:Array (Option aw)}{kV doc pm ct:aw}(l:K.lookup f=some ⟨oc,od,.func (fnOf "strip_count" "strip_count" (bE (aC 11)) (bA (aC 11)) (aJ (aC 11)) .none kV doc pm an (.ref c0) ct),osl⟩)(cc:codeIn K (.ref c0) "strip_count" = true)(kp:keepIn K (.ref f)=true)(m:mg "strip_count" = some (.ref f))(hK:codeHdIn K c0 P0=true)(BK:iP base mg P0)(hgP:mainGlobals≠P0)(hmem:((P0,"strip_count.<locals>.<lambda>"):ay×Str)∈T)(d_looked_through:gY P w K mg base 1 "looked_through" ["wants","length"] kC)(d_held_to:gY P w K mg base 1 "held_to" ["length","most"] kD)(d_gone:Df P w K mg base 6 "gone_through" ["wants","length","first","passed","joined"] (uV lG fC)){u_:Nat}(m_:mg "MOST_COUNTED" = some (.int 300 u_)):eO P w K mg base T 7 "strip_count" ["wants","length"] oN:=
 eO.ofC l cc kp m bo5 (λ_ _ _ _ _ _ us hl=>by obtain⟨_,_,rfl⟩:=us2 hl;rfl) (λxs Q h=>by unfold oN at h;repeat (first|(obtain⟨rfl,_⟩:=h;rfl)|(obtain⟨_,h⟩:=h))) (λA outer s H E hr hT=>⟨(ak4 lG fC),(aU (nU (o6 d_looked_through hr (aE (qv 0) (aE (qv 1) aL))))
   (aU (nU (o6 d_held_to hr (aE (qv 1) (aE (qH rfl m_) aL))))
   (aZ (d0 (cQ d_gone hr (aE (qv 0) (aE (qv 1) (aE aV (aE (zV (hT _ hmem) rfl rfl hK BK hgP) (aE (zV (hT _ hmem) rfl rfl hK BK hgP) aL)))))))))) , (bi7 lG fC)⟩)
theorem bo7:FnScope ["wants","length"] ["wants","length"] (aJ (aC 14)):=.au
theorem bo8 {c0 P0:ay}{oc:aw}{od an:Option ay}{osl:Array (Option aw)}{kV doc pm ct:aw}(l:K.lookup f=some ⟨oc,od,.func (fnOf "fewest" "fewest" (bE (aC 14)) (bA (aC 14)) (aJ (aC 14)) .none kV doc pm an (.ref c0) ct),osl⟩)(cc:codeIn K (.ref c0) "fewest" = true)(kp:keepIn K (.ref f)=true)(m:mg "fewest" = some (.ref f))(hK:codeHdIn K c0 P0=true)(BK:iP base mg P0)(hgP:mainGlobals≠P0)(hmem:((P0,"fewest.<locals>.<lambda>"):ay×Str)∈T)(d_gone:Df P w K mg base 6 "gone_through" ["wants","length","first","passed","joined"] (uW lF))(fv:u8 K mg "with_slice"):eO P w K mg base T 7 "fewest" ["wants","length"] mX:=
 eO.ofC l cc kp m bo7 (λ_ _ _ _ _ _ us hl=>by obtain⟨_,_,rfl⟩:=us2 hl;rfl) (λxs Q h=>by unfold mX at h;repeat (first|(obtain⟨rfl,_⟩:=h;rfl)|(obtain⟨_,h⟩:=h))) (λA outer s H E hr hT=>⟨(ak9 lF),(aZ (d0 (cQ d_gone hr (aE (qv 0) (aE (qv 1) (aE (fG (aE aV (aE (fG aL) aL))) (aE (aZ8 fv) (aE (zV (hT _ hmem) rfl rfl hK BK hgP) aL)))))))),(bj1 lF)⟩)
theorem bo9:FnScope ["wants","length"] ["wants","length"] (aJ (aC 12)):=.au
theorem bp0 (B:Bt mg)(F:bK K "strip_least" "strip_least" (aC 12) f fd)(m:mg "strip_least" = some (.ref f))(d_looked_through:gY P w K mg base 1 "looked_through" ["wants","length"] kC)(d_held_to:gY P w K mg base 1 "held_to" ["length","most"] kD)(d_fewest:eO P w K mg base T 7 "fewest" ["wants","length"] mX){u_MOST_COUNTED:Nat}(m_MOST_COUNTED:mg "MOST_COUNTED" = some (.int 300 u_MOST_COUNTED)):eO P w K mg base T 8 "strip_least" ["wants","length"] oQ:=
 eO.of F m bo9 (λ_ _ _ _ _ _ us hl=>by obtain⟨_,_,rfl⟩:=us2 hl;rfl) (λxs Q h=>by unfold oQ at h;repeat (first|(obtain⟨rfl,_⟩:=h;rfl)|(obtain⟨_,h⟩:=h))) (λcdv A outer s H E hr hT=>by
  exact⟨(al0),(aU (nU (o6 d_looked_through hr (aE (qv 0) (aE (qv 1) aL))))
   (aU (nU (o6 d_held_to hr (aE (qv 1) (aE (qH rfl m_MOST_COUNTED) aL))))
   (aZ (d0 (cU (mV hT d_fewest hr (aE (qv 0) (aE (qv 1) aL))) aV))))),bj2⟩)
theorem ap2:FnScope ["wants","length","width","hearths","turn","seeds"] ["wants","length"] (aJ (aC 13)):=.au
theorem bp1 (B:Bt mg)(F:bK K "strip_seeds" "strip_seeds" (aC 13) f fd)(m:mg "strip_seeds" = some (.ref f))(d_looked_through:gY P w K mg base 1 "looked_through" ["wants","length"] kC)(d_held_to:gY P w K mg base 1 "held_to" ["length","most"] kD)(d_fewest:eO P w K mg base T 7 "fewest" ["wants","length"] mX)(d_has:Df P w K mg base 1 "has" ["mask","place"] iK){u_MOST_HEARTHS:Nat}(m_MOST_HEARTHS:mg "MOST_HEARTHS" = some (.int 40 u_MOST_HEARTHS)):eO P w K mg base T 8 "strip_seeds" ["wants","length"] rO:=
 eO.of F m ap2 (λ_ _ _ _ _ _ us hl=>by obtain⟨_,_,rfl⟩:=us2 hl;rfl) (λxs Q h=>by unfold rO at h;repeat (first|(obtain⟨rfl,_⟩:=h;rfl)|(obtain⟨_,h⟩:=h))) (λcdv A outer s H E hr hT=>by
  have nd:=ap2.nd
  exact⟨(am8),(aU (nU (o6 d_looked_through hr (aE (qv 0) (aE (qv 1) aL))))
   (aU (cH (i:=2) nd (eW B (aE (qv 0) aL)))
   (aU (nU (o6 d_held_to hr (aE (qv 1) (aE (jX (qH rfl m_MOST_HEARTHS) (qv 2)) aL))))
   (aU (tD (i:=3) nd (xJ aL))
   (aU (tF 4 5 nd (Z8 rfl B.enum (cU (mV hT d_fewest hr (aE (qv 0) (aE (qv 1) aL))) aV))
    (aZ (U1 3 (tG (N:=["place","seeds","turn","width"]) (fr:=[none,some 5,some 4,some 2]) (jY rfl B.range (qv 2)) (λ_ _ _ _=>(kX (cQ d_has hr (aE (qv 1) (aE (qv 0) aL))))) (λ_ _ _ _=>(gI (S9 (qv 2) (qv 3)) (qv 0)))))))
   (aZ (d0 (tE B (aE (qv 3) aL))))))))),bk9⟩)
theorem ap3:FnScope ["script","wants","length","web","seeds","least","back"] ["script"] (aJ (aC 33)):=.au
theorem bp2 (B:Bt mg)(F:bK K "law" "law" (aC 33) f fd)(d__law_wants:Df P w K mg base 1 "_law_wants" ["cell"] qN)(d__law_cell_at:Df P w K mg base 1 "_law_cell_at" ["script","k"] lB)(d__law_strip:Df P w K mg base 1 "_law_strip" ["wants","length"] qO)(d_strip_seeds:eO P w K mg base T 8 "strip_seeds" ["wants","length"] rO)(d__law_is_set:Df P w K mg base 2 "_law_is_set" ["found","many"] qM)(d__law_lights:Df P w K mg base 3 "_law_lights" ["web","seeds"] qL)(d_strip_least:eO P w K mg base T 8 "strip_least" ["wants","length"] oQ)(d__law_whole:Df P w K mg base 1 "_law_whole" ["found"] mM)(d_strip_count:eO P w K mg base T 7 "strip_count" ["wants","length"] oN)(rv:mg "reversed" = none):d7 P w K mg base cG 9 f fd ["script"] (r6 K T B8):=
 bh4 F ap3 (λxs Q h=>by unfold B8 at h;repeat (first|(obtain⟨rfl,_⟩:=h;rfl)|(obtain⟨_,h⟩:=h))) (λcdv A outer s H E hr hT=>by
  have nd:=ap3.nd
  exact⟨(ao0),(aU (cH (i:=1) nd (cQ d__law_wants hr (aE (cQ d__law_cell_at hr (aE (qv 0) (aE aV aL))) aL)))
   (aU (cH (i:=2) nd (j9 (jX (cQ d__law_cell_at hr (aE (qv 0) (aE aV aL))) aV) aV))
   (aU (eL (xG (j9 (cQ d__law_cell_at hr (aE (qv 0) (aE aV aL))) aV) aV) (aZ (cH (i:=2) nd (j9 (jX (cQ d__law_cell_at hr (aE (qv 0) (aE aV aL))) aV) (gI (jX aV (eW B (aE (qv 1) aL))) aV)))) eJ)
   (aU (cH (i:=3) nd (cQ d__law_strip hr (aE (qv 1) (aE (qv 2) aL))))
   (aU (cH (i:=4) nd (mV hT d_strip_seeds hr (aE (qv 1) (aE (qv 2) aL))))
   (aU (eL (pU (mC (mD (nT (cQ d__law_is_set hr (aE (qv 4) (aE (eW B (aE (cU (qv 3) aV) aL)) aL))))) (t9 (mD (nT (cQ d__law_lights hr (aE (qv 3) (aE (qv 4) aL)))))))) (aZ (d0 g9)) eJ)
   (aU (cH (i:=5) nd (mV hT d_strip_least hr (aE (qv 1) (aE (qv 2) aL))))
   (aU (eL (pU (mC (mD (nT (cQ d__law_whole hr (aE (qv 5) aL)))) (t9 (T1 (eW B (aE (qv 4) aL)) (qv 5))))) (aZ (d0 g9)) eJ)
   (aU (cH (i:=6) nd (aZ4 B rv (aE (qv 1) aL)))
   (aZ (d0 (xI (t8 (mV hT d_strip_least hr (aE (qv 6) (aE (qv 2) aL))) (qv 5)) (xH (t8 (mV hT d_strip_count hr (aE (qv 6) (aE (qv 2) aL))) (mV hT d_strip_count hr (aE (qv 1) (aE (qv 2) aL))))))))))))))))),bl0⟩)
end
set_option autoImplicit true in
theorem bp3 {l:OpenLaw}{w:bc}{K:Frag}{h:Heap}{mg:Str->Option aw}(X:K.In h)(G:h.Ns mainGlobals mg)(hfa:mg "law" = some (.ref fa))(a0:nsIn K mainGlobals "looked_through" = some (some (.ref f0)))(l0:K.lookup f0=some ⟨oc0,od0,.func (fnOf "looked_through" "looked_through" (bE (aC 9)) (bA (aC 9)) (aJ (aC 9)) .none kV0 dc0 pm0 an0 cd0 ct0),sl0⟩)(c0:codeIn K cd0 "looked_through" = true)(k0:keepIn K (.ref f0)=true)(a1:nsIn K mainGlobals "held_to" = some (some (.ref f1)))(l1:K.lookup f1=some ⟨oc1,od1,.func (fnOf "held_to" "held_to" (bE (aC 10)) (bA (aC 10)) (aJ (aC 10)) .none kV1 dc1 pm1 an1 cd1 ct1),sl1⟩)(c1:codeIn K cd1 "held_to" = true)(k1:keepIn K (.ref f1)=true)(a2:nsIn K mainGlobals "has" = some (some (.ref f2)))(l2:K.lookup f2=some ⟨oc2,od2,.func (fnOf "has" "has" (bE (aC 16)) (bA (aC 16)) (aJ (aC 16)) .none kV2 dc2 pm2 an2 cd2 ct2),sl2⟩)(c2:codeIn K cd2 "has" = true)(k2:keepIn K (.ref f2)=true)(a3:nsIn K mainGlobals "_law_cell_at" = some (some (.ref f3)))(l3:K.lookup f3=some ⟨oc3,od3,.func (fnOf "_law_cell_at" "_law_cell_at" (bE (aC 25)) (bA (aC 25)) (aJ (aC 25)) .none kV3 dc3 pm3 an3 cd3 ct3),sl3⟩)(c3:codeIn K cd3 "_law_cell_at" = true)(k3:keepIn K (.ref f3)=true)(a4:nsIn K mainGlobals "_law_whole" = some (some (.ref f4)))(l4:K.lookup f4=some ⟨oc4,od4,.func (fnOf "_law_whole" "_law_whole" (bE (aC 26)) (bA (aC 26)) (aJ (aC 26)) .none kV4 dc4 pm4 an4 cd4 ct4),sl4⟩)(c4:codeIn K cd4 "_law_whole" = true)(k4:keepIn K (.ref f4)=true)(a5:nsIn K mainGlobals "_law_beside" = some (some (.ref f5)))(l5:K.lookup f5=some ⟨oc5,od5,.func (fnOf "_law_beside" "_law_beside" (bE (aC 27)) (bA (aC 27)) (aJ (aC 27)) .none kV5 dc5 pm5 an5 cd5 ct5),sl5⟩)(c5:codeIn K cd5 "_law_beside" = true)(k5:keepIn K (.ref f5)=true)(a6:nsIn K mainGlobals "_law_wants" = some (some (.ref f6)))(l6:K.lookup f6=some ⟨oc6,od6,.func (fnOf "_law_wants" "_law_wants" (bE (aC 31)) (bA (aC 31)) (aJ (aC 31)) .none kV6 dc6 pm6 an6 cd6 ct6),sl6⟩)(c6:codeIn K cd6 "_law_wants" = true)(k6:keepIn K (.ref f6)=true)(a7:nsIn K mainGlobals "_law_strip" = some (some (.ref f7)))(l7:K.lookup f7=some ⟨oc7,od7,.func (fnOf "_law_strip" "_law_strip" (bE (aC 32)) (bA (aC 32)) (aJ (aC 32)) .none kV7 dc7 pm7 an7 cd7 ct7),sl7⟩)(c7:codeIn K cd7 "_law_strip" = true)(k7:keepIn K (.ref f7)=true)(a8:nsIn K mainGlobals "count_in" = some (some (.ref f8)))(l8:K.lookup f8=some ⟨oc8,od8,.func (fnOf "count_in" "count_in" (bE (aC 17)) (bA (aC 17)) (aJ (aC 17)) .none kV8 dc8 pm8 an8 cd8 ct8),sl8⟩)(c8:codeIn K cd8 "count_in" = true)(k8:keepIn K (.ref f8)=true)(a9:nsIn K mainGlobals "join_in" = some (some (.ref f9)))(l9:K.lookup f9=some ⟨oc9,od9,.func (fnOf "join_in" "join_in" (bE (aC 19)) (bA (aC 19)) (aJ (aC 19)) .none kV9 dc9 pm9 an9 cd9 ct9),sl9⟩)(c9:codeIn K cd9 "join_in" = true)(k9:keepIn K (.ref f9)=true)(a10:nsIn K mainGlobals "with_kindled" = some (some (.ref f10)))(l10:K.lookup f10=some ⟨oc10,od10,.func (fnOf "with_kindled" "with_kindled" (bE (aC 23)) (bA (aC 23)) (aJ (aC 23)) .none kV10 dc10 pm10 an10 cd10 ct10),sl10⟩)(c10:codeIn K cd10 "with_kindled" = true)(k10:keepIn K (.ref f10)=true)(a11:nsIn K mainGlobals "_law_burning" = some (some (.ref f11)))(l11:K.lookup f11=some ⟨oc11,od11,.func (fnOf "_law_burning" "_law_burning" (bE (aC 28)) (bA (aC 28)) (aJ (aC 28)) .none kV11 dc11 pm11 an11 cd11 ct11),sl11⟩)(c11:codeIn K cd11 "_law_burning" = true)(k11:keepIn K (.ref f11)=true)(a12:nsIn K mainGlobals "_law_is_set" = some (some (.ref f12)))(l12:K.lookup f12=some ⟨oc12,od12,.func (fnOf "_law_is_set" "_law_is_set" (bE (aC 30)) (bA (aC 30)) (aJ (aC 30)) .none kV12 dc12 pm12 an12 cd12 ct12),sl12⟩)(c12:codeIn K cd12 "_law_is_set" = true)(k12:keepIn K (.ref f12)=true)(a13:nsIn K mainGlobals "with_slice" = some (some (.ref f13)))(l13:K.lookup f13=some ⟨oc13,od13,.func (fnOf "with_slice" "with_slice" (bE (aC 15)) (bA (aC 15)) (aJ (aC 15)) .none kV13 dc13 pm13 an13 cd13 ct13),sl13⟩)(c13:codeIn K cd13 "with_slice" = true)(k13:keepIn K (.ref f13)=true)(a14:nsIn K mainGlobals "settled" = some (some (.ref f14)))(l14:K.lookup f14=some ⟨oc14,od14,.func (fnOf "settled" "settled" (bE (aC 22)) (bA (aC 22)) (aJ (aC 22)) .none kV14 dc14 pm14 an14 cd14 ct14),sl14⟩)(c14:codeIn K cd14 "settled" = true)(k14:keepIn K (.ref f14)=true)(a15:nsIn K mainGlobals "_law_lights" = some (some (.ref f15)))(l15:K.lookup f15=some ⟨oc15,od15,.func (fnOf "_law_lights" "_law_lights" (bE (aC 29)) (bA (aC 29)) (aJ (aC 29)) .none kV15 dc15 pm15 an15 cd15 ct15),sl15⟩)(c15:codeIn K cd15 "_law_lights" = true)(k15:keepIn K (.ref f15)=true)(a16:nsIn K mainGlobals "next_answer" = some (some (.ref f16)))(l16:K.lookup f16=some ⟨oc16,od16,.func (fnOf "next_answer" "next_answer" (bE (aC 21)) (bA (aC 21)) (aJ (aC 21)) .none kV16 dc16 pm16 an16 cd16 ct16),sl16⟩)(c16:codeIn K cd16 "next_answer" = true)(k16:keepIn K (.ref f16)=true)(a17:nsIn K mainGlobals "answers_behind" = some (some (.ref f17)))(l17:K.lookup f17=some ⟨oc17,od17,.func (fnOf "answers_behind" "answers_behind" (bE (aC 20)) (bA (aC 20)) (aJ (aC 20)) .none kV17 dc17 pm17 an17 cd17 ct17),sl17⟩)(c17:codeIn K cd17 "answers_behind" = true)(k17:keepIn K (.ref f17)=true)(a18:nsIn K mainGlobals "gone_through" = some (some (.ref f18)))(l18:K.lookup f18=some ⟨oc18,od18,.func (fnOf "gone_through" "gone_through" (bE (aC 18)) (bA (aC 18)) (aJ (aC 18)) .none kV18 dc18 pm18 an18 cd18 ct18),sl18⟩)(c18:codeIn K cd18 "gone_through" = true)(k18:keepIn K (.ref f18)=true){cq19 pq19:ay}(a19:nsIn K mainGlobals "strip_count" = some (some (.ref f19)))(l19:K.lookup f19=some ⟨oc19,od19,.func (fnOf "strip_count" "strip_count" (bE (aC 11)) (bA (aC 11)) (aJ (aC 11)) .none kV19 dc19 pm19 an19 (.ref cq19) ct19),sl19⟩)(c19:codeIn K (.ref cq19) "strip_count" = true)(k19:keepIn K (.ref f19)=true)(tb19:codeHdIn K cq19 pq19=true)(ng19:(mainGlobals==pq19)=false){cq20 pq20:ay}(a20:nsIn K mainGlobals "fewest" = some (some (.ref f20)))(l20:K.lookup f20=some ⟨oc20,od20,.func (fnOf "fewest" "fewest" (bE (aC 14)) (bA (aC 14)) (aJ (aC 14)) .none kV20 dc20 pm20 an20 (.ref cq20) ct20),sl20⟩)(c20:codeIn K (.ref cq20) "fewest" = true)(k20:keepIn K (.ref f20)=true)(tb20:codeHdIn K cq20 pq20=true)(ng20:(mainGlobals==pq20)=false)(a21:nsIn K mainGlobals "strip_least" = some (some (.ref f21)))(l21:K.lookup f21=some ⟨oc21,od21,.func (fnOf "strip_least" "strip_least" (bE (aC 12)) (bA (aC 12)) (aJ (aC 12)) .none kV21 dc21 pm21 an21 cd21 ct21),sl21⟩)(c21:codeIn K cd21 "strip_least" = true)(k21:keepIn K (.ref f21)=true)(a22:nsIn K mainGlobals "strip_seeds" = some (some (.ref f22)))(l22:K.lookup f22=some ⟨oc22,od22,.func (fnOf "strip_seeds" "strip_seeds" (bE (aC 13)) (bA (aC 13)) (aJ (aC 13)) .none kV22 dc22 pm22 an22 cd22 ct22),sl22⟩)(c22:codeIn K cd22 "strip_seeds" = true)(k22:keepIn K (.ref f22)=true)(a23:nsIn K mainGlobals "law" = some (some (.ref f23)))(l23:K.lookup f23=some ⟨oc23,od23,.func (fnOf "law" "law" (bE (aC 33)) (bA (aC 33)) (aJ (aC 33)) .none kV23 dc23 pm23 an23 cd23 ct23),sl23⟩)(c23:codeIn K cd23 "law" = true)(k23:keepIn K (.ref f23)=true)(z_len:nsIn K mainGlobals "len" = some none)(z_range:nsIn K mainGlobals "range" = some none)(z_tuple:nsIn K mainGlobals "tuple" = some none)(z_list:nsIn K mainGlobals "list" = some none)(z_sorted:nsIn K mainGlobals "sorted" = some none)(z_all:nsIn K mainGlobals "all" = some none)(z_any:nsIn K mainGlobals "any" = some none)(z_zip:nsIn K mainGlobals "zip" = some none)(z_min:nsIn K mainGlobals "min" = some none)(z_max:nsIn K mainGlobals "max" = some none)(z_sum:nsIn K mainGlobals "sum" = some none)(z_isinstance:nsIn K mainGlobals "isinstance" = some none)(z_int:nsIn K mainGlobals "int" = some none)(z_bool:nsIn K mainGlobals "bool" = some none)(z_enumerate:nsIn K mainGlobals "enumerate" = some none)(z_reversed:nsIn K mainGlobals "reversed" = some none){u_MOST_COUNTED:Nat}(z_MOST_COUNTEDx:nsIn K mainGlobals "MOST_COUNTED" = some (some (.int 300 u_MOST_COUNTED))){u_MOST_HEARTHS:Nat}(z_MOST_HEARTHSx:nsIn K mainGlobals "MOST_HEARTHS" = some (some (.int 40 u_MOST_HEARTHS))){u_MOST_WANTED_ON_STRIPS:Nat}(z_MOST_WANTED_ON_STRIPSx:nsIn K mainGlobals "MOST_WANTED_ON_STRIPS" = some (some (.int 6 u_MOST_WANTED_ON_STRIPS))){u_MOST_WIDE:Nat}(z_MOST_WIDEx:nsIn K mainGlobals "MOST_WIDE" = some (some (.int 2 u_MOST_WIDE))){C_HearthError C_BadBoard C_TooMany:ay}(aX_HE:nsIn K mainGlobals "HearthError" = some (some (.ref C_HearthError)))(aX_BB:nsIn K mainGlobals "BadBoard" = some (some (.ref C_BadBoard)))(aX_TM:nsIn K mainGlobals "TooMany" = some (some (.ref C_TooMany)))(zX_BW:nsIn K mainGlobals "BadWeb" = some none)(zX_BS:nsIn K mainGlobals "BadSet" = some none)(zX_BO:nsIn K mainGlobals "BadOrder" = some none)(zX_BP:nsIn K mainGlobals "BadPrices" = some none)(zX_BD:nsIn K mainGlobals "BadDeed" = some none)(zX_NW:nsIn K mainGlobals "NotWood" = some none)(zX_NP:nsIn K mainGlobals "NoPaper" = some none)(zX_NS:nsIn K mainGlobals "NoSuch" = some none)(zX_NT:nsIn K mainGlobals "NoText" = some none)(zX_OR:nsIn K mainGlobals "OddRound" = some none)(y_fg:specialIn K (.builtin "object.__class__") "__get__" = some (some (.builtin "getset_descriptor.__get__")))(y_ft:takesIn K (.builtin "object.__class__")=some true)(z_VE:nsIn K mainGlobals "ValueError" = some none)(y1_HE:isClsIn K C_HearthError=true)(y2_HE:typeIn K (.ref C_HearthError)=some (.type "type"))(y3_HE:findIn K (.ref C_HearthError) "__getattribute__" = some (some (.builtin "BaseException.__getattribute__")))(y4_HE:findIn K (.ref C_HearthError) "__getattr__" = some none)(y5_HE:findIn K (.ref C_HearthError) "__class__" = some (some (.builtin "object.__class__")))(y6_HE:mroIn K C_HearthError (.type "object")=some true)(y7_HE:mroIn K C_HearthError (.type "BaseException")=some true)(y1_BB:isClsIn K C_BadBoard=true)(y2_BB:typeIn K (.ref C_BadBoard)=some (.type "type"))(y3_BB:findIn K (.ref C_BadBoard) "__getattribute__" = some (some (.builtin "BaseException.__getattribute__")))(y4_BB:findIn K (.ref C_BadBoard) "__getattr__" = some none)(y5_BB:findIn K (.ref C_BadBoard) "__class__" = some (some (.builtin "object.__class__")))(y6_BB:mroIn K C_BadBoard (.type "object")=some true)(y7_BB:mroIn K C_BadBoard (.type "BaseException")=some true)(y1_TM:isClsIn K C_TooMany=true)(y2_TM:typeIn K (.ref C_TooMany)=some (.type "type"))(y3_TM:findIn K (.ref C_TooMany) "__getattribute__" = some (some (.builtin "BaseException.__getattribute__")))(y4_TM:findIn K (.ref C_TooMany) "__getattr__" = some none)(y5_TM:findIn K (.ref C_TooMany) "__class__" = some (some (.builtin "object.__class__")))(y6_TM:mroIn K C_TooMany (.type "object")=some true)(y7_TM:mroIn K C_TooMany (.type "BaseException")=some true)(q_BB:excIn K C_BadBoard [.type "ValueError",.type "Exception",.type "BaseException",.type "object"] "ValueError.__new__" = true)(q_TM:excIn K C_TooMany [.type "ValueError",.type "Exception",.type "BaseException",.type "object"] "ValueError.__new__" = true)
 :∃fd:FuncData,(∀(s:ax) (v:aw),BindsTo s fd ⟨[v],[]⟩ [("script",v)])/\∀base:Heap,K.In base->base.Ns mainGlobals mg->(∀z∈([(pq20,"fewest.<locals>.<lambda>"),(pq19,"strip_count.<locals>.<lambda>")]:List (ay×Str)),iP base mg z.1)->d7 l.prog w K mg base cG 9 fa fd ["script"] (uU K [(pq20,"fewest.<locals>.<lambda>"),(pq19,"strip_count.<locals>.<lambda>")]):=by
 have e:=hfa.symm.trans (mg_of X G a23);cases e;have F0:=cZ (st:=aC 9) l0 c0 k0;have m0:=mg_of X G a0;have F1:=cZ (st:=aC 10) l1 c1 k1;have m1:=mg_of X G a1;have F2:=cZ (st:=aC 16) l2 c2 k2;have m2:=mg_of X G a2;have F3:=cZ (st:=aC 25) l3 c3 k3;have m3:=mg_of X G a3;have F4:=cZ (st:=aC 26) l4 c4 k4;have m4:=mg_of X G a4;have F5:=cZ (st:=aC 27) l5 c5 k5;have m5:=mg_of X G a5;have F6:=cZ (st:=aC 31) l6 c6 k6;have m6:=mg_of X G a6;have F7:=cZ (st:=aC 32) l7 c7 k7;have m7:=mg_of X G a7;have F8:=cZ (st:=aC 17) l8 c8 k8;have m8:=mg_of X G a8;have F9:=cZ (st:=aC 19) l9 c9 k9;have m9:=mg_of X G a9;have F10:=cZ (st:=aC 23) l10 c10 k10;have m10:=mg_of X G a10;have F11:=cZ (st:=aC 28) l11 c11 k11;have m11:=mg_of X G a11;have F12:=cZ (st:=aC 30) l12 c12 k12;have m12:=mg_of X G a12;have F13:=cZ (st:=aC 15) l13 c13 k13;have m13:=mg_of X G a13;have F14:=cZ (st:=aC 22) l14 c14 k14;have m14:=mg_of X G a14;have F15:=cZ (st:=aC 29) l15 c15 k15;have m15:=mg_of X G a15;have F16:=cZ (st:=aC 21) l16 c16 k16;have m16:=mg_of X G a16;have F17:=cZ (st:=aC 20) l17 c17 k17;have m17:=mg_of X G a17;have F18:=cZ (st:=aC 18) l18 c18 k18;have m18:=mg_of X G a18;have F19:=cZ (st:=aC 11) l19 c19 k19;have m19:=mg_of X G a19;have F20:=cZ (st:=aC 14) l20 c20 k20;have m20:=mg_of X G a20;have F21:=cZ (st:=aC 12) l21 c21 k21;have m21:=mg_of X G a21;have F22:=cZ (st:=aC 13) l22 c22 k22;have m22:=mg_of X G a22;have F23:=cZ (st:=aC 33) l23 c23 k23;have m23:=mg_of X G a23;have B:Bt mg:=⟨mg_none_of X G z_len,mg_none_of X G z_range,mg_none_of X G z_tuple,mg_none_of X G z_list,mg_none_of X G z_sorted,mg_none_of X G z_all,mg_none_of X G z_any,mg_none_of X G z_zip,mg_none_of X G z_min,mg_none_of X G z_max,mg_none_of X G z_sum,mg_none_of X G z_isinstance,mg_none_of X G z_int,mg_none_of X G z_bool,mg_none_of X G z_enumerate⟩;have rv:=mg_none_of X G z_reversed;have fv_with_slice:u8 K mg "with_slice":=⟨_,m13,a13⟩;have m_MOST_COUNTED:=mg_of X G z_MOST_COUNTEDx;have m_MOST_HEARTHS:=mg_of X G z_MOST_HEARTHSx;have m_MOST_WANTED_ON_STRIPS:=mg_of X G z_MOST_WANTED_ON_STRIPSx
 have m_MOST_WIDE:=mg_of X G z_MOST_WIDEx;refine⟨fnOf "law" "law" (bE (aC 33)) (bA (aC 33)) (aJ (aC 33)) .none kV23 dc23 pm23 an23 cd23 ct23,λs v=>.of_eq rfl,λbase KB _ bms=>?_⟩;have XK_HearthError:yO K C_HearthError:=⟨y1_HE,y2_HE,y3_HE,y4_HE,y5_HE,y_fg,y_ft,y6_HE,y7_HE⟩;have XK_BadBoard:yO K C_BadBoard:=⟨y1_BB,y2_BB,y3_BB,y4_BB,y5_BB,y_fg,y_ft,y6_BB,y7_BB⟩;have XK_TooMany:yO K C_TooMany:=⟨y1_TM,y2_TM,y3_TM,y4_TM,y5_TM,y_fg,y_ft,y6_TM,y7_TM⟩;have x_BadBoard:Xc K mg base "BadBoard":=⟨C_BadBoard,_,_,_,_,aa5 KB (mg_of X G aX_BB) q_BB,PySem.F.excBase_ValueError,aX_BB⟩;have x_TooMany:Xc K mg base "TooMany":=⟨C_TooMany,_,_,_,_,aa5 KB (mg_of X G aX_TM) q_TM,PySem.F.excBase_ValueError,aX_TM⟩;have D0:=bl4 (P:=l.prog) (w:=w) (base:=base) B F0 m0  x_BadBoard m_MOST_WIDE m_MOST_WANTED_ON_STRIPS;have D1:=bl6 (P:=l.prog) (w:=w) (base:=base) B F1 m1  x_TooMany;have D2:=bl8 (P:=l.prog) (w:=w) (base:=base) B F2 m2;have D3:=bm0 (P:=l.prog) (w:=w) (base:=base) B F3 m3;have D4:=bm2 (P:=l.prog) (w:=w) (base:=base) B F4 m4;have D5:=aS6 (bl2 (P:=l.prog) (w:=w) (mg:=mg) (base:=base) F5) (F5.binds (ps:=["web"]) λ_ _ _ _ _ _ us hl=>by obtain⟨_,rfl⟩:=us1 hl;rfl) F5.kp m5;have D6:=bm4 (P:=l.prog) (w:=w) (base:=base) B F6 m6;have D7:=bm5 (P:=l.prog) (w:=w) (base:=base) B F7 m7;have D8:=bm7 (P:=l.prog) (w:=w) (base:=base) B F8 m8 D2;have D9AC:=bm8 (P:=l.prog) (w:=w) (base:=base) F9 m9 (ao3);have D9BC:=bm9 (P:=l.prog) (w:=w) (base:=base) F9 m9 (ao3);have D9AF:=bn0 (P:=l.prog) (w:=w) (base:=base) F9 m9 (ao4 B);have D9BF:=bn1 (P:=l.prog) (w:=w) (base:=base) F9 m9 (ao4 B);have D10:=bn2 (P:=l.prog) (w:=w) (base:=base) B F10 m10 D2;have D11:=bn3 (P:=l.prog) (w:=w) (base:=base) B F11 m11 D5;have D12:=bn4 (P:=l.prog) (w:=w) (base:=base) B F12 m12 D4;have D13:=bn6 (P:=l.prog) (w:=w) (base:=base) B F13 m13 D8;have D14:=bn7 (P:=l.prog) (w:=w) (base:=base) B F14 m14 D10;have D15:=bn9 (P:=l.prog) (w:=w) (base:=base) B F15 m15 D11;have D16:=bo1 (P:=l.prog) (w:=w) (base:=base) B F16 m16 D14;have D17:=bo2 (P:=l.prog) (w:=w) (base:=base) B F17 m17 D16
 have D18C:=bo3 (P:=l.prog) (w:=w) (base:=base) B F18 m18 D17 D9AC D9BC bl1;have D18F:=bo4 (P:=l.prog) (w:=w) (base:=base) B F18 m18 D17 D9AF D9BF fv_with_slice D13;have D19:=bo6 (P:=l.prog) (w:=w) (base:=base) (T:=[(pq20,"fewest.<locals>.<lambda>"),(pq19,"strip_count.<locals>.<lambda>")]) l19 c19 k19 m19 tb19 (bms _ (bq8 _ bq3)) (aj9 ng19) (bq8 _ bq3) D0 D1 D18C m_MOST_COUNTED;have D20:=bo8 (P:=l.prog) (w:=w) (base:=base) (T:=[(pq20,"fewest.<locals>.<lambda>"),(pq19,"strip_count.<locals>.<lambda>")]) l20 c20 k20 m20 tb20 (bms _ bq3) (aj9 ng20) bq3 D18F fv_with_slice;have D21:=bp0 (P:=l.prog) (w:=w) (base:=base) B F21 m21 D0 D1 D20 m_MOST_COUNTED;have D22:=bp1 (P:=l.prog) (w:=w) (base:=base) B F22 m22 D0 D1 D20 D2 m_MOST_HEARTHS;exact bh5 (bp2 (T:=[(pq20,"fewest.<locals>.<lambda>"),(pq19,"strip_count.<locals>.<lambda>")]) B F23 D6 D3 D7 D22 D12 D15 D21 D4 D19 rv)
theorem bp4 {l:OpenLaw}{q:az}{loose:List Str}{XP:(Str->Option aw)->Heap->Prop}{d:DefRec}{K:Params->Frag}{as:List ay}{e:∀P,as=(K P).map (·.1)}{P1 P2:ay}(hn:l.most=some 63)(hdf:d.params.defaults = [])(hN:∀p,(K p).lookup P1=none/\(K p).lookup P2=none){f1 c1:ay}(hA1:∀p,nsIn (K p) mainGlobals "fewest" = some (some (.ref f1)))(hL1:∀p,∃oc od kV doc pm an ct osl,(K p).lookup f1=some ⟨oc,od,.func (fnOf "fewest" "fewest" (bE (aC 14)) (bA (aC 14)) (aJ (aC 14)) .none kV doc pm an (.ref c1) ct),osl⟩)(hC1:∀p,codeHdIn (K p) c1 P1=true){f2 c2:ay}(hA2:∀p,nsIn (K p) mainGlobals "strip_count" = some (some (.ref f2)))(hL2:∀p,∃oc od kV doc pm an ct osl,(K p).lookup f2=some ⟨oc,od,.func (fnOf "strip_count" "strip_count" (bE (aC 11)) (bA (aC 11)) (aJ (aC 11)) .none kV doc pm an (.ref c2) ct),osl⟩)(hC2:∀p,codeHdIn (K p) c2 P2=true)(h12:P1≠P2)(F:∀(w:bc) (mg:Str->Option aw) (fa:ay) (h:Heap),(K w.params).In h->h.Ns mainGlobals mg->mg d.name=some (.ref fa)->
   ∃fd:FuncData,(∀(s:ax) (u:aw),BindsTo s fd ⟨[u],[]⟩ [("script",u)])/\∀base:Heap,(K w.params).In base->base.Ns mainGlobals mg->(∀z∈([(P1,"fewest.<locals>.<lambda>"),(P2,"strip_count.<locals>.<lambda>")]:List (ay×Str)),iP base mg z.1)->d7 l.prog w (K w.params) mg base cG 9 fa fd ["script"] (uU (K w.params) [(P1,"fewest.<locals>.<lambda>"),(P2,"strip_count.<locals>.<lambda>")])) :
  WalkO q loose XP (kmHook K as e [P1,P2]).says l.row.toRowW d [] (λf vs=>PySem.call f vs):=
 L2.be3 (n:=63) (k:=9) (x:="script") (CX:=λ_=>cG) (T:=[(P1,"fewest.<locals>.<lambda>"),(P2,"strip_count.<locals>.<lambda>")]) (sp:=λw=>uU (K w.params) [(P1,"fewest.<locals>.<lambda>"),(P2,"strip_count.<locals>.<lambda>")]) hn (by decide) hdf ⟨rfl,by decide,by decide⟩ (λw h Y=>km_in_of Y) (λw h Y=>⟨λz hz=>by
  simp only[br0,bu2,bD6]at hz;rcases hz with rfl|rfl
  ·exact⟨km_tabs_of Y _ bq3,(hN w.params).1,ah9 (km_in_of Y) (hC1 w.params)⟩
  ·exact⟨km_tabs_of Y _ (bq8 _ bq3),(hN w.params).2,ah9 (km_in_of Y) (hC2 w.params)⟩,by simp only[bt3,List.map_nil,bx1,br0,bu2,bD6,not_false_eq_true,bF0,and_true];exact h12⟩) F (λ_ _ a ns hl hO hT hS=>⟨hT,a,ns,rfl,be2 hO hS,hl,λ_=>rfl⟩) λ_ _ _ _ _ z=>z
end K_k85
open PySem PySem.W PyProof.Rows
theorem PySem.W.Fast.te13052408679150730464 : True := trivial
theorem PySem.W.Fast.te16555476440528808052 : True := trivial
theorem PySem.W.Fast.te5369427470323729400 : True := trivial
set_option maxRecDepth 100000 in
set_option maxHeartbeats 0 in
theorem PySem.Challenge.cw_kindleweb_k85_whole_seeds_told_light_holds : PySem.Challenge.rw_kindleweb_k85_whole_seeds_told_light.Holds := by
 w_on;o_law;k_head;(case hw => w_witness2)
 k_fill
 refine' K_k85.bp4 (l := PySem.Challenge.rw_kindleweb_k85_whole_seeds_told_light) rfl rfl ?hN ?hA1 ?hL1 ?hC1 ?hA2 ?hL2 ?hC2 ?h12 ?F
 (case hA1 => intro p;k_is)
 (case hL1 => intro p;apply PP.aj8;k_is)
 (case hC1 => intro p;kernel_rfl)
 (case hA2 => intro p;k_is)
 (case hL2 => intro p;apply PP.aj8;k_is)
 (case hC2 => intro p;kernel_rfl)
 (case hN => intro p;exact⟨by kernel_rfl, by kernel_rfl⟩)
 (case h12 => decide)
 case F =>
  intro w mg fa h KX G hmg
  refine' K_k85.bp3 KX G hmg ?a0 ?l0 ?c0 ?k0 ?a1 ?l1 ?c1 ?k1 ?a2 ?l2 ?c2 ?k2 ?a3 ?l3 ?c3 ?k3 ?a4 ?l4 ?c4 ?k4 ?a5 ?l5 ?c5 ?k5 ?a6 ?l6 ?c6 ?k6 ?a7 ?l7 ?c7 ?k7 ?a8 ?l8 ?c8 ?k8 ?a9 ?l9 ?c9 ?k9 ?a10 ?l10 ?c10 ?k10 ?a11 ?l11 ?c11 ?k11 ?a12 ?l12 ?c12 ?k12 ?a13 ?l13 ?c13 ?k13 ?a14 ?l14 ?c14 ?k14 ?a15 ?l15 ?c15 ?k15 ?a16 ?l16 ?c16 ?k16 ?a17 ?l17 ?c17 ?k17 ?a18 ?l18 ?c18 ?k18 ?a19 ?l19 ?c19 ?k19 ?tb19 ?ng19 ?a20 ?l20 ?c20 ?k20 ?tb20 ?ng20 ?a21 ?l21 ?c21 ?k21 ?a22 ?l22 ?c22 ?k22 ?a23 ?l23 ?c23 ?k23 ?z_len ?z_range ?z_tuple ?z_list ?z_sorted ?z_all ?z_any ?z_zip ?z_min ?z_max ?z_sum ?z_isinstance ?z_int ?z_bool ?z_enumerate ?z_reversed ?z_MOST_COUNTEDx ?z_MOST_HEARTHSx ?z_MOST_WANTED_ON_STRIPSx ?z_MOST_WIDEx ?aX_HE ?aX_BB ?aX_TM ?zX_BW ?zX_BS ?zX_BO ?zX_BP ?zX_BD ?zX_NW ?zX_NP ?zX_NS ?zX_NT ?zX_OR ?y_fg ?y_ft ?z_VE ?y1_HE ?y2_HE ?y3_HE ?y4_HE ?y5_HE ?y6_HE ?y7_HE ?y1_BB ?y2_BB ?y3_BB ?y4_BB ?y5_BB ?y6_BB ?y7_BB ?y1_TM ?y2_TM ?y3_TM ?y4_TM ?y5_TM ?y6_TM ?y7_TM ?q_BB ?q_TM
  (case a0|l0|c0|k0|a1|l1|c1|k1|a2|l2|c2|k2|a3|l3|c3|k3|a4|l4|c4|k4|a5|l5|c5|k5|a6|l6|c6|k6|a7|l7|c7|k7|a8|l8|c8|k8|a9|l9|c9|k9|a10|l10|c10|k10|a11|l11|c11|k11|a12|l12|c12|k12|a13|l13|c13|k13|a14|l14|c14|k14|a15|l15|c15|k15|a16|l16|c16|k16|a17|l17|c17|k17|a18|l18|c18|k18|a19|l19|c19|k19 => k_is)
  (case tb19 => kernel_rfl)
  (case ng19 => decide)
  (case a20|l20|c20|k20 => k_is)
  (case tb20 => kernel_rfl)
  (case ng20 => decide)
  (case a21|l21|c21|k21|a22|l22|c22|k22|a23|l23|c23|k23|z_len|z_range|z_tuple|z_list|z_sorted|z_all|z_any|z_zip|z_min|z_max|z_sum|z_isinstance|z_int|z_bool|z_enumerate|z_reversed|z_MOST_COUNTEDx|z_MOST_HEARTHSx|z_MOST_WANTED_ON_STRIPSx|z_MOST_WIDEx|aX_HE|aX_BB|aX_TM|zX_BW|zX_BS|zX_BO|zX_BP|zX_BD|zX_NW|zX_NP|zX_NS|zX_NT|zX_OR|y_fg|y_ft|z_VE|y1_HE|y2_HE|y3_HE|y4_HE|y5_HE|y6_HE|y7_HE|y1_BB|y2_BB|y3_BB|y4_BB|y5_BB|y6_BB|y7_BB|y1_TM|y2_TM|y3_TM|y4_TM|y5_TM|y6_TM|y7_TM => k_is)
  (case q_BB|q_TM => k_exc)


