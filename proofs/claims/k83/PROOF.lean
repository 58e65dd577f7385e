import PyProof.Rows.All
import Wide.All
import OpenK.AllK
import Wide.FinOn
import Lean
import PyProof.EqAt
import PyProof.EqKinds
import PyProof.TupleCall
import PyProof.NeKinds
import PyProof.Draws
import PyProof.ZipIter
import PyProof.DictUpdate
import PyProof.AutoSeq1
import PyProof.ListRange
import PyProof.ListMulRoad
import PyProof.FactsAll.tuple_2
import PyProof.Rows.SortShell
import PyProof.EnumFor
import PyProof.EnumMake
import PyProof.EnumStmt
import PyProof.Rows.SortWalk
import KE.KDictList
import PyProof.SumAny
import PyProof.ConsumeWalk
import PyProof.WalksMore
import PyProof.Rows.TupAssign
import PyProof.ExcArgsOwn
import Wide.Seal
import PyProof.TupleKey
import KE.KLam
import PySem.Challenge.RW_kindleweb_k83_long_strips
set_option Elab.async false
set_option linter.all false
set_option maxRecDepth 100000
set_option maxHeartbeats 4000000
section
open PySem PySem.Spec PyProof.Rows
noncomputable def bd2:=@wpAny_bind
noncomputable def bd3:=@Heap.get?_push_of_some
noncomputable def bd4:=@List.mem_cons_self
noncomputable def bd5:=@List.mem_cons_of_mem
noncomputable def bd6:=@wpAny_pure
noncomputable def bd7:=@List.mem_singleton
noncomputable def bd8:=@List.mem_cons
noncomputable def bd9:=@List.size_toArray
noncomputable def be0:=@List.length_map
noncomputable def be2:=@Nat.le_refl
noncomputable def be3:=@List.length_append
noncomputable def be4:=@decide_eq_false
noncomputable def be6:=@Nat.lt_of_lt_of_le
noncomputable def be7:=@Heap.lt_size
noncomputable def be9:=@Bool.false_ne_true
noncomputable def bf0:=@List.map_cons
noncomputable def bf1:=@Heap.get?_push_size
noncomputable def bf2:=@List.not_mem_nil
noncomputable def bf3:=@List.getElem?_eq_getElem
noncomputable def bf4:=@List.getElem?_map
noncomputable def bf5:=@List.getD_eq_getElem?_getD
noncomputable def bf6:=@Option.some.inj
noncomputable def bf7:=@List.getElem?_eq_some_iff
noncomputable def bf8:=@List.mem_append_right
noncomputable def bg0:=@decide_eq_true
noncomputable def bg2:=@List.length_cons
noncomputable def bg3:=@Bool.false_eq_true
noncomputable def bg4:=@List.map_append
noncomputable def bg5:=@List.sum_cons
noncomputable def bg6:=@Bool.and_eq_true
noncomputable def bg7:=@Nat.ne_of_lt
noncomputable def bh2:=@Nat.le_trans
noncomputable def bh3:=@decide_eq_true_eq
noncomputable def bh4:=@PySem.mem_of_lookup
noncomputable def bh5:=@List.getElem?_set_ne
noncomputable def bh7:=@List.nodup_cons
noncomputable def bh8:=@List.find?_cons
noncomputable def bh9:=@List.foldl_append
noncomputable def bi1:=@List.lookup_cons
noncomputable def bi2:=@List.map_congr_left
noncomputable def bi3:=@List.mem_map
noncomputable def bi4:=@List.mem_append
noncomputable def bi5:=@or_false
noncomputable def bi6:=@List.map_map
noncomputable def bi7:=@Nat.lt_irrefl
noncomputable def bi8:=@List.mem_append_left
noncomputable def bi9:=@List.mem_of_getElem?
noncomputable def bj2:=@wpAny_field
noncomputable def bj3:=@wpAny_callSpecial?_slot
noncomputable def bj4:=@List.replicate_succ
noncomputable def bj6:=@wpAny_mono
noncomputable def bj8:=@beq_self_eq_true
noncomputable def bj9:=@List.take_length
noncomputable def bk1:=@wpAny_newObj_type
noncomputable def bk2:=@Int.toNat_natCast
noncomputable def bk3:=@List.take_add_one
noncomputable def bk4:=@wpAny_setField_rec
noncomputable def bk6:=@List.length_replicate
noncomputable def bk8:=@Nat.two_pow_pos
noncomputable def bk9:=@List.nodup_nil
noncomputable def bl0:=@wpAny_seqItems
noncomputable def bl1:=@List.mem_range
noncomputable def bl2:=@PySem.W.kia_one
noncomputable def bl4:=@Heap.size_push
noncomputable def bl5:=@wpAny_call_entry
noncomputable def bl6:=@Nat.ne_of_gt
noncomputable def bl8:=@Nat.zero_add
noncomputable def bl9:=@if_false
noncomputable def bm1:=@List.append_nil
noncomputable def bm2:=@List.getElem?_set_self
noncomputable def bm3:=@Nat.le_add_right
noncomputable def bm4:=@PySem.F.plain_min_loop
noncomputable def bm6:=@List.mem_of_find?_eq_some
noncomputable def bm7:=@List.eq_nil_of_length_eq_zero
noncomputable def bn0:=@List.mem_filter
noncomputable def bn1:=@List.length_set
noncomputable def bn2:=@wpAny_pyIter_tuple
noncomputable def bn3:=@List.filter_append
noncomputable def bn4:=@List.getElem?_cons_succ
noncomputable def bn5:=@wpAny_truthy_bool
noncomputable def bn6:=@List.flatten_cons
noncomputable def bn9:=@PyProof.Rows.slot_tuple_getitem
noncomputable def bo0:=@List.getElem?_append_left
noncomputable def bo1:=@Nat.le_of_ble_eq_true
noncomputable def bo2:=@List.zip_cons_cons
noncomputable def bo3:=@wpAny_Call_Name_kw
noncomputable def bo4:=@Array.eq_empty_of_size_eq_zero
noncomputable def bo8:=@beq_eq_false_iff_ne
noncomputable def bo9:=@List.mem_map_of_mem
noncomputable def bp0:=@Nat.le_of_lt
noncomputable def bp1:=@PyProof.Rows.callWith_type1
noncomputable def bp2:=@Nat.zero_le
noncomputable def bp3:=@wpAny_isInstance
noncomputable def bp4:=@List.all_eq_true
noncomputable def bp5:=@List.any_eq_true
noncomputable def bp9:=@wpAny_passesOwn
noncomputable def bq0:=@Bool.eq_iff_iff
noncomputable def bq1:=@List.foldl_cons
noncomputable def bq2:=@List.sum_append
noncomputable def bq3:=@Nat.not_lt_zero
noncomputable def bq5:=@Bool.eq_false_iff
noncomputable def bq8:=@wpAny_holding
noncomputable def br2:=@True.intro
end
noncomputable abbrev ax:=PySem.Value
noncomputable abbrev ay:=PySem.Shared
noncomputable abbrev az:=PySem.Addr
noncomputable abbrev ba:=PySem.Program
noncomputable abbrev bc:=PySem.Around
noncomputable abbrev bf:=PySem.World
noncomputable abbrev aa:=List (Int×Int)
noncomputable abbrev ad:=PySem.W.Frag
noncomputable abbrev ae:=List (List Int)
noncomputable abbrev ag:=List Int
namespace L2
open PySem PySem.Spec PyProof.Rows
noncomputable def kD (k:Int):ax->Bool
 |.int i _=>i==k
 |.bool b=>(if b then 1 else 0)==k
 |_=>false
theorem nZ {k:Int}{v:ax}(h:kD k v=true):(∃t,v = .int k t)∨∃b:Bool,v = .bool b/\k=if b then 1 else 0:=by
 cases v with
 |int i t=>exact .inl ⟨t,by rw[show i=k from eq_of_beq h]⟩
 |bool b=>exact .inr ⟨b,rfl,(eq_of_beq h).symm⟩
 |_=>cases h
theorem af2 (b:Bool):reduceHash (if b then 1 else 0)=hashInt (if b then 1 else 0):=by cases b<;>decide +kernel
theorem af3 {prog:ba}{w:bf}{A:bc}{E:ax->ay->Prop}{s:ay}{b:Bool}{Q:Int->ay->Prop}(h:Q (hashInt (if b then 1 else 0)) { s with toks:=s.toks+1 }) :
  wpAny (model prog w) A (PySem.pyHash (.bool b)) Q E s:=by
 refine PySem.W.pyHash_slot (T:="bool") rfl F.slot_bool_hash entry_int_hash (args_int_hash _) (beq_builtin_none _) (.inl rfl) ?_;rw[<- af2]at h;cases b
 ·exact (show wpAny _ _ (do ret (<- mkInt 0)) _ _ s from bd2 (wpAny_mkInt (bd6 ⟨_,_,rfl,h⟩)))
 ·exact (show wpAny _ _ (do ret (<- mkInt 1)) _ _ s from bd2 (wpAny_mkInt (bd6 ⟨_,_,rfl,h⟩)))
noncomputable def iH (prog:ba)(w:bf):KeyKind prog w Int where
 is:=kD
 hash:=hashInt
 inj:=λv a b h1 h2=>by
  rcases nZ h1 with⟨t,rfl⟩|⟨x,rfl,e⟩
  ·exact eq_of_beq h2
  ·rw[e];exact eq_of_beq h2
 byValue:=λk v h=>by
  rcases nZ h with⟨t,rfl⟩|⟨x,rfl,e⟩<;>rfl
 pyHash:=λhv h=>by
  rcases nZ hv with⟨t,rfl⟩|⟨x,rfl,e⟩
  ·exact wpAny_pyHash_int h
  ·exact af3 (by rw[<- e];exact h)
 eqBool:=λ{A E s a b u v Q} hu hv h=>by
  rcases nZ hu with⟨t,rfl⟩|⟨x,rfl,e⟩<;>rcases nZ hv with⟨t',rfl⟩|⟨y,rfl,e'⟩
  ·exact SeqAt.EqAt.int_int a t b t' prog w E Q h
  ·exact SeqAt.EqAt.int_bool a t y prog w E Q (by rw[<- e'];exact h)
  ·exact SeqAt.EqAt.bool_int x b t' prog w E Q (by rw[<- e];exact h)
  ·refine SeqAt.EqAt.bool_bool x y prog w E Q ?_
   have:(x==y)=decide (a=b):=by rw[e,e'];cases x<;>cases y<;>rfl
   rw[this];exact h
 «strs»:=λk x t v h=>by cases h
theorem tG {α β:Type}{F G:α->β->Prop}:∀{l₁:List α}{l₂:List β},Paired F l₁ l₂->(∀a b,F a b->G a b)->Paired G l₁ l₂
 |_,_,.nil,_=>.nil
 |_,_,.cons r t,f=>.cons (f _ _ r) (tG t f)
section
variable {prog:ba}{w:bf}{K:Type}[DecidableEq K]{knd:KeyKind prog w K}
noncomputable def eW (knd:KeyKind prog w K)(h:Heap)(ks:List (List K))(a:az):Prop:=∃o items n,h.get? a=some o/\o.cls = .type "tuple"/\o.data = .seq items n/\Paired (λk v=>∃b,v=Value.ref b/\IsTupleKey knd h k b) ks items.toList
noncomputable def yL (knd:KeyKind prog w K)(ks:List (List K)):Int:=reduceHash (Builtin.Tuple.tupleHashOf (ks.map (tupleKeyHash knd)))
noncomputable def yM (ks:List (List K)):Nat:=(ks.map λk=>k.length+1).sum+1
theorem eW.typeIs {s:ay}{ks:List (List K)}{a:az}(x:eW knd s.heap ks a):s.TypeIs (.ref a) "tuple":=let ⟨o,_,_,ho,hc,_⟩:=x;⟨o,ho,hc⟩
theorem yN {h:Heap}:∀{x y:List (List K)}{vs:List ax},Paired (λk v=>∃b,v=Value.ref b/\IsTupleKey knd h k b) x vs->Paired (λk v=>∃b,v=Value.ref b/\IsTupleKey knd h k b) y vs->x=y
 |_,_,_,.nil,.nil=>rfl
 |_,_,_,.cons ⟨b,e,r⟩ t,.cons ⟨b',e',r'⟩ t'=>by
  rw[e]at e';cases e';rw[r.inj r',yN t t']
theorem eW.inj {h:Heap}{a:az}{x y:List (List K)}(hx:eW knd h x a)(hy:eW knd h y a):x=y:=by
 obtain⟨o,items,n,ho,_,hd,hi⟩:=hx
 obtain⟨o',items',n',ho',_,hd',hi'⟩:=hy
 obtain rfl:o=o':=bf6 (ho.symm.trans ho');rw[hd]at hd';injection hd' with h1 _
 subst h1;exact yN hi hi'
theorem eW.keeps {h h':Heap}{ks:List (List K)}{a d:az}{o:Obj}{es ep}(x:eW knd h ks a)(ho:h.get? d=some o)(hd:o.data = .dict es ep)(hs:Heap.SameBut d h h'):eW knd h' ks a:=by
 obtain⟨o',items,n,ho',hc,hd',hi⟩:=x
 have hne:a≠d:=by
  rintro rfl;obtain rfl:o'=o:=bf6 (ho'.symm.trans ho);rw[hd]at hd';exact nomatch hd'
 exact⟨o',items,n,(hs.2 a hne).trans ho',hc,hd',tG hi λk v ⟨b,e,r⟩=>⟨b,e,r.keeps ho hd hs⟩⟩
variable {A:bc}{E:ax→ay→Prop}{s:ay}
theorem yO:∀{ks:List (List K)}{vs:List ax}{A:bc}{s:ay}{b:Array Int}{Q:Array Int->ay->Prop},A.units<cLine->Paired (λk v=>∃b,v=Value.ref b/\IsTupleKey knd s.heap k b) ks vs->
  (∀b':Array Int,b'.toList=b.toList++ks.map (tupleKeyHash knd)->Q b' { s with toks:=s.toks+(ks.map λk=>k.length+1).sum })->
  wpAny (model prog w) A (forIn vs b λx r=>do let h <- pyHash x;pure PUnit.unit;pure (ForInStep.yield (r.push h))) Q E s
 |[],_,A,s,b,Q,_,.nil,h=>bd6 (h b (by simp))
 |k::ks,_,A,s,b,Q,hu,.cons ⟨p,e,r⟩ t,h=>by
  subst e;rw[List.forIn_cons];refine bd2 (bd2 (wpAny_pyHash_tuple hu r ?_));refine bd2 (bd6 (bd6 ?_));exact yO (s:={ s with toks:=s.toks+(k.length+1) }) hu t λb' hb=>by
   have:=h b' (by rw[hb];simp)
   simpa[Nat.add_assoc] using this
theorem af4 {ks:List (List K)}{a:az}{Q:Int->ay->Prop}(hu:A.units+1<cLine)(hk:eW knd s.heap ks a)(h:Q (yL knd ks) { s with toks:=s.toks+yM ks }) :
  wpAny (model prog w) A (pyHash (.ref a)) Q E s:=by
 have hT:=hk.typeIs
 obtain⟨o,items,n,ho,_,hd,hi⟩:=hk
 refine PySem.W.pyHash_slot (T:="tuple") hT F.slot_tuple_hash F.entry_tuple_hash (F.args_tuple_hash_1 _) (beq_builtin_none _) (.inr (by omega)) ?_;show wpAny _ _ (Builtin.Tuple.tupleItemsOf (.ref a) >>= _) _ _ s;refine bd2 (wpAny_tupleItemsOf ho hd ?_);refine bd2 ?_;rw[<- Array.forIn_toList];refine yO (by show A.units+1<cLine;exact hu) hi λb hb=>?_
 show wpAny _ _ (retInt (Builtin.Tuple.tupleHashOf b.toList)) _ _ _;rw[hb];exact bd2 (wpAny_mkInt (bd6 ⟨_,_,rfl,h⟩))
theorem af5 {x y:List (List K)}{a b:az}{P:Fin->ay->Prop}(hu:A.units<cLine)(hx:eW knd s.heap x a)(hy:eW knd s.heap y b)(h:P (.done (.ret (.bool (decide (x=y))))) s) :
  wpAny (model prog w) A (Builtin.«tuple.__eq__» ⟨[.ref a,.ref b],[]⟩) P E s:=by
 have hTb:=hy.typeIs
 obtain⟨oa,xs,na,hoa,_,hda,hia⟩:=hx
 obtain⟨ob,ys,nb,hob,_,hdb,hib⟩:=hy
 show wpAny _ _ (isInstance (.ref b) (.type "tuple") >>= _) _ _ s;refine bd2 (bp3 hTb isSubtype_tuple_tuple ?_);simp only[Bool.not_true,bg3,bl9];refine bd2 (wpAny_tupleItemsOf hoa hda ?_);refine bd2 (wpAny_tupleItemsOf hob hdb ?_);refine bd2 ?_;refine wpAny_forIn_list _
  (λrest r s'=>r.1=none/\s'=s/\∃x' y' xs' ys',rest=List.zip xs' ys'/\Paired (λk v=>∃b,v=Value.ref b/\IsTupleKey knd s.heap k b) x' xs'/\Paired (λk v=>∃b,v=Value.ref b/\IsTupleKey knd s.heap k b) y' ys'/\decide (x'=y')=decide (x=y)/\(xs'.length==ys'.length)=(xs.size==ys.size))
  _ ?_ ?_ _ _ ⟨rfl,rfl,x,y,xs.toList,ys.toList,rfl,hia,hib,rfl,by simp⟩
 ·rintro⟨u,v⟩ rest r s' ⟨hr,rfl,x',y',xs',ys',hz,hx',hy',hdec,ao⟩
  cases hx' with
  |nil=>simp at hz
  |@cons k1 u' x'' xs'' h1 hx''=>
   cases hy' with
   |nil=>simp at hz
   |@cons k2 v' y'' ys'' h2 hy''=>
    simp only[bo2,List.cons.injEq,Prod.mk.injEq]at hz
    obtain⟨⟨rfl,rfl⟩,rfl⟩:=hz
    obtain⟨b1,rfl,q1⟩:=h1
    obtain⟨b2,rfl,q2⟩:=h2
    refine bd2 (wpAny_eqBool_tuple (x:=k1) (y:=k2) hu q1 q2 ?_);by_cases hk:k1=k2
    ·subst hk
     rw[bg0 rfl];simp only[Bool.not_true,bg3,bl9];refine bd6 ⟨rfl,rfl,x'',y'',xs'',ys'',rfl,hx'',hy'',?_,by simpa using ao⟩;rw[<- hdec];by_cases hxy:x''=y''
     ·simp[hxy]
     ·simp[hxy]
    ·rw[be4 hk]
     simp only[Bool.not_false,if_true];have hf:decide (x=y)=false:=by rw[<- hdec];simp[hk]
     rw[hf]at h;exact bd2 (bd6 (bd6 (bd6 h)))
 ·rintro⟨r1,r2⟩ s' ⟨hr,rfl,x',y',xs',ys',hz,hx',hy',hdec,ao⟩
  simp only at hr;subst hr;refine bd6 ?_;have hfin:(xs.size==ys.size)=decide (x=y):=by
   rw[<- hdec,<- ao];cases hx' with
   |nil=>
    cases hy' with
    |nil=>simp
    |cons _ _=>simp
   |cons _ _=>
    cases hy' with
    |nil=>simp
    |cons _ _=>simp at hz
  show P (.done (.ret (.bool (xs.size==ys.size)))) s';rw[hfin];exact h
theorem af6 {x y:List (List K)}{a b:az}{Q:Bool->ay->Prop}(hu:A.units+8<cLine)(hx:eW knd s.heap x a)(hy:eW knd s.heap y b)(h:Q (decide (x=y)) s) :
  wpAny (model prog w) A (eqBool (.ref a) (.ref b)) Q E s:=by
 unfold eqBool
 try with_reducible refine bq8 ?_
 show wpAny _ _ (if (Value.ref a==Value.ref b)=true then _ else _) Q E s;by_cases hab:(Value.ref a==Value.ref b)=true
 ·rw[if_pos hab]
  have e:a=b:=by have:=eq_of_beq hab;injection this
  subst e;obtain rfl:=hx.inj hy;exact bd2 (wpAny_rule (bd6 (by simpa using h)))
 ·rw[if_neg hab]
  exact bd2 (wpAny_richCompare_same_room (op:=.Eq) hx.typeIs hy.typeIs F.slot_tuple_eq
   (bl5 F.slot_tuple_eq hx.typeIs F.entry_tuple_eq (af5 (by show A.units+1+0<cLine;omega) hx hy ⟨_,rfl,(λe=>nomatch e),bn5 h⟩) (F.args_tuple_eq_2 _ _)) (by omega))
theorem af7 {ks:List K}{a:az}{n:Nat}{Q:Bool->ay->Prop}(hk:IsTupleKey knd s.heap ks a)(h:Q true s):wpAny (model prog w) A (eqIsQuiet (n+1) (.ref a)) Q E s:=by
 have hT:=hk.typeIs
 obtain⟨o,items,m,ho,_,hd,hi⟩:=hk
 unfold eqIsQuiet;refine bd2 (wpAny_specialOf hT F.slot_tuple_eq.lookup ?_);show wpAny _ _ (isInstance (.ref a) (.type "tuple") >>= _) _ _ s;refine bd2 (bp3 hT isSubtype_tuple_tuple ?_);simp only[Bool.not_true,bg3,bl9];refine bd2 (bl0 ho hd ?_);refine bd2 ?_;show wpAny _ _ (forIn items _ _) _ _ s;rw[<- Array.forIn_toList];refine wpAny_forIn_list _ (λrest r s'=>r.1=none/\s'=s/\∀v∈rest,carriedByValue v=true) _ ?_ ?_ _ _ ⟨rfl,rfl,hi.byValue⟩
 ·rintro v rest r s' ⟨hr,rfl,hall⟩
  rw[eqIsQuiet_byValue _ (hall v bd4)];refine bd2 (bd6 ?_);simp only[Bool.not_true,bg3,bl9];exact bd6 ⟨rfl,rfl,λu hu'=>hall u (bd5 _ hu')⟩
 ·rintro⟨r1,r2⟩ s' ⟨hr,rfl,_⟩
  simp only at hr;subst hr;exact bd6 h
theorem yP {h:Heap}:∀{x:List (List K)}{vs:List ax},Paired (λk v=>∃b,v=Value.ref b/\IsTupleKey knd h k b) x vs->∀v∈vs,∃k b,v = .ref b/\IsTupleKey knd h k b
 |_,_,.nil,v,hv=>by simp at hv
 |_,_,.cons ⟨b,e,r⟩ t,v,hv=>by
  rcases bd8.mp hv with rfl|hv
  ·exact⟨_,b,e,r⟩
  ·exact yP t v hv
theorem af8 {ks:List (List K)}{a:az}{n:Nat}{Q:Bool->ay->Prop}(hk:eW knd s.heap ks a)(h:Q true s):wpAny (model prog w) A (eqIsQuiet (n+2) (.ref a)) Q E s:=by
 have hT:=hk.typeIs
 obtain⟨o,items,m,ho,_,hd,hi⟩:=hk
 unfold eqIsQuiet;refine bd2 (wpAny_specialOf hT F.slot_tuple_eq.lookup ?_);show wpAny _ _ (isInstance (.ref a) (.type "tuple") >>= _) _ _ s;refine bd2 (bp3 hT isSubtype_tuple_tuple ?_);simp only[Bool.not_true,bg3,bl9];refine bd2 (bl0 ho hd ?_);refine bd2 ?_;show wpAny _ _ (forIn items _ _) _ _ s;rw[<- Array.forIn_toList];refine wpAny_forIn_list _ (λrest r s'=>r.1=none/\s'=s/\∀v∈rest,∃k b,v = .ref b/\IsTupleKey knd s.heap k b) _ ?_ ?_ _ _ ⟨rfl,rfl,yP hi⟩
 ·rintro v rest r s' ⟨hr,rfl,hall⟩
  obtain⟨k,b,rfl,q⟩:=hall v bd4
  refine bd2 (af7 q ?_);simp only[Bool.not_true,bg3,bl9];exact bd6 ⟨rfl,rfl,λu hu'=>hall u (bd5 _ hu')⟩
 ·rintro⟨r1,r2⟩ s' ⟨hr,rfl,_⟩
  simp only at hr;subst hr;exact bd6 h
end
noncomputable def o0 {prog:ba}{w:bf}{K:Type}[DecidableEq K](knd:KeyKind prog w K):HeapKind prog w (List (List K)) where
 is:=eW knd
 hash:=yL knd
 draws:=yM
 room:=λA=>A.units+8<cLine
 inj:=λhx hy=>hx.inj hy
 keeps:=λx ho hd hs=>x.keeps ho hd hs
 pyHash:=λhu hk h=>af4 (Nat.lt_of_le_of_lt (Nat.add_le_add_left (by decide) _) hu) hk h
 eqBool:=λhu hx hy h=>af6 hu hx hy h
 quiet:=λhk h=>af8 hk h
noncomputable def dD (k:List (Int×Bool)):ae:=k.map λp=>[p.1,if p.2 then 1 else 0]
theorem tH:∀{k k':List (Int×Bool)},dD k=dD k'->k=k'
 |[],[],_=>rfl
 |[],_::_,h=>by simp[dD]at h
 |_::_,[],h=>by simp[dD]at h
 |(i,b)::r,(j,c)::r',h=>by
  simp only[dD,bf0,List.cons.injEq]at h
  obtain⟨⟨rfl,h2,_⟩,h3⟩:=h
  have:b=c:=by cases b<;>cases c<;>simp_all
  subst this;rw[tH h3]
noncomputable abbrev bW:=Sum Int Str
noncomputable def yQ:bW->ax->Bool
 |.inl k,v=>Value.isInt k v
 |.inr x,v=>Value.isStrOf x v
noncomputable def af9 (w:bf):bW->Int
 |.inl k=>hashInt k
 |.inr x=>hashStr w x
theorem iT:∀{k:bW}{v:ax},yQ k v=true->(∃i t,k=Sum.inl i/\v=Value.int i t)∨(∃x t,k=Sum.inr x/\v=Value.str x t)
 |.inl i,v,h=>by
  obtain⟨t,e⟩:=Value.isInt_shape (k:=i) (v:=v) h
  exact .inl ⟨i,t,rfl,e⟩
 |.inr x,v,h=>by
  obtain⟨t,e⟩:=Value.isStrOf_shape (x:=x) (v:=v) h
  exact .inr ⟨x,t,rfl,e⟩
theorem ag0 (a b:Int):decide ((Sum.inl a:bW)=Sum.inl b)=(a==b):=by
 by_cases e:a=b
 ·subst e;simp
 ·have h:¬(Sum.inl a:bW)=Sum.inl b:=λq=>e (Sum.inl.inj q)
  rw[be4 h];exact (bo8.mpr e).symm
theorem ag1 (a b:Str):decide ((Sum.inr a:bW)=Sum.inr b)=decide (a=b):=by
 by_cases e:a=b
 ·subst e;simp
 ·have h:¬(Sum.inr a:bW)=Sum.inr b:=λq=>e (Sum.inr.inj q)
  rw[be4 h,be4 e]
theorem ag2 (a:Int)(b:Str):decide ((Sum.inl a:bW)=Sum.inr b)=false:=be4 (λq=>nomatch q)
theorem ag3 (a:Str)(b:Int):decide ((Sum.inr a:bW)=Sum.inl b)=false:=be4 (λq=>nomatch q)
noncomputable def pW (prog:ba)(w:bf):PySem.KeyKind prog w bW where
 is:=yQ
 hash:=af9 w
 inj:=λv a b ha hb=>by
  rcases iT ha with⟨i,t,rfl,rfl⟩|⟨x,t,rfl,rfl⟩
  ·rcases iT hb with⟨j,u,rfl,e⟩|⟨y,u,rfl,e⟩
   ·injection e with e1 _;rw[e1]
   ·exact nomatch e
  ·rcases iT hb with⟨j,u,rfl,e⟩|⟨y,u,rfl,e⟩
   ·exact nomatch e
   ·injection e with e1 _;rw[e1]
 byValue:=λk v h=>by
  rcases iT h with⟨i,t,rfl,rfl⟩|⟨x,t,rfl,rfl⟩<;>rfl
 pyHash:=λhv h=>by
  rcases iT hv with⟨i,t,rfl,rfl⟩|⟨x,t,rfl,rfl⟩
  ·exact wpAny_pyHash_int h
  ·exact wpAny_pyHash_str h
 eqBool:=λhu hv h=>by
  rcases iT hu with⟨i,t,rfl,rfl⟩|⟨x,t,rfl,rfl⟩
  ·rcases iT hv with⟨j,u,rfl,rfl⟩|⟨y,u,rfl,rfl⟩
   ·rw[ag0]at h;exact wpAny_eqBool_int h
   ·rw[ag2]at h;exact SeqAt.EqAt.int_str i t y u _ _ _ _ h
  ·rcases iT hv with⟨j,u,rfl,rfl⟩|⟨y,u,rfl,rfl⟩
   ·rw[ag3]at h;exact SeqAt.EqAt.str_int x t j u _ _ _ _ h
   ·rw[ag1]at h;exact wpAny_eqBool_str h
 «strs»:=λk x t v h=>by
  rcases iT h with⟨i,u,rfl,e⟩|⟨y,u,rfl,e⟩
  ·exact nomatch e
  ·injection e with e1 _
   subst e1;cases v<;>rfl
inductive V where
 |non|bl (b:Bool)|int (i:Int)|str (x:Str)|byt (b:Array UInt8)|flt (b:UInt64)|ref (a:az)|ty (n:String)
 deriving DecidableEq
noncomputable def aU:V->ax->Prop
 |.non,u=>u=Value.none
 |.bl b,u=>u=Value.bool b
 |.int i,u=>∃t,u=Value.int i t
 |.str x,u=>∃t,u=Value.str x t
 |.byt b,u=>∃t,u=Value.bytes b t
 |.flt b,u=>∃t,u=Value.float b t
 |.ref a,u=>u=Value.ref a
 |.ty n,u=>u=Value.type n
noncomputable abbrev aN:List V->List ax->Prop:=Paired aU
theorem aN.length {xs:List V}{us:List ax}(r:aN xs us):xs.length=us.length:=Paired.length r
theorem aN.get:∀{xs:List V}{us:List ax}{i:Nat}{x:V},aN xs us->xs[i]? = some x->∃u,us[i]? = some u/\aU x u
 |_,_,_,_,.nil,e=>by simp at e
 |_,_,0,_,.cons r _,e=>by simp at e;subst e;exact⟨_,rfl,r⟩
 |_,_,i+1,x,.cons _ t,e=>by
  obtain⟨u,h1,h2⟩:=aN.get (i:=i) (x:=x) t (by simpa using e)
  exact⟨u,by simpa using h1,h2⟩
theorem aN.append:∀{xs ys:List V}{us ws:List ax},aN xs us->aN ys ws->aN (xs++ys) (us++ws)
 |_,_,_,_,.nil,s=>s
 |_,_,_,_,.cons r t,s=>.cons r (aN.append t s)
theorem aN.take:∀{xs:List V}{us:List ax} (n:Nat),aN xs us->aN (xs.take n) (us.take n)
 |_,_,0,_=>.nil
 |_,_,_+1,.nil=>.nil
 |_,_,n+1,.cons r t=>.cons r (aN.take n t)
theorem aN.drop:∀{xs:List V}{us:List ax} (n:Nat),aN xs us->aN (xs.drop n) (us.drop n)
 |_,_,0,r=>r
 |_,_,_+1,.nil=>.nil
 |_,_,n+1,.cons _ t=>aN.drop n t
noncomputable def hU:Option V->Option ax->Prop
 |some v,some u=>aU v u
 |none,none=>True
 |_,_=>False
noncomputable def KV {κ:Type}:List (κ×V)->List (κ×ax)->Prop:=Paired λ(p:κ×V) (q:κ×ax)=>p.1=q.1/\aU p.2 q.2
noncomputable def kV:bW->V
 |.inl i=>.int i
 |.inr x=>.str x
inductive HO where
 |lst (xs:List V)
 |tup (xs:List V)
 |dK (kvs:List (bW×V))|dT (kvs:List (List bW×V))
 |set (S:Int->Bool) (n:Nat)
 |ins (C dx:az) (fs:List (Str×V))
 |own (x:az)
 |xd (fs:List (Str×V))
 |met (f x:az)
 |rng (lo hi:Int)
 |frz (o:Obj) (u:HO)
 |tbl (ps:Array ax)
 |code (q:Str)
 |cd (c:az) (q:Str)
 |dA (kvs:List (List (Int×Bool)×V))|dB (kvs:List (Int×V))
 |ext (φ:Heap->Prop)
noncomputable abbrev Hp:=az->Option HO
noncomputable def upd (H:Hp)(a:az)(o:HO):Hp:=λb=>if b=a then some o else H b
theorem bH {H:Hp}{a:az}{o:HO}:upd H a o a=some o:=by unfold upd;rw[if_pos rfl]
theorem aJ {H:Hp}{a b:az}{o:HO}(h:b≠a):upd H a o b=H b:=by unfold upd;rw[if_neg h]
theorem yR {H:Hp}{a b:az}{o u:HO}(h:H a=some o)(h':H b=some u)(d:o≠u):a≠b:=by
 intro e;subst e;rw[h]at h';exact d (bf6 h')
theorem cZ {H:Hp}{a b:az}{o:HO}(h:H a=some o)(h':H b=none):a≠b:=by
 intro e;subst e;rw[h]at h';cases h'
noncomputable def hV (h:Heap)(a:az):Prop:=∀o,h.get? a=some o->o.dict=none
theorem hV.new (h:Heap)(o:Obj)(d:o.dict=none)(s:o.isFreed=false:=by rfl):hV (h.push o) h.objs.size:=λu e=>by
 rw[bf1 h (o:=o) s]at e;cases e;exact d
theorem hV.stay {h h':Heap}{a:az}{o:Obj}(n:hV h a)(e:h.get? a=some o)(e':h'.get? a=some o):hV h' a:=λu hu=>by
 rw[e']at hu;cases hu;exact n _ e
noncomputable def eY (H:Hp)(k:List (Int×Bool))(b:az):Prop:=∃us:List V,H b=some (.tup us)/\Paired (λ(p:Int×Bool) (u:V)=>∃c,u = .ref c/\H c=some (.tup [.int p.1,.bl p.2])) k us
theorem eY.keeps {H H':Hp}{k:List (Int×Bool)}{b:az}(ht:∀b xs,H b=some (.tup xs)->H' b=some (.tup xs))(x:eY H k b):eY H' k b:=
 let ⟨us,e,r⟩:=x;⟨us,ht _ _ e,tG r λ_ _ ⟨c,q,z⟩=>⟨c,q,ht _ _ z⟩⟩
section
variable (P:ba)(w:bf)
noncomputable def bL (H:Hp)(h:Heap)(a:az):HO->Prop
 |.lst xs=>xs.length<=sizeLine/\∃(its:List ax) (n:Nat),aN xs its/\h.get? a=some { cls:=.type "list",data:=.seq its.toArray n }
 |.tup xs=>xs.length<=sizeLine/\∃its:List ax,aN xs its/\IsTup h a its.toArray/\hV h a
 |.dK kvs=>kvs.length<=sizeLine/\(a==sysModules)=false/\∃vs,KV kvs vs/\h.DictOf (pW P w) a vs
 |.dT kvs=>kvs.length<=sizeLine/\(a==sysModules)=false/\∃xs:List (List bW×az×ax),
   Paired (λ(p:List bW×V) (q:List bW×az×ax)=>p.1=q.1/\H q.2.1=some (.tup (p.1.map kV))/\aU p.2 q.2.2) kvs xs/\
   ∃o es ep,h.get? a=some o/\o.ExactDict/\o.data = .dict es ep/\es.toList=xs.map (entryOfKey (tupleKind (pW P w)))/\(xs.map (·.1)).Nodup
 |.set S n=>h.SetOf (intKind P w) a S n
 |.ins C dx fs=>H dx=some (.own a)/\fs.length<=1000/\dx≠a/\h.get? a=some (PySem.W.instObj C dx)/\
   ∃mA,h.Ns1 dx mA/\(∀f,hU (fs.lookup f) (mA f))/\PySem.Within mA (fs.map (·.1))
 |.own _=>∃o,h.get? a=some o
 |.xd fs=>∃mA,h.Ns1 a mA/\∀f,hU (fs.lookup f) (mA f)
 |.rng lo hi=>∃t u v,h.get? a=some { cls:=.type "range",data:=.fields #[.int lo t,.int hi u,.int 1 v] }
 |.frz o u=>h.get? a=some o/\bL H h a u
 |.tbl ps=>∃qs:Array ax,h.get? a=some { cls:=.none,data:=.fields qs }/\TriplesOk qs.toList/\∀(pos:Pos) (cv:ax),codeAmong pos qs.toList=some cv->∃(c:az) (q:Str) (t:Tok),cv = .ref c/\H c=some (.code q)/\ps = #[.str q t]
 |.code q=>∃(oc:Obj) (vs:Array ax) (t:Tok),h.get? a=some oc/\oc.data = .fields vs/\vs[1]? = some (.str q t)
 |.cd c q=>(∃o,h.get? a=some o)/\H c=some (.code q)
 |.dA kvs=>kvs.length<=sizeLine/\(a==sysModules)=false/\∃xs:List (ae×az×ax),
   Paired (λ(p:List (Int×Bool)×V) (q:ae×az×ax)=>dD p.1=q.1/\eY H p.1 q.2.1/\aU p.2 q.2.2) kvs xs/\
   ∃o es ep,h.get? a=some o/\o.ExactDict/\o.data = .dict es ep/\es.toList=xs.map (entryOfKey (o0 (iH P w)))/\(xs.map (·.1)).Nodup
 |.dB kvs=>kvs.length<=sizeLine/\(a==sysModules)=false/\∃vs,KV kvs vs/\h.DictOf (iH P w) a vs
 |.met f x=>h.get? a=some (PySem.W.methodObj (.ref f) (.ref x))
 |.ext φ=>φ h/\(∃o,h.get? a=some o)/\∀h1 h2:Heap,φ h1->(∀o,h1.get? a=some o->h2.get? a=some o)->φ h2
noncomputable def bS (H:Hp)(h:Heap):Prop:=∀a o,H a=some o->bL P w H h a o
end
section
variable {P:ba}{w:bf}{H H':Hp}{h h':Heap}{a:az}{o:HO}
theorem bL.lt (x:bL P w H h a o):a<h.objs.size:=by
 cases o with
 |lst xs=>obtain⟨_,_,_,_,e⟩:=x;exact be7 e
 |tup xs=>obtain⟨_,_,_,p,_⟩:=x;exact p.lt
 |dK kvs=>obtain⟨_,_,_,_,o,_,_,e,_⟩:=x;exact be7 e
 |dT kvs=>obtain⟨_,_,_,_,o,_,_,e,_⟩:=x;exact be7 e
 |set S n=>obtain⟨o,_,_,_,e,_⟩:=x;exact be7 e
 |ins C dx fs=>obtain⟨_,_,_,e,_⟩:=x;exact be7 e
 |own y=>obtain⟨_,e⟩:=x;exact be7 e
 |xd fs=>obtain⟨_,⟨_,_,_,e,_⟩,_⟩:=x;exact be7 e
 |rng lo hi=>obtain⟨_,_,_,e⟩:=x;exact be7 e
 |frz ob u=>obtain⟨e,_⟩:=x;exact be7 e
 |tbl ps=>obtain⟨_,e,_⟩:=x;exact be7 e
 |code q=>obtain⟨_,_,_,e,_⟩:=x;exact be7 e
 |cd c q=>obtain⟨⟨_,e⟩,_⟩:=x;exact be7 e
 |dA kvs=>obtain⟨_,_,_,_,o,_,_,e,_⟩:=x;exact be7 e
 |dB kvs=>obtain⟨_,_,_,_,o,_,_,e,_⟩:=x;exact be7 e
 |met f y=>exact be7 (show h.get? a=some _ from x)
 |ext φ=>obtain⟨_,⟨_,e⟩,_⟩:=x;exact be7 e
theorem Paired.mapP {α β:Type}{F G:α->β->Prop}:∀{l₁:List α}{l₂:List β},Paired F l₁ l₂->(∀a b,F a b->G a b)->Paired G l₁ l₂
 |_,_,.nil,_=>.nil
 |_,_,.cons r t,f=>.cons (f _ _ r) (Paired.mapP t f)
theorem bL.stay (x:bL P w H h a o)(k:∀b u,(b=a∨H b=some (.own a))->h.get? b=some u->h'.get? b=some u)(ho:∀b,H b=some (.own a)->H' b=some (.own a))(ht:∀b xs,H b=some (.tup xs)->H' b=some (.tup xs))(hc:∀b q,H b=some (.code q)->H' b=some (.code q):=by
   first
    |exact λ_ _ e=>e
    |(intro c q e;rw[aJ (cZ e (by assumption))];exact e)
    |(intro c q e;rw[aJ (λz=>by subst z;simp_all)];exact e)):bL P w H' h' a o:=by
 induction o with
 |lst xs=>obtain⟨z,its,n,r,e⟩:=x;exact⟨z,its,n,r,k _ _ (.inl rfl) e⟩
 |tup xs=>obtain⟨z,its,r,⟨ob,e,c⟩,nd⟩:=x;exact⟨z,its,r,⟨ob,k _ _ (.inl rfl) e,c⟩,nd.stay e (k _ _ (.inl rfl) e)⟩
 |dK kvs=>obtain⟨z,y,vs,r,ob,es,ep,e,c⟩:=x;exact⟨z,y,vs,r,ob,es,ep,k _ _ (.inl rfl) e,c⟩
 |dT kvs=>
  obtain⟨z,y,xs,r,ob,es,ep,e,c⟩:=x
  exact⟨z,y,xs,Paired.mapP r λp q z=>⟨z.1,ht _ _ z.2.1,z.2.2⟩,ob,es,ep,k _ _ (.inl rfl) e,c⟩
 |set S n=>obtain⟨ob,es,ep,t,e,c⟩:=x;exact⟨ob,es,ep,t,k _ _ (.inl rfl) e,c⟩
 |ins C dx fs=>
  obtain⟨d,z,ne,e,mA,⟨od,es,ep,e2,c⟩,r⟩:=x
  exact⟨ho _ d,z,ne,k _ _ (.inl rfl) e,mA,⟨od,es,ep,k _ _ (.inr d) e2,c⟩,r⟩
 |own y=>obtain⟨ob,e⟩:=x;exact⟨ob,k _ _ (.inl rfl) e⟩
 |xd fs=>obtain⟨mA,⟨od,es,ep,e,c⟩,r⟩:=x;exact⟨mA,⟨od,es,ep,k _ _ (.inl rfl) e,c⟩,r⟩
 |rng lo hi=>obtain⟨t,u,v,e⟩:=x;exact⟨t,u,v,k _ _ (.inl rfl) e⟩
 |frz ob u ih=>obtain⟨e,q⟩:=x;exact⟨k _ _ (.inl rfl) e,ih q⟩
 |tbl ps=>
  obtain⟨qs,e,tr,cs⟩:=x
  exact⟨qs,k _ _ (.inl rfl) e,tr,λpos cv z=>let ⟨c,q,t,e1,e2,e3⟩:=cs pos cv z;⟨c,q,t,e1,hc _ _ e2,e3⟩⟩
 |code q=>obtain⟨oc,vs,t,e,r⟩:=x;exact⟨oc,vs,t,k _ _ (.inl rfl) e,r⟩
 |cd c q=>obtain⟨⟨o,e⟩,r⟩:=x;exact⟨⟨o,k _ _ (.inl rfl) e⟩,hc _ _ r⟩
 |dA kvs=>
  obtain⟨z,y,xs,r,ob,es,ep,e,c⟩:=x
  exact⟨z,y,xs,Paired.mapP r λp q z=>⟨z.1,z.2.1.keeps ht,z.2.2⟩,ob,es,ep,k _ _ (.inl rfl) e,c⟩
 |dB kvs=>obtain⟨z,y,vs,r,ob,es,ep,e,c⟩:=x;exact⟨z,y,vs,r,ob,es,ep,k _ _ (.inl rfl) e,c⟩
 |met f y=>
  have e:h.get? a=some (PySem.W.methodObj (.ref f) (.ref y)):=x;show h'.get? a=some (PySem.W.methodObj (.ref f) (.ref y));exact k a _ (.inl rfl) e
 |ext φ=>obtain⟨p,⟨o,e⟩,st⟩:=x;exact⟨st _ _ p λo q=>k _ _ (.inl rfl) q,⟨o,k _ _ (.inl rfl) e⟩,st⟩
theorem bS.lt (x:bS P w H h)(e:H a=some o):a<h.objs.size:=(x a o e).lt
theorem bS.fresh (x:bS P w H h)(e:h.objs.size<=a):H a=none:=by
 cases q:H a with
 |none=>rfl
 |some u=>exact absurd (be6 (x.lt q) e) (bi7 _)
theorem bS.kept (x:bS P w H h)(k:∀b u,h.get? b=some u->h'.get? b=some u):bS P w H h':=λa o e=>
 (x a o e).stay (λb u _ q=>k b u q) (λ_ q=>q) λ_ _ q=>q
theorem bS.laid (x:bS P w H h)(k:∀b u,h.get? b=some u->h'.get? b=some u)(hp:h.objs.size<=a)(new:bL P w (upd H a o) h' a o):bS P w (upd H a o) h':=λb u e=>by
 have hn:=x.fresh hp;by_cases hb:b=a
 ·subst hb;rw[bH]at e;cases e;exact new
 ·rw[aJ hb]at e
  exact (x b u e).stay (λc v _ q=>k c v q) (λc q=>by rw[aJ (cZ q hn)];exact q) (λc xs q=>by rw[aJ (cZ q hn)];exact q) (λc r q=>by rw[aJ (cZ q hn)];exact q)
end
noncomputable def Rd (H:Hp)(a:az)(u:HO):Prop:=H a=some u∨∃o,H a=some (.frz o u)
theorem Rd.ok {P:ba}{w:bf}{H:Hp}{h:Heap}{a:az}{u:HO}(r:Rd H a u)(x:bS P w H h):bL P w H h a u:=by
 rcases r with r|⟨o,r⟩
 ·exact x a u r
 ·obtain⟨_,q⟩:=x a _ r
  exact q
noncomputable def o3:Option HO->Prop
 |some (.lst _)=>True
 |some (.dK _)=>True
 |some (.dT _)=>True
 |some (.dA _)=>True
 |some (.dB _)=>True
 |some (.set _ _)=>True
 |some (.ins _ _ _)=>True
 |some (.ext _)=>True
 |_=>False
section
variable {P:ba}{w:bf}{H:Hp}{h h':Heap}{x e:az}{o':HO}
theorem bS.write (ok:bS P w H h)(mu:o3 (H x))(he:e=x∨H e=some (.own x))(k:∀b u,b≠e->h.get? b=some u->h'.get? b=some u)(heo:∃u,h'.get? e=some u)(new:bL P w (upd H x o') h' x o'):bS P w (upd H x o') h':=λb u q=>by
 have nown:∀c y,H c=some (.own y)->c≠x:=λc y r z=>by subst z;rw[r]at mu;exact mu
 have ntup:∀c xs,H c=some (.tup xs)->c≠x:=λc xs r z=>by subst z;rw[r]at mu;exact mu
 by_cases hb:b=x
 ·subst hb;rw[bH]at q;cases q;exact new
 ·rw[aJ hb]at q
  by_cases hbe:b=e
  ·have q':H b=some (.own x):=by
    rcases he with z|z
    ·exact absurd (hbe.trans z) hb
    ·rw[hbe];exact z
   rw[q]at q';cases q'
   obtain⟨v,hv⟩:=heo
   exact⟨v,by rw[hbe];exact hv⟩
  ·refine (ok b u q).stay (λc v hc r=>k c v ?_ r) (λc r=>by rw[aJ (nown c b r)];exact r) (λc xs r=>by rw[aJ (ntup c xs r)];exact r) (λc y r=>by rw[aJ (λz=>by subst z;rw[r]at mu;exact mu)];exact r)
   rcases hc with rfl|hc
   ·exact hbe
   ·rintro rfl
    rcases he with z|z
    ·exact nown c b hc z
    ·rw[hc]at z;cases z;exact hb rfl
end
structure Un (fs ex:List az)(H H':Hp)(h h':Heap):Prop where
 keep:∀b o,h.get? b=some o->H b=none->b∉fs->b∉ex->h'.get? b=some o
 slot:∀b o,h.get? b=some o->H b=none->b∈fs->b∉ex->∃sl,h'.get? b=some { o with slots:=sl }
 free:∀b o,h.get? b=some o->H b=none->b∉ex->H' b=none
 there:∀b o,h.get? b=some o->b∉ex->∃o',h'.get? b=some o'
 tups:∀b xs,H b=some (.tup xs)->H' b=some (.tup xs)
 frzs:∀b o u,H b=some (.frz o u)->H' b=some (.frz o u)
 tbls:∀b ps,H b=some (.tbl ps)->∃more,H' b=some (.tbl (ps++more))
section
variable {fs fs' ex ex':List az}{H H1 H2:Hp}{h h1 h2 h':Heap}{a x e:az}{o:HO}
theorem Un.any (u:Un fs ex H H1 h h1){b:az}{ob:Obj}(q:h.get? b=some ob)(n:H b=none)(hx:b∉ex):∃sl,h1.get? b=some { ob with slots:=sl }:=by
 by_cases hb:b∈fs
 ·exact u.slot b ob q n hb hx
 ·exact⟨ob.slots,u.keep b ob q n hb hx⟩
theorem Un.kept (k:∀b u,h.get? b=some u->h'.get? b=some u):Un fs ex H H h h':=
 ⟨λb ob q _ _ _=>k b ob q,λb ob q _ _ _=>⟨ob.slots,k b ob q⟩,λ_ _ _ n _=>n,λb ob q _=>⟨ob,k b ob q⟩,λ_ _ q=>q,λ_ _ _ q=>q,λ_ ps q=>⟨#[],by rw[q];simp⟩⟩
theorem Un.refl:Un fs ex H H h h:=Un.kept λ_ _ q=>q
theorem Un.laid (k:∀b u,h.get? b=some u->h'.get? b=some u)(hp:h.objs.size<=a)(hn:H a=none):Un fs ex H (upd H a o) h h' where
 keep:=λb u q _ _ _=>k b u q
 slot:=λb u q _ _ _=>⟨u.slots,k b u q⟩
 free:=λb u q n _=>by rw[aJ (bg7 (be6 (be7 q) hp))];exact n
 there:=λb u q _=>⟨u,k b u q⟩
 tups:=λb xs q=>by rw[aJ (cZ q hn)];exact q
 frzs:=λb u xs q=>by rw[aJ (cZ q hn)];exact q
 tbls:=λb ps q=>⟨#[],by rw[aJ (cZ q hn),q];simp⟩
theorem Un.write (mu:o3 (H x))(he:e=x∨H e=some (.own x))(k:∀b u,b≠e->h.get? b=some u->h'.get? b=some u)(heo:∃u,h'.get? e=some u):Un fs ex H (upd H x o) h h':=by
 have hx:∀b,H b=none->b≠x:=λb n z=>by subst z;rw[n]at mu;exact mu
 have hb:∀b,H b=none->b≠e:=λb n z=>by
  subst z;rcases he with r|r
  ·exact hx b n r
  ·rw[n]at r;cases r
 have hm:∀b u,H b=some u->¬o3 (some u)->b≠x:=λb u q nm z=>by subst z;rw[q]at mu;exact nm mu
 refine⟨λb u q n _ _=>k b u (hb b n) q,λb u q n _ _=>⟨u.slots,k b u (hb b n) q⟩,λb u q n _=>by rw[aJ (hx b n)];exact n,λb u q _=>?_,
  λb xs q=>by rw[aJ (hm b _ q λz=>z)];exact q,λb u xs q=>by rw[aJ (hm b _ q λz=>z)];exact q,λb ps q=>⟨#[],by rw[aJ (hm b _ q λz=>z),q];simp⟩⟩
 by_cases hbe:b=e
 ·subst hbe;exact heo
 ·exact⟨u,k b u hbe q⟩
end
noncomputable def pX (h:Heap)(H:Hp):List az:=(List.range h.objs.size).filter λa=>(H a).isSome
noncomputable def hZ (h:Heap)(H:Hp):Heap:=PySem.W.hideAll h (pX h H)
theorem yS (h:Heap)(H:Hp):(hZ h H).objs.size=h.objs.size:=PySem.W.hideAll_size _ _
theorem yT {h:Heap}{H:Hp}{b:az}{o:Obj}(e:h.get? b=some o)(n:H b=none):(hZ h H).get? b=some o:=
 PySem.W.hideAll_get _ e λhm=>by
  have q:(H b).isSome=true:=(bn0.mp hm).2;rw[n]at q;simp at q
theorem yU {h:Heap}{H:Hp}{b:az}{o:Obj}(e:(hZ h H).get? b=some o):h.get? b=some o/\H b=none:=by
 have e':h.get? b=some o:=PySem.W.of_hideAll (pX h H) e;refine⟨e',?_⟩;cases q:H b with
 |none=>rfl
 |some x=>
  have hm:b∈pX h H:=bn0.mpr ⟨bl1.mpr (be7 e'),by simp[q]⟩;have z:(hZ h H).get? b=none:=PySem.W.hideAll_none (pX h H) hm;rw[z]at e;cases e
noncomputable def ag4 (g h:Heap)(L:az):List (az×Obj):=(List.range h.objs.size).filterMap λa=>if a=L∨(g.get? a).isSome=true then none else (h.get? a).map λo=>(a,o)
noncomputable def rest (g h:Heap)(L d:az):List (az×Obj):=(ag4 g h L).filter λp=>decide (p.1≠d)
structure Mod (K:ad)(mg:Str->Option ax)(base:Heap):Prop where
 kin:K.In base
 glob:base.Ns mainGlobals mg
 blt:∃mb,base.Ns builtinsNs mb/\∀x:Str,x≠"__name__"->mb x=bootBuiltins x
 nolimit:base.NoLimit
structure Cx where
 prog:ba
 w:bf
 K:ad
 mg:Str->Option ax
 base:Heap
 A:bc
 N:List Str
 s₀:ay
 H₀:Hp
 env:Env
 outer:List Env
 stack:List Env
 ex:List az
 fn:Str->Bool
 calm:Bool
 pn:List (az×Obj)
 xe:ax->ay->Prop
noncomputable def bY (l:List Env):List az:=l.filterMap (·.frame)
noncomputable abbrev Cx.fs (X:Cx):List az:=bY X.outer
noncomputable def dY (sc:Scope)(x:Str):Prop:=sc.names.lookup x=some .local∨sc.names.lookup x=some .cell∨sc.names.lookup x=some .free
noncomputable def gR (sc:Scope)(x:Str):Prop:=sc.names.lookup x=some .local∨sc.names.lookup x=some .cell
noncomputable def ag5 (env:Env)(h:Heap)(m:Str->Option ax)(x:Str)(u:ax):Prop:=
 (env.kindOf x=some .local/\m x=some u)∨((env.kindOf x=some .cell∨env.kindOf x=some .free)/\∃c,env.cells.lookup x=some c/\h.IsCell c (some u))
structure Cx.Ok (X:Cx):Prop where
 mod:Mod X.K X.mg X.base
 kind:X.env.scope.kind = .function
 glob:X.env.globals=mainGlobals
 blt:X.env.builtins=builtinsNs
 above:X.s₀.heap.objs.size<=X.env.locals
 inj:∀x y c,X.env.cells.lookup x=some c->X.env.cells.lookup y=some c->x=y
 has:∀x,(X.env.kindOf x=some .cell∨X.env.kindOf x=some .free)->∃c,X.env.cells.lookup x=some c
 cab:∀x c,X.fn x=true->X.env.cells.lookup x=some c->X.s₀.heap.objs.size<=c
 hd:X.calm=true->X.A.handled=none
 frames:X.A.frames=some X.stack
 stk:X.stack=X.outer∨(X.stack=X.env::X.outer/\X.env.frame=some X.env.locals)
 exf:∀b∈X.ex,b≠X.env.locals/\∀x c,X.env.cells.lookup x=some c->c≠b
 bs:∀b o,X.base.get? b=some o->X.s₀.heap.get? b=some o/\X.H₀ b=none
 bsz:X.base.objs.size<=X.s₀.heap.objs.size
 noex:∀b o,X.base.get? b=some o->b∉X.ex
 exfs:∀b∈X.ex,b∉X.fs
 funs:X.s₀.heap.FunFrames X.base X.outer
 frf:∀b∈X.fs,X.H₀ b=none
structure aA (X:Cx)(ai:List (az×Obj))(σ:List (Option V))(H:Hp)(s:ay):Prop where
 ok:X.Ok
 os:s.os=X.s₀.os
 bare:AllBare s.gens
 base:Un X.fs X.ex X.H₀ H X.s₀.heap s.heap
 loc:∃m,s.heap.Ns X.env.locals m/\∀(i:Nat) (x:Str) (v:V),X.N[i]? = some x->σ[i]? = some (some v)->dY X.env.scope x->∃u,aU v u/\ag5 X.env s.heap m x u
 cell:∀x c,X.env.cells.lookup x=some c->∃v,s.heap.IsCell c v
 free:H X.env.locals=none
 freeC:∀x c,X.env.cells.lookup x=some c->H c=none
 pin:∀p∈X.pn++ai,s.heap.get? p.1=some p.2/\H p.1=none/\p.1≠X.env.locals/\p.1∉X.fs/\∀v,p.2.data≠.cell v
 hok:bS X.prog X.w H s.heap
 len:σ.length=X.N.length
section
variable {X:Cx}{ai:List (az×Obj)}{σ:List (Option V)}{H H':Hp}{s:ay}{h':Heap}
theorem Cx.Ok.nofr (ok:X.Ok){b:az}{o:Obj}(e:X.base.get? b=some o):b∉X.fs:=λhb=>by
 have:=(ok.funs.mem hb).1
 rw[e]at this;cases this
theorem aA.bs (I:aA X ai σ H s):∀b o,X.base.get? b=some o->s.heap.get? b=some o/\H b=none:=λb o e=>
 ⟨I.base.keep b o (I.ok.bs b o e).1 (I.ok.bs b o e).2 (I.ok.nofr e) (I.ok.noex b o e),I.base.free b o (I.ok.bs b o e).1 (I.ok.bs b o e).2 (I.ok.noex b o e)⟩
theorem aA.bk (I:aA X ai σ H s):∀b o,X.base.get? b=some o->s.heap.get? b=some o:=λb o e=>(I.bs b o e).1
theorem aA.mod (I:aA X ai σ H s):Mod X.K X.mg X.base:=I.ok.mod
theorem aA.kIn (I:aA X ai σ H s):X.K.In s.heap:=I.ok.mod.kin.keeps I.bk
theorem aA.fr (I:aA X ai σ H s):∃m,Fr X.base X.env.locals s.heap m:=
 let ⟨m,hn,_⟩:=I.loc
 ⟨m,hn,I.bk,bh2 I.ok.bsz I.ok.above⟩
theorem aA.lt (I:aA X ai σ H s):X.env.locals<s.heap.objs.size:=let ⟨_,hn,_⟩:=I.loc;hn.lt
theorem aA.sz (I:aA X ai σ H s):X.s₀.heap.objs.size<=s.heap.objs.size:=bh2 I.ok.above (bp0 I.lt)
theorem aA.nofs (I:aA X ai σ H s){a:az}(h:s.heap.objs.size<=a):a∉X.fs:=λhb=>by
 obtain⟨_,o,ho,_⟩:=I.ok.funs.mem hb
 exact absurd (be6 (be7 ho) (bh2 I.sz h)) (bi7 _)
theorem aA.cne (I:aA X ai σ H s):∀x c,X.env.cells.lookup x=some c->c≠X.env.locals:=λx c e z=>by
 obtain⟨v,o,ho,hd⟩:=I.cell x c e
 obtain⟨m,⟨o',es,ep,ho',hd',_⟩,_⟩:=I.loc
 rw[z,ho']at ho;cases ho;rw[hd']at hd;cases hd
theorem aA.funs (I:aA X ai σ H s):s.heap.FunFrames X.base X.outer:=by
 have all:∀(l:List Env),(∀b∈bY l,b∈X.fs)->X.s₀.heap.FunFrames X.base l->s.heap.FunFrames X.base l:=by
  intro l
  induction l with
  |nil=>intro _ _;trivial
  |cons env r ih=>
   intro hs hl
   obtain⟨hk,⟨L,o,hf,hn,ho,hd⟩,hr⟩:=hl
   have hL:L∈X.fs:=hs L (by unfold bY;rw[List.filterMap_cons,hf];exact bd4)
   obtain⟨sl,e⟩:=I.base.slot L o ho (I.ok.frf L hL) hL λz=>I.ok.exfs L z hL
   exact⟨hk,⟨L,_,hf,hn,e,hd⟩,ih (λb hb=>hs b (by unfold bY;rw[List.filterMap_cons,hf];exact bd5 _ hb)) hr⟩
 exact all X.outer (λ_ hb=>hb) I.ok.funs
theorem aA.stack (I:aA X ai σ H s):s.heap.FunFrames X.base X.stack:=by
 rcases I.ok.stk with e|⟨e,hf⟩
 ·rw[e];exact I.funs
 ·rw[e]
  obtain⟨m,hn,_⟩:=I.loc
  refine .cons (by rw[I.ok.kind];decide) hf hn ?_ I.funs;exact Heap.get?_none_of_le (bh2 I.ok.bsz I.ok.above)
theorem aA.stkSub (I:aA X ai σ H s):∀b∈bY X.stack,b∈X.env.locals::X.fs:=λb hb=>by
 rcases I.ok.stk with e|⟨e,hf⟩
 ·rw[e]at hb;exact bd5 _ hb
 ·rw[e]at hb
  unfold bY at hb;rw[List.filterMap_cons,hf]at hb;exact hb
theorem aA.stkFree (I:aA X ai σ H s):∀b∈bY X.stack,H b=none:=λb hb=>by
 rcases bd8.mp (I.stkSub b hb) with e|hb
 ·rw[e];exact I.free
 ·obtain⟨_,o,ho,_⟩:=I.ok.funs.mem hb
  exact I.base.free b o ho (I.ok.frf b hb) λz=>I.ok.exfs b z hb
theorem aA.step {g':Array GenState}{t':Nat}{d':Drawn}{ch:List az}(I:aA X ai σ H s)(hch:∀b∈ch,(b∈X.ex∨X.s₀.heap.objs.size<=b)/\b≠X.env.locals/\(∀x c,X.env.cells.lookup x=some c->c≠b)/\∀p∈X.pn++ai,p.1≠b)(keep:∀b o,b≠X.env.locals->b∉X.fs->b∉ch->s.heap.get? b=some o->H b=none->h'.get? b=some o)(slot:∀b o,b≠X.env.locals->b∈X.fs->b∉ch->s.heap.get? b=some o->H b=none->∃sl,h'.get? b=some { o with slots:=sl })(free:∀b o,b∉ch->s.heap.get? b=some o->H b=none->H' b=none)(there:∀b o,b∉ch->s.heap.get? b=some o->∃o',h'.get? b=some o')(tups:∀b xs,H b=some (.tup xs)->H' b=some (.tup xs))(frzs:∀b o u,H b=some (.frz o u)->H' b=some (.frz o u))(tbls:∀b ps,H b=some (.tbl ps)->∃more,H' b=some (.tbl (ps++more)))(ns:∀m,s.heap.Ns X.env.locals m->h'.Ns X.env.locals m)(hok:bS X.prog X.w H' h')(hg:AllBare g') :
  aA X ai σ H' { s with heap:=h',gens:=g',drawn:=d',toks:=t' }:=by
 have neL:∀b o,X.s₀.heap.get? b=some o->b≠X.env.locals:=λb o e=>bg7 (be6 (be7 e) I.ok.above)
 have neC:∀b o,X.s₀.heap.get? b=some o->b∉X.ex->b∉ch:=λb o e hx hb=>by
  rcases (hch b hb).1 with z|z
  ·exact hx z
  ·exact absurd (be6 (be7 e) z) (bi7 _)
 have cellK:∀x c,X.env.cells.lookup x=some c->∀v,s.heap.IsCell c v->h'.IsCell c v:=λx c e v ⟨o,ho,hd⟩=>by
  have nch:c∉ch:=λz=>(hch c z).2.2.1 x c e rfl
  by_cases hc:c∈X.fs
  ·obtain⟨sl,q⟩:=slot c o (I.cne x c e) hc nch ho (I.freeC x c e)
   exact⟨_,q,hd⟩
  ·exact⟨o,keep c o (I.cne x c e) hc nch ho (I.freeC x c e),hd⟩
 refine⟨I.ok,I.os,hg,⟨λb o e n hb hx=>?_,λb o e n hb hx=>?_,λb o e n hx=>?_,λb o e hx=>?_,λb xs e=>tups b xs (I.base.tups b xs e),λb o xs e=>frzs b o xs (I.base.frzs b o xs e),λb ps e=>?_⟩,?_,λx c e=>?_,?_,λx c e=>?_,λp hp=>?_,hok,I.len⟩
 ·exact keep b o (neL b o e) hb (neC b o e hx) (I.base.keep b o e n hb hx) (I.base.free b o e n hx)
 ·obtain⟨sl,e1⟩:=I.base.slot b o e n hb hx
  obtain⟨sl',e2⟩:=slot b _ (neL b o e) hb (neC b o e hx) e1 (I.base.free b o e n hx)
  exact⟨sl',e2⟩
 ·obtain⟨o',e1⟩:=I.base.there b o e hx
  exact free b o' (neC b o e hx) e1 (I.base.free b o e n hx)
 ·obtain⟨o',e1⟩:=I.base.there b o e hx
  exact there b o' (neC b o e hx) e1
 ·obtain⟨m1,e1⟩:=I.base.tbls b ps e
  obtain⟨m2,e2⟩:=tbls b _ e1
  exact⟨m1++m2,by rw[e2,Array.append_assoc]⟩
 ·obtain⟨m,hn,hl⟩:=I.loc
  refine⟨m,ns m hn,λi x v e1 e2 e3=>?_⟩
  obtain⟨u,r,l⟩:=hl i x v e1 e2 e3
  refine⟨u,r,?_⟩;rcases l with l|⟨k,c,e,z⟩
  ·exact .inl l
  ·exact .inr ⟨k,c,e,cellK x c e _ z⟩
 ·obtain⟨v,z⟩:=I.cell x c e
  exact⟨v,cellK x c e v z⟩
 ·obtain⟨m,⟨o,_,_,ho,_⟩,_⟩:=I.loc
  exact free _ o (λz=>(hch _ z).2.1 rfl) ho I.free
 ·obtain⟨v,o,ho,hd⟩:=I.cell x c e
  exact free c o (λz=>(hch c z).2.2.1 x c e rfl) ho (I.freeC x c e)
 ·obtain⟨e,n,ne,nf,d⟩:=I.pin p hp
  have nch:p.1∉ch:=λz=>(hch p.1 z).2.2.2 p hp rfl
  exact⟨keep p.1 p.2 ne nf nch e n,free p.1 p.2 nch e n,ne,nf,d⟩
theorem aA.un {t':Nat}(I:aA X ai σ H s)(u:Un X.fs [] H H' s.heap h')(hok:bS X.prog X.w H' h'):aA X ai σ H' { s with heap:=h',toks:=t' }:=by
 obtain⟨m,⟨o,es,ep,ho,r⟩,_⟩:=id I.loc
 obtain⟨sl,hL⟩:=u.any ho I.free (by simp)
 exact I.step (g':=s.gens) (d':=s.drawn) (ch:=[]) (λ_ z=>nomatch z) (λb o _ hb _ e n=>u.keep b o e n hb (by simp)) (λb o _ hb _ e n=>u.slot b o e n hb (by simp)) (λb o _ e n=>u.free b o e n (by simp)) (λb o _ e=>u.there b o e (by simp)) u.tups u.frzs u.tbls (λm' hm=>by
  obtain⟨o',es',ep',ho',r'⟩:=hm
  rw[ho]at ho';cases ho'
  exact⟨_,es',ep',hL,r'⟩) hok I.bare
theorem aA.call {g':Array GenState}{t':Nat}{d':Drawn}{ch:List az}(I:aA X ai σ H s)(u:Un (bY X.stack) ch H H' s.heap h')(hok:bS X.prog X.w H' h')(hg:AllBare g')(hch:∀b∈ch,(b∈X.ex∨X.s₀.heap.objs.size<=b)/\b≠X.env.locals/\(∀x c,X.env.cells.lookup x=some c->c≠b)/\∀p∈X.pn++ai,p.1≠b) :
  aA X ai σ H' { s with heap:=h',gens:=g',drawn:=d',toks:=t' }:=by
 obtain⟨m,⟨o,es,ep,ho,r⟩,_⟩:=id I.loc
 obtain⟨sl,hL⟩:=u.any ho I.free λz=>(hch _ z).2.1 rfl
 exact I.step (ch:=ch) hch (λb o hL hb hc e n=>u.keep b o e n (λz=>(bd8.mp (I.stkSub b z)).elim hL hb) hc) (λb o _ _ hc e n=>u.any e n hc) (λb o hc e n=>u.free b o e n hc) (λb o hc e=>u.there b o e hc) u.tups u.frzs u.tbls (λm' hm=>by
  obtain⟨o',es',ep',ho',r'⟩:=hm
  rw[ho]at ho';cases ho'
  exact⟨_,es',ep',hL,r'⟩) hok hg
theorem aA.turned {t':Nat}{it:az}(I:aA X ai σ H s)(k:∀b o,b≠it->s.heap.get? b=some o->h'.get? b=some o)(hn:H it=none)(hL:it≠X.env.locals)(h1:it∈X.ex∨X.s₀.heap.objs.size<=it)(h2:∀x c,X.env.cells.lookup x=some c->c≠it)(h3:∀p∈X.pn++ai,p.1≠it):aA X ai σ H { s with heap:=h',toks:=t' }:=by
 have nit:∀b u,H b=some u->b≠it:=λb u e z=>by rw[z,hn]at e;cases e
 refine I.step (g':=s.gens) (d':=s.drawn) (ch:=[it]) (λb hb=>?_) (λb o _ _ hc e _=>k b o (λz=>hc (by simp[z])) e) (λb o _ _ hc e _=>⟨o.slots,k b o (λz=>hc (by simp[z])) e⟩) (λ_ _ _ _ n=>n)
  (λb o hc e=>⟨o,k b o (λz=>hc (by simp[z])) e⟩) (λ_ _ e=>e) (λ_ _ _ e=>e) (λb ps e=>⟨#[],by rw[e];simp⟩) (λm hm=>?_) (λb u e=>?_) I.bare
 ·have e:b=it:=by simpa using hb
  subst e
  exact⟨h1,hL,h2,h3⟩
 ·obtain⟨o,es,ep,ho,r⟩:=hm
  exact⟨o,es,ep,k _ o (Ne.symm hL) ho,r⟩
 ·refine (I.hok b u e).stay (λc v hc q=>k c v ?_ q) (λ_ q=>q) λ_ _ q=>q
  rcases hc with z|z
  ·rw[z];exact nit b u e
  ·exact nit c _ z
theorem aA.tok (I:aA X ai σ H s)(t:Nat):aA X ai σ H { s with toks:=t }:=I.un (h':=s.heap) (t':=t) Un.refl I.hok
theorem aA.kept {t':Nat}(I:aA X ai σ H s)(k:∀b u,s.heap.get? b=some u->h'.get? b=some u):aA X ai σ H { s with heap:=h',toks:=t' }:=I.un (Un.kept k) (I.hok.kept k)
theorem aA.laid {a:az}{o:HO}{t':Nat}(I:aA X ai σ H s)(k:∀b u,s.heap.get? b=some u->h'.get? b=some u)(hp:s.heap.objs.size<=a)(new:bL X.prog X.w (upd H a o) h' a o) :
  aA X ai σ (upd H a o) { s with heap:=h',toks:=t' }:=I.un (Un.laid k hp (I.hok.fresh hp)) (I.hok.laid k hp new)
theorem aA.write {x e:az}{o:HO}{t':Nat}(I:aA X ai σ H s)(mu:o3 (H x))(he:e=x∨H e=some (.own x))(k:∀b u,b≠e->s.heap.get? b=some u->h'.get? b=some u)(heo:∃u,h'.get? e=some u)(new:bL X.prog X.w (upd H x o) h' x o):aA X ai σ (upd H x o) { s with heap:=h',toks:=t' }:=I.un (Un.write mu he k heo) (I.hok.write mu he k heo new)
theorem aA.weak {σ':List (Option V)}(I:aA X ai σ H s)(hl:σ'.length=σ.length)(w:∀(i:Nat) v,σ'[i]? = some (some v)->σ[i]? = some (some v)):aA X ai σ' H s:=
 ⟨I.ok,I.os,I.bare,I.base,let ⟨m,hn,hl'⟩:=I.loc;⟨m,hn,λi x v e1 e2 e3=>hl' i x v e1 (w i v e2) e3⟩,I.cell,I.free,I.freeC,I.pin,I.hok,hl.trans I.len⟩
theorem aA.pins_of {pins':List (az×Obj)}(I:aA X ai σ H s)(h:∀p∈pins',s.heap.get? p.1=some p.2/\H p.1=none/\p.1≠X.env.locals/\p.1∉X.fs/\∀v,p.2.data≠.cell v):aA X pins' σ H s:=
 ⟨I.ok,I.os,I.bare,I.base,I.loc,I.cell,I.free,I.freeC,λp hp=>(bi4.mp hp).elim (λz=>I.pin p (bi8 _ z)) (h p),I.hok,I.len⟩
theorem yV {N:List Str}(hN:N.Nodup){i j:Nat}{x:Str}(a:N[i]? = some x)(b:N[j]? = some x):i=j:=by
 obtain⟨h1,e1⟩:=bf7.mp a
 obtain⟨h2,e2⟩:=bf7.mp b
 exact (List.getElem_inj hN).mp (e1.trans e2.symm)
theorem yW {M:Model}{A:bc}{E:ax->ay->Prop}{i:Nat}{x:Str}{v:V}{u:ax}{Q:Unit->ay->Prop}(I:aA X ai σ H s)(hN:X.N.Nodup)(hi:X.N[i]? = some x)(hx:gR X.env.scope x)(r:aU v u)(h:∀s',aA X ai (σ.set i (some v)) H s'->(∃a,Heap.SameBut a s.heap s'.heap/\(a=X.env.locals∨X.env.cells.lookup x=some a))->Q () s')(hf:X.fn x=true∨X.env.scope.names.lookup x=some .local:=by first|exact .inl rfl|exact .inr rfl|assumption):wpAny M A (storeName X.env x u) Q E s:=by
 obtain⟨m,hn,hl⟩:=id I.loc
 have hcls:(X.env.scope.kind==.class||(X.env.scope.kind==.module&&X.env.locals != X.env.globals))=false:=by rw[I.ok.kind];rfl
 have hiσ:i<σ.length:=by rw[I.len];exact (bf7.mp hi).1
 have cne:=I.cne;have tracked:∀{a:az}{h':Heap},(∃o,s.heap.get? a=some o/\H a=none)->Heap.SameBut a s.heap h'->bS X.prog X.w H h':=λ{a h'} ha hs b ob e=>by
  obtain⟨_,_,hfree⟩:=ha
  refine (I.hok b ob e).stay (λc w' hc q=>(hs.2 c ?_).trans q) (λ_ q=>q) λ_ _ q=>q
  rintro rfl;rcases hc with rfl|hc
  ·rw[hfree]at e;cases e
  ·rw[hfree]at hc;cases hc
 rcases hx with hk|hk
 ·refine wpAny_storeName_local hk hn (λh' hn' hs=>?_) hcls
  obtain⟨oL,_,_,hoL,_⟩:=id hn
  refine h _ ⟨I.ok,I.os,I.bare,⟨λb o e n hb hx=>?_,λb o e n hb hx=>?_,I.base.free,λb o e hx=>?_,I.base.tups,I.base.frzs,I.base.tbls⟩,⟨_,hn',λj y v' e1 e2 e3=>?_⟩,λy c e=>?_,I.free,I.freeC,λp hp=>?_,tracked ⟨oL,hoL,I.free⟩ hs,by simpa using I.len⟩ ⟨_,hs,.inl rfl⟩
  ·exact (hs.2 b (bg7 (be6 (be7 e) I.ok.above))).trans (I.base.keep b o e n hb hx)
  ·obtain⟨sl,e1⟩:=I.base.slot b o e n hb hx
   exact⟨sl,(hs.2 b (bg7 (be6 (be7 e) I.ok.above))).trans e1⟩
  ·obtain⟨o',e1⟩:=I.base.there b o e hx
   exact⟨o',(hs.2 b (bg7 (be6 (be7 e) I.ok.above))).trans e1⟩
  ·by_cases hj:j=i
   ·subst hj
    rw[hi]at e1;cases e1;rw[bm2 hiσ]at e2;cases e2
    exact⟨u,r,.inl ⟨hk,by simp⟩⟩
   ·rw[bh5 (Ne.symm hj)]at e2
    obtain⟨u',r',q⟩:=hl j y v' e1 e2 e3
    refine⟨u',r',?_⟩;rcases q with⟨k,e⟩|⟨k,c,e,z⟩
    ·refine .inl ⟨k,?_⟩
     have:y≠x:=λe=>hj (yV hN e1 (e▸hi))
     simp[this,e]
    ·exact .inr ⟨k,c,e,z.sameBut hs (cne y c e)⟩
  ·obtain⟨w',z⟩:=I.cell y c e
   exact⟨w',z.sameBut hs (cne y c e)⟩
  ·obtain⟨e,n,ne,nf,d⟩:=I.pin p hp
   exact⟨(hs.2 p.1 ne).trans e,n,ne,nf,d⟩
 ·have hfn:X.fn x=true:=by
   rcases hf with z|z
   ·exact z
   ·rw[z]at hk;cases hk
  obtain⟨c,hc⟩:=I.ok.has x (.inl hk)
  obtain⟨w',z⟩:=I.cell x c hc
  refine wpAny_storeName_cell I.ok.kind hk hc z (λh' hc' hs=>?_)
  obtain⟨oc,hoc,hocd⟩:=id z
  refine h { s with heap:=h' } ⟨I.ok,I.os,I.bare,⟨λb o e n hb hx=>?_,λb o e n hb hx=>?_,I.base.free,λb o e hx=>?_,I.base.tups,I.base.frzs,I.base.tbls⟩,⟨m,hn.sameBut hs (Ne.symm (cne x c hc)),λj y v' e1 e2 e3=>?_⟩,λy c' e=>?_,I.free,I.freeC,λp hp=>?_,tracked ⟨oc,hoc,I.freeC x c hc⟩ hs,by simpa using I.len⟩ ⟨c,hs,.inr hc⟩
  ·exact (hs.2 b (bg7 (be6 (be7 e) (I.ok.cab x c hfn hc)))).trans (I.base.keep b o e n hb hx)
  ·obtain⟨sl,e1⟩:=I.base.slot b o e n hb hx
   exact⟨sl,(hs.2 b (bg7 (be6 (be7 e) (I.ok.cab x c hfn hc)))).trans e1⟩
  ·obtain⟨o',e1⟩:=I.base.there b o e hx
   exact⟨o',(hs.2 b (bg7 (be6 (be7 e) (I.ok.cab x c hfn hc)))).trans e1⟩
  ·by_cases hj:j=i
   ·subst hj
    rw[hi]at e1;cases e1;rw[bm2 hiσ]at e2;cases e2
    exact⟨u,r,.inr ⟨.inl hk,c,hc,hc'⟩⟩
   ·rw[bh5 (Ne.symm hj)]at e2
    obtain⟨u',r',q⟩:=hl j y v' e1 e2 e3
    refine⟨u',r',?_⟩;rcases q with q|⟨k,c',e,z'⟩
    ·exact .inl q
    ·refine .inr ⟨k,c',e,z'.sameBut hs ?_⟩
     rintro rfl;exact hj (yV hN e1 (I.ok.inj _ _ _ e hc▸hi))
  ·by_cases hcc:c'=c
   ·subst hcc;exact⟨_,hc'⟩
   ·obtain⟨w2,z2⟩:=I.cell y c' e
    exact⟨w2,z2.sameBut hs hcc⟩
  ·obtain⟨e,n,ne,nf,d⟩:=I.pin p hp
   refine⟨(hs.2 p.1 ?_).trans e,n,ne,nf,d⟩;intro q;rw[q,hoc]at e;have q':oc=p.2:=bf6 e;exact d w' (by rw[<- q'];exact hocd)
theorem yX {M:Model}{A:bc}{E:ax->ay->Prop}{i:Nat}{x:Str}{v:V}{u:ax}{Q:Unit->ay->Prop}(I:aA X ai σ H s)(hN:X.N.Nodup)(hi:X.N[i]? = some x)(hx:gR X.env.scope x)(r:aU v u)(h:∀s',aA X ai (σ.set i (some v)) H s'->Q () s')(hf:X.fn x=true∨X.env.scope.names.lookup x=some .local:=by first|exact .inl rfl|exact .inr rfl|assumption):wpAny M A (storeName X.env x u) Q E s:=
 yW I hN hi hx r (λs' I' _=>h s' I') hf
theorem aA.call' {s':ay}{ch:List az}(I:aA X ai σ H s)(ho:s'.os=s.os)(u:Un (bY X.stack) ch H H' s.heap s'.heap)(hok:bS X.prog X.w H' s'.heap)(hg:AllBare s'.gens)(hch:∀b∈ch,(b∈X.ex∨X.s₀.heap.objs.size<=b)/\b≠X.env.locals/\(∀x c,X.env.cells.lookup x=some c->c≠b)/\∀p∈X.pn++ai,p.1≠b):aA X ai σ H' s':=by
 obtain⟨h',g',d',t',o'⟩:=s'
 have e:o'=s.os:=ho;subst e;exact I.call (g':=g') (t':=t') (d':=d') u hok hg hch
end
noncomputable abbrev XK:=ax->Option az->Hp->Prop
noncomputable abbrev St:=List (Option V)
noncomputable abbrev VK:=V->Hp->Prop
noncomputable abbrev TE:=St->Hp->VK->Prop
noncomputable abbrev TT:=St->Hp->(Bool->Hp->Prop)->Prop
noncomputable abbrev TA:=St->Hp->(List V->Hp->Prop)->Prop
structure dX where
 nx:St->Hp->Prop
 rt:VK
 bk:St->Hp->Prop:=λ_ _=>False
 ct:St->Hp->Prop:=λ_ _=>False
noncomputable abbrev TS:=dX->St->Hp->Prop
noncomputable def EP (X:Cx)(ai:List (az×Obj))(σ:St)(Q:VK)(u:ax)(s':ay):Prop:=∃v H',aA X ai σ H' s'/\aU v u/\Q v H'
noncomputable def TP (X:Cx)(ai:List (az×Obj))(σ:St)(Q:Bool->Hp->Prop)(b:Bool)(s':ay):Prop:=∃H',aA X ai σ H' s'/\Q b H'
noncomputable def AP (X:Cx)(ai:List (az×Obj))(σ:St)(Q:List V->Hp->Prop)(us:List ax)(s':ay):Prop:=∃vs H',aA X ai σ H' s'/\aN vs us/\Q vs H'
noncomputable def SP (X:Cx)(ai:List (az×Obj))(D:dX)(f:Flow)(s':ay):Prop:=
 match f with
 |.next=>∃σ' H',aA X ai σ' H' s'/\D.nx σ' H'
 |.brk=>∃σ' H',aA X ai σ' H' s'/\D.bk σ' H'
 |.cont=>∃σ' H',aA X ai σ' H' s'/\D.ct σ' H'
 |.ret u=>∃v σ' H',aA X ai σ' H' s'/\aU v u/\D.rt v H'
noncomputable def PE (X:Cx)(e:Expr)(t:TE):Prop:=
 ∀(ai:List (az×Obj)) (s:ay) (σ:St) (H:Hp) (Q:VK),aA X ai σ H s->t σ H Q->wpAny (model X.prog X.w) X.A (eval e X.env) (EP X ai σ Q) X.xe s
noncomputable def PT (X:Cx)(e:Expr)(t:TT):Prop:=
 ∀(ai:List (az×Obj)) (s:ay) (σ:St) (H:Hp) (Q:Bool->Hp->Prop),aA X ai σ H s->t σ H Q->wpAny (model X.prog X.w) X.A (isTrue e X.env (eval e X.env)) (TP X ai σ Q) X.xe s
noncomputable def PW (X:Cx)(e:Expr)(t:TT):Prop:=
 ∀(whole:Sem ax) (ai:List (az×Obj)) (s:ay) (σ:St) (H:Hp) (Q:Bool->Hp->Prop),aA X ai σ H s->t σ H Q->wpAny (model X.prog X.w) X.A (isTrue e X.env whole) (TP X ai σ Q) X.xe s
theorem PW.pt {X:Cx}{e:Expr}{t:TT}(h:PW X e t):PT X e t:=h _
noncomputable def PA (X:Cx)(es:List Expr)(t:TA):Prop:=
 ∀(pos:Pos) (ai:List (az×Obj)) (s:ay) (σ:St) (H:Hp) (Q:List V->Hp->Prop),aA X ai σ H s->t σ H Q->wpAny (model X.prog X.w) X.A (spliced (backTo pos (starEach es X.env))) (AP X ai σ Q) X.xe s
noncomputable def PS (X:Cx)(st:Stmt)(t:TS):Prop:=
 ∀(ai:List (az×Obj)) (s:ay) (σ:St) (H:Hp) (D:dX),aA X ai σ H s->t D σ H->wpAny (model X.prog X.w) X.A (exec st X.env) (SP X ai D) X.xe s
noncomputable def dE (X:Cx)(st:List Stmt)(t:TS):Prop:=
 ∀(ai:List (az×Obj)) (s:ay) (σ:St) (H:Hp) (D:dX),aA X ai σ H s->t D σ H->wpAny (model X.prog X.w) X.A (execs st X.env) (SP X ai D) X.xe s
theorem aO {α:Type}{t:Sem α}{Q Q':α->ay->Prop}{M:Model}{A:bc}{E:ax->ay->Prop}{s:ay}(h:wpAny M A t Q E s)(hQ:∀a s,Q a s->Q' a s):wpAny M A t Q' E s:=bj6 h hQ λ_ _ x=>x
section
variable {X:Cx}
theorem bin {a b:Expr}{ta tb:TE}(ha:PE X a ta)(hb:PE X b tb){ai:List (az×Obj)}{s:ay}{σ:St}{H:Hp}{R:V->V->Hp->Prop}(I:aA X ai σ H s)(h:ta σ H λx H1=>tb σ H1 λy H2=>R x y H2){α:Type}{Q:α->ay->Prop}{f:ax->ax->Sem α}(hf:∀v u s2 x y H2,aA X ai σ H2 s2->aU x v->aU y u->R x y H2->wpAny (model X.prog X.w) X.A (f v u) Q X.xe s2) :
  wpAny (model X.prog X.w) X.A (eval a X.env) (λv s₁=>wpAny (model X.prog X.w) X.A (eval b X.env) (λu s₂=>wpAny (model X.prog X.w) X.A (f v u) Q X.xe s₂) X.xe s₁) X.xe s:=by
 refine aO (ha ai s σ H _ I h) λv s1 ⟨x,H1,I1,r1,q1⟩=>?_
 refine aO (hb ai s1 σ H1 _ I1 q1) λu s2 ⟨y,H2,I2,r2,q2⟩=>?_
 exact hf v u s2 x y H2 I2 r1 r2 q2
noncomputable def d5 (i:Nat):TE:=λσ H Q=>∃v,σ[i]? = some (some v)/\Q v H
noncomputable def tC (v:V):TE:=λ_ H Q=>Q v H
theorem iI {i:Nat}{x:Str}{pos:Pos}(hN:X.N[i]? = some x)(hv:dY X.env.scope x)(hd:(x==("__debug__":Str))=false:=by decide)(hcd:(x==("__classdict__":Str))=false:=by decide):PE X (.Name x pos) (d5 i):=by
 intro ai s σ H Q I h
 obtain⟨v,e,h⟩:=h
 obtain⟨m,hn,hl⟩:=I.loc
 obtain⟨u,r,l⟩:=hl i x v hN e hv
 have fin:EP X ai σ Q u s:=⟨v,H,I,r,h⟩;rcases l with⟨hk,hm⟩|⟨hk,c,hc,hcell⟩
 ·exact wpAny_Name (wpAny_loadName_local I.ok.kind hk hn hm fin) hd
 ·rcases hk with hk|hk
  ·exact wpAny_Name (wpAny_loadName_cell I.ok.kind hk hc hcell fin) hd
  ·exact wpAny_Name (wpAny_loadName_free I.ok.kind hk hc hcell fin hcd) hd
theorem ag6 {i j pos}:PE X (.Constant (.int i) j pos) (tC (.int i)):=λ_ _ _ H _ I h=>wpAny_Constant_int ⟨.int i,H,I.tok _,⟨_,rfl⟩,h⟩
theorem ag7 {b j pos}:PE X (.Constant (.bool b) j pos) (tC (.bl b)):=λ_ _ _ H _ I h=>Constant_bool ⟨.bl b,H,I,rfl,h⟩
theorem ag8 {x j pos}:PE X (.Constant (.str x) j pos) (tC (.str x)):=λ_ _ _ H _ I h=>Calls.Constant_str ⟨.str x,H,I.tok _,⟨_,rfl⟩,h⟩
noncomputable def Gl (X:Cx)(x:Str):Prop:=X.env.kindOf x=some .globalImplicit
theorem lU {E:ax->ay->Prop}{ai:List (az×Obj)}{s:ay}{σ:St}{H:Hp}{x:Str}{u:ax}{pos:Pos}{Q:ax->ay->Prop}(I:aA X ai σ H s)(hg:Gl X x)(hm:X.mg x=some u)(h:Q u s)(hd:(x==("__debug__":Str))=false:=by decide):wpAny (model X.prog X.w) X.A (eval (.Name x pos) X.env) Q E s:=
 Calls.Name_function_global I.ok.kind hg (Calls.loadGlobal_global (by rw[I.ok.glob];exact I.mod.glob.keeps I.bk) hm h) hd
theorem lV {E:ax->ay->Prop}{ai:List (az×Obj)}{s:ay}{σ:St}{H:Hp}{x:Str}{u:ax}{pos:Pos}{Q:ax->ay->Prop}(I:aA X ai σ H s)(hg:Gl X x)(hm:X.mg x=none)(hv:bootBuiltins x=some u)(h:Q u s)(hn:x≠"__name__":=by decide)(hd:(x==("__debug__":Str))=false:=by decide):wpAny (model X.prog X.w) X.A (eval (.Name x pos) X.env) Q E s:=by
 obtain⟨mb,h1,h2⟩:=I.mod.blt
 exact Calls.Name_function_global I.ok.kind hg (Calls.loadGlobal_builtin (by rw[I.ok.glob];exact I.mod.glob.keeps I.bk) hm (by rw[I.ok.blt];exact h1.keeps I.bk) ((h2 x hn).trans hv) h) hd
theorem ag9 {x:Str}{v:V}{u:ax}{pos:Pos}(hg:Gl X x)(hm:X.mg x=some u)(r:aU v u)(hd:(x==("__debug__":Str))=false:=by decide):PE X (.Name x pos) (tC v):=
 λ_ _ _ H _ I h=>lU I hg hm ⟨v,H,I,r,h⟩ hd
theorem ah0 {x:Str}{v:V}{u:ax}{pos:Pos}(hg:Gl X x)(hm:X.mg x=none)(hv:bootBuiltins x=some u)(r:aU v u)(hn:x≠"__name__":=by decide)(hd:(x==("__debug__":Str))=false:=by decide):PE X (.Name x pos) (tC v):=
 λ_ _ _ H _ I h=>lV I hg hm hv ⟨v,H,I,r,h⟩ hn hd
variable {a b:Expr}{ta tb:TE}{pos:Pos}
noncomputable def PC (X:Cx)(op:CmpOp)(a b:Expr)(t:TE):Prop:=
 ∀(ai:List (az×Obj)) (s:ay) (σ:St) (H:Hp) (Q:VK),aA X ai σ H s->t σ H Q->
  wpAny (model X.prog X.w) X.A (eval a X.env) (λv s₁=>wpAny (model X.prog X.w) X.A (eval b X.env) (λu s₂=>wpAny (model X.prog X.w) X.A (compareOp op v u) (EP X ai σ Q) X.xe s₂) X.xe s₁) X.xe s
noncomputable def tB (t:TE):TT:=λσ H Q=>t σ H λx H1=>∃c,x = .bl c/\Q c H1
theorem yY {op:CmpOp}{t:TE}(h:PC X op a b t)(h1:behindInMarks op b=false:=by first|exact nobehind _ (by decide) (by decide)|rfl):PT X (.Compare a [op] [b] pos) (tB t):=by
 intro ai s σ H Q I hw;refine wpAny_isTrue_Compare1 (aO (h ai s σ H _ I hw) λv s1 h1=>aO h1 λu s2 h2=>aO h2 λc s3 ⟨x,H1,I1,r1,q1⟩=>?_) h1
 obtain⟨d,rfl,q⟩:=q1
 cases r1;exact bn5 ⟨H1,I1,q⟩
theorem ah1 {e:Expr}{t:TE}(h:PE X e t)(he:∀whole,isTrue e X.env whole=(do let v <- whole;standAt e.pos;holding [v] (truthy v)):=by intro _;rfl):PT X e (tB t):=by
 intro ai s σ H Q I hw;refine isTrue_plain (aO (h ai s σ H _ I hw) λv s1 ⟨x,H1,I1,r1,q1⟩=>?_) (he _)
 obtain⟨d,rfl,q⟩:=q1
 cases r1;exact bn5 ⟨H1,I1,q⟩
variable {tA tB':TT}{rest:List Expr}
noncomputable def yZ (t u:TT):TT:=λσ H Q=>t σ H λc H1=>if c=true then u σ H1 Q else Q false H1
noncomputable def z0 (t u:TT):TT:=λσ H Q=>t σ H λc H1=>if c=true then Q true H1 else u σ H1 Q
noncomputable def z9 (t:TT):TT:=λσ H Q=>t σ H λc H1=>Q (!c) H1
theorem ah2 (ha:PT X a tA):PW X (.BoolOp .And [a] pos) tA:=by
 intro wh ai s σ H Q I h;refine isTrue_and (aO (ha ai s σ H Q I h) λc s1 e=>?_);cases c with
 |true=>exact isTrue_and_nil e
 |false=>exact e
theorem ah3 (ha:PT X a tA):PW X (.BoolOp .Or [a] pos) tA:=by
 intro wh ai s σ H Q I h;refine isTrue_or (aO (ha ai s σ H Q I h) λc s1 e=>?_);cases c with
 |false=>exact isTrue_or_nil e
 |true=>exact e
theorem ah4 (ha:PT X a tA)(hb:PW X (.BoolOp .And (b::rest) pos) tB'):PW X (.BoolOp .And (a::b::rest) pos) (yZ tA tB'):=by
 intro wh ai s σ H Q I h;refine isTrue_and (aO (ha ai s σ H _ I h) λc s1 ⟨H1,I1,q1⟩=>?_);cases c with
 |true=>exact hb wh ai s1 σ H1 Q I1 q1
 |false=>exact⟨H1,I1,q1⟩
theorem ah5 (ha:PT X a tA)(hb:PW X (.BoolOp .Or (b::rest) pos) tB'):PW X (.BoolOp .Or (a::b::rest) pos) (z0 tA tB'):=by
 intro wh ai s σ H Q I h;refine isTrue_or (aO (ha ai s σ H _ I h) λc s1 ⟨H1,I1,q1⟩=>?_);cases c with
 |true=>exact⟨H1,I1,q1⟩
 |false=>exact hb wh ai s1 σ H1 Q I1 q1
theorem ah6 (ha:PT X a tA):PT X (.UnaryOp .Not a pos) (z9 tA):=by
 intro ai s σ H Q I h;exact isTrue_not (ha ai s σ H (λc H1=>Q (!c) H1) I h)
noncomputable def zA (ta tb:TE):TE:=λσ H Q=>ta σ H λx H1=>∃c,x = .bl c/\if c=true then tb σ H1 Q else Q (.bl false) H1
noncomputable def zB (ta:TE):TE:=λσ H Q=>ta σ H λx H1=>∃c,x = .bl c/\Q (.bl (!c)) H1
theorem ah7 {op}{t:TE}(h:PE X a t):PE X (.BoolOp op [a] pos) t:=λai s σ H Q I hw=>BoolOp_one (h ai s σ H Q I hw)
theorem ah8 (ha:PE X a ta)(hb:PE X (.BoolOp .And (b::rest) pos) tb):PE X (.BoolOp .And (a::b::rest) pos) (zA ta tb):=by
 intro ai s σ H Q I h;refine BoolOp_and (aO (ha ai s σ H _ I h) λv s1 ⟨x,H1,I1,r1,q1⟩=>?_)
 obtain⟨c,rfl,q1⟩:=q1
 cases r1;refine bn5 ?_;cases c with
 |true=>exact hb ai s1 σ H1 Q I1 q1
 |false=>exact⟨.bl false,H1,I1,rfl,q1⟩
theorem ah9 (ha:PE X a ta):PE X (.UnaryOp .Not a pos) (zB ta):=by
 intro ai s σ H Q I h;refine UnaryOp_ (aO (ha ai s σ H _ I h) λv s1 ⟨x,H1,I1,r1,q1⟩=>?_)
 obtain⟨c,rfl,q1⟩:=q1
 cases r1;exact not_of (bn5 ⟨.bl (!c),H1,I1,rfl,q1⟩)
end
noncomputable def aZ (K:ad)(H:Hp)(a:az)(xs:List V):Prop:=
 Rd H a (.lst xs) ∨
  ∃(o:Obj) (its:Array ax) (n:Nat),K.lookup a=some o/\o.cls = .type "list"/\o.dict=none/\o.data = .seq its n/\its.size<=sizeLine/\aN xs its.toList
noncomputable def aR (K:ad)(H:Hp)(a:az)(xs:List V):Prop:=
 Rd H a (.tup xs) ∨
  ∃(o:Obj) (its:Array ax) (n:Nat),K.lookup a=some o/\o.cls = .type "tuple"/\o.data = .seq its n/\its.size<=sizeLine/\aN xs its.toList
noncomputable def ai0:ax->Option V
 |.none=>some .non
 |.bool b=>some (.bl b)
 |.int i _=>some (.int i)
 |.str x _=>some (.str x)
 |.bytes b _=>some (.byt b)
 |.float b _=>some (.flt b)
 |.ref a=>some (.ref a)
 |.type n=>some (.ty n)
 |_=>none
theorem aU.abs {x:V}{u:ax}(r:aU x u):ai0 u=some x:=by
 cases x with
 |non=>cases r;rfl
 |bl _=>cases r;rfl
 |int _=>obtain⟨t,rfl⟩:=r;rfl
 |str _=>obtain⟨t,rfl⟩:=r;rfl
 |byt _=>obtain⟨t,rfl⟩:=r;rfl
 |flt _=>obtain⟨t,rfl⟩:=r;rfl
 |ref _=>cases r;rfl
 |ty _=>cases r;rfl
theorem aU.inj {x y:V}{u:ax}(r:aU x u)(q:aU y u):x=y:=bf6 (r.abs.symm.trans q.abs)
theorem aN.inj:∀{xs ys:List V}{us:List ax},aN xs us->aN ys us->xs=ys
 |_,_,_,.nil,.nil=>rfl
 |_,_,_,.cons r t,.cons r' t'=>by rw[r.inj r',aN.inj t t']
section
variable {X:Cx}{ai:List (az×Obj)}{σ:St}{H:Hp}{s:ay}{a:az}{xs ys:List V}
theorem aZ.of {K:ad}(h:H a=some (.lst xs)):aZ K H a xs:=.inl (.inl h)
theorem aR.of {K:ad}(h:H a=some (.tup xs)):aR K H a xs:=.inl (.inl h)
theorem aA.list (I:aA X ai σ H s)(h:aZ X.K H a xs):∃its:List ax,aN xs its/\PlainL s.heap a its.toArray/\xs.length<=sizeLine:=by
 rcases h with h|⟨o,its,n,hk,hc,hd,hs,hz,r⟩
 ·obtain⟨z,its,n,r,e⟩:=h.ok I.hok
  exact⟨its,r,⟨_,n,e,rfl,rfl,rfl⟩,z⟩
 ·refine⟨its.toList,r,⟨o,n,I.kIn a o hk,hc,hd,by simpa using hs⟩,?_⟩
  have e:=r.length;simp only[Array.length_toList]at e;omega
theorem aA.tuple (I:aA X ai σ H s)(h:aR X.K H a xs):∃its:List ax,aN xs its/\IsTup s.heap a its.toArray/\xs.length<=sizeLine:=by
 rcases h with h|⟨o,its,n,hk,hc,hs,hz,r⟩
 ·obtain⟨z,its,r,p,_⟩:=h.ok I.hok
  exact⟨its,r,p,z⟩
 ·refine⟨its.toList,r,⟨o,I.kIn a o hk,hc,n,by simpa using hs⟩,?_⟩
  have e:=r.length;simp only[Array.length_toList]at e;omega
theorem aA.list_inj (I:aA X ai σ H s)(h:aZ X.K H a xs)(h':aZ X.K H a ys):xs=ys:=by
 obtain⟨its,r,⟨o,n,e,_,_,d⟩,_⟩:=I.list h
 obtain⟨its',r',⟨o',n',e',_,_,d'⟩,_⟩:=I.list h'
 rw[e]at e';cases e';rw[d]at d';injection d' with d1 _
 have:its=its':=by simpa using congrArg Array.toList d1
 subst this;exact r.inj r'
theorem aA.tuple_inj (I:aA X ai σ H s)(h:aR X.K H a xs)(h':aR X.K H a ys):xs=ys:=by
 obtain⟨its,r,⟨o,e,_,n,d⟩,_⟩:=I.tuple h
 obtain⟨its',r',⟨o',e',_,n',d'⟩,_⟩:=I.tuple h'
 rw[e]at e';cases e';rw[d]at d';injection d' with d1 _
 have:its=its':=by simpa using congrArg Array.toList d1
 subst this;exact r.inj r'
end
noncomputable abbrev Cx.wish (X:Cx)(E:ax->ay->Prop):Cx:={ X with xe:=E }
noncomputable abbrev Cx.nox (X:Cx):Cx:=X.wish λ_ _=>False
theorem Cx.Ok.wish {X:Cx}(ok:X.Ok)(E:ax->ay->Prop):(X.wish E).Ok:=
 ⟨ok.mod,ok.kind,ok.glob,ok.blt,ok.above,ok.inj,ok.has,ok.cab,ok.hd,ok.frames,ok.stk,ok.exf,ok.bs,ok.bsz,ok.noex,ok.exfs,ok.funs,ok.frf⟩
theorem Cx.Ok.unwish {X:Cx}{E:ax->ay->Prop}(ok:(X.wish E).Ok):X.Ok:=
 ⟨ok.mod,ok.kind,ok.glob,ok.blt,ok.above,ok.inj,ok.has,ok.cab,ok.hd,ok.frames,ok.stk,ok.exf,ok.bs,ok.bsz,ok.noex,ok.exfs,ok.funs,ok.frf⟩
section
variable {X:Cx}{ai:List (az×Obj)}{σ:St}{H:Hp}{s:ay}{E:ax→ay→Prop}
theorem aA.wish (I:aA X ai σ H s)(E:ax->ay->Prop):aA (X.wish E) ai σ H s:=⟨I.ok.wish E,I.os,I.bare,I.base,I.loc,I.cell,I.free,I.freeC,I.pin,I.hok,I.len⟩
theorem aA.unwish (I:aA (X.wish E) ai σ H s):aA X ai σ H s:=⟨I.ok.unwish,I.os,I.bare,I.base,I.loc,I.cell,I.free,I.freeC,I.pin,I.hok,I.len⟩
theorem SP.unwish {D:dX}{f:Flow}{s':ay}(h:SP (X.wish E) ai D f s'):SP X ai D f s':=by
 cases f with
 |next=>obtain⟨σ',H',I,q⟩:=h;exact⟨σ',H',I.unwish,q⟩
 |brk=>obtain⟨σ',H',I,q⟩:=h;exact⟨σ',H',I.unwish,q⟩
 |cont=>obtain⟨σ',H',I,q⟩:=h;exact⟨σ',H',I.unwish,q⟩
 |ret u=>obtain⟨v,σ',H',I,r,q⟩:=h;exact⟨v,σ',H',I.unwish,r,q⟩
theorem dE.nox {st:List Stmt}{t:TS}(h:dE X.nox st t):dE X st t:=λai s σ H D I hw=>
 bj6 (h ai s σ H D (I.wish _) hw) (λ_ _ q=>q.unwish) λ_ _ z=>False.elim z
end
section
variable {X:Cx}{st:Stmt}{rest:List Stmt}{t u:TS}{e:Expr}{te:TE}{pos:Pos}
noncomputable def zC:TS:=λD σ H=>D.nx σ H
noncomputable def zD (t u:TS):TS:=λD σ H=>t { D with nx:=u D } σ H
theorem ai1:dE X [] zC:=λ_ _ σ H _ I h=>wpAny_execs_nil ⟨σ,H,I,h⟩
theorem ai2 (h1:PS X st t)(h2:dE X rest u):dE X (st::rest) (zD t u):=by
 intro ai s σ H D I h;refine wpAny_execs_cons (aO (h1 ai s σ H { D with nx:=u D } I h) λf s1 q=>?_);cases f with
 |next=>
  obtain⟨σ',H',I',q⟩:=q
  exact h2 ai s1 σ' H' D I' q
 |ret v=>exact q
 |brk=>exact q
 |cont=>exact q
theorem dL (h1:PS X st t):dE X [st] t:=by
 intro ai s σ H D I h;refine wpAny_execs_cons (aO (h1 ai s σ H D I h) λf s1 q=>?_);cases f with
 |next=>exact wpAny_execs_nil q
 |ret v=>exact q
 |brk=>exact q
 |cont=>exact q
theorem aA.quiet {ai:List (az×Obj)}{σ:St}{H:Hp}{s:ay}(I:aA X ai σ H s):interactive X.env=false:=by simp[interactive,I.ok.kind]
noncomputable def o5 (te:TE):TS:=λD σ H=>te σ H λ_ H1=>D.nx σ H1
theorem pY (he:PE X e te)(hs:swapsWith e none pos.line X.env=pure false:=by rfl):PS X (.Expr e pos) (o5 te):=by
 intro ai s σ H D I h;exact wpAny_Expr_any (aO (he ai s σ H _ I h) λv s1 ⟨x,H1,I1,r1,q1⟩=>⟨σ,H1,I1,q1⟩) I.quiet hs
noncomputable def tI (te:TE):TS:=λD σ H=>te σ H D.rt
theorem zE (he:PE X e te):PS X (.Return (some e) pos) (tI te):=by
 intro ai s σ H D I h;exact wpAny_Return_some (aO (he ai s σ H _ I h) λv s1 ⟨x,H1,I1,r1,q1⟩=>⟨x,σ,H1,I1,r1,q1⟩)
noncomputable def pZ (c:TT)(t u:TS):TS:=λD σ H=>c σ H λb H1=>if b=true then t D σ H1 else u D σ H1
theorem kE {c:Expr}{a b:List Stmt}{tc:TT}(hc:PT X c tc)(ha:dE X a t)(hb:dE X b u):PS X (.If c a b pos) (pZ tc t u):=by
 intro ai s σ H D I h;refine wpAny_If (aO (hc ai s σ H _ I h) λd s1 ⟨H1,I1,q1⟩=>?_);cases d with
 |true=>exact ha ai s1 σ H1 D I1 q1
 |false=>exact hb ai s1 σ H1 D I1 q1
end
noncomputable abbrev TG:=V->St->Hp->(St->Hp->Prop)->Prop
noncomputable abbrev kG:=List V->St->Hp->(St->Hp->Prop)->Prop
noncomputable def PG (X:Cx)(target:Expr)(t:TG):Prop:=
 ∀(ai:List (az×Obj)) (s:ay) (σ:St) (H:Hp) (v:V) (u:ax) (Q:St->Hp->Prop),aA X ai σ H s->aU v u->t v σ H Q->
  wpAny (model X.prog X.w) X.A (assign target X.env u) (λ_ s'=>∃σ' H',aA X ai σ' H' s'/\Q σ' H') X.xe s
noncomputable def qA (X:Cx)(ts:List Expr)(t:kG):Prop:=
 ∀(ai:List (az×Obj)) (s:ay) (σ:St) (H:Hp) (vs:List V) (us:List ax) (Q:St->Hp->Prop),aA X ai σ H s->aN vs us->t vs σ H Q->
  wpAny (model X.prog X.w) X.A (assignInOrder ((assignEach ts X.env).map (·.2)) us) (λ_ s'=>∃σ' H',aA X ai σ' H' s'/\Q σ' H') X.xe s
section
variable {X:Cx}{pos:Pos}
noncomputable def dM (i:Nat):TG:=λv σ H Q=>Q (σ.set i (some v)) H
theorem lW {i:Nat}{x:Str}(hN:X.N.Nodup)(hi:X.N[i]? = some x)(hx:gR X.env.scope x)(hf:X.fn x=true∨X.env.scope.names.lookup x=some .local:=by first|exact .inl rfl|exact .inr rfl|assumption):PG X (.Name x pos) (dM i):=by
 intro ai s σ H v u Q I r h;exact wpAny_assign_Name (yX I hN hi hx r (λs' I'=>⟨_,H,I',h⟩) hf)
noncomputable def qB:kG:=λvs σ H Q=>vs = []/\Q σ H
noncomputable def kH (t:TG)(u:kG):kG:=λvs σ H Q=>∃v r,vs=v::r/\t v σ H λσ' H'=>u r σ' H' Q
theorem zF:qA X [] qB:=by
 intro ai s σ H vs us Q I r h
 obtain⟨e,h⟩:=h
 subst e;cases r;exact assignInOrder_nil ⟨σ,H,I,h⟩
theorem qD {e:Expr}{es:List Expr}{t:TG}{u:kG}(h1:PG X e t)(h2:qA X es u)(hs:(assignEach (e::es) X.env).map (·.2)=assign e X.env::(assignEach es X.env).map (·.2):=by rfl):qA X (e::es) (kH t u):=by
 intro ai s σ H vs us Q I r h
 obtain⟨v,vr,e1,h⟩:=h
 subst e1;cases r with
 |cons r rr=>
  rw[hs];refine assignInOrder_cons (aO (h1 ai s σ H _ _ _ I r h) λ_ s1 ⟨σ1,H1,I1,q1⟩=>?_);exact h2 ai s1 σ1 H1 _ _ Q I1 rr q1
noncomputable def qE (K:ad)(n:Nat)(t:kG):TG:=λv σ H Q=>∃a xs,v = .ref a/\aR K H a xs/\xs.length=n/\t xs σ H Q
theorem zG {es:List Expr}{k:Nat}{t:kG}{n:Nat}(hc:X.calm=true)(h:qA X es t)(hn:(assignEach es X.env).length=n:=by rfl)(hst:(assignEach es X.env).findIdx? (·.1)=none:=by rfl):PG X (.Tuple es k pos) (qE X.K n t):=by
 intro ai s σ H v u Q I r hw
 obtain⟨a,xs,e1,hq,hl,hw⟩:=hw
 subst e1;cases r
 obtain⟨its,rv,ht,hz⟩:=I.tuple hq
 refine assign_Tuple_tuple (I.ok.hd hc) ht (by simp[hn,<- hl,rv.length]) hst λh' hx=>?_
 have I1:aA X ai σ H { s with heap:=h' }:=I.kept (t':=s.toks) λb o e=>hx b o (bg7 (be7 e)) e
 exact h ai _ σ H xs _ Q I1 (by simpa using rv) hw
noncomputable def kI (te:TE)(g:TG):TS:=λD σ H=>te σ H λx H1=>g x σ H1 D.nx
theorem o6 {i:Nat}{x:Str}{e:Expr}{te:TE}{pos':Pos}(hN:X.N.Nodup)(hi:X.N[i]? = some x)(hx:gR X.env.scope x)(he:PE X e te)(hs:swapsWith e (some (.Name x pos')) pos.line X.env=pure false:=by rfl)(hf:X.fn x=true∨X.env.scope.names.lookup x=some .local:=by first|exact .inl rfl|exact .inr rfl|assumption) :
  PS X (.Assign [.Name x pos'] e pos) (kI te (dM i)):=by
 intro ai s σ H D I h;refine wpAny_Assign_Name (aO (he ai s σ H _ I h) λv s1 ⟨y,H1,I1,r1,q1⟩=>?_) hs;exact yX I1 hN hi hx r1 (λs2 I2=>⟨_,H1,I2,q1⟩) hf
end
section
variable {X:Cx}{pos:Pos}
noncomputable def zH (c:TT)(tb:TS):TS:=λD σ H=>∃W:Nat->St->Hp->Prop,(∃m,W m σ H)/\∀m σ H,W m σ H->
 c σ H λb H1=>if b=true then ∃N:St->Hp->Prop,(∀σ' H',N σ' H'->∃m',m'<m/\W m' σ' H')/\tb { D with nx:=N,ct:=N,bk:=D.nx } σ H1 else D.nx σ H1
theorem ai3 {c:Expr}{body:List Stmt}{tc:TT}{tb:TS}(hp:PassesOwn (model X.prog X.w) X.A X.env X.xe)(hc:PT X c tc)(hb:dE X body tb):PS X (.While c body [] pos) (zH tc tb):=by
 intro ai s σ H D I h
 obtain⟨W,⟨m0,w0⟩,turn⟩:=h
 refine wpAny_While (codeAny_whileLoop (λn s'=>∃σ' H',aA X ai σ' H' s'/\W n σ' H') ?_ m0 ⟨σ,H,I,w0⟩);rintro n s1 ⟨σ1,H1,I1,w1⟩;refine bp9 hp (aO (hc ai s1 σ1 H1 _ I1 (turn n σ1 H1 w1)) λb s2 ⟨H2,I2,q2⟩=>?_);cases b with
 |true=>
  obtain⟨N,hN,q2⟩:=q2
  rw[if_pos rfl];refine bp9 hp (aO (hb ai s2 σ1 H2 _ I2 q2) λf s3 q3=>?_);cases f with
  |next=>
   obtain⟨σ3,H3,I3,n3⟩:=q3
   obtain⟨m',hm,w3⟩:=hN σ3 H3 n3
   exact⟨m',hm,σ3,H3,I3,w3⟩
  |cont=>
   obtain⟨σ3,H3,I3,n3⟩:=q3
   obtain⟨m',hm,w3⟩:=hN σ3 H3 n3
   exact⟨m',hm,σ3,H3,I3,w3⟩
  |brk=>exact q3
  |ret v=>exact q3
 |false=>
  rw[if_neg be9];exact wpAny_execs_nil ⟨σ1,H2,I2,q2⟩
end
structure It where
 go:Nat->Hp->Prop
 yld:Nat->Hp->V->Hp->Prop
 stop:Nat->Hp->Prop
noncomputable def fY (X:Cx)(ai:List (az×Obj))(H:Hp)(b:az):Prop:=
 H b=none/\b≠X.env.locals/\b∉X.fs/\(b∈X.ex∨X.s₀.heap.objs.size<=b)/\(∀x c,X.env.cells.lookup x=some c->c≠b)/\∀p∈X.pn++ai,p.1≠b
theorem aA.fpOk {X:Cx}{ai:List (az×Obj)}{σ:St}{H H':Hp}{s:ay}{b:az}(I:aA X ai σ H s)(hb:s.heap.objs.size<=b)(hn:H' b=none):fY X ai H' b:=by
 refine⟨hn,bl6 (be6 I.lt hb),I.nofs hb,.inr (bh2 I.sz hb),λx c e z=>?_,λp hp z=>?_⟩
 ·obtain⟨v,q⟩:=I.cell x c e
  exact absurd (be6 q.lt (by rw[z];exact hb)) (bi7 _)
 ·exact absurd (be6 (be7 (I.pin p hp).1) (by rw[z];exact hb)) (bi7 _)
structure i5 (P:ba)(w:bf)(K:ad)(tg:Expr)(J:It)(fp:List az)(it:az)(tn:Nat->Heap->Prop):Prop where
 mem:it∈fp
 obj:∀i h,tn i h->∀b∈fp,∃o,h.get? b=some o/\∀v,o.data≠.cell v
 keep:∀i h h',tn i h->(∀b∈fp,∀o,h.get? b=some o->h'.get? b=some o)->tn i h'
 item:∀(X:Cx),X.prog=P->X.w=w->X.K=K->X.calm=true->∀(i:Nat) (ai:List (az×Obj)) (s:ay) (σ:St) (H:Hp) (E:ax->ay->Prop),aA X ai σ H s->(∀b∈fp,fY X ai H b)->tn i s.heap->J.go i H->
  wpAny (model P w) X.A (pyNext (.ref it)) (λr s1=>∃u,r=some u/\
   wpAny (model P w) X.A (letOwnedTupleGo tg (.ref it) u) (λ_ s2=>∃x H',aA X ai σ H' s2/\aU x u/\J.yld i H x H'/\tn (i+1) s2.heap/\∀b∈fp,H' b=none) E s1) E s
 done:∀(X:Cx),X.prog=P->X.w=w->X.K=K->X.calm=true->∀(i:Nat) (ai:List (az×Obj)) (s:ay) (σ:St) (H:Hp) (E:ax->ay->Prop),aA X ai σ H s->(∀b∈fp,fY X ai H b)->tn i s.heap->J.stop i H->
  wpAny (model P w) X.A (pyNext (.ref it)) (λr s1=>r=none/\aA X ai σ H s1) E s
 self:∀(A:bc) (i:Nat) (s:ay) (Q:ax->ay->Prop) (E:ax->ay->Prop),tn i s.heap->Q (.ref it) s->wpAny (model P w) A (pyIter (.ref it)) Q E s
noncomputable abbrev TI:=St->Hp->(It->Hp->Prop)->Prop
noncomputable def zI (X:Cx)(ai:List (az×Obj))(σ:St)(tg:Expr)(R:It->Hp->Prop)(itv:ax)(s2:ay):Prop:=
 ∃(it:az) (fp:List az) (tn:Nat->Heap->Prop) (J:It) (H':Hp),itv = .ref it/\aA X ai σ H' s2/\i5 X.prog X.w X.K tg J fp it tn/\tn 0 s2.heap/\(∀b∈fp,fY X ai H' b)/\R J H'
noncomputable def PI (X:Cx)(tg iter:Expr)(wi:TI):Prop:=
 ∀(ai:List (az×Obj)) (s:ay) (σ:St) (H:Hp) (R:It->Hp->Prop),aA X ai σ H s->wi σ H R->
  wpAny (model X.prog X.w) X.A (eval iter X.env) (λv s1=>wpAny (model X.prog X.w) X.A (pyIter v) (zI X ai σ tg R) X.xe s1) X.xe s
theorem qF {M:Model}{A:bc}{E:ax->ay->Prop}{s:ay}{tg:Expr}{it:az}{u:ax}{o:Obj}{n:String}{vs:Array ax}{Q:Unit->ay->Prop}(ho:s.heap.get? it=some o)(hc:o.cls = .type n)(hd:o.data = .fields vs)(hn:["enumerate","zip","dict_itemiterator","dict_reverseitemiterator","odict_iterator","itertools.zip_longest","itertools.pairwise"].contains n=false)(hQ:Q () s):wpAny M A (letOwnedTupleGo tg (.ref it) u) Q E s:=by
  unfold letOwnedTupleGo;cases tg<;>first
    |exact bd6 hQ
    |(cases u<;>first
        |exact bd6 hQ
        | (refine bd2 (wpAny_load ho ?_)
           rw[hc,hd];show wpAny M A (if (["enumerate","zip","dict_itemiterator","dict_reverseitemiterator","odict_iterator","itertools.zip_longest","itertools.pairwise"].contains n&&vs[0]?==some (rawInt _))=true then _ else _) Q E s;rw[if_neg (by intro h;rw[hn,Bool.false_and]at h;cases h)]
           exact bd6 hQ))
noncomputable def tJ (K:ad)(a:az):It:=
 ⟨λi H=>∃xs x,aZ K H a xs/\xs[i]? = some x,λi H x H'=>H'=H/\∀xs,aZ K H a xs->xs[i]? = some x,λi H=>∃xs,aZ K H a xs/\xs.length<=i⟩
noncomputable def tK (K:ad)(a:az):It:=
 ⟨λi H=>∃xs x,aR K H a xs/\xs[i]? = some x,λi H x H'=>H'=H/\∀xs,aR K H a xs->xs[i]? = some x,λi H=>∃xs,aR K H a xs/\xs.length<=i⟩
noncomputable def qG (lo:Int)(n:Nat):It:=⟨λi _=>i<n,λi H x H'=>H'=H/\x = .int (lo+i),λi _=>n<=i⟩
theorem ai4 {P:ba}{w:bf}{K:ad}{tg:Expr}(a it:az):i5 P w K tg (tJ K a) [it] it (λi h=>h.IsListIter it a i) where
 mem:=by simp
 obj:=λi h st b hb=>by
  have e:b=it:=by simpa using hb
  subst e
  obtain⟨o,e,c,d⟩:=st
  exact⟨o,e,λv z=>by rw[d]at z;cases z⟩
 keep:=λi h h' st k=>st.at λo e=>k it (by simp) o e
 item:=by
  intro X hP hw hK hc i ai s σ H E I hf st hg;subst hP hw hK
  obtain⟨xs,x,hq,hx⟩:=hg
  obtain⟨its,rv,p,hz⟩:=I.list hq
  obtain⟨u,hu,ru⟩:=rv.get hx
  obtain⟨f0,f1,f2,f3,f4,f5⟩:=hf it (by simp)
  refine wpAny_pyNext_list_item st p.isList (x:=u) (by simpa using hu) λh' st' sb=>?_
  have I1:aA X ai σ H { s with heap:=h' }:=I.turned (t':=s.toks) (λb o hb e=>(sb.2 b hb).trans e) f0 f1 f3 f4 f5
  obtain⟨o,e,c,d⟩:=id st'
  exact⟨u,rfl,qF (s:={ s with heap:=h' }) e c d (by decide) ⟨x,H,I1,ru,⟨rfl,λys hy=>by rw[I.list_inj hy hq];exact hx⟩,st',λb hb=>(hf b hb).1⟩⟩
 done:=by
  intro X hP hw hK hc i ai s σ H E I hf st hg;subst hP hw hK
  obtain⟨xs,hq,hx⟩:=hg
  obtain⟨its,rv,p,hz⟩:=I.list hq
  obtain⟨f0,f1,f2,f3,f4,f5⟩:=hf it (by simp)
  have hl:=rv.length;exact wpAny_pyNext_list_end (I.ok.hd hc) st p.isList (by simp;omega) λh' eb=>⟨rfl,I.turned (t':=s.toks) (λb o hb e=>eb b o hb e) f0 f1 f3 f4 f5⟩
 self:=λ_ _ _ _ _ st h=>wpAny_pyIter_listiter st h
theorem ai5 {P:ba}{w:bf}{K:ad}{tg:Expr}(a it:az):i5 P w K tg (tK K a) [it] it (λi h=>h.IsTupleIter it a i) where
 mem:=by simp
 obj:=λi h st b hb=>by
  have e:b=it:=by simpa using hb
  subst e
  obtain⟨o,e,c,d⟩:=st
  exact⟨o,e,λv z=>by rw[d]at z;cases z⟩
 keep:=λi h h' st k=>st.at λo e=>k it (by simp) o e
 item:=by
  intro X hP hw hK hc i ai s σ H E I hf st hg;subst hP hw hK
  obtain⟨xs,x,hq,hx⟩:=hg
  obtain⟨its,rv,p,hz⟩:=I.tuple hq
  obtain⟨u,hu,ru⟩:=rv.get hx
  obtain⟨f0,f1,f2,f3,f4,f5⟩:=hf it (by simp)
  refine wpAny_pyNext_tuple_item st (show s.heap.IsTuple a its.toArray from p) (x:=u) (by simpa using hu) λh' st' sb=>?_
  have I1:aA X ai σ H { s with heap:=h' }:=I.turned (t':=s.toks) (λb o hb e=>(sb.2 b hb).trans e) f0 f1 f3 f4 f5
  obtain⟨o,e,c,d⟩:=id st'
  exact⟨u,rfl,qF (s:={ s with heap:=h' }) e c d (by decide) ⟨x,H,I1,ru,⟨rfl,λys hy=>by rw[I.tuple_inj hy hq];exact hx⟩,st',λb hb=>(hf b hb).1⟩⟩
 done:=by
  intro X hP hw hK hc i ai s σ H E I hf st hg;subst hP hw hK
  obtain⟨xs,hq,hx⟩:=hg
  obtain⟨its,rv,p,hz⟩:=I.tuple hq
  obtain⟨f0,f1,f2,f3,f4,f5⟩:=hf it (by simp)
  have hl:=rv.length;exact wpAny_pyNext_tuple_end (I.ok.hd hc) st (show s.heap.IsTuple a its.toArray from p) (by simp;omega) λh' eb=>⟨rfl,I.turned (t':=s.toks) (λb o hb e=>eb b o hb e) f0 f1 f3 f4 f5⟩
 self:=λ_ _ _ _ _ st h=>wpAny_pyIter_tupleiter st h
theorem ai6 {P:ba}{w:bf}{K:ad}{tg:Expr}(it:az)(lo:Int)(n:Nat):i5 P w K tg (qG lo n) [it] it (λi h=>IsRangeIter h it (lo+(i:Nat)*1) ((n:Int)-(i:Nat)) 1) where
 mem:=by simp
 obj:=λi h st b hb=>by
  have e:b=it:=by simpa using hb
  subst e
  exact⟨_,st,λv z=>by
   have z':Data.fields _=Data.cell v:=z
   cases z'⟩
 keep:=λi h h' st k=>k it (by simp) _ st
 item:=by
  intro X hP hw hK hc i ai s σ H E I hf st hg;subst hP hw hK
  obtain⟨f0,f1,f2,f3,f4,f5⟩:=hf it (by simp)
  have W:=Walks.range (prog:=X.prog) (w:=X.w) (I.ok.hd hc) it lo 1 n;refine W.item i s _ _ hg st λv h' tk hv st' kk=>?_
  obtain⟨t,rfl⟩:=hv
  have I1:aA X ai σ H { s with heap:=h',toks:=tk }:=I.turned (λb o hb e=>kk b o (by simpa using hb) e) f0 f1 f3 f4 f5;refine⟨_,rfl,qF (s:={ s with heap:=h',toks:=tk }) (n:="range_iterator") st' rfl rfl (by decide) ⟨.int (lo+i),H,I1,⟨t,?_⟩,⟨rfl,rfl⟩,st',λb hb=>(hf b hb).1⟩⟩;rw[Int.mul_one]
 done:=by
  intro X hP hw hK hc i ai s σ H E I hf st hg;subst hP hw hK
  obtain⟨f0,f1,f2,f3,f4,f5⟩:=hf it (by simp)
  exact wpAny_pyNext_range_end (I.ok.hd hc) st (by have:n<=i:=hg;omega) λh' eb=>⟨rfl,I.turned (t':=s.toks) (λb o hb e=>eb b o hb e) f0 f1 f3 f4 f5⟩
 self:=λ_ _ _ _ _ st h=>wpAny_pyIter_rangeiter st h
section
variable {X:Cx}{tg:Expr}
theorem ai7 {ai:List (az×Obj)}{σ:St}{H:Hp}{s:ay}{R:It->Hp->Prop}{E:ax->ay->Prop}{lo hi:Int}{t u v:Tok}{tk:Nat}(I:aA X ai σ H s)(h1:-(2^62)<=lo)(h2:lo<2^62)(h3:-(2^62)<=hi)(h4:hi<2^62)(q:R (qG lo (hi-lo).toNat) H):wpAny (model X.prog X.w) X.A (pyIter (.ref s.heap.objs.size)) (zI X ai σ tg R) E { s with heap:=s.heap.push { cls:=.type "range",data:=.fields #[.int lo t,.int hi u,.int 1 v] },toks:=tk }:=by
 refine wpAny_pyIter_range (IsRange.new ..) (small_one h1 h2 h3 h4) ?_;have I1:aA X ai σ H { s with heap:=s.heap.push { cls:=.type "range",data:=.fields #[.int lo t,.int hi u,.int 1 v] },toks:=tk }:=I.kept λb o e=>bd3 _ e
 refine⟨(s.heap.push { cls:=.type "range",data:=.fields #[.int lo t,.int hi u,.int 1 v] }).objs.size,[(s.heap.push { cls:=.type "range",data:=.fields #[.int lo t,.int hi u,.int 1 v] }).objs.size],_,_,H,rfl,
  I1.kept (t':=tk) λb o e=>bd3 _ e,ai6 _ lo (hi-lo).toNat,?_,λb hb=>?_,q⟩
 ·have e1:lo+((0:Nat):Int)*1=lo:=by simp
  have e2:(((hi-lo).toNat:Nat):Int)-((0:Nat):Int)=Builtin.Range.rangeSize lo hi 1:=by rw[rangeSize_one];split<;>omega
  show IsRangeIter _ _ (lo+((0:Nat):Int)*1) ((((hi-lo).toNat:Nat):Int)-((0:Nat):Int)) 1;rw[e1,e2];exact bf1 _ rfl
 ·have e:b=(s.heap.push { cls:=.type "range",data:=.fields #[.int lo t,.int hi u,.int 1 v] }).objs.size:=by simpa using hb
  subst e;exact I1.fpOk (be2 _) (I1.hok.fresh (be2 _))
noncomputable def zJ (ta:TA):TI:=λσ H R=>ta σ H λvs H1=>∃j:Int,vs = [.int j]/\-(2^62)<=j/\j<2^62/\R (qG 0 j.toNat) H1
theorem ai8 {a:Expr}{ta:TA}{p pos:Pos}(hg:Gl X "range")(hm:X.mg "range" = none)(ha:PA X [a] ta)(hs:starEach [a] X.env = [(false,eval a X.env)]:=by rfl):PI X tg (.Call (.Name "range" p) [a] [] pos) (zJ ta):=by
 intro ai s σ H R I h;refine Call_ (lV I hg hm boot_range (bp1 (aO (ha pos ai s σ H _ I h) λus s1 ⟨vs,H1,I1,r1,q1⟩=>?_) hs rfl))
 obtain⟨j,e,q1,q2,q⟩:=q1
 subst e;cases r1 with
 |cons r rr=>
  cases rr
  obtain⟨t,rfl⟩:=r
  exact call_range_1 (ai7 I1 (by omega) (by omega) q1 q2 (by simpa using q))
noncomputable def zK (wi:TI)(g:TG)(tb:TS):TS:=λD σ H=>wi σ H λJ H1=>∃W:Nat->Nat->St->Hp->Prop,(∃m,W 0 m σ H1)/\∀i m σ H,W i m σ H->
 (J.stop i H/\D.nx σ H)∨(J.go i H/\∃N:St->Hp->Prop,(∀σ' H',N σ' H'->∃m',m'<m/\W (i+1) m' σ' H')/\∀x H',J.yld i H x H'->g x σ H' λσ2 H2=>tb { D with nx:=N,ct:=N,bk:=D.nx } σ2 H2)
noncomputable def o7 (fp:List az)(h:Heap):List (az×Obj):=fp.filterMap λb=>(h.get? b).map λo=>(b,o)
theorem qH {fp:List az}{h:Heap}{b:az}{o:Obj}(hb:b∈fp)(e:h.get? b=some o):(b,o)∈o7 fp h:=List.mem_filterMap.mpr ⟨b,hb,by rw[e];rfl⟩
theorem ai9 {fp:List az}{h:Heap}{p:az×Obj}(hp:p∈o7 fp h):p.1∈fp/\h.get? p.1=some p.2:=by
 obtain⟨b,hb,e⟩:=List.mem_filterMap.mp hp
 cases q:h.get? b with
 |none=>rw[q]at e;cases e
 |some o=>
  rw[q]at e;have e':(b,o)=p:=bf6 e;subst e'
  exact⟨hb,q⟩
theorem aA.pinned {ai:List (az×Obj)}{σ:St}{H:Hp}{s:ay}{fp:List az}(I:aA X ai σ H s)(hf:∀b∈fp,fY X ai H b)(ho:∀b∈fp,∃o,s.heap.get? b=some o/\∀v,o.data≠.cell v):aA X (ai++o7 fp s.heap) σ H s:=
 I.pins_of λp hp=>(bi4.mp hp).elim (λz=>I.pin p (bf8 _ z)) λz=>by
  obtain⟨hb,e⟩:=ai9 z
  obtain⟨f0,f1,f2,_⟩:=hf p.1 hb
  obtain⟨o,e',d⟩:=ho p.1 hb
  rw[e]at e';cases e'
  exact⟨e,f0,f1,f2,d⟩
theorem aA.unpinned {ai pl:List (az×Obj)}{σ:St}{H:Hp}{s:ay}(I:aA X (ai++pl) σ H s):aA X ai σ H s:=I.pins_of λp hp=>I.pin p (bf8 _ (bi8 _ hp))
theorem aj0 {iter:Expr}{body:List Stmt}{wi:TI}{g:TG}{tb:TS}{pos:Pos}(hp:PassesOwn (model X.prog X.w) X.A X.env X.xe)(hc:X.calm=true)(hi:PI X tg iter wi)(hg:PG X tg g)(hb:dE X body tb)(hs:∀x,foldedSetIterable iter X.env x=pure x:=by intro _;rfl):PS X (.For tg iter body [] pos) (zK wi g tb):=by
 intro ai s σ H D I h;refine wpAny_For (aO (hi ai s σ H _ I h) λv s1 h1=>aO h1 λitv s2 h2=>?_) hs
 obtain⟨it,fp,tn,J,H2,e,I2,T,st2,f2,W,⟨m0,w0⟩,turn⟩:=h2
 subst e;have stat:∀{H':Hp},(∀b∈fp,H' b=none)->∀b∈fp,fY X ai H' b:=λhn b hb=>⟨hn b hb,(f2 b hb).2⟩
 refine codeAny_forLoop_any (λn s'=>∃i σ' H',aA X ai σ' H' s'/\tn i s'.heap/\(∀b∈fp,H' b=none)/\W i n σ' H') ?_ m0 ⟨0,σ,H2,I2,st2,λb hb=>(f2 b hb).1,w0⟩;rintro n s3 ⟨i,σ3,H3,I3,st3,fr3,w3⟩;rcases turn i n σ3 H3 w3 with⟨stop,qn⟩|⟨go,N,hN,step⟩
 ·refine bp9 hp (aO (T.done X rfl rfl rfl hc i ai s3 σ3 H3 X.xe I3 (stat fr3) st3 stop) λr s4 ⟨hr,I4⟩=>?_)
  subst hr;exact wpAny_execs_nil ⟨σ3,H3,I4,qn⟩
 ·refine bp9 hp (aO (T.item X rfl rfl rfl hc i ai s3 σ3 H3 X.xe I3 (stat fr3) st3 go) λr s4 ⟨u,hr,h4⟩=>?_)
  subst hr;refine bp9 hp (aO h4 λ_ s5 ⟨x,H5,I5,r5,y5,st5,fr5⟩=>?_);have I5':=I5.pinned (stat fr5) (T.obj _ _ st5);refine bp9 hp (aO (hg _ s5 σ3 H5 x u _ I5' r5 (step x H5 y5)) λ_ s6 ⟨σ6,H6,I6,q6⟩=>?_);refine bp9 hp (aO (hb _ s6 σ6 H6 _ I6 q6) λf s7 q7=>?_);have again:∀{σ7:St}{H7:Hp},aA X (ai++o7 fp s5.heap) σ7 H7 s7->N σ7 H7->∃m,m<n/\∃i σ' H',aA X ai σ' H' s7/\tn i s7.heap/\(∀b∈fp,H' b=none)/\W i m σ' H':=λ{σ7 H7} I7 n7=>by
   obtain⟨m',hm,w7⟩:=hN σ7 H7 n7
   refine⟨m',hm,i+1,σ7,H7,I7.unpinned,T.keep _ _ _ st5 λb hb o e=>(I7.pin (b,o) (bf8 _ (bf8 _ (qH hb e)))).1,λb hb=>?_,w7⟩
   obtain⟨o,e,d⟩:=T.obj _ _ st5 b hb
   exact (I7.pin (b,o) (bf8 _ (bf8 _ (qH hb e)))).2.1
  cases f with
  |next=>obtain⟨σ7,H7,I7,n7⟩:=q7;exact again I7 n7
  |cont=>obtain⟨σ7,H7,I7,n7⟩:=q7;exact again I7 n7
  |brk=>obtain⟨σ7,H7,I7,q7⟩:=q7;exact⟨σ7,H7,I7.unpinned,q7⟩
  |ret v=>obtain⟨x7,σ7,H7,I7,r7,q7⟩:=q7;exact⟨x7,σ7,H7,I7.unpinned,r7,q7⟩
end
noncomputable abbrev R2:=V->V->Hp->VK->Prop
noncomputable def cJ (X:Cx)(f:ax->ax->Sem ax)(r:R2):Prop:=
 ∀(ai:List (az×Obj)) (s:ay) (σ:St) (H:Hp) (x y:V) (v u:ax) (Q:VK),aA X ai σ H s->aU x v->aU y u->r x y H Q->
  wpAny (model X.prog X.w) X.A (f v u) (EP X ai σ Q) X.xe s
noncomputable def tL (X:Cx)(f:ax->Sem ax)(r:V->Hp->VK->Prop):Prop:=
 ∀(ai:List (az×Obj)) (s:ay) (σ:St) (H:Hp) (x:V) (v:ax) (Q:VK),aA X ai σ H s->aU x v->r x H Q->
  wpAny (model X.prog X.w) X.A (f v) (EP X ai σ Q) X.xe s
noncomputable def dN (X:Cx)(f:ax)(r:List V->Hp->VK->Prop):Prop:=
 ∀(ai:List (az×Obj)) (s:ay) (σ:St) (H:Hp) (xs:List V) (us:List ax) (Q:VK),aA X ai σ H s->aN xs us->r xs H Q->
  wpAny (model X.prog X.w) X.A (call f us) (EP X ai σ Q) X.xe s
noncomputable def aj1 (X:Cx)(r:V->Hp->(Bool->Hp->Prop)->Prop):Prop:=
 ∀(ai:List (az×Obj)) (s:ay) (σ:St) (H:Hp) (x:V) (v:ax) (Q:Bool->Hp->Prop),aA X ai σ H s->aU x v->r x H Q->
  wpAny (model X.prog X.w) X.A (truthy v) (TP X ai σ Q) X.xe s
noncomputable def o8 (r:R2)(ta tb:TE):TE:=λσ H Q=>ta σ H λx H1=>tb σ H1 λy H2=>r x y H2 Q
noncomputable def tUn (r:V->Hp->VK->Prop)(ta:TE):TE:=λσ H Q=>ta σ H λx H1=>r x H1 Q
noncomputable def rI (C:Int->Int->Prop)(g:Int->Int->V):R2:=λx y H Q=>∃i j,x = .int i/\y = .int j/\C i j/\Q (g i j) H
noncomputable def i6 (g:Int->Int->V):R2:=λx y H Q=>∃i j,x = .int i/\y = .int j/\Q (g i j) H
noncomputable def rU (g:Int->V):V->Hp->VK->Prop:=λx H Q=>∃i,x = .int i/\Q (g i) H
section
variable {X:Cx}{a b c:Expr}{ta tb tc:TE}{pos:Pos}
theorem tM (ha:PE X a ta)(hb:PE X b tb){ai:List (az×Obj)}{s:ay}{σ:St}{H:Hp}{R:V->V->Hp->Prop}(I:aA X ai σ H s)(h:ta σ H λx H1=>tb σ H1 λy H2=>R x y H2){Q:ax->ay->Prop}{f:ax->ax->Sem ax}(hf:∀v u s2 x y H2,aA X ai σ H2 s2->aU x v->aU y u->R x y H2->wpAny (model X.prog X.w) X.A (f v u) Q X.xe s2) :
  wpAny (model X.prog X.w) X.A (eval a X.env) (λv s₁=>wpAny (model X.prog X.w) X.A (eval b X.env) (λu s₂=>wpAny (model X.prog X.w) X.A (f v u) Q X.xe s₂) X.xe s₁) X.xe s:=by
 refine aO (ha ai s σ H _ I h) λv s1 ⟨x,H1,I1,r1,q1⟩=>?_
 refine aO (hb ai s1 σ H1 _ I1 q1) λu s2 ⟨y,H2,I2,r2,q2⟩=>?_
 exact hf v u s2 x y H2 I2 r1 r2 q2
theorem aj2 {op:Operator}{r:R2}(ho:cJ X (binaryOp op) r)(ha:PE X a ta)(hb:PE X b tb):PE X (.BinOp a op b pos) (o8 r ta tb):=by
 intro ai s σ H Q I h;exact wpAny_BinOp (tM ha hb I h λv u s2 x y H2 I2 rx ry q=>ho ai s2 σ H2 x y v u Q I2 rx ry q)
theorem aj3 {op:UnaryOp}{r:V->Hp->VK->Prop}(ho:tL X (unaryOp op) r)(ha:PE X a ta):PE X (.UnaryOp op a pos) (tUn r ta):=by
 intro ai s σ H Q I h;exact UnaryOp_ (aO (ha ai s σ H _ I h) λv s1 ⟨x,H1,I1,r1,q1⟩=>ho ai s1 σ H1 x v Q I1 r1 q1)
theorem o9 {f:ax->ax->Sem ax}{C:Int->Int->Prop}{g:Int->Int->Int}(rule:∀(i j:Int) (t u:Tok) (s:ay) (Q:ax->ay->Prop) (E:ax->ay->Prop),C i j->Q (.int (g i j) s.toks) { s with toks:=s.toks+1 }->wpAny (model X.prog X.w) X.A (f (.int i t) (.int j u)) Q E s) :
  cJ X f (rI C λi j=>.int (g i j)):=by
 intro ai s σ H x y v u Q I rx ry h
 obtain⟨i,j,rfl,rfl,hc,q⟩:=h
 obtain⟨t,rfl⟩:=rx
 obtain⟨t',rfl⟩:=ry
 exact rule i j t t' s _ _ hc ⟨.int (g i j),H,I.tok _,⟨_,rfl⟩,q⟩
theorem qI {f:ax->ax->Sem ax}{g:Int->Int->Int}(rule:∀(i j:Int) (t u:Tok) (s:ay) (Q:ax->ay->Prop) (E:ax->ay->Prop),Q (.int (g i j) s.toks) { s with toks:=s.toks+1 }->wpAny (model X.prog X.w) X.A (f (.int i t) (.int j u)) Q E s) :
  cJ X f (i6 λi j=>.int (g i j)):=by
 intro ai s σ H x y v u Q I rx ry h
 obtain⟨i,j,rfl,rfl,q⟩:=h
 obtain⟨t,rfl⟩:=rx
 obtain⟨t',rfl⟩:=ry
 exact rule i j t t' s _ _ ⟨.int (g i j),H,I.tok _,⟨_,rfl⟩,q⟩
theorem tN {f:ax->ax->Sem ax}{g:Int->Int->Bool}(rule:∀(i j:Int) (t u:Tok) (s:ay) (Q:ax->ay->Prop) (E:ax->ay->Prop),Q (.bool (g i j)) s->wpAny (model X.prog X.w) X.A (f (.int i t) (.int j u)) Q E s) :
  cJ X f (i6 λi j=>.bl (g i j)):=by
 intro ai s σ H x y v u Q I rx ry h
 obtain⟨i,j,rfl,rfl,q⟩:=h
 obtain⟨t,rfl⟩:=rx
 obtain⟨t',rfl⟩:=ry
 exact rule i j t t' s _ _ ⟨.bl (g i j),H,I,rfl,q⟩
noncomputable def tO (i j:Int):Prop:=0<j/\j<1073741824
noncomputable def tP (i j:Int):Prop:=0<=j/\j<=1000000/\i.natAbs<2^64
noncomputable def oA (i j:Int):Prop:=(-(2^64)<i/\i<2^64)∨(-(2^64)<j/\j<2^64)
theorem oA.ok {i j:Int}(h:oA i j):IntMulOk i j:=by
 rcases h with⟨h1,h2⟩|⟨h1,h2⟩
 ·exact .of_left (intBits_le_64 h1 h2)
 ·exact .of_right (intBits_le_64 h1 h2)
theorem aj4 (k:Nat):(0:Int)<=2^k:=by
 rw[two_pow_cast];exact Int.natCast_nonneg _
theorem aj5:cJ X (binaryOp .Add) (i6 λi j=>.int (i+j)):=qI λ_ _ _ _ _ _ _ q=>add_int q
theorem aj6:cJ X (binaryOp .Sub) (i6 λi j=>.int (i-j)):=qI λ_ _ _ _ _ _ _ q=>sub_int q
theorem aj7:cJ X (binaryOp .Mult) (rI oA λi j=>.int (i*j)):=o9 λ_ _ _ _ _ _ _ hc q=>mul_int q hc.ok
theorem aj8:cJ X (binaryOp .FloorDiv) (rI tO λi j=>.int (i/j)):=o9 λi j _ _ _ _ _ hc q=>by
 have h1:(0:Int)<j:=hc.1;have h2:j<1073741824:=hc.2;exact floordiv_int (by omega) (by rw[Int.fdiv_eq_ediv_of_nonneg i (by omega)];exact q) (.inl (PyProof.noPylong_small (by omega)))
theorem aj9:cJ X (binaryOp .Mod) (rI (λ_ j=>0<j) λi j=>.int (i%j)):=o9 λi j _ _ _ _ _ hc q=>by
 have h1:(0:Int)<j:=hc;exact mod_int' (by omega) (by rw[Int.fmod_eq_emod_of_nonneg i (by omega)];exact q)
theorem ak0:cJ X (binaryOp .LShift) (rI tP λi j=>.int (i*2^j.toNat)):=o9 λ_ _ _ _ _ _ _ hc q=>lshift_int_small hc.1 hc.2.1 hc.2.2 q
theorem ak1:cJ X (binaryOp .RShift) (rI (λ_ j=>0<=j) λi j=>.int (i/2^j.toNat)):=o9 λi j _ _ _ _ _ hc q=>
 rshift_int hc (by rw[Int.fdiv_eq_ediv_of_nonneg i (aj4 _)];exact q)
theorem ak2:cJ X (binaryOp .BitAnd) (i6 λi j=>.int (Builtin.bitAnd i j)):=qI λ_ _ _ _ _ _ _ q=>and_int q
theorem ak3:cJ X (binaryOp .BitOr) (i6 λi j=>.int (Builtin.bitOr i j)):=qI λ_ _ _ _ _ _ _ q=>or_int q
theorem unI {f:ax->Sem ax}{g:Int->Int}(rule:∀(i:Int) (t:Tok) (s:ay) (Q:ax->ay->Prop) (E:ax->ay->Prop),Q (.int (g i) s.toks) { s with toks:=s.toks+1 }->wpAny (model X.prog X.w) X.A (f (.int i t)) Q E s) :
  tL X f (rU λi=>.int (g i)):=by
 intro ai s σ H x v Q I rx h
 obtain⟨i,rfl,q⟩:=h
 obtain⟨t,rfl⟩:=rx
 exact rule i t s _ _ ⟨.int (g i),H,I.tok _,⟨_,rfl⟩,q⟩
theorem ak4:tL X (unaryOp .USub) (rU λi=>.int (-i)):=unI λ_ _ _ _ _ q=>neg_int q
end
noncomputable def zL:V->V->Bool
 |.non,.non=>true|.non,.int _=>true|.int _,.non=>true|.non,.bl _=>true|.bl _,.non=>true|.non,.str _=>true|.str _,.non=>true
 |.int _,.int _=>true|.bl _,.bl _=>true|.str _,.str _=>true|.byt _,.byt _=>true
 |.int _,.str _=>true|.str _,.int _=>true|.bl _,.str _=>true|.str _,.bl _=>true
 |_,_=>false
noncomputable def zM:R2:=λx y H Q=>zL x y=true/\Q (.bl (decide (x=y))) H
noncomputable def zN:R2:=λx y H Q=>zL x y=true/\Q (.bl (!decide (x=y))) H
theorem zO {i j:Int}:decide (V.int i=V.int j)=(i==j):=by
 rw[bq0];simp
theorem zP {i j:Bool}:decide (V.bl i=V.bl j)=(i==j):=by
 rw[bq0];simp
theorem zQ {i j:Str}:decide (V.str i=V.str j)=(i==j):=by
 rw[bq0];simp
theorem zR {i j:Array UInt8}:decide (V.byt i=V.byt j)=(i.toList==j.toList):=by
 rw[bq0];cases i;cases j;simp
section
variable {X:Cx}{a b c:Expr}{ta tb tc:TE}{pos:Pos}
theorem cE {ai:List (az×Obj)}{σ:St}{H:Hp}{s:ay}{Q:VK}{k k':Bool}(I:aA X ai σ H s)(q:Q (.bl k) H)(e:k=k'):EP X ai σ Q (.bool k') s:=by
 subst e
 exact⟨.bl k,H,I,rfl,q⟩
theorem zS:cJ X (compareOp .Eq) zM:=by
 intro ai s σ H x y v u Q I rx ry h
 obtain⟨hs,q⟩:=h
 cases x with
 |non=>
  cases rx;cases y with
  |non=>cases ry;exact PySem.EqNone.eq_none_none (cE I q (by simp))
  |bl j=>cases ry;exact PySem.EqNone.eq_none_bool (cE I q (by simp))
  |int j=>obtain⟨t',rfl⟩:=ry;exact PySem.EqNone.eq_none_int (cE I q (by simp))
  |str j=>obtain⟨t',rfl⟩:=ry;exact PySem.EqNone.eq_none_str (cE I q (by simp))
  |_=>exact absurd (show false=true from hs) be9
 |bl i=>
  cases rx;cases y with
  |non=>cases ry;exact PySem.EqNone.eq_bool_none (cE I q (by simp))
  |bl j=>cases ry;exact eq_bool (cE I q zP)
  |str j=>obtain⟨t',rfl⟩:=ry;exact PySem.EqMixed.eq_bool_str (cE I q (by simp))
  |_=>exact absurd (show false=true from hs) be9
 |int i=>
  obtain⟨t,rfl⟩:=rx
  cases y with
  |non=>cases ry;exact PySem.EqNone.eq_int_none (cE I q (by simp))
  |int j=>obtain⟨t',rfl⟩:=ry;exact eq_int (cE I q zO)
  |str j=>obtain⟨t',rfl⟩:=ry;exact PySem.EqMixed.eq_int_str (cE I q (by simp))
  |_=>exact absurd (show false=true from hs) be9
 |str i=>
  obtain⟨t,rfl⟩:=rx
  cases y with
  |non=>cases ry;exact PySem.EqNone.eq_str_none (cE I q (by simp))
  |bl j=>cases ry;exact PySem.EqMixed.eq_str_bool (cE I q (by simp))
  |int j=>obtain⟨t',rfl⟩:=ry;exact PySem.EqMixed.eq_str_int (cE I q (by simp))
  |str j=>obtain⟨t',rfl⟩:=ry;exact eq_str (cE I q zQ)
  |_=>exact absurd (show false=true from hs) be9
 |byt i=>
  obtain⟨t,rfl⟩:=rx
  cases y with
  |byt j=>obtain⟨t',rfl⟩:=ry;exact PySem.W.eq_bytes (cE I q zR)
  |_=>exact absurd (show false=true from hs) be9
 |_=>cases y<;>exact absurd (show false=true from hs) be9
theorem ak5:cJ X (compareOp .NotEq) zN:=by
 intro ai s σ H x y v u Q I rx ry h
 obtain⟨hs,q⟩:=h
 cases x with
 |non=>
  cases rx;cases y with
  |non=>cases ry;exact PySem.EqNone.ne_none_none (cE I q (by simp))
  |bl j=>cases ry;exact PySem.EqNone.ne_none_bool (cE I q (by simp))
  |int j=>obtain⟨t',rfl⟩:=ry;exact PySem.EqNone.ne_none_int (cE I q (by simp))
  |str j=>obtain⟨t',rfl⟩:=ry;exact PySem.EqNone.ne_none_str (cE I q (by simp))
  |_=>exact absurd (show false=true from hs) be9
 |bl i=>
  cases rx;cases y with
  |non=>cases ry;exact PySem.EqNone.ne_bool_none (cE I q (by simp))
  |bl j=>cases ry;exact ne_bool (cE I q (congrArg not zP))
  |str j=>obtain⟨t',rfl⟩:=ry;exact PySem.EqMixed.ne_bool_str (cE I q (by simp))
  |_=>exact absurd (show false=true from hs) be9
 |int i=>
  obtain⟨t,rfl⟩:=rx
  cases y with
  |non=>cases ry;exact PySem.EqNone.ne_int_none (cE I q (by simp))
  |int j=>obtain⟨t',rfl⟩:=ry;exact ne_int (cE I q (congrArg not zO))
  |str j=>obtain⟨t',rfl⟩:=ry;exact PySem.EqMixed.ne_int_str (cE I q (by simp))
  |_=>exact absurd (show false=true from hs) be9
 |str i=>
  obtain⟨t,rfl⟩:=rx
  cases y with
  |non=>cases ry;exact PySem.EqNone.ne_str_none (cE I q (by simp))
  |bl j=>cases ry;exact PySem.EqMixed.ne_str_bool (cE I q (by simp))
  |int j=>obtain⟨t',rfl⟩:=ry;exact PySem.EqMixed.ne_str_int (cE I q (by simp))
  |str j=>obtain⟨t',rfl⟩:=ry;exact ne_str (cE I q (congrArg not zQ))
  |_=>exact absurd (show false=true from hs) be9
 |byt i=>
  obtain⟨t,rfl⟩:=rx
  cases y with
  |byt j=>obtain⟨t',rfl⟩:=ry;exact PySem.W.ne_bytes (cE I q (congrArg not zR))
  |_=>exact absurd (show false=true from hs) be9
 |_=>cases y<;>exact absurd (show false=true from hs) be9
theorem ak6:cJ X (compareOp .Lt) (i6 λi j=>.bl (decide (i<j))):=tN λ_ _ _ _ _ _ _ q=>lt_int q
theorem ak7:cJ X (compareOp .Gt) (i6 λi j=>.bl (decide (j<i))):=tN λ_ _ _ _ _ _ _ q=>gt_int q
theorem ak8:cJ X (compareOp .GtE) (i6 λi j=>.bl (decide (j<=i))):=tN λ_ _ _ _ _ _ _ q=>ge_int q
theorem lX (b:Expr){op:CmpOp}(h:op≠.In:=by decide)(h2:op≠.NotIn:=by decide):behindInMarks op b=false:=by
 have e1:(op==CmpOp.In)=false:=by cases op<;>first|rfl|exact absurd rfl h
 have e2:(op==CmpOp.NotIn)=false:=by cases op<;>first|rfl|exact absurd rfl h2
 cases b<;>simp[behindInMarks,e1,e2]
theorem ak9 {op:CmpOp}{r:R2}(ho:cJ X (compareOp op) r)(ha:PE X a ta)(hb:PE X b tb)(hm:behindInMarks op b=false):PE X (.Compare a [op] [b] pos) (o8 r ta tb):=by
 intro ai s σ H Q I h;exact wpAny_Compare1 (tM ha hb I h λv u s2 x y H2 I2 rx ry q=>ho ai s2 σ H2 x y v u Q I2 rx ry q) hm
noncomputable def al0 (t:TE):TT:=λσ H Q=>t σ H λx H'=>∃k,x = .bl k/\Q k H'
theorem al1 {op:CmpOp}{r:R2}(ho:cJ X (compareOp op) r)(ha:PE X a ta)(hb:PE X b tb)(hm:behindInMarks op b=false):PT X (.Compare a [op] [b] pos) (al0 (o8 r ta tb)):=by
 intro ai s σ H Q I h
 refine wpAny_isTrue_Compare1 (aO (ha ai s σ H _ I h) λv s1 ⟨x,H1,I1,r1,q1⟩=>aO (hb ai s1 σ H1 _ I1 q1) λu s2 ⟨y,H2,I2,r2,q2⟩=>
  aO (ho ai s2 σ H2 x y v u _ I2 r1 r2 q2) λc s3 ⟨z,H3,I3,r3,k,e,q3⟩=>?_) hm
 subst e;cases r3;exact bn5 ⟨H3,I3,q3⟩
noncomputable def tQ (K:ad)(x:V)(H:Hp)(k:Bool):Prop:=
 match x with
 |.non=>k=false
 |.bl b=>k=b
 |.int i=>k=(i != 0)
 |.str y=>y.length<=sizeLine/\k=((y.length:Int) != 0)
 |.byt y=>y.size<=sizeLine/\k=((y.size:Int) != 0)
 |.ref p=>(∃xs,aZ K H p xs/\k = !xs.isEmpty)∨(∃xs,aR K H p xs/\k = !xs.isEmpty)∨∃kvs,H p=some (.dK kvs)/\k = !kvs.isEmpty
 |_=>False
theorem al2 {κ:Type}{kvs:List (κ×V)}{vs:List (κ×ax)}(r:KV kvs vs):(!vs.isEmpty) = !kvs.isEmpty:=by
 cases r<;>rfl
theorem zT {xs:List V}{its:List ax}(r:aN xs its):(!its.toArray.isEmpty) = !xs.isEmpty:=by
 cases r<;>simp
theorem oB:(sizeLine:Nat)<2^63:=by rw[sizeLine_eq];decide
theorem al3:aj1 X (λx H Q=>∃k,tQ X.K x H k/\Q k H):=by
 intro ai s σ H x v Q I rx h
 obtain⟨k,e,q⟩:=h
 have hl:=oB;have hs:sizeLine=16777216:=sizeLine_eq;cases x with
 |non=>
  cases rx;have e':k=false:=e;subst e';exact truthy_none ⟨H,I,q⟩
 |bl b=>
  cases rx;have e':k=b:=e;subst e';exact bn5 ⟨H,I,q⟩
 |int i=>
  obtain⟨t,rfl⟩:=rx
  have e':k=(i != 0):=e;subst e';exact PySem.P.truthy_int ⟨H,I,q⟩
 |str y=>
  obtain⟨t,rfl⟩:=rx
  obtain⟨hy,e'⟩:y.length<=sizeLine/\k=((y.length:Int) != 0):=e
  subst e';exact PySem.P.truthy_str (by omega) ⟨H,I.tok _,q⟩
 |byt y=>
  obtain⟨t,rfl⟩:=rx
  obtain⟨hy,e'⟩:y.size<=sizeLine/\k=((y.size:Int) != 0):=e
  subst e';exact PySem.W.truthy_bytes (by omega) ⟨H,I.tok _,q⟩
 |ref p=>
  cases rx;have e':(∃xs,aZ X.K H p xs/\k = !xs.isEmpty)∨(∃xs,aR X.K H p xs/\k = !xs.isEmpty)∨∃kvs,H p=some (.dK kvs)/\k = !kvs.isEmpty:=e
  rcases e' with⟨xs,hx,e'⟩|⟨xs,hx,e'⟩|⟨kvs,hx,e'⟩
  ·subst e'
   obtain⟨its,r,pl,hz⟩:=I.list hx
   have ao:=r.length;exact wpAny_truthy_list pl.isList (by simp only[bd9];omega) ⟨H,I.tok _,by rw[zT r];exact q⟩
  ·subst e'
   obtain⟨its,r,pl,hz⟩:=I.tuple hx
   have ao:=r.length;exact truthy_tuple pl (by simp only[bd9];omega) ⟨H,I.tok _,by rw[zT r];exact q⟩
  ·subst e'
   obtain⟨hz,hS,vs,r,m⟩:kvs.length<=sizeLine/\(p==sysModules)=false/\∃vs,KV kvs vs/\s.heap.DictOf (pW X.prog X.w) p vs:=I.hok p _ hx
   have ao:kvs.length=vs.length:=Paired.length r;exact wpAny_truthy_dict hS m (by omega) ⟨H,I.tok _,by rw[al2 r];exact q⟩
 |_=>exact (show False from e).elim
theorem al4 (ha:PE X a ta)(he:∀whole,isTrue a X.env whole=(do let v <- whole;standAt a.pos;holding [v] (truthy v))) :
  PT X a (λσ H Q=>ta σ H λx H'=>∃k,tQ X.K x H' k/\Q k H'):=by
 intro ai s σ H Q I h;exact isTrue_plain (aO (ha ai s σ H _ I h) λv s1 ⟨x,H1,I1,r1,q1⟩=>al3 ai s1 σ H1 x v Q I1 r1 q1) (he _)
theorem jK {x:V}{us:List ax}(r:aN [x] us):∃u,us = [u]/\aU x u:=by
 cases r with
 |cons r1 r2=>cases r2;exact⟨_,rfl,r1⟩
theorem tR {x y:V}{us:List ax}(r:aN [x,y] us):∃u w',us = [u,w']/\aU x u/\aU y w':=by
 cases r with
 |cons r1 r2=>
  cases r2 with
  |cons r3 r4=>cases r4;exact⟨_,_,rfl,r1,r3⟩
end
structure tS (h:Heap)(x dx C:az)(mA:Str->Option ax):Prop where
 obj:h.get? x=some (PySem.W.instObj C dx)
 ns:h.Ns1 dx mA
 ne:dx≠x
theorem al5 {h:Heap}{dx:az}{mA:Str->Option ax}(n:h.Ns1 dx mA):∃od,h.get? dx=some od/\∀name,PySem.W.lookIn name od=some (mA name):=by
 obtain⟨o,es,ep,ho,hd,hk,_,hm⟩:=n
 refine⟨o,ho,λname=>?_⟩;have e:=hm name;unfold nsFind findBy at e;rw[<- Array.find?_toList]at e;unfold PySem.W.lookIn;rw[hd];dsimp only;split
 ·rename_i y q
  rw[q]at e;exact congrArg some e
 ·rename_i q
  rw[q]at e;have a:es.toList.any (·.refKey)=false:=by
   rw[List.any_eq_false];intro y hy
   obtain⟨z,t,hkey⟩:=hk y (Array.mem_toList_iff.mp hy)
   simp[DictEntry.refKey,hkey]
  have a':¬es.toList.any (·.refKey)=true:=by rw[a];exact be9
  rw[if_neg a'];exact congrArg some e
theorem tS.look {h:Heap}{x dx C:az}{mA:Str->Option ax}(I:tS h x dx C mA):∃od,PySem.W.InstAt h x (PySem.W.instObj C dx) C (some od)/\∀name,PySem.W.lookIn name od=some (mA name):=
 let ⟨od,ho,hl⟩:=al5 I.ns
 ⟨od,⟨I.obj,rfl,rfl,ho⟩,hl⟩
theorem hU.some_of {v:V}{o:Option ax}(r:hU (some v) o):∃u,o=some u/\aU v u:=by
 cases o with
 |none=>exact (show False from r).elim
 |some u=>exact⟨u,rfl,r⟩
section
variable {P:ba}{w:bf}{H H':Hp}{h h':Heap}{a C dx:az}{fs fs':List (Str×V)}
theorem al6 (hok:bS P w H h)(e:H a=some (.ins C dx fs)):∃mA,tS h a dx C mA/\(∀f,hU (fs.lookup f) (mA f))/\PySem.Within mA (fs.map (·.1))/\fs.length<=1000/\H dx=some (.own a):=by
 obtain⟨d,z,ne,ob,mA,n,r,q⟩:=(show bL P w H h a (.ins C dx fs) from hok a _ e)
 exact⟨mA,⟨ob,n,ne⟩,r,q,z,d⟩
end
structure tT (K:ad)(C:az):Prop where
 pg:PySem.W.plainGet K C Str.empty=true
 hd:PySem.W.hasDictIn K C=true
 po:PySem.W.plainOver K C=true
 sa:PySem.W.findIn K (.ref C) "__setattr__" = some (some (.builtin "object.__setattr__"))
theorem tT.get {K:ad}{C:az}(c:tT K C)(f:Str):PySem.W.plainGet K C f=true:=c.pg
section
variable {X:Cx}{ai:List (az×Obj)}{σ:St}{H:Hp}{s:ay}{A:bc}{E:ax→ay→Prop}{Q:ax→ay→Prop}{c:ax}{b:Bool}
inductive fO (K:ad)(H:Hp):V->ax->Prop where
 |non:fO K H .non (.type "NoneType")
 |bl (x:Bool):fO K H (.bl x) (.type "bool")
 |int (i:Int):fO K H (.int i) (.type "int")
 |str (x:Str):fO K H (.str x) (.type "str")
 |flt (x:UInt64):fO K H (.flt x) (.type "float")
 |lst {a:az}{xs:List V} (e:H a=some (.lst xs)):fO K H (.ref a) (.type "list")
 |frz {a:az}{o:Obj}{xs:List V} (e:H a=some (.frz o (.lst xs))):fO K H (.ref a) (.type "list")
 |tup {a:az}{xs:List V} (e:H a=some (.tup xs)):fO K H (.ref a) (.type "tuple")
 |dK {a:az}{kvs:List (bW×V)} (e:H a=some (.dK kvs)):fO K H (.ref a) (.type "dict")
 |dT {a:az}{kvs:List (List bW×V)} (e:H a=some (.dT kvs)):fO K H (.ref a) (.type "dict")
 |ins {a C dx:az}{fs:List (Str×V)} (e:H a=some (.ins C dx fs)) (cl:tT K C) (ha:PySem.W.findIn K (.ref C) "__class__" = some (some (.builtin "object.__class__")))
   (hn:PySem.W.specialIn K (.builtin "object.__class__") "__get__" = some (some (.builtin "getset_descriptor.__get__"))) (htk:PySem.W.takesIn K (.builtin "object.__class__")=some true)
   (hm:PySem.W.mroIn K C (.type "object")=some true):fO K H (.ref a) (.ref C)
theorem al7 {x:V}{u t:ax}(I:aA X ai σ H s)(rx:aU x u)(ty:fO X.K H x t)(e:PySem.W.kitOne X.K t c=some b)(h:∀tk,Q (.bool b) { s with toks:=tk }) :
  wpAny (model X.prog X.w) A (call (.builtin "isinstance") [u,c]) Q E s:=by
 cases ty with
 |non=>cases (show u=Value.none from rx);exact bl2 PySem.W.kitx_none I.kIn br2 e (λz=>nomatch z) h
 |bl y=>cases (show u=Value.bool y from rx);exact bl2 PySem.W.kitx_bool I.kIn br2 e (λz=>nomatch z) h
 |int i=>obtain⟨t,q⟩:=(show ∃t,u=Value.int i t from rx);cases q;exact bl2 PySem.W.kitx_int I.kIn br2 e (λz=>nomatch z) h
 |str y=>obtain⟨t,q⟩:=(show ∃t,u=Value.str y t from rx);cases q;exact bl2 PySem.W.kitx_str I.kIn br2 e (λz=>nomatch z) h
 |flt y=>obtain⟨t,q⟩:=(show ∃t,u=Value.float y t from rx);cases q;exact bl2 PySem.W.kitx_float I.kIn br2 e (λz=>nomatch z) h
 |@lst a xs ea=>
  cases (show u=Value.ref a from rx)
  obtain⟨_,_,n,_,h1⟩:=(show bL X.prog X.w H s.heap a (.lst xs) from I.hok a _ ea)
  exact bl2 PySem.W.kitx_list I.kIn ⟨_,h1,rfl⟩ e (λz=>nomatch z) h
 |@frz a ob xs ea=>
  cases (show u=Value.ref a from rx)
  obtain⟨_,_,_,n,_,h1⟩:=(show bL X.prog X.w H s.heap a (.frz ob (.lst xs)) from I.hok a _ ea)
  exact bl2 PySem.W.kitx_list I.kIn ⟨_,h1,rfl⟩ e (λz=>nomatch z) h
 |@tup a xs ea=>
  cases (show u=Value.ref a from rx)
  obtain⟨_,_,_,p,_⟩:=(show bL X.prog X.w H s.heap a (.tup xs) from I.hok a _ ea)
  obtain⟨o,h1,h2,_⟩:=p
  exact bl2 PySem.W.kitx_tuple I.kIn ⟨o,h1,h2⟩ e (λz=>nomatch z) h
 |@dK a kvs ea=>
  cases (show u=Value.ref a from rx)
  obtain⟨_,_,vs,_,p⟩:=(show bL X.prog X.w H s.heap a (.dK kvs) from I.hok a _ ea)
  obtain⟨o,es,ep,h1,h2,_⟩:=p
  exact bl2 PySem.W.kitx_dict I.kIn ⟨o,h1,h2.1⟩ e (λz=>nomatch z) h
 |@dT a kvs ea=>
  cases (show u=Value.ref a from rx)
  obtain⟨_,_,xs,_,o,es,ep,h1,h2,_⟩:=(show bL X.prog X.w H s.heap a (.dT kvs) from I.hok a _ ea)
  exact bl2 PySem.W.kitx_dict I.kIn ⟨o,h1,h2.1⟩ e (λz=>nomatch z) h
 |@ins a C dx fs ea cl ha hn htk hm=>
  cases (show u=Value.ref a from rx)
  obtain⟨mA,O,_⟩:=al6 I.hok ea
  obtain⟨od,J,_⟩:=O.look
  exact bl2 (PySem.W.kitx_own (cl.get _) cl.hd ha hn htk hm) I.kIn J e (λz=>nomatch z) h
end
structure bG (k:Nat)(A:bc):Prop where
 hd:A.handled=none
 dp:A.depth+3*k+5<recursionLimit
 un:A.units+16*k+200<cLine
theorem bG.mono {j k:Nat}{A:bc}(r:bG k A)(h:j<=k):bG j A:=⟨r.hd,by have:=r.dp;omega,by have:=r.un;omega⟩
theorem bG.deeper {k:Nat}{A:bc}(r:bG (k+1) A)(env:Env):bG k (A.deeper env):=
 ⟨r.hd,by have:=r.dp;show A.depth+1+3*k+5<_;omega,by have:=r.un;show A.units+3+16*k+200<_;omega⟩
theorem bG.depth {k:Nat}{A:bc}(r:bG k A):A.depth<recursionLimit:=by have:=r.dp;omega
theorem bG.units {k:Nat}{A:bc}(r:bG k A):A.units+64<cLine:=by have:=r.un;omega
noncomputable def iU:TA:=λ_ H Q=>Q [] H
noncomputable def eZ (ta:TE)(tr:TA):TA:=λσ H Q=>ta σ H λx H1=>tr σ H1 λxs H2=>Q (x::xs) H2
section
variable {X:Cx}{e:Expr}{es:List Expr}{te:TE}{t:TA}{pos:Pos}
theorem jL:PA X [] iU:=λ_ _ _ _ H Q I h=>Calls.spliced_nil ⟨[],H,I,.nil,h⟩
theorem eQ (ha:PE X e te)(hr:PA X es t)(hs:starEach (e::es) X.env=(false,eval e X.env)::starEach es X.env:=by rfl):PA X (e::es) (eZ te t):=by
 intro pos ai s σ H Q I h;rw[hs];show wpAny _ _ (spliced ((false,eval e X.env)::backTo pos (starEach es X.env))) _ _ s;refine Calls.spliced_cons (aO (ha ai s σ H _ I h) λu s1 ⟨x,H1,I1,r1,q1⟩=>?_);exact aO (hr pos ai s1 σ H1 _ I1 q1) λus s2 ⟨xs,H2,I2,r2,q2⟩=>⟨x::xs,H2,I2,.cons r1 r2,q2⟩
noncomputable def zU (t:TA):TE:=λσ H Q=>t σ H λxs H1=>xs.length<=sizeLine/\∀p,H1 p=none->Q (.ref p) (upd H1 p (.tup xs))
noncomputable def zV (t:TA):TE:=λσ H Q=>t σ H λxs H1=>xs.length<=sizeLine/\∀p,H1 p=none->Q (.ref p) (upd H1 p (.lst xs))
theorem al8 {x1}(h:PA X es t):PE X (.Tuple es x1 pos) (zU t):=by
 intro ai s σ H Q I hq;refine wpAny_Tuple_spliced (aO (h pos ai s σ H _ I hq) λus s1 ⟨xs,H1,I1,r,z,q⟩=>⟨by rw[<- r.length];exact z,?_⟩);have hf:H1 s1.heap.objs.size=none:=I1.hok.fresh (be2 _);refine⟨.ref s1.heap.objs.size,upd H1 s1.heap.objs.size (.tup xs),I1.laid (t':=s1.toks) (λb u e=>bd3 _ e) (be2 _) ?_,rfl,q _ hf⟩
 exact⟨z,us,r,⟨_,bf1 _ rfl,rfl,_,rfl⟩,hV.new _ _ rfl⟩
theorem al9 (h:PA X es t):PE X (.List es pos) (zV t):=by
 intro ai s σ H Q I hq;refine wpAny_List_spliced (aO (h pos ai s σ H _ I hq) λus s1 ⟨xs,H1,I1,r,z,q⟩=>⟨by rw[<- r.length];exact z,?_⟩);have hf:H1 s1.heap.objs.size=none:=I1.hok.fresh (be2 _);refine⟨.ref s1.heap.objs.size,upd H1 s1.heap.objs.size (.lst xs),I1.laid (t':=s1.toks) (λb u e=>bd3 _ e) (be2 _) ?_,rfl,q _ hf⟩
 exact⟨z,us,0,r,bf1 _ rfl⟩
end
noncomputable abbrev Sp:=List V->Hp->VK->XK->Prop
noncomputable abbrev dO:=List Env->Hp->ay->XK->ax->ay->Prop
structure jM (P:ba)(w:bf)(K:ad)(mg:Str->Option ax)(base:Heap)(A:bc)(outer:List Env)(s:ay)(H:Hp):Prop where
 frames:A.frames=some outer
 mod:Mod K mg base
 bs:∀b o,base.get? b=some o->s.heap.get? b=some o/\H b=none
 bsz:base.objs.size<=s.heap.objs.size
 funs:s.heap.FunFrames base outer
 frf:∀b∈bY outer,H b=none
 hok:bS P w H s.heap
 bare:AllBare s.gens
noncomputable def CE (outer:List Env)(P:ba)(w:bf)(H:Hp)(s:ay)(Q:VK)(u:ax)(s':ay):Prop:=
 ∃v H',s'.os=s.os/\AllBare s'.gens/\Un (bY outer) [] H H' s.heap s'.heap/\bS P w H' s'.heap/\aU v u/\Q v H'
noncomputable def CR (CX:dO)(outer:List Env)(P:ba)(w:bf)(H:Hp)(s:ay)(Q:VK)(E:XK)(r:Result)(s':ay):Prop:=
 match r with
 |.ok (.ret u)=>CE outer P w H s Q u s'
 |.ok _=>False
 |.error e=>CX outer H s E e s'
structure cX (P:ba)(w:bf)(K:ad)(mg:Str->Option ax)(base:Heap)(CX:dO)(k:Nat)(f:az)(fd:FuncData)(ps:List Str)(sp:Sp):Prop where
 len:∀vs H Q E,sp vs H Q E->vs.length=ps.length
 run:∀(A:bc) (outer:List Env) (s:ay) (H:Hp) (args:Args) (us:List ax) (vs:List V) (Q:VK) (E:XK),bG k A->jM P w K mg base A outer s H->BindsTo s fd args (ps.zip us)->aN vs us->sp vs H Q E->
  codeAny (model P w) A (.call (.ref f) args) (CR CX outer P w H s Q E) s
theorem cX.imp {P:ba}{w:bf}{K:ad}{mg:Str->Option ax}{base:Heap}{CX:dO}{k:Nat}{f:az}{fd:FuncData}{ps:List Str}{sp sp':Sp}(F:cX P w K mg base CX k f fd ps sp)(h:∀vs H Q E,sp' vs H Q E->sp vs H Q E):cX P w K mg base CX k f fd ps sp':=
 ⟨λvs H Q E q=>F.len vs H Q E (h _ _ _ _ q),λA outer s H args us vs Q E hr he hb hv hs=>F.run A outer s H args us vs Q E hr he hb hv (h _ _ _ _ hs)⟩
section
variable {X:Cx}{ai:List (az×Obj)}{σ:St}{H:Hp}{s s':ay}
theorem aA.env0 (I:aA X ai σ H s):jM X.prog X.w X.K X.mg X.base X.A X.stack s H:=
 ⟨I.ok.frames,I.ok.mod,I.bs,bh2 I.ok.bsz I.sz,I.stack,I.stkFree,I.hok,I.bare⟩
theorem aA.after {Q:VK}{u:ax}(I:aA X ai σ H s)(h:CE X.stack X.prog X.w H s Q u s'):EP X ai σ Q u s':=by
 obtain⟨v,H',os,bare,un,hok,r,q⟩:=h
 obtain⟨hh,g,d,t,os'⟩:=s'
 obtain rfl:os'=s.os:=os
 exact⟨v,H',I.call (h':=hh) (g':=g) (d':=d) (t':=t) (ch:=[]) un hok bare (λb z=>absurd z (by simp)),r,q⟩
end
noncomputable def kJ (sp:Sp)(dvs:List V)(E:XK)(t:TA):TE:=λσ H Q=>t σ H λvs H1=>sp (vs++dvs) H1 Q E
noncomputable def fZ (K:ad)(fd:FuncData)(ps:List Str)(ds:List ax):Prop:=
 ∀(s:ay) (us:List ax),K.In s.heap->(us++ds).length=ps.length->BindsTo s fd ⟨us,[]⟩ (ps.zip (us++ds))
theorem fZ.all {K:ad}{fd:FuncData}{ps:List Str}(h:∀us:List ax,us.length=ps.length->bindArgs fd ⟨us,[]⟩=pure (ps.zip us)):fZ K fd ps []:=λs us _ hl=>by
 rw[bm1]at hl ⊢;exact .of_eq (h us hl)
noncomputable def iV (CX:dO)(X:Cx)(E:XK):Prop:=∀(ai:List (az×Obj)) (σ:St) (H:Hp) (s:ay) (e:ax) (s':ay),aA X ai σ H s->CX X.stack H s E e s'->X.xe e s'
section
variable {X:Cx}{CX:dO}{k:Nat}{f C:az}{fd:FuncData}{ps:List Str}{sp:Sp}{dvs:List V}{ds:List ax}{E:XK}{x m:Str}{p pos aj:Pos}{e o:Expr}{es:List Expr}{ta:TE}{t:TA}
theorem tU {ai:List (az×Obj)}{σ:St}{H:Hp}{s:ay}{Q:VK}{us:List ax}{vs:List V}(F:cX X.prog X.w X.K X.mg X.base CX k f fd ps sp)(hr:bG k X.A)(hb:fZ X.K fd ps ds)(hd:aN dvs ds)(hx:iV CX X E)(I:aA X ai σ H s)(r:aN vs us)(h:sp (vs++dvs) H Q E):wpAny (model X.prog X.w) X.A (call (.ref f) us) (EP X ai σ Q) X.xe s:=by
 have r2:aN (vs++dvs) (us++ds):=r.append hd;have hl:(us++ds).length=ps.length:=by rw[<- r2.length];exact F.len _ _ _ _ h
 refine wpAny_call (codeAny_mono (F.run X.A X.stack s H ⟨us,[]⟩ (us++ds) (vs++dvs) Q E hr I.env0 (hb s us I.kIn hl) r2 h) λr s' hq=>?_);cases r with
 |error e=>exact hx ai σ H s e s' I hq
 |ok fl=>
  cases fl with
  |ret u=>exact I.after hq
  |next=>exact False.elim hq
  |brk=>exact False.elim hq
  |cont=>exact False.elim hq
theorem oC (F:cX X.prog X.w X.K X.mg X.base CX k f fd ps sp)(hr:bG k X.A)(hg:Gl X x)(hm:X.mg x=some (.ref f))(hk:PySem.W.keepIn X.K (.ref f)=true)(hb:fZ X.K fd ps ds)(hd:aN dvs ds)(hx:iV CX X E)(ha:PA X (e::es) t)(hdb:(x==("__debug__":Str))=false:=by decide)(he:starEach (e::es) X.env=(false,eval e X.env)::starEach es X.env:=by rfl)(hpl:(backTo pos (starEach es X.env)).any (·.1)=false:=by rfl) :
  PE X (.Call (.Name x p) (e::es) [] pos) (kJ sp dvs E t):=by
 intro ai s σ H Q I h;refine bo3 (lU I hg hm ?_ hdb);refine PySem.W.callWith_K (h₀:=X.base) I.ok.mod.kin hk (aO (ha pos ai s σ H _ I h) λus s1 ⟨vs,H1,I1,r,q⟩=>⟨I1.kIn,?_⟩) he hpl;exact tU F hr hb hd hx I1 r q
theorem am0 (F:cX X.prog X.w X.K X.mg X.base CX k f fd ps sp)(hr:bG k X.A)(hg:Gl X x)(hm:X.mg x=some (.ref f))(hk:PySem.W.keepIn X.K (.ref f)=true)(hb:fZ X.K fd ps ds)(hd:aN dvs ds)(hx:iV CX X E)(hdb:(x==("__debug__":Str))=false:=by decide):PE X (.Call (.Name x p) [] [] pos) (kJ sp dvs E iU):=by
 intro ai s σ H Q I h;refine bo3 (lU I hg hm ?_ hdb);exact PySem.W.callWith_K0 I.kIn hk (tU (us:=[]) F hr hb hd hx I .nil h)
end
noncomputable def PK (X:Cx)(kws:List Keyword)(t:TA):Prop:=
 ∀(pos:Pos) (ai:List (az×Obj)) (s:ay) (σ:St) (H:Hp) (Q:List V->Hp->Prop),aA X ai σ H s->t σ H Q->wpAny (model X.prog X.w) X.A (evalAll ((backToKw pos (keywordEach kws X.env)).map (·.2))) (AP X ai σ Q) X.xe s
structure FnScope (N P:List Str)(sc:Scope):Prop where
 kind:sc.kind = .function
 co:sc.isCoroutine=false
 gen:sc.isGenerator=false
 nd:N.Nodup
 pre:N.take P.length=P
 par:∀x∈P,sc.names.lookup x=some .local∨sc.names.lookup x=some .cell
 nofree:∀y∈sc.names,y.2≠.free
theorem zW {kindOf:Str->Option NameKind}{x:Str}:∀{binds:List (Str×ax)}{m:Str->Option ax},(∀v,(x,v)∉binds)->bindL kindOf binds m x=m x
 |[],_,_=>rfl
 |(n,v)::r,m,h=>by
  unfold bindL;rw[zW λw hw=>h w (bd5 _ hw)];split
  ·have:x≠n:=by rintro rfl;exact h v bd4
   simp[this]
  ·rfl
theorem zX {kindOf:Str->Option NameKind}{x:Str}:∀{binds:List (Str×ax)}{m:Str->Option ax},(∀v,(x,v)∉binds)->bindC kindOf binds m x=m x
 |[],_,_=>rfl
 |(n,v)::r,m,h=>by
  unfold bindC;rw[zX λw hw=>h w (bd5 _ hw)];split
  ·rfl
  ·have:x≠n:=by rintro rfl;exact h v bd4
   simp[this]
theorem zY {kindOf:Str->Option NameKind}{x:Str}{v:ax}:∀{P:List Str}{vs:List ax}{i:Nat}{m:Str->Option ax},P.Nodup->P[i]? = some x->vs[i]? = some v->kindOf x=some .local->
  bindL kindOf (P.zip vs) m x=some v
 |[],_,_,_,_,h,_,_=>by simp at h
 |_::_,[],_,_,_,_,h,_=>by simp at h
 |p::P,w::vs,0,m,nd,h1,h2,hk=>by
  simp at h1 h2;subst h1;subst h2;show bindL kindOf ((p,w)::P.zip vs) m p=_;unfold bindL;rw[zW λv hv=>(bh7.mp nd).1 (List.of_mem_zip hv).1,if_pos hk];simp
 |p::P,w::vs,i+1,m,nd,h1,h2,hk=>by
  show bindL kindOf ((p,w)::P.zip vs) m x=_;unfold bindL;exact zY (i:=i) (bh7.mp nd).2 (by simpa using h1) (by simpa using h2) hk
theorem zZ {kindOf:Str->Option NameKind}{x:Str}{v:ax}:∀{P:List Str}{vs:List ax}{i:Nat}{m:Str->Option ax},P.Nodup->P[i]? = some x->vs[i]? = some v->kindOf x≠some .local->
  bindC kindOf (P.zip vs) m x=some v
 |[],_,_,_,_,h,_,_=>by simp at h
 |_::_,[],_,_,_,_,h,_=>by simp at h
 |p::P,w::vs,0,m,nd,h1,h2,hk=>by
  simp at h1 h2;subst h1;subst h2;show bindC kindOf ((p,w)::P.zip vs) m p=_;unfold bindC;rw[zX λv hv=>(bh7.mp nd).1 (List.of_mem_zip hv).1,if_neg hk];simp
 |p::P,w::vs,i+1,m,nd,h1,h2,hk=>by
  show bindC kindOf ((p,w)::P.zip vs) m x=_;unfold bindC;exact zZ (i:=i) (bh7.mp nd).2 (by simpa using h1) (by simpa using h2) hk
noncomputable def dZ (N:List Str)(vs:List V):St:=vs.map some++List.replicate (N.length-vs.length) none
noncomputable def cK (CX:dO)(P:ba)(w:bf)(K:ad)(mg:Str->Option ax)(base:Heap)(N:List Str)(qual:Str)(scope:Scope)(f:az)(cd:ax)(A:bc)(outer:List Env)(s:ay)(H:Hp)(E:XK):Cx where
 prog:=P
 w:=w
 K:=K
 mg:=mg
 base:=base
 A:=A.deeper (envOfC qual scope s.heap.objs.size f cd)
 N:=N
 s₀:=s
 H₀:=H
 env:=envOfC qual scope s.heap.objs.size f cd
 outer:=outer
 stack:=envOfC qual scope s.heap.objs.size f cd::outer
 ex:=[]
 calm:=true
 fn:=λ_=>true
 pn:=[]
 xe:=λe s'=>wpAny (model P w) (A.deeper (envOfC qual scope s.heap.objs.size f cd)) (leaving (envOfC qual scope s.heap.objs.size f cd) e) (λ_ s''=>CX outer H s E e s'') (λe' s''=>CX outer H s E e' s'') s'
theorem A0 {sc:Scope}{n:Nat}{x:Str}(h:sc.names.lookup x=some .cell):∃c,(cellsFrom n sc.names []).lookup x=some c:=by
 have q:=PySem.W.cellsFrom_some sc.names n [] (.inl h);exact Option.isSome_iff_exists.mp q
theorem A1 {CX:dO}{P:ba}{w:bf}{K:ad}{mg:Str->Option ax}{base:Heap}{N ps:List Str}{qual:Str}{scope:Scope}{f:az}{cd:ax}{A:bc}{outer:List Env}{s s1:ay}{H:Hp}{E:XK}{us:List ax}{vs:List V}(S:FnScope N ps scope)(hd:A.handled=none)(e0:jM P w K mg base A outer s H)(hl:vs.length=ps.length)(r:aN vs us)(x:InCallC s s.heap.objs.size (bindL (envOfC qual scope s.heap.objs.size f cd).kindOf (ps.zip us) λ_=>none) (cellsFrom (s.heap.objs.size+1) scope.names []) (bindC (envOfC qual scope s.heap.objs.size f cd).kindOf (ps.zip us) λ_=>none) s1) :
  aA (cK CX P w K mg base N qual scope f cd A outer s H E) [] (dZ N vs) H s1:=by
 have hpl:ps.length<=N.length:=by have:=congrArg List.length S.pre;rw[List.length_take]at this;omega
 obtain⟨h1,tk,rfl,hk⟩:=x.done
 have noA:∀b:az,b∉(cK CX P w K mg base N qual scope f cd A outer s H E).ex:=λb z=>absurd (show b∈([]:List az) from z) (by simp)
 refine⟨⟨e0.mod,S.kind,rfl,rfl,be2 _,λy z c h1 h2=>?_,λy hy=>?_,λy c _ h=>?_,λ_=>hd,Around.frames_deeper e0.frames,.inr ⟨rfl,rfl⟩,λb z=>absurd z (noA b),e0.bs,e0.bsz,λb _ _=>noA b,λb z=>absurd z (noA b),e0.funs,e0.frf⟩,
  rfl,e0.bare,Un.kept hk,⟨_,x.toInCall.ns,λi y v h1 h2 h3=>?_⟩,λy c h=>⟨_,x.cell y c h⟩,e0.hok.fresh (be2 _),λy c h=>?_,λp hp=>absurd (show p∈([]:List (az×Obj)) from hp) (by simp),e0.hok.kept hk,?_⟩
 ·exact name_of_addr x.apart (bh4 h1) (bh4 h2)
 ·have hy:scope.names.lookup y=some .cell∨scope.names.lookup y=some .free:=hy
  rcases hy with hy|hy
  ·exact A0 hy
  ·exact absurd rfl (S.nofree _ (bh4 hy))
 ·exact bp0 (x.above y c (bh4 h))
 ·have hi:i<vs.length:=by
   unfold dZ at h2;by_cases hi:i<vs.length
   ·exact hi
   ·rw[List.getElem?_append_right (by simpa using hi)]at h2
    rw[List.getElem?_replicate]at h2;split at h2<;>cases h2
  have ha:vs[i]? = some v:=by
   unfold dZ at h2;rw[bo0 (by simpa using hi),bf4]at h2;cases e:vs[i]? with
   |none=>rw[e]at h2;cases h2
   |some a=>rw[e]at h2;cases h2;rfl
  obtain⟨u,hu,rv⟩:=r.get ha
  have hp:ps[i]? = some y:=by
   rw[<- S.pre,List.getElem?_take_of_lt (by omega)];exact h1
  have ndP:ps.Nodup:=by rw[<- S.pre];exact S.nd.sublist (List.take_sublist _ _)
  refine⟨u,rv,?_⟩;rcases S.par y (bi9 hp) with k|k
  ·exact .inl ⟨k,zY ndP hp hu k⟩
  ·obtain⟨c,e⟩:=A0 (n:=s.heap.objs.size+1) k
   refine .inr ⟨.inl k,c,e,?_⟩;have q:=x.cell y c e;rw[zZ ndP hp hu (by show scope.names.lookup y≠_;rw[k];decide)]at q;exact q
 ·exact e0.hok.fresh (bp0 (x.above y c (bh4 h)))
 ·unfold dZ
  show _=N.length;rw[be3,be0,bk6];omega
theorem tV {CX:dO}{P:ba}{w:bf}{K:ad}{mg:Str->Option ax}{base:Heap}{k:Nat}{f:az}{name qual:Str}{params:Arguments}{body:List Stmt}{scope:Scope}{dV kV doc pm cdv ct oc:ax}{an od:Option az}{osl:Array (Option ax)}{N ps:List Str}{sp:Sp}(lk:K.lookup f=some ⟨oc,od,.func (PySem.W.fnOf name qual params body scope dV kV doc pm an cdv ct),osl⟩)(hcd:PySem.W.codeIn K cdv qual=true)(S:FnScope N ps scope)(len:∀vs H Q E,sp vs H Q E->vs.length=ps.length)(hbody:∀(A:bc) (outer:List Env) (s:ay) (H:Hp) (vs:List V) (Q:VK) (E:XK),bG k (A.deeper (envOfC qual scope s.heap.objs.size f cdv))->sp vs H Q E->
   ∃t,dE (cK CX P w K mg base N qual scope f cdv A outer s H E) body t/\t { nx:=λ_ H'=>Q .non H',rt:=Q } (dZ N vs) H) :
  cX P w K mg base CX (k+1) f (PySem.W.fnOf name qual params body scope dV kV doc pm an cdv ct) ps sp:=by
 refine⟨len,λA outer s H args us vs Q E hr e0 hb r hsp=>?_⟩;have hl:=len _ _ _ _ hsp;have KX:K.In s.heap:=e0.mod.kin.keeps λb o e=>(e0.bs b o e).1
 have lim:s.heap.NoLimit:=e0.mod.nolimit.keeps λb o e=>(e0.bs b o e).1
 have hkind:∀y∈ps.zip us,scope.names.lookup y.1=some .local∨(scope.names.lookup y.1=some .cell/\((cellsFrom (s.heap.objs.size+1) scope.names []).lookup y.1).isSome=true):=λ⟨n,v⟩ hy=>by
  rcases S.par n (List.of_mem_zip hy).1 with q|q
  ·exact .inl q
  ·exact .inr ⟨q,PySem.W.cellsFrom_some _ _ _ (.inl q)⟩
 refine codeAny_call_function hr.depth (KX _ _ lk) rfl S.co S.gen rfl (PySem.W.codeRec_of KX hcd) (hb _ _ _ _ ?_);refine wpAny_newFunctionEnv_cells S.kind hkind λenv he s1 x=>?_
 subst he;refine⟨lim.keeps x.toInCall.keep,codeAny_func ?_⟩
 obtain⟨t,ht,hq⟩:=hbody A outer s H vs Q E (hr.deeper _) hsp
 have I:aA (cK CX P w K mg base N qual scope f cdv A outer s H E) [] (dZ N vs) H s1:=A1 S hr.hd e0 hl r x;refine bj6 (ht [] s1 (dZ N vs) H _ I hq) (λfl s' hs=>?_) λe s' hs=>hs
 have fin:∀{σ':St}{H':Hp}{v:V}{u:ax},aA (cK CX P w K mg base N qual scope f cdv A outer s H E) [] σ' H' s'->aU v u->Q v H'->CE outer P w H s Q u s':=
  λ{σ' H' v u} J rv q=>⟨v,H',J.os,J.bare,J.base,J.hok,rv,q⟩
 cases fl with
 |ret u=>
  obtain⟨v,σ',H',J,rv,q⟩:=hs
  exact fin J rv q
 |next=>
  obtain⟨σ',H',J,q⟩:=hs
  exact fin (v:=V.non) (u:=Value.none) J rfl q
 |brk=>
  obtain⟨_,_,_,q⟩:=hs
  exact False.elim q
 |cont=>
  obtain⟨_,_,_,q⟩:=hs
  exact False.elim q
section
variable {X:Cx}{x:Str}{p pos:Pos}{e:Expr}{es:List Expr}{t:TA}{id T:String}{r:List V→Hp→VK→Prop}
noncomputable def tW (r:List V->Hp->VK->Prop)(t:TA):TE:=λσ H Q=>t σ H λvs H1=>r vs H1 Q
theorem A2 (hc:dN X (.builtin id) r)(hg:Gl X x)(hm:X.mg x=none)(hv:bootBuiltins x=some (.builtin id))(ha:PA X (e::es) t)(hn:x≠"__name__":=by decide)(hdb:(x==("__debug__":Str))=false:=by decide)(he:starEach (e::es) X.env=(false,eval e X.env)::starEach es X.env:=by rfl)(hpl:(backTo pos (starEach es X.env)).any (·.1)=false:=by rfl):PE X (.Call (.Name x p) (e::es) [] pos) (tW r t):=by
 intro ai s σ H Q I h;refine bo3 (lV I hg hm hv ?_ hn hdb);exact PyProof.Rows.callWith_builtin1 (aO (ha pos ai s σ H _ I h) λus s1 ⟨vs,H1,I1,r1,q1⟩=>hc ai s1 σ H1 vs us Q I1 r1 q1) he hpl
theorem am1 (hc:dN X (.type T) r)(hg:Gl X x)(hm:X.mg x=none)(hv:bootBuiltins x=some (.type T))(ha:PA X (e::es) t)(hn:x≠"__name__":=by decide)(hdb:(x==("__debug__":Str))=false:=by decide)(he:starEach (e::es) X.env=(false,eval e X.env)::starEach es X.env:=by rfl)(hpl:(backTo pos (starEach es X.env)).any (·.1)=false:=by rfl):PE X (.Call (.Name x p) (e::es) [] pos) (tW r t):=by
 intro ai s σ H Q I h;refine bo3 (lV I hg hm hv ?_ hn hdb);exact bp1 (aO (ha pos ai s σ H _ I h) λus s1 ⟨vs,H1,I1,r1,q1⟩=>hc ai s1 σ H1 vs us Q I1 r1 q1) he hpl
end
end L2
namespace HT
open PySem PyProof.Rows
noncomputable def cY:ag->ag->Bool
 |[],[]=>false
 |[],_::_=>true
 |_::_,[]=>false
 |x::xs,y::ys=>if x=y then cY xs ys else decide (x<y)
theorem qJ (x y:Int)(xs ys:ag):cY (x::xs) (y::ys)=if x=y then cY xs ys else decide (x<y):=rfl
theorem am2:cY [] []=false:=rfl
theorem am3 (y:Int)(ys:ag):cY [] (y::ys)=true:=rfl
theorem am4 (x:Int)(xs:ag):cY (x::xs) []=false:=rfl
theorem A3 (A:bc)(s:ay)(a:Int)(t:Tok)(c:Int)(u:Tok):∃e,SeqAt.EqAt A s (.int a t) (.int c u) e/\(e=true↔a=c):=
 ⟨(a==c),SeqAt.EqAt.int_int a t c u,by simp⟩
theorem A4 (A:bc)(s:ay)(a:Int)(t:Tok)(c:Int)(u:Tok)(prog:ba)(w:bf)(E:ax->ay->Prop)(Q:ax->ay->Prop)(h:Q (.bool (decide (a<c))) s) :
  wpAny (model prog w) A (richCompare .Lt (.int a t) (.int c u)) Q E s:=
 (PyProof.Rows.lt_int h:wpAny (model prog w) A (compareOp .Lt (.int a t) (.int c u)) Q E s)
section
open PySem.SeqAt
open PySem.AutoSeq1 (wpAny_loadPart')
open PySem.MeetsSeq PySem.MeetsSeq2 PySem.MeetsSeq3
theorem am5 (l b:az)(items items2:Array ax)(n n2:Nat)(dd dd2:Option az)(sl sl2:Array (Option ax))(ns ms:ag)(hi:IntsAre items.toList ns)(hj:IntsAre items2.toList ms) :
  Meets (Builtin.«tuple.__lt__» ⟨[.ref l,.ref b],[]⟩)
   (λ_ R s=>s.heap.get? l=some { cls:=.type "tuple",dict:=dd,data:=.seq items n,slots:=sl }/\s.heap.get? b=some { cls:=.type "tuple",dict:=dd2,data:=.seq items2 n2,slots:=sl2 }/\
    R (.ok (.ret (.bool (cY ns ms)))) s):=
 .of_wp λprog w A R s h=>by
  obtain⟨hp,g,d,tk,os⟩:=s;obtain⟨hl,hb,h⟩:=h
  have f2:=AutoSeq1.sub_tuple_tuple;have z1:items.size=ns.length:=by rw[<- hi.length];simp
  have z2:items2.size=ms.length:=by rw[<- hj.length];simp
  wp_walk using wpAny_loadPart' hl,wpAny_loadPart' hb,wpAny_forIn_list _ (λrest b s'=>b.1=none/\s'=⟨hp,g,d,tk,os⟩/\∃(vs ws:List ax) (ns' ms':ag),rest=vs.zip ws/\
   IntsAre vs ns'/\IntsAre ws ms'/\ns'.length+items2.size=ms'.length+items.size/\R (.ok (.ret (.bool (cY ns' ms')))) ⟨hp,g,d,tk,os⟩) _
  case turn=>
   rintro⟨y,x⟩ rest b s' ⟨hb',rfl,vs,ws,ns',ms',hz,hvi,hwi,ao,hR⟩
   cases hvi with
   |nil=>rw[List.zip_nil_left]at hz;cases hz
   |cons a t hvi'=>
    cases hwi with
    |nil=>rw[List.zip_nil_right]at hz;cases hz
    |cons c u hwi'=>
     rw[bo2]at hz;injection hz with hyx hrest
     injection hyx with hy hx
     subst hy hx;rw[qJ]at hR;simp only[bg2]at ao
     obtain⟨e,he,hiff⟩:=A3 A.in1 ⟨hp,g,d,tk,os⟩ a t c u
     refine bd2 (he prog w _ _ ?_);cases e with
     |true=>
      rw[if_pos (hiff.mp rfl)]at hR
      wp_walk
      exact⟨rfl,rfl,_,_,_,_,hrest,hvi',hwi',by omega,hR⟩
     |false=>
      rw[if_neg (λq=>absurd (hiff.mpr q) be9)]at hR;have hri:=A4 A.in1 ⟨hp,g,d,tk,os⟩ a t c u prog w
      wp_walk using hri
      exact⟨_,rfl,by simpa using hR⟩
  case fin=>
   rintro⟨b1,b2⟩ s' ⟨hb',rfl,vs,ws,ns',ms',hz,hvi,hwi,ao,hR⟩
   simp only at hb';subst hb';have hv:cY ns' ms'=decide (items.size<items2.size):=by
    cases hvi with
    |nil=>
     cases hwi with
     |nil=>
      simp only[List.length_nil]at ao;rw[am2];exact (be4 (by omega)).symm
     |cons c u hw=>
      simp only[List.length_nil,bg2]at ao;rw[am3];exact (bg0 (by omega)).symm
    |cons a t hv=>
     cases hwi with
     |nil=>
      simp only[List.length_nil,bg2]at ao;rw[am4];exact (be4 (by omega)).symm
     |cons c u hw=>
      rw[bo2]at hz;cases hz
   rw[hv]at hR
   wp_walk
   exact⟨_,rfl,by simpa[Builtin.Tuple.tupleCompareSizes] using hR⟩
  case h=>
   exact⟨rfl,rfl,items.toList,items2.toList,ns,ms,rfl,hi,hj,by omega,h⟩
end
section
variable {prog:ba}{w:bf}{A:bc}{E:ax→ay→Prop}{s:ay}
theorem am6 {l b:az}{items items2:Array ax}{ns ms:ag}{Q:ax->ay->Prop}(hl:IsTup s.heap l items)(hb:IsTup s.heap b items2)(hi:IntsAre items.toList ns)(hj:IntsAre items2.toList ms)(hu:A.units<cLine)(h:Q (.bool (cY ns ms)) s):wpAny (model prog w) A (compareOp .Lt (.ref l) (.ref b)) Q E s:=by
 obtain⟨⟨cls,dd,data,sl⟩,ho,hc,n,hd⟩:=id hl
 obtain⟨⟨cls2,dd2,data2,sl2⟩,ho2,hc2,n2,hd2⟩:=id hb
 simp only at hc hd hc2 hd2;subst hc hd hc2 hd2;exact richCompare_meets_room (op:=.Lt) ⟨_,ho,rfl⟩ ⟨_,ho2,rfl⟩ PySem.F.slot_tuple_lt PySem.F.entry_tuple_lt (PySem.F.args_tuple_lt_2 _ _) (am5 l b items items2 n n2 dd dd2 sl sl2 ns ms hi hj)
  ⟨ho,ho2,show Value.bool (cY ns ms)≠Value.notImplemented/\Q (.bool (cY ns ms)) s from ⟨(λx=>nomatch x),h⟩⟩ hu
theorem am7 {t b:az}{vs ws:List ax}{Q:ax->ay->Prop}(ht:IsTup s.heap t vs.toArray)(hb:IsTup s.heap b ws.toArray)(hv:vs≠[])(h1:ws = []->Q (.ref t) s)(h2:ws≠[]->Q (.ref s.heap.objs.size) { s with heap:=s.heap.push { cls:=.type "tuple",data:=.seq (vs++ws).toArray } })(hsz:vs.length+ws.length<=sizeLine):wpAny (model prog w) A (binaryOp .Add (.ref t) (.ref b)) Q E s:=by
 obtain⟨⟨cls,dd,data,sl⟩,ho,hc,n,hd⟩:=id ht
 obtain⟨⟨cls2,dd2,data2,sl2⟩,ho2,hc2,n2,hd2⟩:=id hb
 simp only at hc hd hc2 hd2;subst hc hd hc2 hd2;have e:vs.toArray++ws.toArray=(vs++ws).toArray:=by simp
 by_cases hw:ws = []
 ·exact concat_meets ⟨_,ho,rfl⟩ ⟨_,ho2,rfl⟩ noFill_tuple_add seq_tuple_add PySem.F.slot_tuple_add PySem.F.entry_tuple_add (PySem.F.args_tuple_add_2 _ _)
   (tuple_addW1 t b vs.toArray ws.toArray n n2 dd dd2 sl sl2 (by simpa using hv) (by simp[hw])) ⟨ho,ho2,h1 hw⟩
 ·refine concat_meets ⟨_,ho,rfl⟩ ⟨_,ho2,rfl⟩ noFill_tuple_add seq_tuple_add PySem.F.slot_tuple_add PySem.F.entry_tuple_add (PySem.F.args_tuple_add_2 _ _)
   (tuple_addW2 t b vs.toArray ws.toArray n n2 dd dd2 sl sl2 (by simpa using hv) (by simpa using hw) (by rw[bd9,bd9];exact hsz)) ⟨ho,ho2,?_⟩
  rw[e];exact h2 hw
noncomputable def b9 (n d:Nat):Option Int->Nat
 |none=>d
 |some v=>if v<0 then (v+(n:Int)).toNat else min v.toNat n
theorem am8 (n d:Nat):b9 n d none=d:=rfl
theorem am9 (n d:Nat)(hd:d<=n)(o:Option Int):b9 n d o<=n:=by
 cases o with
 |none=>exact hd
 |some v=>
  show (if v<0 then (v+(n:Int)).toNat else min v.toNat n)<=n;by_cases hv:v<0
  ·rw[if_pos hv];omega
  ·rw[if_neg hv];exact Nat.min_le_right _ _
theorem A5 (v:Int)(n d:Nat):(if v<0 then max (v+(n:Int)) 0 else min v (n:Int))=((b9 n d (some v):Nat):Int):=by
 show (if v<0 then max (v+(n:Int)) 0 else min v (n:Int))=(((if v<0 then (v+(n:Int)).toNat else min v.toNat n):Nat):Int);by_cases hv:v<0
 ·simp only[if_pos hv];omega
 ·simp only[if_neg hv];omega
theorem ao0 (lo hi:Option Int)(n:Nat):Builtin.Slice.sliceAdjust lo hi 1 (n:Int)=(((b9 n 0 lo:Nat):Int),((b9 n n hi:Nat):Int)):=by
 have h1:¬((1:Int)<0):=by omega
 unfold Builtin.Slice.sliceAdjust;simp only[h1,bl9];refine Prod.ext ?_ ?_
 ·cases lo with
  |none=>rfl
  |some v=>exact A5 v n 0
 ·cases hi with
  |none=>rfl
  |some v=>exact A5 v n n
theorem ao1 (i j:Nat):Builtin.Slice.slicePlaces (i:Int) (j:Int) 1=j-i:=by
 unfold Builtin.Slice.slicePlaces;have h1:(1:Int)>0:=by omega
 simp only[h1,if_true,Int.ediv_one];split<;>omega
theorem A6 {v:ax}{o:Option Int}{Q:Option Int->ay->Prop}(p:IsPart v o)(h:Q o s):wpAny (model prog w) A (Builtin.Slice.slicePartIndex v) Q E s:=by
 cases p with
 |none=>exact slicePart_none h
 |int i t=>exact slicePart_int h
theorem A7 {sl:az}{vl vu:ax}{lo hi:Option Int}{n:Nat}{Q:Int×Int×Nat->ay->Prop}(hs:s.heap.IsSliceOf sl vl vu .none)(pl:IsPart vl lo)(pu:IsPart vu hi)(h:Q (((b9 n 0 lo:Nat):Int),1,b9 n n hi-b9 n 0 lo) s):wpAny (model prog w) A (Builtin.Slice.sliceApplied (.ref sl) (pure (n:Int))) Q E s:=by
 obtain⟨os,hos,hcs,hds⟩:=id hs
 unfold Builtin.Slice.sliceApplied Builtin.Slice.sliceFields;refine bd2 (bd2 (bj2 hos hds (x:=vl) rfl (bd2 (bj2 hos hds (x:=vu) rfl (bd2 (bj2 hos hds (x:=.none) rfl (bd6 ?_)))))));refine bd2 (slicePart_none ?_);show wpAny _ _ (if ((1:Int)==0)=true then _ else _) _ _ s;rw[if_neg (by decide)];refine bd2 (A6 pl (bd2 (A6 pu (bd2 (bd6 ?_)))));show wpAny _ _ (match Builtin.Slice.sliceAdjust lo hi 1 (n:Int) with|(lo,hi)=>pure (lo,(1:Int),Builtin.Slice.slicePlaces lo hi 1)) _ _ s;rw[ao0 lo hi n];show wpAny _ _ (pure (((b9 n 0 lo:Nat):Int),(1:Int),Builtin.Slice.slicePlaces ((b9 n 0 lo:Nat):Int) ((b9 n n hi:Nat):Int) 1)) _ _ s;rw[ao1];exact bd6 h
theorem ao2 (xs:Array ax)(i k:Nat):((List.range k).filterMap λ(m:Nat)=>xs[((i:Int)+(m:Int)*1).toNat]?).toArray=((xs.toList.drop i).take k).toArray:=by
 have e:(λ(m:Nat)=>xs[((i:Int)+(m:Int)*1).toNat]?)=λm=>xs[i+m]?:=by
  funext m
  have:((i:Int)+(m:Int)*1).toNat=i+m:=by omega
  rw[this]
 rw[e]
 have:=pick_run xs i k
 rw[List.filterMap_map]at this;have e2:((λx=>xs[x]?) ∘ λx=>i+x)=λm=>xs[i+m]?:=rfl
 rw[e2]at this;rw[this]
theorem ao3 {t sl:az}{items:Array ax}{vl vu:ax}{lo hi:Option Int}{Q:ax->ay->Prop}(ht:IsTup s.heap t items)(hs:s.heap.IsSliceOf sl vl vu .none)(pl:IsPart vl lo)(pu:IsPart vu hi)(hw:¬(b9 items.size 0 lo=0/\b9 items.size items.size hi=items.size))(h:Q (.ref s.heap.objs.size) { s with heap:=s.heap.push { cls:=.type "tuple",data:=.seq ((items.toList.drop (b9 items.size 0 lo)).take (b9 items.size items.size hi-b9 items.size 0 lo)).toArray } })(hsz:items.size<=sizeLine):wpAny (model prog w) A (getItem (.ref t) (.ref sl)) Q E s:=by
 have htake:sizeOk (.seq ((items.toList.drop (b9 items.size 0 lo)).take (b9 items.size items.size hi-b9 items.size 0 lo)).toArray):=by
  show ((items.toList.drop (b9 items.size 0 lo)).take (b9 items.size items.size hi-b9 items.size 0 lo)).toArray.size<=sizeLine;rw[bd9,List.length_take,List.length_drop,Array.length_toList];omega
 have hj:b9 items.size items.size hi<=items.size:=am9 _ _ (be2 _) hi
 obtain⟨os,hos,hcs,hds⟩:=id hs
 have hTs:s.TypeIs (.ref sl) "slice":=⟨os,hos,hcs⟩;unfold getItem
 try with_reducible refine bq8 ?_
 first|refine bd2 (bd6 ?_)|skip
 refine bd2 (wpAny_sequenceKey ht.typeIs (by decide) ?_)
 refine bd2 (bj3 (name:=Str.ofString "__getitem__") ht.typeIs bn9
  (bl5 bn9 ht.typeIs entry_tuple_getitem ?_ (args_tuple_getitem _ _)))
 show wpAny _ _ (Builtin.Tuple.tupleItemsOf (.ref t) >>= _) _ _ s;refine bd2 (tupleItemsOf_ ht ?_);refine bd2 (wpAny_typeOf hTs ?_);rw[if_pos (by decide)];refine bd2 (A7 hs pl pu ?_);have hno:¬((((b9 items.size 0 lo:Nat):Int)==0&&(1:Int)==1&&(b9 items.size items.size hi-b9 items.size 0 lo)==items.size)=true):=by
  intro q;rw[bg6,bg6]at q;have q1:((b9 items.size 0 lo:Nat):Int)=0:=eq_of_beq q.1.1;have q2:b9 items.size items.size hi-b9 items.size 0 lo=items.size:=eq_of_beq q.2;exact hw ⟨by omega,by omega⟩
 show wpAny _ _ (if (((b9 items.size 0 lo:Nat):Int)==0&&(1:Int)==1&&(b9 items.size items.size hi-b9 items.size 0 lo)==items.size)=true then _ else _) _ _ s;rw[if_neg hno,ao2]
 first
  |exact bd2 (m:=Builtin.Tuple.tupleExact _) (bk1 (bd6 ⟨_,rfl,bd6 h⟩) htake)
  |exact bd2 (m:=Builtin.Tuple.tupleExact _) (bk1 (bd2 (bd6 (bd6 ⟨_,rfl,bd6 h⟩))) htake)
  |exact bd2 (bd2 (m:=Builtin.Tuple.tupleExact _) (bk1 (bd6 (bd6 ⟨_,rfl,bd6 h⟩)) htake))
  |exact bd2 (bd2 (m:=Builtin.Tuple.tupleExact _) (bk1 (bd6 ⟨_,rfl,bd6 h⟩) htake))
end
end HT
namespace L2
open PySem PySem.Spec PyProof.Rows
noncomputable abbrev TO:=St->Hp->(Option Int->Hp->Prop)->Prop
noncomputable def PO (X:Cx)(e:Option Expr)(t:TO):Prop:=
 ∀(ai:List (az×Obj)) (s:ay) (σ:St) (H:Hp) (Q:Option Int->Hp->Prop),aA X ai σ H s->t σ H Q->
  wpAny (model X.prog X.w) X.A (evalPart e X.env) (λu s'=>∃o H',aA X ai σ H' s'/\IsPart u o/\Q o H') X.xe s
noncomputable def ao4:TO:=λ_ H Q=>Q none H
noncomputable def ao5 (t:TE):TO:=λσ H Q=>t σ H λx H1=>∃i,x = .int i/\Q (some i) H1
theorem lY {ns:ag}:∀{us:List ax},aN (ns.map V.int) us->IntsAre us ns:=by
 induction ns with
 |nil=>intro us r;rw[List.map_nil]at r;cases r;exact .nil
 |cons n ns ih=>
  intro us r;rw[bf0]at r;cases r with
  |cons r1 r2=>
   obtain⟨t,e⟩:=r1
   subst e;exact .cons n t (ih r2)
section
variable {X:Cx}{e:Expr}{te:TE}{lo hi:Option Expr}{tl th:TO}{pos p2:Pos}
theorem ao6:PO X none ao4:=by
 intro ai s σ H Q I h;rw[evalPart_none];exact bd6 ⟨none,H,I,.none,h⟩
theorem ao7 (h:PE X e te):PO X (some e) (ao5 te):=by
 intro ai s σ H Q I hw;rw[evalPart_some];refine aO (h ai s σ H _ I hw) λu s1 ⟨x,H1,I1,r1,q1⟩=>?_
 obtain⟨i,rfl,q⟩:=q1
 obtain⟨t,rfl⟩:=r1
 exact⟨some i,H1,I1,.int i t,q⟩
noncomputable def jN (X:Cx)(r:V->Option Int->Option Int->Hp->VK->Prop):Prop:=
 ∀(ai:List (az×Obj)) (s:ay) (σ:St) (H:Hp) (x:V) (v vl vu:ax) (lo hi:Option Int) (sl:az) (Q:VK),aA X ai σ H s->aU x v->s.heap.IsSliceOf sl vl vu .none->IsPart vl lo->IsPart vu hi->r x lo hi H Q->
  ∃T id,typeLookup (.type T) "__getitem__" = pure (some (.builtin id))/\s.TypeIs v T/\wpAny (model X.prog X.w) X.A (getItem v (.ref sl)) (EP X ai σ Q) X.xe s
theorem jN.or {r r':V->Option Int->Option Int->Hp->VK->Prop}(h:jN X r)(h':jN X r'):jN X (λx lo hi H Q=>r x lo hi H Q∨r' x lo hi H Q):=by
 intro ai s σ H x v vl vu lo hi sl Q I rx hs pl pu q;rcases q with q|q
 ·exact h ai s σ H x v vl vu lo hi sl Q I rx hs pl pu q
 ·exact h' ai s σ H x v vl vu lo hi sl Q I rx hs pl pu q
noncomputable def tSl (r:V->Option Int->Option Int->Hp->VK->Prop)(te:TE)(tl th:TO):TE:=λσ H Q=>te σ H λx H1=>tl σ H1 λl H2=>th σ H2 λu H3=>r x l u H3 Q
theorem ao8 {r:V->Option Int->Option Int->Hp->VK->Prop}(hr:jN X r)(he:PE X e te)(hl:PO X lo tl)(hu:PO X hi th):PE X (.Subscript e (.Slice lo hi none p2) pos) (tSl r te tl th):=by
 intro ai s σ H Q I h;refine Subscript_ (aO (he ai s σ H _ I h) λv s1 ⟨x,H1,I1,r1,q1⟩=>?_);refine wpAny_Slice (aO (hl ai s1 σ H1 _ I1 q1) λvl s2 ⟨l,H2,I2,pl,q2⟩=>aO (hu ai s2 σ H2 _ I2 q2) λvu s3 ⟨u,H3,I3,pu,q3⟩=>?_);rw[evalPart_none];refine bd6 ?_;have I4:aA X ai σ H3 { s3 with heap:=s3.heap.push { cls:=.type "slice",data:=.fields #[vl,vu,.none] } }:=I3.kept (t':=s3.toks) λb ob q=>bd3 _ q
 obtain⟨T,id,hT,ht,hg⟩:=hr ai { s3 with heap:=s3.heap.push { cls:=.type "slice",data:=.fields #[vl,vu,.none] } } σ H3 x v vl vu l u s3.heap.objs.size Q I4 r1 (Heap.IsSliceOf.new ..) pl pu q3
 show wpAny (model X.prog X.w) X.A (subscriptTail e (.Slice lo hi none p2) v (.ref s3.heap.objs.size)) (EP X ai σ Q) X.xe { s3 with heap:=s3.heap.push { cls:=.type "slice",data:=.fields #[vl,vu,.none] } };exact tail_any (ops:=[.ref s3.heap.objs.size,v]) ht hT hg (by with_unfolding_all rfl)
noncomputable def i7 (xs:List V)(lo hi:Option Int):List V:=(xs.drop (HT.b9 xs.length 0 lo)).take (HT.b9 xs.length xs.length hi-HT.b9 xs.length 0 lo)
theorem A8 (xs:List V)(lo hi:Option Int):(i7 xs lo hi).length<=xs.length:=by
 unfold i7;rw[List.length_take,List.length_drop];omega
noncomputable def ao9 (K:ad):V->Option Int->Option Int->Hp->VK->Prop:=λx lo hi H Q=>∃a xs,x = .ref a/\aR K H a xs/\
 ¬(HT.b9 xs.length 0 lo=0/\HT.b9 xs.length xs.length hi=xs.length)/\∀p,H p=none->Q (.ref p) (upd H p (.tup (i7 xs lo hi)))
theorem ap0:jN X (ao9 X.K):=by
 intro ai s σ H x v vl vu lo hi sl Q I rx hs pl pu h
 obtain⟨a,xs,rfl,hx,hw,q⟩:=h
 cases rx
 obtain⟨its,r,ht,hz⟩:=I.tuple hx
 have ao:its.toArray.size=xs.length:=by rw[bd9];exact r.length.symm
 refine⟨"tuple",_,PyProof.Rows.slot_tuple_getitem.lookup,ht.typeIs,?_⟩;refine HT.ao3 ht hs pl pu (by rw[ao];exact hw) ?_ (by rw[ao];exact hz);rw[ao];refine⟨.ref s.heap.objs.size,_,I.laid (t':=s.toks) (o:=.tup (i7 xs lo hi)) (λb ob q=>bd3 _ q) (be2 _) ?_,rfl,q _ (I.hok.fresh (be2 _))⟩
 exact⟨bh2 (A8 xs lo hi) hz,_,(r.drop (HT.b9 xs.length 0 lo)).take (HT.b9 xs.length xs.length hi-HT.b9 xs.length 0 lo),IsTup.new _ _,hV.new _ _ rfl⟩
noncomputable def ap1 (K:ad):R2:=λx y H Q=>∃a b xs ys,x = .ref a/\y = .ref b/\aR K H a xs/\aR K H b ys/\xs≠[]/\xs.length+ys.length<=sizeLine/\
 (ys = []->Q (.ref a) H)/\(ys≠[]->∀p,H p=none->Q (.ref p) (upd H p (.tup (xs++ys))))
theorem aN.nil_iff {xs:List V}{us:List ax}(r:aN xs us):us = []↔xs = []:=by
 cases r with
 |nil=>simp
 |cons _ _=>simp
theorem ap2:cJ X (binaryOp .Add) (ap1 X.K):=by
 intro ai s σ H x y v u Q I rx ry h
 obtain⟨a,b,xs,ys,rfl,rfl,ha,hb,hx,hz,q1,q2⟩:=h
 cases rx;cases ry
 obtain⟨its,r1,p1,_⟩:=I.tuple ha
 obtain⟨av,r2,p2,_⟩:=I.tuple hb
 refine HT.am7 p1 p2 (λz=>hx (r1.nil_iff.mp z)) (λz=>⟨.ref a,H,I,rfl,q1 (r2.nil_iff.mp z)⟩) (λz=>?_) (by rw[<- r1.length,<- r2.length];exact hz);refine⟨.ref s.heap.objs.size,_,I.laid (t':=s.toks) (o:=.tup (xs++ys)) (λb ob q=>bd3 _ q) (be2 _) ?_,rfl,q2 (λw=>z (r2.nil_iff.mpr w)) _ (I.hok.fresh (be2 _))⟩
 exact⟨by rw[be3];exact hz,_,r1.append r2,IsTup.new _ _,hV.new _ _ rfl⟩
end
noncomputable def iJ (n:Nat)(i:Int):Option Nat:=if 0<=i then (if i<n then some i.toNat else none) else if -(n:Int)<=i then some (i+n).toNat else none
noncomputable def atI {α:Type}(xs:List α)(i:Int):Option α:=(iJ xs.length i).bind λj=>xs[j]?
theorem ap3 {n:Nat}{i:Int}{j:Nat}(h:iJ n i=some j):seqIndex? i n=some j/\j<n/\-(n:Int)<=i/\i<n:=by
 unfold iJ at h;by_cases h0:0<=i
 ·rw[if_pos h0]at h
  by_cases h1:i<n
  ·rw[if_pos h1]at h
   have e:i.toNat=j:=bf6 h
   exact⟨by rw[seqIndex_of h0 h1,e],by omega,by omega,h1⟩
  ·rw[if_neg h1]at h;cases h
 ·rw[if_neg h0]at h
  by_cases h1:-(n:Int)<=i
  ·rw[if_pos h1]at h
   have e:(i+n).toNat=j:=bf6 h
   exact⟨by rw[seqIndex_neg (by omega) h1,e],by omega,h1,by omega⟩
  ·rw[if_neg h1]at h;cases h
theorem tX {α:Type}{xs:List α}{i:Int}{v:α}(h:atI xs i=some v):∃j,seqIndex? i xs.length=some j/\xs[j]? = some v/\j<xs.length/\-(xs.length:Int)<=i/\i<xs.length:=by
 unfold atI at h;cases e:iJ xs.length i with
 |none=>rw[e]at h;cases h
 |some j=>
  rw[e]at h
  obtain⟨h1,h2,h3,h4⟩:=ap3 e
  exact⟨j,h1,h,h2,h3,h4⟩
theorem tY {α:Type}{xs:List α}{j:Nat}{v:α}(h:xs[j]? = some v):atI xs (j:Int)=some v:=by
 have hj:j<xs.length:=(bf7.mp h).1;have e:iJ xs.length (j:Int)=some j:=by
  unfold iJ;rw[if_pos (by omega),if_pos (by omega)];simp
 unfold atI;rw[e];exact h
theorem tZ {α:Type}(xs:List α)(v:α):atI (xs++[v]) (-1)=some v:=by
 have hl:(xs++[v]).length=xs.length+1:=by simp
 have e:iJ (xs++[v]).length (-1)=some xs.length:=by
  unfold iJ;rw[hl,if_neg (by decide),if_pos (by omega)];congr 1;omega
 unfold atI;rw[e];show (xs++[v])[xs.length]? = some v;simp
noncomputable def A9 (b:Expr):Prop:=∀o i,subscripted b false o i=operate [o,i] (getItem o i)
noncomputable def iW (X:Cx)(r:R2):Prop:=
 ∀(value slice:Expr) (ai:List (az×Obj)) (s:ay) (σ:St) (H:Hp) (x y:V) (v u:ax) (Q:VK),aA X ai σ H s->aU x v->aU y u->r x y H Q->
  subscripted slice false v u=operate [v,u] (getItem v u)->wpAny (model X.prog X.w) X.A (subscriptTail value slice v u) (EP X ai σ Q) X.xe s
noncomputable def B0 (X:Cx)(id:String)(r:V->List V->Hp->VK->Prop):Prop:=
 ∀(ai:List (az×Obj)) (s:ay) (σ:St) (H:Hp) (x:V) (xs:List V) (v:ax) (us:List ax) (Q:VK),aA X ai σ H s->aU x v->aN xs us->r x xs H Q->
  wpAny (model X.prog X.w) X.A (call (.builtin id) (v::us)) (EP X ai σ Q) X.xe s
section
variable {X:Cx}{a b:Expr}{ta tb:TE}{pos:Pos}
theorem iW.or {r r':R2}(h:iW X r)(h':iW X r'):iW X (λx y H Q=>r x y H Q∨r' x y H Q):=by
 intro value slice ai s σ H x y v u Q I rx ry q hs;rcases q with q|q
 ·exact h value slice ai s σ H x y v u Q I rx ry q hs
 ·exact h' value slice ai s σ H x y v u Q I rx ry q hs
theorem ap4 {r:R2}(hr:iW X r)(ha:PE X a ta)(hb:PE X b tb)(hs:A9 b):PE X (.Subscript a b pos) (o8 r ta tb):=by
 intro ai s σ H Q I h;exact Subscript_ (tM ha hb I h λv u s2 x y H2 I2 rx ry q=>hr a b ai s2 σ H2 x y v u Q I2 rx ry q (hs _ _))
noncomputable def B1 (K:ad):R2:=λx y H Q=>∃p xs i v,x = .ref p/\y = .int i/\aZ K H p xs/\atI xs i=some v/\Q v H
noncomputable def B2 (K:ad):R2:=λx y H Q=>∃p xs i v,x = .ref p/\y = .int i/\aR K H p xs/\atI xs i=some v/\Q v H
noncomputable def B3:R2:=λx y H Q=>∃z i c,x = .str z/\y = .int i/\z.length<=sizeLine/\atI z.cps.toList i=some c/\Q (.str ⟨#[c]⟩) H
theorem ap5:iW X (B1 X.K):=by
 intro value slice ai s σ H x y v u Q I rx ry h hs
 obtain⟨p,xs,i,z,rfl,rfl,hq,he,q⟩:=h
 cases rx
 obtain⟨t,rfl⟩:=ry
 obtain⟨its,r,pl,hz⟩:=I.list hq
 obtain⟨j,h1,h2,h3,h4,h5⟩:=tX he
 obtain⟨w,ew,rw'⟩:=r.get h2
 have hl:=r.length;have hn:=oB;have fin:EP X ai σ Q w s:=⟨z,H,I,rw',q⟩;by_cases h0:0<=i
 ·have hj:i.toNat=j:=by
   rw[seqIndex_of h0 h5]at h1;exact bf6 h1
  exact item_listR pl.isList h0 (by omega) (by rw[hj];simpa using ew) fin hs
 ·have hj:(i+(its.toArray.size:Int)).toNat=j:=by
   rw[seqIndex_neg (by omega) h4]at h1;rw[bd9,<- hl];exact bf6 h1
  exact subscriptTail_builtinR (x:=w) pl.isList.typeIs slot_list_getitem.lookup
   (wpAny_getItem_list_neg (Q:=λr s'=>r=w/\EP X ai σ Q r s') pl.isList (by omega) (by rw[bd9]<;>omega) (by omega) (by rw[hj];simpa using ew) ⟨rfl,fin⟩) hs
theorem ap6:iW X (B2 X.K):=by
 intro value slice ai s σ H x y v u Q I rx ry h hs
 obtain⟨p,xs,i,z,rfl,rfl,hq,he,q⟩:=h
 cases rx
 obtain⟨t,rfl⟩:=ry
 obtain⟨its,r,pl,hz⟩:=I.tuple hq
 obtain⟨j,h1,h2,h3,h4,h5⟩:=tX he
 obtain⟨w,ew,rw'⟩:=r.get h2
 have hl:=r.length;have hn:=oB;have fin:EP X ai σ Q w s:=⟨z,H,I,rw',q⟩;exact subscriptTail_builtinR (x:=w) pl.typeIs slot_tuple_getitem.lookup
  (getItem_tuple (j:=j) (Q:=λr s'=>r=w/\EP X ai σ Q r s') pl (by omega) (by omega) (by rw[bd9,<- hl];exact h1) (by simpa using ew) ⟨rfl,fin⟩) hs
theorem ap7:iW X B3:=by
 intro value slice ai s σ H x y v u Q I rx ry h hs
 obtain⟨z,i,c,rfl,rfl,hz,he,q⟩:=h
 obtain⟨t,rfl⟩:=rx
 obtain⟨t',rfl⟩:=ry
 obtain⟨j,h1,h2,h3,h4,h5⟩:=tX he
 have hl:z.cps.toList.length=z.length:=by simp[Str.length]
 rw[hl]at h1 h4 h5;have hn:=oB
 exact tail_any (typeIs_str s z t) slot_str_getitem.lookup (getItem_str (c:=c) (by
  have e1:decide (i < -(2^63:Int))=false:=be4 (by omega);have e2:decide (i >= 2^63)=false:=be4 (by omega)
  rw[e1,e2,Bool.or_false]) (by rw[h1];simpa using h2) ⟨.str ⟨#[c]⟩,H,I.tok _,⟨_,rfl⟩,q⟩) hs
noncomputable def B4 (K:ad):R2:=λx y H Q=>B1 K x y H Q∨B2 K x y H Q∨B3 x y H Q
theorem ap8:iW X (B4 X.K):=ap5.or (ap6.or ap7)
theorem ap9 (lo hi:Option Int)(n:Nat):(sliceBounds lo hi none n).1=((HT.b9 n 0 lo:Nat):Int)/\(sliceBounds lo hi none n).2.1=((HT.b9 n n hi:Nat):Int)/\(sliceBounds lo hi none n).2.2=1:=by
 refine⟨?_,?_,rfl⟩
 ·cases lo with
  |none=>simp[sliceBounds,HT.b9]
  |some i=>
   simp only[sliceBounds,HT.b9,Option.getD_none,show (1:Int)>0 by decide,if_true];by_cases h:i<0
   ·simp only[h,if_true]<;>omega
   ·simp only[h,bl9]<;>omega
 ·cases hi with
  |none=>simp[sliceBounds,HT.b9]
  |some i=>
   simp only[sliceBounds,HT.b9,Option.getD_none,show (1:Int)>0 by decide,if_true];by_cases h:i<0
   ·simp only[h,if_true]<;>omega
   ·simp only[h,bl9]<;>omega
theorem aq0 (its:List ax)(lo hi:Option Int):slicePick its.toArray lo hi none=((its.drop (HT.b9 its.length 0 lo)).take (HT.b9 its.length its.length hi-HT.b9 its.length 0 lo)).toArray:=by
 obtain⟨h1,h2,h3⟩:=ap9 lo hi its.toArray.size
 unfold slicePick;rw[h1,h2,h3];simp only[sliceRange_one,pick_run,bd9]<;>rfl
noncomputable def aq1 (K:ad):V->Option Int->Option Int->Hp->VK->Prop:=λx lo hi H Q=>∃a xs,x = .ref a/\aZ K H a xs/\∀p,H p=none->Q (.ref p) (upd H p (.lst (i7 xs lo hi)))
theorem aq2:jN X (aq1 X.K):=by
 intro ai s σ H x v vl vu lo hi sl Q I rx hs pl pu h
 obtain⟨a,xs,rfl,hx,q⟩:=h
 cases rx
 obtain⟨its,r,ht,hz⟩:=I.list hx
 have ao:=r.length;refine⟨"list",_,slot_list_getitem.lookup,ht.isList.typeIs,?_⟩;refine wpAny_getItem_list_slice ht.isList hs pl pu .none (by simp) ?_ (by rw[bd9]<;>omega);rw[aq0,<- ao];refine⟨.ref s.heap.objs.size,_,I.laid (t':=s.toks) (o:=.lst (i7 xs lo hi)) (λb ob q=>bd3 _ q) (be2 _) ?_,rfl,q _ (I.hok.fresh (be2 _))⟩
 exact⟨bh2 (A8 xs lo hi) hz,_,0,(r.drop (HT.b9 xs.length 0 lo)).take (HT.b9 xs.length xs.length hi-HT.b9 xs.length 0 lo),bf1 _ rfl⟩
theorem aq3:dN X (.builtin "len") (λxs H Q=>∃p ys,xs = [.ref p]/\(aZ X.K H p ys∨aR X.K H p ys)/\Q (.int ys.length) H):=by
 intro ai s σ H xs us Q I r h
 obtain⟨p,ys,rfl,hq,q⟩:=h
 obtain⟨u,rfl,rx⟩:=jK r
 cases rx;have hn:=oB;rcases hq with hq|hq
 ·obtain⟨its,r',pl,hz⟩:=I.list hq
  have ao:=r'.length;exact Calls.call_len_list pl.isList (by simp only[bd9]<;>omega) ⟨.int ys.length,H,I.tok _,⟨s.toks+1,by rw[bd9,ao]⟩,q⟩
 ·obtain⟨its,r',pl,hz⟩:=I.tuple hq
  have ao:=r'.length;exact len_tuple pl (by simp only[bd9]<;>omega) ⟨.int ys.length,H,I.tok _,⟨s.toks+1,by rw[bd9,ao]⟩,q⟩
theorem dN.or {f:ax}{r r':List V->Hp->VK->Prop}(h:dN X f r)(h':dN X f r'):dN X f (λxs H Q=>r xs H Q∨r' xs H Q):=by
 intro ai s σ H xs us Q I rs q;rcases q with q|q
 ·exact h ai s σ H xs us Q I rs q
 ·exact h' ai s σ H xs us Q I rs q
theorem aq4:dN X (.type "tuple") (λxs H Q=>∃p ys,xs = [.ref p]/\((aZ X.K H p ys/\∀l,H l=none->Q (.ref l) (upd H l (.tup ys)))∨(aR X.K H p ys/\Q (.ref p) H))):=by
 intro ai s σ H xs us Q I r h
 obtain⟨p,ys,rfl,h⟩:=h
 obtain⟨u,rfl,rx⟩:=jK r
 cases rx;rcases h with⟨hq,q⟩|⟨hq,q⟩
 ·obtain⟨its,r',pl,hz⟩:=I.list hq
  have ao:=r'.length;refine call_tuple_list pl.isList (λh' kp=>?_) (by simp only[bd9]<;>omega);have I1:aA X ai σ H { s with heap:=h' }:=I.kept (t':=s.toks) kp;have I2:aA X ai σ (upd H h'.objs.size (.tup ys)) { s with heap:=h'.push { cls:=.type "tuple",data:=.seq its.toArray } }:=
   I1.laid (t':=s.toks) (λb o e=>bd3 _ e) (be2 _) (show bL X.prog X.w _ _ _ (.tup ys) from ⟨hz,its,r',IsTup.new _ _,hV.new _ _ rfl⟩)
  exact⟨.ref h'.objs.size,_,I2,rfl,q _ (I1.hok.fresh (be2 _))⟩
 ·obtain⟨its,r',pl,hz⟩:=I.tuple hq
  exact call_tuple_same pl ⟨.ref p,H,I,rfl,q⟩
noncomputable def oD (K:ad)(T:String)(x:V)(H:Hp):Prop:=match x with
 |.str _=>T="str"
 |.int _=>T="int"
 |.ref p=>(T="list"/\∃xs,aZ K H p xs)∨(T="tuple"/\∃o,K.lookup p=some o/\o.cls = .type "tuple"/\o.dict=none) ∨
   (T="dict"/\((∃kvs,H p=some (.dK kvs))∨∃kvs,H p=some (.dT kvs)))∨(T="set"/\∃S n,H p=some (.set S n))
 |_=>False
theorem B5 {ai:List (az×Obj)}{σ:St}{H:Hp}{s:ay}{T:String}{x:V}{v:ax}(I:aA X ai σ H s)(r:aU x v)(ty:oD X.K T x H) :
  s.TypeIs v T/\∀a,v = .ref a->∃ob,s.heap.get? a=some ob/\ob.dict=none:=by
 cases x with
 |str z=>
  obtain⟨t,rfl⟩:=r
  cases (show T="str" from ty)
  exact⟨typeIs_str s z t,λ_ e=>nomatch e⟩
 |int i=>
  obtain⟨t,rfl⟩:=r
  cases (show T="int" from ty)
  exact⟨typeIs_int s i t,λ_ e=>nomatch e⟩
 |ref p=>
  cases r;rcases ty with⟨rfl,xs,hq⟩|⟨rfl,o,hk,hc,hd⟩|⟨rfl,hk⟩|⟨rfl,S,n,hk⟩
  ·obtain⟨its,_,pl,_⟩:=I.list hq
   refine⟨pl.isList.typeIs,λa e=>?_⟩;cases e
   obtain⟨o,n,e,c,hd,_⟩:=pl
   exact⟨o,e,hd⟩
  ·refine⟨⟨o,I.kIn p o hk,hc⟩,λa e=>?_⟩
   cases e
   exact⟨o,I.kIn _ o hk,hd⟩
  ·have z:∃o,s.heap.get? p=some o/\o.ExactDict:=by
    rcases hk with⟨kvs,hk⟩|⟨kvs,hk⟩
    ·obtain⟨_,_,_,_,o,_,_,e,ex,_⟩:=I.hok p _ hk
     exact⟨o,e,ex⟩
    ·obtain⟨_,_,_,_,o,_,_,e,ex,_⟩:=I.hok p _ hk
     exact⟨o,e,ex⟩
   obtain⟨o,e,ex⟩:=z
   refine⟨⟨o,e,ex.1⟩,λa e2=>?_⟩;cases e2
   exact⟨o,e,ex.2.1⟩
  ·obtain⟨o,_,_,_,e,ex,_⟩:=I.hok p _ hk
   refine⟨⟨o,e,ex.1⟩,λa e2=>?_⟩;cases e2
   exact⟨o,e,ex.2.1⟩
 |_=>exact False.elim ty
noncomputable def B6 (K:ad)(T:String)(r:V->List V->Hp->VK->Prop)(to:TE):TE:=λσ H Q=>to σ H λx H1=>oD K T x H1/\r x [] H1 Q
noncomputable def B7 (K:ad)(T:String)(r:V->List V->Hp->VK->Prop)(to:TE)(t:TA):TE:=λσ H Q=>to σ H λx H1=>oD K T x H1/\t σ H1 λxs H2=>r x xs H2 Q
variable {o e:Expr}{es:List Expr}{to:TE}{t:TA}{name:Str}{aj am:Pos}{T id:String}{r:V→List V→Hp→VK→Prop}
theorem aq5 (pa:PlainAttrs T)(slot:Slot T name id)(hty:typeOf (.builtin id)=pure (.type "method_descriptor"))(hm:B0 X id r)(ho:PE X o to)(hbase:attributeBase o name X.env (eval o X.env)=eval o X.env:=by rfl)(hline:(aj.endLine==am.line)=true:=by rfl):PE X (.Call (.Attribute o name aj) [] [] am) (B6 X.K T r to):=by
 intro ai s σ H Q I h;refine wpAny_Call_method0_late hbase hline (aO (ho ai s σ H _ I h) λv s1 ⟨x,H1,I1,r1,ty,q1⟩=>?_)
 obtain⟨h1,h2⟩:=B5 I1 r1 ty
 exact⟨T,id,pa,slot,hty,h1,h2,Calls.callWith_builtin rfl (PySem.evalArgs_none (hm ai s1 σ H1 x [] v [] Q I1 r1 .nil q1))⟩
theorem aq6 (pa:PlainAttrs T)(slot:Slot T name id)(hty:typeOf (.builtin id)=pure (.type "method_descriptor"))(hm:B0 X id r)(ho:PE X o to)(ha:PA X (e::es) t)(hbase:attributeBase o name X.env (eval o X.env)=eval o X.env:=by rfl)(hfew:((backTo am (starEach (e::es) X.env)).all (λx=>!x.1)&&(backToKw am (keywordEach [] X.env)).all (λx=>x.1.isSome)
  &&decide ((e::es).length+([]:List Keyword).length+(if ([]:List Keyword).isEmpty then 0 else 1)<30))=true:=by rfl)(hline:(aj.endLine==am.line)=true:=by rfl)(hs:starEach (e::es) X.env=(false,eval e X.env)::starEach es X.env:=by rfl)(aw:(backTo am (starEach es X.env)).any (·.1)=false:=by rfl) :
  PE X (.Call (.Attribute o name aj) (e::es) [] am) (B7 X.K T r to t):=by
 intro ai s σ H Q I h;refine wpAny_Call_method_late hbase hfew hline rfl (aO (ho ai s σ H _ I h) λv s1 ⟨x,H1,I1,r1,ty,q1⟩=>?_)
 obtain⟨h1,h2⟩:=B5 I1 r1 ty
 refine⟨T,id,pa,slot,hty,h1,h2,?_⟩;have hA:=ha am ai s1 σ H1 _ I1 q1;rw[hs]at hA ⊢;refine Calls.callWith_builtin (by show (false||(backTo am (starEach es X.env)).any (·.1))=false;rw[aw]<;>rfl) (Calls.evalArgs_plain ?_);exact aO hA λus s2 ⟨vs,H2,I2,r2,q2⟩=>hm ai s2 σ H2 x vs v us Q I2 r1 r2 q2
end
noncomputable def oE (X:Cx)(id:String)(r:V->List V->Hp->VK->Prop):Prop:=
 ∀(ai:List (az×Obj)) (s:ay) (σ:St) (H:Hp) (x:V) (xs:List V) (v:ax) (us:List ax) (Q:VK),aA X ai σ H s->aU x v->aN xs us->r x xs H Q->
  wpAny (model X.prog X.w) X.A (call (.builtin id) (v::us)) (EP X ai σ Q) X.xe s
theorem aN.one {x:V}{us:List ax}(h:aN [x] us):∃u,us = [u]/\aU x u:=by
 cases h with
 |cons r t=>
  cases t
  exact⟨_,rfl,r⟩
theorem aN.two {x y:V}{us:List ax}(h:aN [x,y] us):∃u v,us = [u,v]/\aU x u/\aU y v:=by
 cases h with
 |cons r t=>
  cases t with
  |cons q t=>
   cases t
   exact⟨_,_,rfl,r,q⟩
theorem aN.zero:∀{us:List ax},aN [] us->us = []
 |_,.nil=>rfl
theorem aN.dropLast {xs:List V}{us:List ax}(h:aN xs us):aN xs.dropLast us.dropLast:=by
 induction h with
 |nil=>exact .nil
 |cons r t ih=>
  cases t with
  |nil=>exact .nil
  |cons q t'=>exact .cons r ih
theorem aN.rep {xs:List V}{us:List ax}(h:aN xs us):∀k:Nat,aN (List.replicate k xs).flatten (List.replicate k us).flatten
 |0=>.nil
 |k+1=>by
  rw[bj4,bj4,bn6,bn6];exact aN.append h (aN.rep h k)
theorem aq7 {α:Type}(l:List α):l.eraseIdx (l.length-1)=l.dropLast:=by
 induction l with
 |nil=>rfl
 |cons a r ih=>
  cases r with
  |nil=>rfl
  |cons b r=>
   have e:(a::b::r).length-1=((b::r).length-1)+1:=by
    have h1:(a::b::r).length=r.length+2:=rfl;have h2:(b::r).length=r.length+1:=rfl;omega
   rw[e,List.eraseIdx_cons_succ,ih]
   all_goals rfl
theorem u3 (its:List ax):∀(k:Nat) (acc:List ax),
  List.foldl (λx1 x2=>x1++x2) acc.toArray (List.replicate k its.toArray)=(acc++(List.replicate k its).flatten).toArray
 |0,acc=>by simp
 |k+1,acc=>by
  have e:acc.toArray++its.toArray=(acc++its).toArray:=by simp
  have e2:(acc++its)++(List.replicate k its).flatten=acc++(List.replicate (k+1) its).flatten:=by
   rw[bj4,bn6,List.append_assoc]
  rw[<- e2,<- u3 its k (acc++its),<- e,bj4,bq1]
section
variable {X:Cx}{ai:List (az×Obj)}{σ:St}{H:Hp}{s:ay}{l b:az}{xs ys zs:List V}
theorem aA.lset {its its':List ax}{n:Nat}{f:Array ax->Array ax}{t':Nat}(I:aA X ai σ H s)(hH:H l=some (.lst xs))(e:s.heap.get? l=some { cls:=.type "list",data:=.seq its.toArray n })(hf:f its.toArray=its'.toArray)(hv:aN ys its')(hz:ys.length<=sizeLine) :
  aA X ai σ (upd H l (.lst ys)) { s with heap:=s.heap.update l (Obj.mapSeq f),toks:=t' }:=by
 have q:=PySem.IsL.update e f;rw[hf]at q;refine I.write (x:=l) (e:=l) (by rw[hH];exact trivial) (.inl rfl) (λb' u hb hu=>(Heap.get?_update_other s.heap (Obj.mapSeq f) (Ne.symm hb)).trans hu) ⟨_,q⟩ ?_
 exact⟨hz,its',_,hv,q⟩
theorem aA.lnew {its:List ax}{t':Nat}(I:aA X ai σ H s)(hv:aN ys its)(hz:ys.length<=sizeLine) :
  aA X ai σ (upd H s.heap.objs.size (.lst ys)) { s with heap:=s.heap.push { cls:=.type "list",data:=.seq its.toArray },toks:=t' }:=
 I.laid (λ_ _ q=>bd3 _ q) (be2 _) ⟨hz,its,0,hv,bf1 _ rfl⟩
theorem aA.fresh (I:aA X ai σ H s):H s.heap.objs.size=none:=I.hok.fresh (be2 _)
theorem aA.lstM (I:aA X ai σ H s)(hH:H l=some (.lst xs)):xs.length<=sizeLine/\∃(its:List ax) (n:Nat),aN xs its/\xs.length=its.length/\s.heap.get? l=some { cls:=.type "list",data:=.seq its.toArray n }:=by
 obtain⟨z,its,n,r,e⟩:=I.hok l _ hH
 exact⟨z,its,n,r,r.length,e⟩
theorem u4 {n:Nat}(h:n<=sizeLine):Builtin.List.listTooLong n=false:=by
 unfold Builtin.List.listTooLong;exact be4 (by omega)
end
section
variable {X:Cx}
noncomputable def aq8:V->List V->Hp->VK->Prop:=λx vs H Q=>∃l xs y,x = .ref l/\vs = [y]/\H l=some (.lst xs)/\xs.length<sizeLine/\Q .non (upd H l (.lst (xs++[y])))
theorem aq9:oE X "list.append" aq8:=by
 intro ai s σ H x vs v us Q I rx rv h
 obtain⟨l,xs,y,rfl,rfl,hH,hz,q⟩:=h
 cases rx
 obtain⟨u,rfl,ru⟩:=rv.one
 obtain⟨z,its,n,r,hl,e⟩:=I.lstM hH
 refine call_meets F.slot_list_append ⟨_,e,rfl⟩ F.entry_list_append (F.args_list_append_2 _ _) (PySem.list_append l its.toArray n u (by rw[bd9];omega)) ⟨e,?_⟩;refine⟨.non,_,I.lset (its':=its++[u]) hH e (by simp) (r.append (.cons ru .nil)) ?_,rfl,q⟩;rw[be3,List.length_singleton];omega
noncomputable def B8:V->List V->Hp->VK->Prop:=λx vs H Q=>∃l b xs zs,x = .ref l/\vs = [.ref b]/\H l=some (.lst xs)/\H b=some (.lst zs)/\xs.length+zs.length<=sizeLine/\Q .non (upd H l (.lst (xs++zs)))
theorem ar0:oE X "list.extend" B8:=by
 intro ai s σ H x vs v us Q I rx rv h
 obtain⟨l,b,xs,zs,rfl,rfl,hH,hB,hz,q⟩:=h
 cases rx
 obtain⟨u,rfl,ru⟩:=rv.one
 cases ru
 obtain⟨z,its,n,r,hl,e⟩:=I.lstM hH
 obtain⟨z2,av,n2,r2,hl2,e2⟩:=I.lstM hB
 have hsz:its.toArray.size+av.toArray.size<=sizeLine:=by rw[bd9,bd9];omega
 have hlong:¬(!its.toArray.isEmpty&&Builtin.List.listTooLong (its.toArray.size+av.toArray.size))=true:=by
  rw[u4 hsz,Bool.and_false];exact be9
 refine call_meets F.slot_list_extend ⟨_,e,rfl⟩ F.entry_list_extend (F.args_list_extend_2 _ _)
  (AutoSeq1.list_extend_list_list_0 l its.toArray n b av.toArray n2 hlong (by rw[bd9];omega) (by omega)) ⟨e,e2,?_⟩
 refine⟨.non,_,I.lset (its':=its++av) hH e (by simp) (r.append r2) ?_,rfl,q⟩;rw[be3];omega
noncomputable def B9:V->List V->Hp->VK->Prop:=λx vs H Q=>∃l xs y,x = .ref l/\vs = []/\H l=some (.lst xs)/\xs[xs.length-1]? = some y/\Q y (upd H l (.lst xs.dropLast))
theorem ar1:oE X "list.pop" B9:=by
 intro ai s σ H x vs v us Q I rx rv h
 obtain⟨l,xs,y,rfl,rfl,hH,hy,q⟩:=h
 cases rx;have hus:=rv.zero;subst hus
 obtain⟨z,its,n,r,hl,e⟩:=I.lstM hH
 obtain⟨u,hu,ru⟩:=r.get hy
 have hy':its.toArray[its.toArray.size-1]? = some u:=by
  show its.toArray[its.length-1]? = some u;rw[<- Array.getElem?_toList,<- hl];exact hu
 refine call_meets F.slot_list_pop ⟨_,e,rfl⟩ F.entry_list_pop (F.args_list_pop_1 _) (MeetsSeq.list_pop_last l its.toArray n u hy' (by rw[bd9];omega)) ⟨e,?_⟩;refine⟨y,_,I.lset (its':=its.dropLast) hH e ?_ r.dropLast ?_,ru,q⟩
 ·show its.toArray.eraseIdxIfInBounds (its.toArray.size-1)=its.dropLast.toArray
  rw[bd9,List.eraseIdxIfInBounds_toArray,aq7]
 ·rw[List.length_dropLast]
  omega
noncomputable def C0:R2:=λx y H Q=>∃l b xs zs,x = .ref l/\y = .ref b/\H l=some (.lst xs)/\H b=some (.lst zs)/\xs.length+zs.length<=sizeLine/\∀p,H p=none->Q (.ref p) (upd H p (.lst (xs++zs)))
theorem ar2:cJ X (binaryOp .Add) C0:=by
 intro ai s σ H x y v u Q I rx ry h
 obtain⟨l,b,xs,zs,rfl,rfl,hH,hB,hz,q⟩:=h
 cases rx;cases ry
 obtain⟨z,its,n,r,hl,e⟩:=I.lstM hH
 obtain⟨z2,av,n2,r2,hl2,e2⟩:=I.lstM hB
 refine PySem.P.add_list e e2 ?_ (by rw[bd9,bd9];omega);have ea:its.toArray++av.toArray=(its++av).toArray:=by simp
 rw[ea]
 exact⟨.ref _,_,I.lnew (t':=s.toks) (r.append r2) (by rw[be3];omega),rfl,q _ I.fresh⟩
noncomputable def C1:R2:=λx y H Q=>∃l k xs,x = .ref l/\y = .int k/\H l=some (.lst xs)/\-(2^63)<=k/\k<2^63/\xs.length*k.toNat<=sizeLine/\
 ∀p,H p=none->Q (.ref p) (upd H p (.lst (List.replicate k.toNat xs).flatten))
theorem C2 {α:Type}(xs:List α)(k:Nat):(List.replicate k xs).flatten.length=k*xs.length:=by
 induction k with
 |zero=>simp
 |succ k ih=>rw[bj4,bn6,be3,ih,Nat.succ_mul,Nat.add_comm]
theorem ar3:cJ X (binaryOp .Mult) C1:=by
 intro ai s σ H x y v u Q I rx ry h
 obtain⟨l,k,xs,rfl,rfl,hH,h1,h2,hz,q⟩:=h
 cases rx
 obtain⟨t,rfl⟩:=ry
 obtain⟨z,its,n,r,hl,e⟩:=I.lstM hH
 have ao:its.toArray.size*k.toNat<=sizeLine:=by rw[bd9,<- hl];exact hz
 have hcap:¬its.toArray.size*k.toNat>(2^63-1)/8:=by
  have:(sizeLine:Nat)<=(2^63-1)/8:=by decide
  omega
 have hfit:¬(!Builtin.List.listFitsIndex k)=true:=by
  rw[fitsIndex_both h1 h2];exact be9
 have hlong:¬Builtin.List.listTooLong (its.toArray.size*k.toNat)=true:=by
  rw[u4 ao];exact be9
 have hnew:List.foldl (λx1 x2=>x1++x2) #[] (List.replicate (if its.toArray.isEmpty=true then 0 else k.toNat) its.toArray)=(List.replicate k.toNat its).flatten.toArray:=by
  have f0:∀m:Nat,List.foldl (λx1 x2=>x1++x2) #[] (List.replicate m its.toArray)=(List.replicate m its).flatten.toArray:=λm=>by
   have:=u3 its m []
   rw[List.nil_append]at this;exact this
  rw[f0];cases its with
  |nil=>simp
  |cons a r'=>rw[if_neg (by simp)]
 refine wpAny_binaryOp_repeat_ref (T:="list") (U:="int") (by decide) ⟨_,e,rfl⟩ (λs'=>typeIs_int s' k t) noFill_list_mul F.fills_int_mul F.slot_int_rmul repeat_list F.slot_int_index.lookup
  (call_meets F.slot_int_rmul (typeIs_int s k t) F.entry_int_rmul (F.args_int_rmul_2 _ _) (int___rmul___int_list k t l its.toArray n)
   ⟨e,rfl,⟨_,e,rfl⟩,call_meets F.slot_list_mul ⟨_,e,rfl⟩ F.entry_list_mul (F.args_list_mul_2 _ _) (AutoListH.list___mul___list_int_3 l its.toArray n k t hfit hcap hlong) ⟨e,?_⟩⟩)
 rw[hnew]
 exact⟨.ref _,_,I.lnew (t':=s.toks) (r.rep k.toNat) (by rw[C2,Nat.mul_comm];exact hz),rfl,q _ I.fresh⟩
end
section
variable {κ:Type}[DecidableEq κ]
noncomputable def g9 (kvs:List (κ×V))(k:κ):Option V:=(kvs.find? λkv=>decide (kv.1=k)).map (·.2)
noncomputable def fB (kvs:List (κ×V))(k:κ)(v:V):List (κ×V):=
 if (kvs.any λkv=>decide (kv.1=k))=true then kvs.map (λkv=>if kv.1=k then (kv.1,v) else kv) else kvs++[(k,v)]
theorem u5 {p:κ×V}{r:List (κ×V)}{k:κ}(e:p.1=k):g9 (p::r) k=some p.2:=by simp[g9,bh8,e]
theorem u6 {p:κ×V}{r:List (κ×V)}{k:κ}(e:¬p.1=k):g9 (p::r) k=g9 r k:=by simp[g9,bh8,e]
theorem C3 (k:κ):∀kvs:List (κ×V),(kvs.any λkv=>decide (kv.1=k))=(g9 kvs k).isSome
 |[]=>rfl
 |p::r=>by
  rw[List.any_cons];by_cases e:p.1=k
  ·simp only[u5 e,bg0 e,Bool.true_or,Option.isSome_some]
  ·rw[u6 e,be4 e,Bool.false_or];exact C3 k r
theorem C4 (kvs:List (κ×V))(k:κ)(v:V):(fB kvs k v).length<=kvs.length+1:=by
 unfold fB;split
 ·rw[be0];omega
 ·rw[be3,bg2,List.length_nil];omega
theorem hU.isSome_eq {o:Option V}{u:Option ax}(r:hU o u):o.isSome=u.isSome:=by
 cases o with
 |none=>cases u with
  |none=>rfl
  |some _=>exact (show False from r).elim
 |some _=>cases u with
  |none=>exact (show False from r).elim
  |some _=>rfl
theorem KV.val {kvs:List (κ×V)}{vs:List (κ×ax)}(r:KV kvs vs)(k:κ):hU (g9 kvs k) (valueAt vs k):=by
 unfold KV at r
 induction r with
 |nil=>exact br2
 |@cons p q ps qs h t ih=>
  obtain⟨h1,h2⟩:=h
  by_cases e:p.1=k
  ·have e':q.1=k:=h1.symm.trans e
   have b:valueAt (q::qs) k=some q.2:=by simp[valueAt,bh8,e']
   rw[u5 e,b];exact h2
  ·have e':¬q.1=k:=λz=>e (h1.trans z)
   have b:valueAt (q::qs) k=valueAt qs k:=by simp[valueAt,bh8,e']
   rw[u6 e,b];exact ih
theorem KV.any {kvs:List (κ×V)}{vs:List (κ×ax)}(r:KV kvs vs)(k:κ):(kvs.any λkv=>decide (kv.1=k))=vs.any λkv=>decide (kv.1=k):=by
 unfold KV at r
 induction r with
 |nil=>rfl
 |cons h t ih=>rw[List.any_cons,List.any_cons,ih,h.1]
theorem KV.repl {kvs:List (κ×V)}{vs:List (κ×ax)}(r:KV kvs vs)(k:κ){y:V}{u:ax}(ry:aU y u) :
  KV (kvs.map λkv=>if kv.1=k then (kv.1,y) else kv) (vs.map λkv=>if kv.1=k then (kv.1,u) else kv):=by
 unfold KV at r ⊢
 induction r with
 |nil=>exact .nil
 |@cons p q ps qs h t ih=>
  rw[bf0,bf0];refine .cons ?_ ih
  obtain⟨h1,h2⟩:=h
  by_cases e:p.1=k
  ·rw[if_pos e,if_pos (h1.symm.trans e)];exact⟨h1,ry⟩
  ·rw[if_neg e,if_neg (λz=>e (h1.trans z))];exact⟨h1,h2⟩
theorem KV.put {kvs:List (κ×V)}{vs:List (κ×ax)}(r:KV kvs vs)(k:κ){y:V}{u:ax}(ry:aU y u):KV (fB kvs k y) (stored vs k u):=by
 unfold fB stored;rw[r.any k];by_cases e:(vs.any λkv=>decide (kv.1=k))=true
 ·rw[if_pos e,if_pos e];exact r.repl k ry
 ·rw[if_neg e,if_neg e];exact Paired.snoc r ⟨rfl,ry⟩
theorem KV.length {kvs:List (κ×V)}{vs:List (κ×ax)}(r:KV kvs vs):kvs.length=vs.length:=Paired.length r
end
section
variable {P:ba}{w:bf}{H:Hp}{h:Heap}{a:az}
theorem qK {u:HO}(ok:bS P w H h)(e:Rd H a u):bL P w H h a u:=e.ok ok
theorem ar4 {kvs:List (bW×V)}(ok:bS P w H h)(e:Rd H a (.dK kvs)):kvs.length<=sizeLine/\(a==sysModules)=false/\∃vs,KV kvs vs/\h.DictOf (pW P w) a vs:=
 show bL P w H h a (.dK kvs) from qK ok e
end
section
variable {X:Cx}{ai:List (az×Obj)}{σ:St}{H:Hp}{s:ay}{a:az}{y v:V}{u r:ax}{o:Option V}{A:bc}{E:ax→ay→Prop}
theorem aA.big (I:aA X ai σ H s):sysModules<s.heap.objs.size:=by
 have h:mainGlobals<s.heap.objs.size:=(I.mod.glob.keeps I.bk).lt;exact Nat.lt_trans (by decide) h
theorem u7 {h':Heap}{t':Nat}{ob:HO}(I:aA X ai σ H s)(mu:o3 (H a))(hs:Heap.SameBut a s.heap h')(he:∃q,h'.get? a=some q)(new:bL X.prog X.w (upd H a ob) h' a ob) :
  aA X ai σ (upd H a ob) { s with heap:=h',toks:=t' }:=
 I.write (x:=a) (e:=a) mu (.inl rfl) (λb q hb z=>(hs.2 b hb).trans z) he new
end
section
variable {X:Cx}{ai:List (az×Obj)}{σ:St}{H:Hp}{s:ay}{a:az}{kvs:List (bW×V)}{k:bW}{u:ax}{A:bc}{E:ax→ay→Prop}
theorem ar5 {Q:ax->ay->Prop}(I:aA X ai σ H s)(e:Rd H a (.dK kvs))(h:∀t s',aA X ai σ H s'->Q (.int kvs.length t) s'):wpAny (model X.prog X.w) A (call (.builtin "len") [.ref a]) Q E s:=by
 obtain⟨z,hd,vs,rel,dd⟩:=ar4 I.hok e
 refine call_len_dict hd dd (by rw[<- rel.length];rw[sizeLine_eq]at z;omega) ?_;rw[<- rel.length];exact h _ _ (I.tok _)
end
noncomputable def u8 (i:Expr):Prop:=∀ov iv,subscripted i false ov iv=operate [ov,iv] (getItem ov iv)
theorem ar6 {prog:ba}{w:bf}{A:bc}{E:ax->ay->Prop}{s:ay}{env:Env}{value slice:Expr}{pos:Pos}{T id:String}{Q:ax->ay->Prop}(hl:typeLookup (.type T) "__getitem__" = pure (some (.builtin id)))(hs:u8 slice)(h:wpAny (model prog w) A (eval value env) (λo s₁=>wpAny (model prog w) A (eval slice env) (λi s₂=>s₂.TypeIs o T/\wpAny (model prog w) A (getItem o i) Q E s₂) E s₁) E s) :
  wpAny (model prog w) A (eval (.Subscript value slice pos) env) Q E s:=by
 refine Subscript_ (bj6 h (λo s₁ h₁=>bj6 h₁ (λi s₂ h₂=>?_) λ_ _ x=>x) λ_ _ x=>x)
 obtain⟨hT,h₂⟩:=h₂
 unfold subscriptTail;refine bd2 ?_;rw[getitemInPython_of_ne hT.not_modules];refine bd2 (wpAny_specialOf hT hl ?_);have fin:wpAny (model prog w) A (subscripted slice false o i) (λr s₃=>wpAny (model prog w) A (letTemporaryGo value o r >>= λ_=>pure r) Q E s₃) E s₂:=by
  rw[hs o i];exact wpAny_operating (bj6 h₂ (λr s₃ h₃=>bd2 (wpAny_letTemporaryGo (bd6 h₃))) λ_ _ x=>x)
 first
  |exact bd6 (bd2 fin)
  |exact bd2 (bd6 (bd2 fin))
  |exact bd2 fin
structure M1 (X:Cx)(o:Expr)(m:Str)(aj:Pos)(e:Expr)(am:Pos):Prop where
 base:attributeBase o m X.env (eval o X.env)=eval o X.env
 few:((backTo am (starEach [e] X.env)).all (λx=>!x.1)&&(backToKw am (keywordEach [] X.env)).all (λx=>x.1.isSome)
 &&decide (([e]:List Expr).length+([]:List Keyword).length+(if ([]:List Keyword).isEmpty then 0 else 1)<30))=true
 line:(aj.endLine==am.line)=true
 trees:backTo am (starEach [e] X.env) = [(false,eval e X.env)]
structure M2 (X:Cx)(o:Expr)(m:Str)(aj:Pos)(e f:Expr)(am:Pos):Prop where
 base:attributeBase o m X.env (eval o X.env)=eval o X.env
 few:((backTo am (starEach [e,f] X.env)).all (λx=>!x.1)&&(backToKw am (keywordEach [] X.env)).all (λx=>x.1.isSome)
 &&decide (([e,f]:List Expr).length+([]:List Keyword).length+(if ([]:List Keyword).isEmpty then 0 else 1)<30))=true
 line:(aj.endLine==am.line)=true
 trees:backTo am (starEach [e,f] X.env) = [(false,eval e X.env),(false,eval f X.env)]
end L2
namespace Att
open PySem PySem.W PySem.Calls PyProof.Rows
theorem ar7 {P:Params}{h:Heap}:∀(ns:ag) (vs:List ax),WellAll P h vs (ns.map WData.int)->IntsAre vs ns:=by
 intro ns
 induction ns with
 |nil=>
  intro vs w;rw[List.map_nil]at w;cases w;exact .nil
 |cons n ns ih=>
  intro vs w;rw[bf0]at w;cases w with
  |cons a b=>
   cases a;exact .cons _ _ (ih _ b)
theorem C5 {l:OpenLaw}{n:Nat}(hn:l.most=some n){P:Params}{h:Heap}{args:List WData}{vals:List ax}(hpre:l.row.toRowW.claim.pre args=true)(hwl:WellAll P h vals args) :
  ∃a vs ns,vals = [Value.ref a]/\args = [WData.list (ns.map WData.int)]/\h.get? a=some { cls:=.type "list",data:=.seq vs.toArray }/\IntsAre vs ns/\ns.length<=n:=by
 have hsh:WShape.hasAll [] args [.list .int]=true:=(pre_splitW hpre).1;have hc:l.pre.holds [] { args:=args }=true:=(pre_splitW hpre).2
 obtain⟨d,r,rfl,h1,h2⟩:=hasAllW_cons hsh
 obtain rfl:=hasAllW_nil h2
 obtain⟨xs,rfl,h3⟩:=hasW_list h1
 obtain⟨ns,rfl⟩:=items_int h3
 have ao:ns.length<=n:=by
  unfold OpenLaw.pre at hc;have h4:(WTm.not (.lt (.lit (.int (n:Int))) (.len (.arg 0)))).holds [] { args:=[.list (ns.map .int)] }=true:=by
   have h4:=(holds_andW hc).1;rw[hn]at h4;exact h4
  have h5:=condW_of h4 (w_not (w_lt w_lit (w_len_list (w_arg rfl))));rw[be0]at h5;refine Nat.le_of_not_lt λq=>?_
  have q':(n:Int)<((ns.length:Nat):Int):=by omega
  first
   |(rw[bg0 q']at h5;exact absurd h5 (by decide))
   |(simp at h5;omega)
 cases hwl with
 |cons w1 w2=>
  cases w2;cases w1 with
  |list ho hall=>exact⟨_,_,ns,rfl,rfl,ho,ar7 ns _ hall,ao⟩
theorem C6 (l:OpenLaw)(args:List WData):l.row.toRowW.claim.post args (.bool true) args=true:=
 postW_of (r:=l.row.toRowW) (X:=(true==true))
  (show WShape.has [] (.bool true) .bool=true by first|rfl|decide|simp[WShape.has,WShape.arms,WShape.armsAll])
  (show (WTm.eq .res (.lit (.bool true))).value [] { args:=args,res:=some (.bool true),after:=args }=some (.bool (true==true)) from w_eq_bool (w_res rfl) w_lit) rfl
theorem bd1 {l:OpenLaw}{n:Nat}{q:ba}{loose:List Str}{XP:(Str->Option ax)->Heap->Prop}{YP:bf->Heap->Prop}{d:DefRec}{x:Str}(hn:l.most=some n)(hdf:d.params.defaults = [])(hbind:∀pm cd doc v:ax,bindArgs (docDef d.name d.params d.body d.scope pm cd doc) ⟨[v],[]⟩=pure [(x,v)])(hx:d.scope.names.lookup x=some .local∨d.scope.names.lookup x=some .cell)(hk:d.scope.kind = .function)(hco:d.scope.isCoroutine=false)(hgen:d.scope.isGenerator=false)(body:∀(w:bf) (s₀ s₁ s:ay) (mg mb:Str->Option ax) (fa:az) (o:Obj) (pm cd doc:ax) (a:az) (vs:List ax) (ns:ag),
   Ground q loose [] XP w s₀ mg mb s₁.heap->YP w s₁.heap->
   s₁.heap.get? fa=some o->o.data = .func (docDef d.name d.params d.body d.scope pm cd doc)->s₁.heap.CodeRec cd d.name->mg d.name=some (.ref fa)->
   s₁.heap.get? a=some { cls:=.type "list",data:=.seq vs.toArray }->IntsAre vs ns->ns.length<=n->
   s.gens = #[]->s.os=s₁.os->
   Fr s₁.heap s₁.heap.objs.size s.heap (bindL (envOfC d.name d.scope s₁.heap.objs.size fa cd).kindOf [(x,.ref a)] λ_=>none)->
   Cl s₁.heap.objs.size (cellsFrom (s₁.heap.objs.size+1) d.scope.names []) s.heap (bindC (envOfC d.name d.scope s₁.heap.objs.size fa cd).kindOf [(x,.ref a)] λ_=>none)->
   wpAny (model l.prog w) (callerA.deeper (envOfC d.name d.scope s₁.heap.objs.size fa cd)) (execs d.body (envOfC d.name d.scope s₁.heap.objs.size fa cd))
    (λf s'=>f = .ret (.bool true)/\OldK s₁.heap s'.heap/\s'.os=s₁.os/\AllBare s'.gens) (λ_ _=>False) s) :
  WalkO q loose XP YP l.row.toRowW d [] (λf vs=>PySem.call f vs):=by
 intro w s₀ s₁ mg mb G Y fa o pm cd doc dV kV ho hd hcd hD hmg hg args vals as hpre hlay hrd hwl hlo;obtain rfl:dV = .none:=Dflts.none hD hdf;obtain rfl:kV = .none:=Dflts.noKw hD
 obtain⟨a,vs,ns,rfl,rfl,hobj,hints,ao⟩:=C5 hn hpre hwl
 refine enter_call ?_;refine call_cells_ret (o:=o) (by rw[depth_caller];decide) ho (fd_plain hd) G.T.nolimit hcd (hbind pm cd doc (.ref a)) (λy hy=>?_) (λh₁ tk F X=>?_) hco hgen hk
 ·obtain rfl:y=(x,Value.ref a):=bd7.mp hy
  rcases hx with e|e
  ·exact .inl e
  ·exact .inr ⟨e,cellsFrom_some _ _ _ (.inl e)⟩
 ·refine bj6 (body w s₀ s₁ { s₁ with heap:=h₁,toks:=tk } mg mb fa o pm cd doc a vs ns G Y ho (fd_plain hd) hcd hmg hobj hints ao hg rfl F X) (λf s' hq=>?_) (λ_ _ hq=>hq)
  obtain⟨rfl,h2,h3,h4⟩:=hq
  exact⟨.inl ⟨.bool true,.bool true,[],rfl,λ_=>rfl,.bool true,C6 l _,λ_=>⟨List.Pairwise.nil,λ_ hm=>(nomatch hm)⟩⟩,h2,h3,h4⟩
theorem ar8 {l:OpenLaw}{n:Nat}{q:ba}{loose:List Str}{XP:(Str->Option ax)->Heap->Prop}{YP:bf->Heap->Prop}{d:DefRec}(hn:l.most=some n)(hdf:d.params.defaults = [])(call:∀(w:bf) (s₀ s₁:ay) (mg mb:Str->Option ax) (fa:az) (o:Obj) (pm cd doc:ax) (a:az) (vs:List ax) (ns:ag),
   Ground q loose [] XP w s₀ mg mb s₁.heap->YP w s₁.heap->
   s₁.heap.get? fa=some o->o.data = .func (docDef d.name d.params d.body d.scope pm cd doc)->s₁.heap.CodeRec cd d.name->mg d.name=some (.ref fa)->
   s₁.heap.get? a=some { cls:=.type "list",data:=.seq vs.toArray }->IntsAre vs ns->ns.length<=n->s₁.gens = #[]->
   codeAny (model l.prog w) callerA (.call (.ref fa) ⟨[.ref a],[]⟩) (λr s'=>r = .ok (.ret (.bool true))/\OldK s₁.heap s'.heap/\s'.os=s₁.os/\AllBare s'.gens) s₁) :
  WalkO q loose XP YP l.row.toRowW d [] (λf vs=>PySem.call f vs):=by
 intro w s₀ s₁ mg mb G Y fa o pm cd doc dV kV ho hd hcd hD hmg hg args vals as hpre hlay hrd hwl hlo;obtain rfl:dV = .none:=Dflts.none hD hdf;obtain rfl:kV = .none:=Dflts.noKw hD
 obtain⟨a,vs,ns,rfl,rfl,hobj,hints,ao⟩:=C5 hn hpre hwl
 refine enter_call (codeAny_mono (call w s₀ s₁ mg mb fa o pm cd doc a vs ns G Y ho (fd_plain hd) hcd hmg hobj hints ao hg) λr s' hq=>?_)
 obtain⟨rfl,h2,h3,h4⟩:=hq
 exact⟨.inl ⟨.bool true,.bool true,[],rfl,λ_=>rfl,.bool true,C6 l _,λ_=>⟨List.Pairwise.nil,λ_ hm=>(nomatch hm)⟩⟩,h2,h3,h4⟩
end Att
namespace L2
open PySem PySem.Spec PyProof.Rows
theorem C7:∀{vs:List ax}{ns:ag},IntsAre vs ns->aN (ns.map V.int) vs
 |_,_,.nil=>.nil
 |_,_,.cons n t h=>.cons ⟨t,rfl⟩ (C7 h)
noncomputable def bI (s:Stmt):Arguments:=match s with
 |.FunctionDef _ a _ _ _ _ _ _ _ _=>a
 |_=>{ posonlyargs:=[],args:=[],vararg:=none,kwonlyargs:=[],kw_defaults:=[],kwarg:=none,defaults:=[] }
noncomputable def bD (s:Stmt):List Stmt:=match s with
 |.FunctionDef _ _ b _ _ _ _ _ _ _=>b
 |_=>[]
noncomputable def aI (s:Stmt):Scope:=match s with
 |.FunctionDef _ _ _ _ _ _ sc _ _ _=>sc
 |_=>{ kind:=.function,names:=[],isGenerator:=false,isCoroutine:=false }
noncomputable abbrev cF:dO:=λ_ _ _ _ _ _=>False
noncomputable abbrev E0:XK:=λ_ _ _=>False
theorem jO {X:Cx}:iV cF X E0:=λ_ _ _ _ _ _ _ h=>h.elim
structure bM (K:ad)(x qual:Str)(st:Stmt)(f:az)(fd:FuncData):Prop where
 ex:∃(oc:ax) (od:Option az) (kV doc pm:ax) (an:Option az) (cdv ct:ax) (osl:Array (Option ax)),
  fd=PySem.W.fnOf x qual (bI st) (bD st) (aI st) .none kV doc pm an cdv ct/\K.lookup f=some ⟨oc,od,.func fd,osl⟩/\PySem.W.codeIn K cdv qual=true
 kp:PySem.W.keepIn K (.ref f)=true
section
variable {P:ba}{w:bf}{K:ad}{mg:Str→Option ax}{base:Heap}
theorem bM.ok {x qual:Str}{st:Stmt}{f:az}{fd:FuncData}{N ps:List Str}{k:Nat}{sp:Sp}(F:bM K x qual st f fd)(S:FnScope N ps (aI st))(len:∀vs H Q E,sp vs H Q E->vs.length=ps.length)(hbody:∀(cdv:ax) (A:bc) (outer:List Env) (s:ay) (H:Hp) (vs:List V) (Q:VK) (E:XK),bG k (A.deeper (envOfC qual (aI st) s.heap.objs.size f cdv))->sp vs H Q E->
   ∃t,dE (cK cF P w K mg base N qual (aI st) f cdv A outer s H E).nox (bD st) t/\t { nx:=λ_ H'=>Q .non H',rt:=Q } (dZ N vs) H):cX P w K mg base cF (k+1) f fd ps sp:=by
 obtain⟨oc,od,kV,doc,pm,an,cdv,ct,osl,rfl,lk,hcd⟩:=F.ex
 refine tV lk hcd S len λA outer s H vs Q E hr hsp=>?_
 obtain⟨t,h,q⟩:=hbody cdv A outer s H vs Q E hr hsp
 exact⟨t,h.nox,q⟩
theorem bM.binds {x qual:Str}{st:Stmt}{f:az}{fd:FuncData}{ps:List Str}(F:bM K x qual st f fd)(h:∀(kV doc pm:ax) (an:Option az) (cdv ct:ax) (us:List ax),us.length=ps.length->bindArgs (PySem.W.fnOf x qual (bI st) (bD st) (aI st) .none kV doc pm an cdv ct) ⟨us,[]⟩=pure (ps.zip us)):fZ K fd ps []:=by
 obtain⟨oc,od,kV,doc,pm,an,cdv,ct,osl,rfl,lk,hcd⟩:=F.ex
 exact .all (h kV doc pm an cdv ct)
theorem d0 {x qual:Str}{st:Stmt}{f:az}{oc:ax}{od an:Option az}{osl:Array (Option ax)}{kV doc pm cdv ct:ax}(l:K.lookup f=some ⟨oc,od,.func (PySem.W.fnOf x qual (bI st) (bD st) (aI st) .none kV doc pm an cdv ct),osl⟩)(c:PySem.W.codeIn K cdv qual=true)(k:PySem.W.keepIn K (.ref f)=true):bM K x qual st f (PySem.W.fnOf x qual (bI st) (bD st) (aI st) .none kV doc pm an cdv ct):=⟨⟨oc,od,kV,doc,pm,an,cdv,ct,osl,rfl,l,c⟩,k⟩
end
theorem ar9 {n:Nat}(h:n<=1000):n<sizeLine:=Nat.lt_of_le_of_lt h (by decide)
section
variable {X:Cx}
theorem pv (i:Nat){x:Str}{pos:Pos}(hN:X.N[i]? = some x:=by rfl)(hv:dY X.env.scope x:=by first|exact Or.inl rfl|exact Or.inr (Or.inl rfl)|exact Or.inr (Or.inr rfl))(hd:(x==("__debug__":Str))=false:=by decide)(hcd:(x==("__classdict__":Str))=false:=by decide):PE X (.Name x pos) (d5 i):=iI hN hv hd hcd
theorem as0:dN X (.builtin "len") (λxs H Q=>∃a kvs,xs = [V.ref a]/\H a=some (.dK kvs)/\Q (.int kvs.length) H):=by
 intro ai s σ H xs us Q I r h
 obtain⟨a,kvs,rfl,ha,q⟩:=h
 obtain⟨u,rfl,ru⟩:=jK r
 cases ru;exact ar5 I (.inl ha) λt s' I'=>⟨.int kvs.length,H,I',⟨t,rfl⟩,q⟩
end
theorem bJ {A B:Prop}(h:B):if false=true then A else B:=by
 rw[if_neg be9];exact h
theorem cC {A B:Prop}(h:A):if true=true then A else B:=by
 rw[if_pos rfl];exact h
noncomputable def aH (H H':Hp):Prop:=∀b o,H b=some o->H' b=some o
theorem aH.refl (H:Hp):aH H H:=λ_ _ h=>h
theorem aH.trans {H H1 H2:Hp}(a:aH H H1)(b:aH H1 H2):aH H H2:=λc o h=>b c o (a c o h)
theorem aH.free {H H':Hp}(e:aH H H'){l:az}(h:H' l=Option.none):H l=Option.none:=by
 cases q:H l with
 |none=>rfl
 |some o=>
  rw[e l o q]at h;cases h
noncomputable def e8 (cells:List (Str×az)):List (Str×NameKind)->List (Str×az)->List (Str×az)
 |[],cs=>cs
 |(n,k)::r,cs=>e8 cells r (if k==.free then (n,(cells.lookup n).getD 0)::cs else cs)
theorem u9 {env:Env}:∀(ns:List (Str×NameKind)) (cs:List (Str×az)),(∀x∈ns,x.2 = .free->∃c,env.cells.lookup x.1=some c)->
  (forIn ns cs (λ(x:Str×NameKind) r=>(match x with
   |(name,kind)=>if (kind==.free)=true then (do let y <- cellOf env name;pure (ForInStep.yield ((name,y)::r))) else pure (ForInStep.yield r)):_->_->Sem _))=(pure (e8 env.cells ns cs):Sem (List (Str×az)))
 |[],cs,_=>by rw[List.forIn_nil];rfl
 |(n,k)::r,cs,h=>by
  rw[List.forIn_cons];have hr:∀x∈r,x.2 = .free->∃c,env.cells.lookup x.1=some c:=λx hx=>h x (bd5 _ hx)
  cases hk:(k==NameKind.free) with
  |true=>
   have e:k = .free:=by simpa using hk
   obtain⟨c,hc⟩:=h (n,k) bd4 e
   simp only[hk,if_true];have e1:cellOf env n=pure c:=by unfold cellOf;rw[hc]
   rw[e1];show ((pure c >>= λy=>pure (ForInStep.yield ((n,y)::cs))) >>= _:Sem _)=_;rw[pure_bind,pure_bind]
   have:=u9 (env:=env) r ((n,c)::cs) hr
   refine this.trans ?_;unfold e8;simp only[hk,if_true,hc,Option.getD_some];cases r<;>rfl
  |false=>
   simp only[hk,bg3,bl9];rw[pure_bind]
   have:=u9 (env:=env) r cs hr
   refine this.trans ?_
   conv=>rhs;unfold e8
   simp only[hk,bg3,bl9]
theorem C8 {scope:Scope}{env:Env}(h:∀x∈scope.names,x.2 = .free->∃c,env.cells.lookup x.1=some c):closureFor scope env=pure (e8 env.cells scope.names []):=by
 have e:=u9 (env:=env) scope.names [] h;unfold closureFor;rw[show (pure (e8 env.cells scope.names []):Sem (List (Str×az)))=(pure (e8 env.cells scope.names []) >>= pure) by rw[pure_bind]];rw[<- e]
theorem qL {cells:List (Str×az)}:∀(ns:List (Str×NameKind)) (cs:List (Str×az)) {x:Str}{c:az},(∀y∈ns,y.2 = .free->∃c,cells.lookup y.1=some c)->
  (∀x c,cs.lookup x=some c->cells.lookup x=some c)->(e8 cells ns cs).lookup x=some c->cells.lookup x=some c
 |[],cs,x,c,_,hc,h=>hc x c h
 |(n,k)::r,cs,x,c,hn,hc,h=>by
  unfold e8 at h;have hr:∀y∈r,y.2 = .free->∃c,cells.lookup y.1=some c:=λy hy=>hn y (bd5 _ hy)
  cases hk:(k==NameKind.free) with
  |false=>
   simp only[hk,bg3,bl9]at h;exact qL r cs hr hc h
  |true=>
   simp only[hk,if_true]at h;refine qL r _ hr (λy d e=>?_) h
   obtain⟨c0,h0⟩:=hn (n,k) bd4 (by simpa using hk)
   have h0:cells.lookup n=some c0:=h0;rw[h0]at e;rw[bi1]at e;by_cases hyn:y=n
   ·subst hyn
    simp only[bj8,Option.getD_some]at e;rw[h0];exact e
   ·have:(y==n)=false:=bo8.mpr hyn
    simp only[this]at e;exact hc y d e
theorem uA {cells:List (Str×az)}:∀(ns:List (Str×NameKind)) (cs:List (Str×az)) {x:Str},((x,NameKind.free)∈ns∨∃c,cs.lookup x=some c)->∃c,(e8 cells ns cs).lookup x=some c
 |[],cs,x,h=>by
  rcases h with h|h
  ·simp at h
  ·exact h
 |(n,k)::r,cs,x,h=>by
  unfold e8;refine uA r _ ?_;rcases h with h|⟨c,h⟩
  ·rcases bd8.mp h with e|e
   ·cases e
    exact .inr ⟨_,by simp[bi1];rfl⟩
   ·exact .inl e
  ·right
   cases hk:(k==NameKind.free) with
   |false=>exact⟨c,by simpa[hk] using h⟩
   |true=>
    simp only[if_true];rw[bi1];by_cases hxn:(x==n)=true
    ·simp only[hxn];exact⟨_,rfl⟩
    ·simp only[bq5.mpr hxn];exact⟨c,h⟩
theorem qM {env:Env}:∀{names:List (Str×NameKind)}{x:Str}{k:NameKind},(names.map λ(n,k)=>if (k==NameKind.free&&env.scope.kind==.function&&env.kindOf n==some .cell) then (n,NameKind.cell) else (n,k)).lookup x=some k->
  names.lookup x=some k∨(names.lookup x=some .free/\k = .cell)
 |[],_,_,h=>by simp at h
 |(n,q)::r,x,k,h=>by
  have ih:=@qM env r x k;rw[bf0]at h;by_cases hx:(x==n)=true
  ·have e:x=n:=by simpa using hx
   subst e;by_cases hc:(q==NameKind.free&&env.scope.kind==.function&&env.kindOf x==some .cell)=true
   ·simp only[hc,if_true,bi1,bj8]at h
    have hq:q = .free:=by simp at hc;exact hc.1.1
    exact .inr ⟨by simp[bi1,hq],(bf6 h).symm⟩
   ·simp only[hc,bg3,bl9,bi1,bj8]at h
    exact .inl (by simp[bi1];exact bf6 h)
  ·have hx':(x==n)=false:=bq5.mpr hx
   have h':(r.map λ(n,k)=>if (k==NameKind.free&&env.scope.kind==.function&&env.kindOf n==some .cell) then (n,NameKind.cell) else (n,k)).lookup x=some k:=by
    by_cases hc:(q==NameKind.free&&env.scope.kind==.function&&env.kindOf n==some .cell)=true
    ·simp only[hc,if_true,bi1,hx']at h;exact h
    ·simp only[hc,bg3,bl9,bi1,hx']at h;exact h
   simp only[bi1,hx'];exact ih h'
noncomputable def gA (fr:List (Option Nat))(σ:St):St:=fr.map λo=>o.bind λj=>(σ[j]?).join
noncomputable def Wk (σ₁ σ₂:St):Prop:=σ₁.length=σ₂.length/\∀(i:Nat) v,σ₁[i]? = some (some v)->σ₂[i]? = some (some v)
theorem iX:∀(ns:List (Str×NameKind)) (n:Nat) (cs:List (Str×az)),cellsFrom n ns cs=cellsFrom n ns []++cs
 |[],_,_=>rfl
 |(x,k)::r,n,cs=>by
  unfold cellsFrom;split
  ·rw[iX r (n+1) ((x,n)::cs),iX r (n+1) [(x,n)]];simp
  ·exact iX r n cs
theorem uB:∀(ns:List (Str×NameKind)) (n:Nat) {x:Str}{c:az},(x,c)∈cellsFrom n ns []->(x,NameKind.cell)∈ns
 |[],_,_,_,h=>by simp[cellsFrom]at h
 |(y,k)::r,n,x,c,h=>by
  unfold cellsFrom at h;split at h
  ·rename_i hk
   rw[iX]at h;rcases bi4.mp h with z|z
   ·exact bd5 _ (uB r _ z)
   ·rw[bd7]at z
    cases z
    have:k = .cell:=by simpa using hk
    rw[this];exact bd4
  ·exact bd5 _ (uB r _ h)
theorem qN:∀(ns:List (Str×NameKind)) (n:Nat) {x:Str},(x,NameKind.cell)∈ns->∃c,(x,c)∈cellsFrom n ns []
 |(y,k)::r,n,x,h=>by
  unfold cellsFrom;rcases bd8.mp h with z|z
  ·cases z
   rw[if_pos (by rfl),iX]
   exact⟨n,bf8 _ (by simp)⟩
  ·split
   ·obtain⟨c,hc⟩:=qN r (n+1) z
    rw[iX]
    exact⟨c,bi8 _ hc⟩
   ·exact qN r n z
theorem uC {α:Type}:∀{l:List (Str×α)}{x:Str}{c:α},(x,c)∈l->∃d,l.lookup x=some d
 |(y,v)::r,x,c,h=>by
  rw[bi1];cases hb:x==y with
  |true=>exact⟨v,rfl⟩
  |false=>
   rcases bd8.mp h with z|z
   ·cases z;simp at hb
   ·exact uC z
theorem qO {α:Type}{x:Str}:∀(l r:List (Str×α)),(l++r).lookup x=(match l.lookup x with|some v=>some v|none=>r.lookup x)
 |[],_=>rfl
 |(y,v)::l,r=>by
  rw[List.cons_append,bi1,bi1];cases hb:x==y with
  |true=>rfl
  |false=>exact qO l r
noncomputable def gS (X:Cx)(scope:Scope)(C:az):List (Str×az):=cellsFrom (C+1) scope.names (e8 X.env.cells scope.names [])
theorem kK {X:Cx}{scope:Scope}{C:az}{x:Str}{c:az}(h:(gS X scope C).lookup x=some c) :
  (x,c)∈cellsFrom (C+1) scope.names []∨((∀d,(x,d)∉cellsFrom (C+1) scope.names [])/\(e8 X.env.cells scope.names []).lookup x=some c):=by
 unfold gS at h;rw[iX,qO]at h;cases e:(cellsFrom (C+1) scope.names []).lookup x with
 |some v=>rw[e]at h;cases h;exact .inl (bh4 e)
 |none=>
  rw[e]at h;refine .inr ⟨λd hd=>?_,h⟩
  obtain⟨d',z⟩:=uC hd
  rw[e]at z;cases z
theorem as1 {X:Cx}{scope:Scope}{C:az}{x:Str}{c:az}(hn:(x,NameKind.cell)∉scope.names)(h:(e8 X.env.cells scope.names []).lookup x=some c):(gS X scope C).lookup x=some c:=by
 unfold gS;rw[iX,qO];cases e:(cellsFrom (C+1) scope.names []).lookup x with
 |some v=>exact absurd (uB _ _ (bh4 e)) hn
 |none=>exact h
theorem C9 {X:Cx}{scope:Scope}{C:az}{x:Str}(h:(x,NameKind.cell)∈scope.names∨∃c,(e8 X.env.cells scope.names []).lookup x=some c):∃c,(gS X scope C).lookup x=some c:=by
 unfold gS;rw[iX,qO];cases e:(cellsFrom (C+1) scope.names []).lookup x with
 |some v=>exact⟨v,rfl⟩
 |none=>
  rcases h with h|h
  ·obtain⟨c,hc⟩:=qN scope.names (C+1) h
   obtain⟨d,hd⟩:=uC hc
   rw[e]at hd;cases hd
  ·exact h
noncomputable def cN (X:Cx)(scope:Scope)(N:List Str)(s:ay)(H:Hp)(C:az)(fp:List az)(E:ax->ay->Prop):Cx:=
 { X with N:=N,s₀:=s,H₀:=H,env:=compEnvC scope (gS X scope C) C X.env,outer:=X.stack,ex:=fp,fn:=λx=>scope.names.lookup x==some .cell,pn:=[],xe:=E }
structure eS (X:Cx)(scope:Scope)(N:List Str)(fr:List (Option Nat)):Prop where
 kind:scope.kind = .function
 own:∀y∈scope.names,y.2 = .cell->scope.names.lookup y.1=some .cell
 names:∀y∈scope.names,y.2 = .local->scope.names.lookup y.1=some .local
 free:∀y∈scope.names,y.2 = .free->X.env.scope.names.lookup y.1=some .cell∨X.env.scope.names.lookup y.1=some .free
 len:fr.length=N.length
 from_:∀(i j:Nat),fr[i]? = some (some j)->∃x,N[i]? = some x/\X.N[j]? = some x/\scope.names.lookup x=some .free
section
variable {X:Cx}{ai:List (az×Obj)}{σ:St}{H:Hp}{s:ay}{scope:Scope}{N:List Str}{fr:List (Option Nat)}
theorem eS.cells (S:eS X scope N fr)(I:aA X ai σ H s):∀y∈scope.names,y.2 = .free->∃c,X.env.cells.lookup y.1=some c:=λy hy hk=>I.ok.has y.1 (S.free y hy hk)
theorem as2 {C D:az}{fp:List az}{E:ax->ay->Prop}{h1:Heap}{tk:Nat}{m:Str->Option ax}(S:eS X scope N fr)(I:aA X ai σ H s)(hf:∀b∈fp,fY X ai H b)(hfl:∀b∈fp,b<s.heap.objs.size)(hD:s.heap.objs.size<=D)(hC:s.heap.objs.size<=C)(hDC:D<C)(old:∀b o,s.heap.get? b=some o->h1.get? b=some o)(hns:h1.Ns C m)(hacc:h1.get? D=some { cls:=.type "list",data:=.seq #[] 0 })(hco:CellsOk h1 (C+1) (cellsFrom (C+1) scope.names [])) :
  aA (cN X scope N s H C fp E) [] (gA fr σ) (upd H D (.lst [])) { s with heap:=h1,toks:=tk }:=by
 have hHD:H D=none:=I.hok.fresh hD;have cl:=S.cells I;have cs:∀{x:Str}{c:az},(e8 X.env.cells scope.names []).lookup x=some c->X.env.cells.lookup x=some c:=λ{x c} h=>qL scope.names [] cl (λ_ _ z=>by simp at z) h
 have clt:∀{x:Str}{c:az},X.env.cells.lookup x=some c->c<s.heap.objs.size:=λ{x c} h=>by obtain⟨v,z⟩:=I.cell x c h;exact z.lt
 have nge:∀{x:Str}{c:az},(x,c)∈cellsFrom (C+1) scope.names []->C<c:=λ{x c} h=>(hco.empty x c h).2
 refine⟨⟨I.ok.mod,?_,I.ok.glob,I.ok.blt,hC,?_,?_,?_,I.ok.hd,I.ok.frames,.inl rfl,?_,I.bs,bh2 I.ok.bsz I.sz,?_,?_,I.stack,I.stkFree⟩,rfl,I.bare,Un.laid old hD hHD,⟨m,hns,?_⟩,?_,?_,?_,λp hp=>absurd (show p∈([]:List (az×Obj)) from hp) (by simp),?_,?_⟩
 ·exact S.kind
 ·intro x y c h1 h2
  rcases kK h1 with a|⟨_,a⟩<;>rcases kK h2 with b|⟨_,b⟩
  ·exact name_of_addr hco.apart a b
  ·exact absurd (be6 (Nat.lt_trans (nge a) (clt (cs b))) hC) (bi7 _)
  ·exact absurd (be6 (Nat.lt_trans (nge b) (clt (cs a))) hC) (bi7 _)
  ·exact I.ok.inj x y c (cs a) (cs b)
 ·intro x hx
  have hx:(relabel scope X.env).names.lookup x=some .cell∨(relabel scope X.env).names.lookup x=some .free:=hx;have fin:(x,NameKind.free)∈scope.names->∃c,(gS X scope C).lookup x=some c:=λz=>C9 (.inr (uA scope.names [] (.inl z)))
  rcases hx with hx|hx
  ·rcases qM hx with z|z
   ·exact C9 (.inl (bh4 z))
   ·exact fin (bh4 z.1)
  ·rcases qM hx with z|z
   ·exact fin (bh4 z)
   ·exact absurd z.2 (by decide)
 ·intro x c hx h
  have hx:(scope.names.lookup x==some NameKind.cell)=true:=hx;have hx:scope.names.lookup x=some .cell:=by simpa using hx
  rcases kK h with a|⟨a,_⟩
  ·exact bh2 hC (bp0 (nge a))
  ·obtain⟨d,hd⟩:=qN scope.names (C+1) (bh4 hx)
   exact absurd hd (a d)
 ·intro b hb
  refine⟨bg7 (be6 (hfl b hb) hC),λx c e=>?_⟩;rcases kK e with a|⟨_,a⟩
  ·exact bl6 (Nat.lt_trans (be6 (hfl b hb) hC) (nge a))
  ·exact (hf b hb).2.2.2.2.1 x c (cs a)
 ·intro b o e hb
  rcases (hf b hb).2.2.2.1 with z|z
  ·exact I.ok.noex b o e z
  ·exact absurd (be6 (be7 e) (bh2 I.ok.bsz z)) (bi7 _)
 ·intro b hb z
  rcases bd8.mp (I.stkSub b z) with e|e
  ·exact (hf b hb).2.1 e
  ·exact (hf b hb).2.2.1 e
 ·intro i x v e1 e2 e3
  have e2:(fr.map λo=>o.bind λj=>(σ[j]?).join)[i]? = some (some v):=e2;rw[bf4]at e2;cases ef:fr[i]? with
  |none=>rw[ef]at e2;cases e2
  |some o=>
   rw[ef]at e2;cases o with
   |none=>cases e2
   |some j=>
    have e2:some ((σ[j]?).join)=some (some v):=e2;have ej:σ[j]? = some (some v):=by
     cases q:σ[j]? with
     |none=>rw[q]at e2;cases e2
     |some w=>rw[q]at e2;cases w with
      |none=>cases e2
      |some w=>cases e2;rfl
    obtain⟨y,a1,a2,a4⟩:=S.from_ i j ef
    have e1:N[i]? = some x:=e1;rw[e1]at a1;cases a1;have a3:(x,NameKind.free)∈scope.names:=bh4 a4;have vis:dY X.env.scope x:=(S.free _ a3 rfl).elim (λz=>.inr (.inl z)) λz=>.inr (.inr z)
    obtain⟨m0,hn0,hl0⟩:=I.loc
    obtain⟨u,r,l⟩:=hl0 j x v a2 ej vis
    refine⟨u,r,.inr ⟨?_,?_⟩⟩
    ·have e3:(relabel scope X.env).names.lookup x=some .local∨(relabel scope X.env).names.lookup x=some .cell∨(relabel scope X.env).names.lookup x=some .free:=e3
     rcases e3 with z|z|z
     ·rcases qM z with y|y
      ·rw[a4]at y;cases y
      ·exact absurd y.2 (by decide)
     ·exact .inl z
     ·exact .inr z
    ·obtain⟨c,hc⟩:=uA (cells:=X.env.cells) scope.names [] (x:=x) (.inl a3)
     refine⟨c,as1 (λz=>by have:=S.own _ z rfl;rw[a4]at this;cases this) hc,?_⟩;have hc':=cs hc;have S1:=S.free (x,.free) a3 rfl;rcases l with⟨k,_⟩|⟨_,c2,hc2,z⟩
     ·have k:X.env.scope.names.lookup x=some .local:=k
      rcases S1 with q|q<;>(have q:X.env.scope.names.lookup x=_:=q;rw[k]at q;cases q)
     ·rw[hc']at hc2;cases hc2
      obtain⟨oc,ho,hd⟩:=z
      exact⟨oc,old c oc ho,hd⟩
 ·intro x c e
  rcases kK e with a|⟨_,a⟩
  ·exact⟨_,(hco.empty x c a).1⟩
  ·obtain⟨v,oc,ho,hd⟩:=I.cell x c (cs a)
   exact⟨v,oc,old c oc ho,hd⟩
 ·show upd H D (.lst []) C=none
  rw[aJ (bl6 hDC)];exact I.hok.fresh hC
 ·intro x c e
  show upd H D (.lst []) c=none;rcases kK e with a|⟨_,a⟩
  ·rw[aJ (bl6 (Nat.lt_trans hDC (nge a)))];exact I.hok.fresh (bh2 hC (bp0 (nge a)))
  ·have q:=cs a
   rw[aJ (bg7 (be6 (clt q) hD))];exact I.freeC x c q
 ·exact I.hok.laid old hD ⟨bp2 _,[],0,.nil,hacc⟩
 ·show (gA fr σ).length=N.length
  unfold gA;rw[be0];exact S.len
end
noncomputable def kM (X:Cx)(ifs:List Expr)(t:TT):Prop:=
 ∀(ai:List (az×Obj)) (s:ay) (σ:St) (H:Hp) (Q:Bool->Hp->Prop),aA X ai σ H s->t σ H Q->
  wpAny (model X.prog X.w) X.A (forIn ifs true λc r=>if r=true then do let ok <- isTrue c X.env (eval c X.env);pure (ForInStep.yield ok) else pure (ForInStep.yield r)) (TP X ai σ Q) X.xe s
noncomputable def D9:TT:=λ_ H Q=>Q true H
theorem as3 {X:Cx}:kM X [] D9:=λ_ _ _ H _ I h=>wpAny_tests_nil ⟨H,I,h⟩
theorem as4 {X:Cx}{c:Expr}{t:TT}(h:PT X c t):kM X [c] t:=λai s σ H Q I hq=>wpAny_tests_one (h ai s σ H Q I hq)
section
variable {prog:ba}{w:bf}{A:bc}
noncomputable def uD (prog:ba)(w:bf)(A:bc)(elt tg:Expr)(ifs:List Expr)(it acc:ax)(env:Env)(lost:ax->ay->Prop)(stop next:ay->Prop)(s:ay):Prop:=
 let M:=model prog w
 let tests:Sem Bool:=forIn ifs true λc r=>if r=true then do let ok <- isTrue c env (eval c env);pure (ForInStep.yield ok) else pure (ForInStep.yield r)
 let put:ay->Prop:=wpAny M A (eval elt env) (λx=>wpAny M A (call (.builtin "list.append") [acc,x]) (λ_=>next) lost) lost
 let taken:ax->ay->Prop:=λv=>wpAny M A (letOwnedTupleGo tg it v) (λ_=>wpAny M A (assign tg env v) (λ_=>wpAny M A tests (λok s'=>if ok=true then put s' else next s') lost) lost) lost
 wpAny M A (pyNext it) (λr s'=>match r with
  |none=>stop s'
  |some v=>taken v s') lost s
theorem as5 {R:Result->ay->Prop}{s:ay}{elt tg iter:Expr}{ifs:List Expr}{scope:Scope}{pos:Pos}{it acc:ax}{env:Env}(I:Nat->ay->Prop)(turn:∀n s,I n s->uD prog w A elt tg ifs it acc env (notedBy (model prog w) A env λe=>R (.error e)) (R (.ok .next)) (λs'=>∃m,m<n/\I m s') s)(n:Nat)(h:I n s) :
  codeAny (model prog w) A (.compLoop (.ListComp elt [⟨tg,iter,ifs,0⟩] scope pos) 0 it acc env) R s:=by
 apply codeAny_loop rfl I _ n h;intro k s1 h1
 change wpAny _ A ((compTurn _ 0 it acc env).onRaise (λx=>do noteFrame x env;theTreesLotGoes x)) _ _ s1
 apply wpAny_noted;rw[compTurn_list];have t:=turn k s1 h1;unfold uD at t;apply bd2;apply wpAny_standAt;apply bd2;refine bj6 t (λr s2 h2=>?_) λ_ _ z=>z
 cases r with
 |none=>exact bd6 h2
 |some v=>
  apply bd2;refine bj6 h2 (λ_ s3 h3=>?_) λ_ _ z=>z
  apply bd2;refine bj6 h3 (λ_ s4 h4=>?_) λ_ _ z=>z
  apply bd2;refine bj6 h4 (λok s5 h5=>?_) λ_ _ z=>z
  cases ok with
  |false=>exact bd6 ⟨rfl,h5⟩
  |true=>
   apply bd2;apply bd2;refine bj6 h5 (λx s6 h6=>?_) λ_ _ z=>z
   apply bd2;exact bj6 h6 (λ_ s7 h7=>bd6 (bd6 ⟨rfl,h7⟩)) λ_ _ z=>z
end
noncomputable def E1 (g:TG)(tc:TT)(te:TE)(σ0:St)(J:It)(D:az)(Q:VK)(W:Nat->Nat->List V->Hp->Prop):Prop:=
 ∀i m acc H',W i m acc H'->H' D=some (.lst acc)/\((J.stop i H'/\Q (.ref D) H')∨(J.go i H'/\∀x H2,J.yld i H' x H2->g x σ0 H2 λσ2 H3=>Wk σ0 σ2/\tc σ2 H3 λb H4=>
  if b=true then te σ2 H4 λv H5=>H5 D=some (.lst acc)/\acc.length<sizeLine/\∃m',m'<m/\W (i+1) m' (acc++[v]) (upd H5 D (.lst (acc++[v]))) else ∃m',m'<m/\W (i+1) m' acc H4))
section
variable {M:Model}{A:bc}{E:ax→ay→Prop}{s:ay}
theorem as6 {scope:Scope}{globals:az}{cl:List (Str×az)}{qual:Str}{func:Option az}{code:ax}{builtins:az}{outer:Env}{Q:Env->ay->Prop}(hQ:∀h',h'.Ns s.heap.objs.size (λ_=>none)->(∀b o,s.heap.get? b=some o->h'.get? b=some o)->CellsOk h' (s.heap.objs.size+1) (cellsFrom (s.heap.objs.size+1) scope.names [])->
   Q (newEnv scope s.heap.objs.size globals (cellsFrom (s.heap.objs.size+1) scope.names cl) qual func code (some outer) builtins) { s with heap:=h' }) :
  wpAny M A (newFunctionEnv scope globals cl [] qual func code (some outer) builtins) Q E s:=by
 simp only[newFunctionEnv,Option.isSome_some,if_true];refine bd2 (wpAny_alloc ?_);refine bd2 (wpAny_layCells _ (λname kind cells=>by cases hkc:kind==NameKind.cell<;>simp[hkc]) _ _ _ _ ?_);have ok:=cellsFrom_ok scope.names (s.heap.push { cls:=.type "dict",data:=.dict #[] }) (s.heap.objs.size+1) [] ⟨λ_ _ hm=>(nomatch hm),List.Pairwise.nil⟩ (by rw[bl4];exact be2 _);rw[bl4]at ok;rw[show ({ s with heap:=s.heap.push { cls:=.type "dict",data:=.dict #[] } }:ay).heap.objs.size=s.heap.objs.size+1 from bl4 ..];rw[List.forIn_nil];refine bd2 (bd6 (bd6 (hQ _ ((Heap.Ns.new s.heap (.type "dict")).keeps (pushCells_keeps _ _)) (λb o e=>pushCells_keeps _ _ b o (bd3 _ e)) ok)))
end
section
variable {X:Cx}{ai:List (az×Obj)}{σ:St}{H:Hp}{s:ay}{scope:Scope}{N:List Str}{fr:List (Option Nat)}{tg iter elt:Expr}{ifs:List Expr}{pos:Pos}{wi:TI}{g:TG}{tc:TT}{te:TE}
structure oF (X:Cx)(scope:Scope)(N:List Str)(tg:Expr)(ifs:List Expr)(elt:Expr)(s:ay)(H:Hp)(g:TG)(tc:TT)(te:TE):Prop where
 tg:∀(C:az) (fp:List az),PG (cN X scope N s H C fp λ_ _=>False) tg g
 ifs:∀(C:az) (fp:List az),kM (cN X scope N s H C fp λ_ _=>False) ifs tc
 elt:∀(C:az) (fp:List az),PE (cN X scope N s H C fp λ_ _=>False) elt te
theorem as7 {C:az}{fp:List az}{E:ax->ay->Prop}{pins':List (az×Obj)}{σ':St}{H':Hp}{s':ay}(I:aA X ai σ H s)(hf:∀b∈fp,fY X ai H b)(I':aA (cN X scope N s H C fp E) pins' σ' H' s'):aA X ai σ H' s':=
 I.call' (ch:=fp) I'.os I'.base I'.hok I'.bare λb hb=>⟨(hf b hb).2.2.2.1,(hf b hb).2.1,(hf b hb).2.2.2.2.1,(hf b hb).2.2.2.2.2⟩
theorem E2 {Rr:ax->az->Result->ay->Prop}{J:It}{fp:List az}{it:az}{tn:Nat->Heap->Prop}{Q:VK}(hc:X.calm=true)(S:eS X scope N fr)(B:oF X scope N tg ifs elt s H g tc te)(I:aA X ai σ H s)(T:i5 X.prog X.w X.K tg J fp it tn)(hst:tn 0 s.heap)(hf:∀b∈fp,fY X ai H b)(h:∀D,H D=none->∃W:Nat->Nat->List V->Hp->Prop,(∃m,W 0 m [] (upd H D (.lst [])))/\E1 g tc te (gA fr σ) J D Q W)(hend:∀(D C:az) (s':ay) (H':Hp) (m:Str->Option ax),s.heap.objs.size<=C->s.heap.objs.size<=D->aA X ai σ H' s'->s'.heap.Ns C m->H' C=none->Q (.ref D) H'->Rr (.ref D) C (.ok .next) s') :
  wpAny (model X.prog X.w) X.A (newList []) (λacc s₃=>wpAny (model X.prog X.w) X.A (newFunctionEnv scope X.env.globals (e8 X.env.cells scope.names []) [] X.env.qual none .none (some X.env)) (λcenv s₄=>
   codeAny (model X.prog X.w) X.A (.compStart (.ListComp elt [⟨tg,iter,ifs,0⟩] scope pos) 0 (.ref it) acc { cenv with scope:=relabel scope X.env }) (Rr acc cenv.locals) s₄) X.xe s₃) X.xe s:=by
 refine bk1 (as6 (λh₁ hns₁ keep₁ hco₁=>?_));dsimp only at hns₁ keep₁ hco₁ ⊢;generalize hH2:s.heap.push { cls:=.type "list",dict:=none,data:=.seq ([]:List ax).toArray }=H2 at hns₁ keep₁ hco₁ ⊢;have hC:H2.objs.size=s.heap.objs.size+1:=by rw[<- hH2,bl4]
 have hDC:s.heap.objs.size<H2.objs.size:=by rw[hC];exact Nat.lt_succ_self _
 have hCle:s.heap.objs.size<=H2.objs.size:=by rw[hC];exact Nat.le_succ _
 have old:∀b o,s.heap.get? b=some o->h₁.get? b=some o:=λb o e=>keep₁ b o (hH2▸bd3 _ e)
 have hacc:h₁.get? s.heap.objs.size=some { cls:=.type "list",data:=.seq #[] 0 }:=keep₁ _ _ (hH2▸bf1 _ rfl);have hfl:∀b∈fp,b<s.heap.objs.size:=λb hb=>by obtain⟨o,e,_⟩:=T.obj _ _ hst b hb;exact be7 e
 obtain⟨W,⟨m0,w0⟩,turn⟩:=h s.heap.objs.size (I.hok.fresh (be2 _))
 have st1:tn 0 h₁:=T.keep _ _ _ hst λb _ o e=>old b o e
 have fr0:∀b∈fp,upd H s.heap.objs.size (.lst []) b=none:=λb hb=>by rw[aJ (bg7 (hfl b hb))];exact (hf b hb).1
 have stat:∀{H':Hp},(∀b∈fp,H' b=none)->∀b∈fp,fY (cN X scope N s H H2.objs.size fp λ_ _=>False) [] H' b:=λ{H'} hn b hb=>by
  have f:=hf b hb;refine⟨hn b hb,bg7 (be6 (hfl b hb) hCle),λz=>?_,.inl hb,λx c e=>(kK e).elim (λz=>bl6 (Nat.lt_trans (be6 (hfl b hb) hCle) (hco₁.empty x c z).2)) λz=>f.2.2.2.2.1 x c (qL scope.names [] (S.cells I) (λ_ _ z=>by simp at z) z.2),λp hp=>absurd (show p∈([]:List (az×Obj)) from hp) (by simp)⟩;rcases bd8.mp (I.stkSub b z) with e|e
  ·exact f.2.1 e
  ·exact f.2.2.1 e
 generalize hX:cN X scope N s H H2.objs.size fp (λ_ _=>False)=Y at stat;have I0:aA Y [] (gA fr σ) (upd H s.heap.objs.size (.lst [])) { s with heap:=h₁ }:=hX▸as2 S I hf hfl (be2 _) hCle hDC old hns₁ hacc hco₁;have bt:PG Y tg g:=hX▸B.tg H2.objs.size fp;have bi:kM Y ifs tc:=hX▸B.ifs H2.objs.size fp;have be:PE Y elt te:=hX▸B.elt H2.objs.size fp;have eP:Y.prog=X.prog:=by rw[<- hX];rfl
 have ew:Y.w=X.w:=by rw[<- hX];rfl
 have eK:Y.K=X.K:=by rw[<- hX];rfl
 have eA:Y.A=X.A:=by rw[<- hX];rfl
 have eE:Y.env=compEnvC scope (gS X scope H2.objs.size) H2.objs.size X.env:=by rw[<- hX];rfl
 have eX:Y.xe=λ_ _=>False:=by rw[<- hX];rfl
 have ec:Y.calm=true:=by rw[<- hX];exact hc
 have never:∀{E:ax->ay->Prop} (e:ax) (s':ay),Y.xe e s'->E e s':=λ{E} e s' z=>by rw[eX]at z;exact z.elim
 have out:∀{pins' σ' H' s'},aA Y pins' σ' H' s'->aA X ai σ H' s':=λ{_ _ _ _} I'=>as7 (C:=H2.objs.size) (E:=λ_ _=>False) (scope:=scope) (N:=N) I hf (hX▸I')
 have loop:codeAny (model X.prog X.w) X.A (.compLoop (.ListComp elt [⟨tg,iter,ifs,0⟩] scope pos) 0 (.ref it) (.ref s.heap.objs.size) (compEnvC scope (gS X scope H2.objs.size) H2.objs.size X.env))
   (Rr (.ref s.heap.objs.size) H2.objs.size) { s with heap:=h₁ }:=by
  refine as5 (λn s'=>∃i acc H',aA Y [] (gA fr σ) H' s'/\tn i s'.heap/\(∀b∈fp,H' b=none)/\W i n acc H') ?_ m0 ⟨0,[],_,I0,st1,fr0,w0⟩;rintro n s3 ⟨i,acc,H3,I3,st3,fr3,w3⟩;unfold uD;dsimp only
  obtain⟨hD3,step⟩:=turn i n acc H3 w3
  rcases step with⟨stop,qn⟩|⟨go,step⟩
  ·have z:=T.done Y eP ew eK ec i [] s3 _ H3 (notedBy (model X.prog X.w) X.A (compEnvC scope (gS X scope H2.objs.size) H2.objs.size X.env) λe s'=>Rr (.ref s.heap.objs.size) H2.objs.size (.error e) s') I3 (stat fr3) st3 stop
   rw[eA]at z;refine aO z λr s4 ⟨hr,I4⟩=>?_
   subst hr
   obtain⟨m4,hn4,_⟩:=I4.loc
   rw[eE]at hn4;have f4:=I4.free;rw[eE]at f4;exact hend _ _ s4 H3 m4 hCle (be2 _) (out I4) hn4 f4 qn
  ·have z:=T.item Y eP ew eK ec i [] s3 _ H3 (notedBy (model X.prog X.w) X.A (compEnvC scope (gS X scope H2.objs.size) H2.objs.size X.env) λe s'=>Rr (.ref s.heap.objs.size) H2.objs.size (.error e) s') I3 (stat fr3) st3 go
   rw[eA]at z;refine aO z λr s4 ⟨u,hr,h4⟩=>?_
   subst hr;refine aO h4 λ_ s5 ⟨x,H5,I5,r5,y5,st5,fr5⟩=>?_
   have I5':=I5.pinned (stat fr5) (T.obj _ _ st5);have q1:=bt _ s5 _ H5 x u _ I5' r5 (step x H5 y5);rw[eP,ew,eA,eE]at q1;refine bj6 q1 (λ_ s6 ⟨σ6,H6,I6,wk,q6⟩=>?_) never;have q2:=bi _ s6 σ6 H6 _ I6 q6;rw[eP,ew,eA,eE]at q2;refine bj6 q2 (λb s7 ⟨H7,I7,q7⟩=>?_) never;have again:∀{H8:Hp}{s8:ay}{acc':List V},aA Y ([]++o7 fp s5.heap) σ6 H8 s8->(∃m',m'<n/\W (i+1) m' acc' H8)->∃m,m<n/\∃i acc H',aA Y [] (gA fr σ) H' s8/\tn i s8.heap/\(∀b∈fp,H' b=none)/\W i m acc H':=λ{H8 s8 acc'} I8 n8=>by
    obtain⟨m',hm,w8⟩:=n8
    refine⟨m',hm,i+1,acc',H8,(I8.unpinned).weak wk.1 wk.2,T.keep _ _ _ st5 λb hb o e=>(I8.pin (b,o) (bf8 _ (bf8 _ (qH hb e)))).1,λb hb=>?_,w8⟩
    obtain⟨o,e,d⟩:=T.obj _ _ st5 b hb
    exact (I8.pin (b,o) (bf8 _ (bf8 _ (qH hb e)))).2.1
   cases b with
   |false=>
    rw[if_neg be9]at q7 ⊢;exact again I7 q7
   |true=>
    rw[if_pos rfl]at q7 ⊢;have q3:=be _ s7 σ6 H7 _ I7 q7;rw[eP,ew,eA,eE]at q3;refine bj6 q3 (λv s8 ⟨y,H8,I8,r8,hD8,hz8,q8⟩=>?_) never;have q4:=aq9 _ s8 σ6 H8 (.ref s.heap.objs.size) [y] (.ref s.heap.objs.size) [v] (λ_ H9=>∃m',m'<n/\W (i+1) m' (acc++[y]) H9) I8 rfl (.cons r8 .nil) ⟨_,_,_,rfl,rfl,hD8,hz8,q8⟩;rw[eP,ew,eA]at q4;exact bj6 q4 (λ_ s9 ⟨_,H9,I9,_,q9⟩=>again I9 q9) never
 exact codeAny_compStart_list loop (T.self _ 0 _ _ _ st1 loop)
end
section
variable {X:Cx}{scope:Scope}{N:List Str}{fr:List (Option Nat)}{tg iter elt:Expr}{ifs:List Expr}{pos:Pos}{wi:TI}{g:TG}{tc:TT}{te:TE}
theorem aA.drop {ai:List (az×Obj)}{σ:St}{H H':Hp}{s s':ay}{C:az}{h':Heap}(I0:aA X ai σ H s)(hC:s.heap.objs.size<=C){σ':St}(I:aA X ai σ' H' s')(hn:H' C=none)(sb:Heap.SameBut C s'.heap h'):aA X ai σ' H' { s' with heap:=h' }:=by
 refine I.turned (t':=s'.toks) (it:=C) (λb o hb e=>(sb.2 b hb).trans e) hn (bl6 (be6 I0.lt hC)) (.inr (bh2 I0.sz hC)) (λx c e z=>?_) λp hp z=>?_
 ·obtain⟨v,q⟩:=I0.cell x c e
  exact absurd (be6 q.lt (by rw[z];exact hC)) (bi7 _)
 ·exact absurd (be6 (be7 (I0.pin p hp).1) (by rw[z];exact hC)) (bi7 _)
variable {gh:Hp→TG}{tch:Hp→TT}{teh:Hp→TE}
noncomputable def uE (wi:TI)(fr:List (Option Nat))(gh:Hp->TG)(tch:Hp->TT)(teh:Hp->TE):TE:=λσ H Q=>wi σ H λJ H1=>∀D,H1 D=none->
 ∃W:Nat->Nat->List V->Hp->Prop,(∃m,W 0 m [] (upd H1 D (.lst [])))/\E1 (gh H1) (tch H1) (teh H1) (gA fr σ) J D Q W
theorem uF (hc:X.calm=true)(S:eS X scope N fr)(hi:PI X tg iter wi)(B:∀(s:ay) (H:Hp),oF X scope N tg ifs elt s H (gh H) (tch H) (teh H))(hs:∀x,foldedSetIterable iter X.env x=pure x:=by intro _;rfl):PE X (.ListComp elt [⟨tg,iter,ifs,0⟩] scope pos) (uE wi fr gh tch teh):=by
 intro ai s σ H Q I h;rw[eval_ListComp];refine wpAny_comprehension_free (use:=none) rfl hs (C8 (S.cells I)) S.kind S.names (aO (hi ai s σ H _ I h) λv s1 h1=>aO h1 λitv s2 h2=>?_)
 obtain⟨it,fp,tn,J,H2,e,I2,T,st2,f2,hW⟩:=h2
 subst e;refine E2 (Rr:=λacc C=>compPost (model X.prog X.w) X.A X.xe none (EP X ai σ Q) acc C) hc S (B _ _) I2 T st2 f2 hW ?_;intro D C s' H' m hC hD I' hns hHC q
 exact⟨m,hns,λh' sb=>⟨.ref D,H',I2.drop hC I' hHC sb,rfl,q⟩⟩
theorem as8 {i:Nat}{x:Str}{px spos:Pos}(hc:X.calm=true)(S:eS X scope N fr)(hi:PI X tg iter wi)(B:∀(s:ay) (H:Hp),oF X scope N tg ifs elt s H (gh H) (tch H) (teh H))(hN:X.N.Nodup)(hix:X.N[i]? = some x)(hx:X.env.scope.names.lookup x=some .local)(hsw:swapsWith (.ListComp elt [⟨tg,iter,ifs,0⟩] scope pos) (some (.Name x px)) spos.line X.env=pure true)(hs:∀x,foldedSetIterable iter X.env x=pure x:=by intro _;rfl) :
  PS X (.Assign [.Name x px] (.ListComp elt [⟨tg,iter,ifs,0⟩] scope pos) spos) (kI (uE wi fr gh tch teh) (dM i)):=by
 intro ai s σ H D I h;rw[exec_Assign_Name_used _ _ _ _ hsw];refine bd2 (wpAny_standAt (bd2 ?_));show wpAny _ _ (do let _ <- comprehension (.ListComp elt [⟨tg,iter,ifs,0⟩] scope pos) scope X.env _ (newList []) false (eval iter X.env) (some (assign (.Name x px) X.env))) _ _ s
 refine bd2 (bj6 (wpAny_comprehension_free (Q:=λ_ s'=>SP X ai D .next s') (use:=some (assign (.Name x px) X.env)) rfl hs (C8 (S.cells I)) S.kind S.names (aO (hi ai s σ H _ I h) λv s1 h1=>aO h1 λitv s2 h2=>?_))
  (λ_ s' hq=>bd6 (bd6 hq)) λ_ _ e=>e)
 obtain⟨it,fp,tn,J,H2,e,I2,T,st2,f2,hW⟩:=h2
 subst e;refine E2 (Rr:=λacc C=>compPost (model X.prog X.w) X.A X.xe (some (assign (.Name x px) X.env)) (λ_ s'=>SP X ai D .next s') acc C) hc S (B _ _) I2 T st2 f2 hW ?_;intro D' C s' H' m hC hD I' hns hHC q;refine wpAny_assign_Name (yW I' hN hix (.inl hx) (v:=.ref D') rfl (λs'' I'' sb=>?_) (.inr hx))
 obtain⟨a,sb,ha⟩:=sb
 have hCa:C≠a:=by
  rcases ha with z|z
  ·rw[z];exact bl6 (be6 I2.lt hC)
  ·intro e;subst e
   obtain⟨v,q⟩:=I2.cell x _ z
   exact absurd (be6 q.lt hC) (bi7 _)
 exact⟨m,hns.sameBut sb hCa,λh' sb'=>⟨_,H',I2.drop hC I'' hHC sb',q⟩⟩
end
theorem bZ {H:Hp}{p:az}(h:H p=none)(o:HO):aH H (upd H p o):=λb u q=>by rw[aJ (cZ q h)];exact q
end L2
namespace Srt
open PySem PySem.W PyProof.Rows
noncomputable abbrev G (p:Array Nat)(i:Nat):Nat:=p.getD i 0
noncomputable def PP (n:Nat)(p:Array Nat):Prop:=p.toList.Perm (List.range n)
structure Ord (c:Nat->Nat->Bool):Prop where
 asym:∀{i j},c i j=true->c j i=false
 ntr:∀{i j k},c i j=false->c j k=false->c i k=false
end Srt
namespace Raw
open PySem PySem.W PySem.Calls PyProof.Rows
noncomputable def oG (h:Heap)(d:az)(es:Array DictEntry)(ep:Nat):Prop:=∃o,h.get? d=some o/\o.ExactDict/\o.data = .dict es ep
theorem oG.ty {s:ay}{d:az}{es:Array DictEntry}{ep:Nat}(x:oG s.heap d es ep):s.TypeIs (.ref d) "dict":=x.elim λo y=>⟨o,y.1,y.2.1.1⟩
section
variable {prog:ba}{w:bf}{A:bc}{E:ax→ay→Prop}{s:ay}{d it:az}{es:Array DictEntry}{ep i:Nat}
theorem made (far:(d==sysModules)=false)(x:oG s.heap d es ep){Q:ax->ay->Prop}(q:Q (.ref s.heap.objs.size) { s with heap:=s.heap.push { cls:=.type "dict_keyiterator",data:=.fields #[.ref d,.int 0 0,.int es.size 0,.int ep 0] } }):wpAny (model prog w) A (pyIter (.ref d)) Q E s:=by
 have T:=x.ty
 obtain⟨o,e1,e2,e3⟩:=x
 apply wpAny_pyIter_slot T PySem.F.slot_dict_iter;apply bl5 PySem.F.slot_dict_iter T PySem.F.entry_dict_iter _ (PySem.F.args_dict_iter_1 _);simp only[Builtin.«dict.__iter__»,Builtin.Dict.dictSlotNone];apply bd2;apply bd2;apply wpAny_notOrdered_dict T;apply bd6
 change wpAny _ _ (Builtin.Dict.showsAll d >>= _) _ _ s
 have far':Builtin.Dict.showsAll d=pure ():=by
  unfold Builtin.Dict.showsAll;simp only[far,bg3,bl9]
 rw[far',pure_bind];apply bd2;apply wpAny_dictEntries e1 e3;apply bd2;apply wpAny_dictEpoch e1 e3;apply bd2;refine bk1 (bd6 ?_);refine⟨.ref s.heap.objs.size,rfl,"dict_keyiterator",_,⟨_,bf1 _ rfl,rfl⟩,PySem.F.slot_dict_keyiterator_next.lookup,?_⟩;simpa only[rawInt] using q
theorem turn (hh:A.handled=none)(hi:s.heap.IsKeyIter it d i es.size ep)(x:oG s.heap d es ep){Q:Option ax->ay->Prop}(yes:∀(lt:i<es.size) h',h'.IsKeyIter it d (i+1) es.size ep->Heap.SameBut it s.heap h'->Q (some es[i].key) { s with heap:=h' })(no:es.size<=i->∀h',Heap.ExtBut it s.heap h'->Q none { s with heap:=h' }):wpAny (model prog w) A (pyNext (.ref it)) Q E s:=by
 have T:=hi.typeIs
 obtain⟨oi,f1,f2,f3⟩:=hi
 obtain⟨o,e1,e2,e3⟩:=x
 have slot:=PySem.F.slot_dict_keyiterator_next;have plain:Builtin.Dict_items.ownsTuple "dict_keyiterator" = false:=by decide
 have isref:(Value.ref d==Value.none)=false:=rfl;have nn:¬(i:Int)<0:=by omega
 unfold pyNext;apply bd2;apply wpAny_attempt;apply bj3 (name:=Str.ofString "__next__") T slot;apply bl5 slot T PySem.F.entry_dict_keyiterator_next _ (PySem.F.args_dict_keyiterator_next_1 _);apply bd2;apply bd6;apply bd2;apply bd2;apply bd2
 first
  |apply wpAny_typeNameOfWhole_keyiter T
  |apply wpAny_typeNameOf_keyiter T
 apply bd6;apply bd2;apply wpAny_fieldsOf f1 f3;simp only[plain,bg3,bl9]
 change wpAny _ _ (if (Value.ref d==Value.none)=true then _ else _) _ _ s
 have adr:Builtin.Dict_items.addrOf (Value.ref d)=pure d:=rfl;simp only[isref,bg3,bl9,adr,pure_bind];apply bd2;apply wpAny_dictEntries e1 e3;simp only[bne_self_eq_false,bg3,bl9];apply bd2;apply wpAny_dictEpoch e1 e3;simp only[bne_self_eq_false,bg3,bl9];apply bd6;simp only[nn,bl9,bk2];by_cases lt:i<es.size
 ·simp only[Array.getElem?_eq_getElem lt]
  apply bd2;apply bd2
  first
   |apply wpAny_typeNameOfWhole_keyiter T
   |apply wpAny_typeNameOf_keyiter T
  apply bd6;apply bd2;apply wpAny_isOneOf_keyiter T
  change wpAny _ _ (setField (.ref it) 1 (rawInt ((i:Int)+1)) >>= _) _ _ s
  apply bd2;refine wpAny_setField f1 f3 (by simp) ?_;have again:(s.heap.update it (Obj.mapFields (·.setIfInBounds 1 (rawInt ((i:Int)+1))))).IsKeyIter it d (i+1) es.size ep:=by
   refine⟨_,Heap.get?_update_self _ f1 (Obj.isFreed_of_fields (Obj.data_mapFields f3 _)),?_,?_⟩
   ·rw[Obj.cls_mapFields];exact f2
   ·rw[Obj.data_mapFields f3];simp[rawInt]
  apply bd2;apply bq8;apply bd2;refine wpAny_isOneOf_keyiter (s:={ s with heap:=s.heap.update it (Obj.mapFields (·.setIfInBounds 1 (rawInt ((i:Int)+1)))) }) again.typeIs ?_
  change wpAny _ _ (pure es[i].key) _ _ _
  apply bd6;apply bd6
  exact⟨es[i].key,rfl,bd6 (yes lt _ again (Heap.SameBut.update ..))⟩
 ·have ge:es.size<=i:=Nat.le_of_not_lt lt
  simp only[Array.getElem?_eq_none ge];apply bd2;apply bd2
  first
   |apply wpAny_typeNameOfWhole_keyiter T
   |apply wpAny_typeNameOf_keyiter T
  apply bd6
  change wpAny _ _ (setField (.ref it) 0 .none >>= _) _ _ s
  apply bd2;refine wpAny_setField f1 f3 (by simp) ?_;apply bd2;simp only[newExc,newTuple];apply bd2;refine bk1 ?_ (by size_fits);apply bd2;refine wpAny_of_eq (a:=Value.none) (by first|rfl|(simp only[firstArgMember];rfl)) ?_;refine bk1 ?_ (by size_fits);unfold raiseNew;apply bd2;apply wpAny_handled;have quiet:A.in1.handled=none:=hh;rw[quiet];refine wpAny_throw ?_;apply bd2;refine bp3 (T:="StopIteration") (b:=true) ⟨_,bf1 _ rfl,rfl⟩ isSubtype_stop ?_;exact bd6 (no ge _ (((Heap.SameBut.update ..).extBut.push _).push _))
end
end Raw
namespace L2
open PySem PySem.Spec PyProof.Rows
section
variable {X:Cx}
theorem as9:dN X (.builtin "isinstance") (λxs H Q=>∃x t n b,xs = [x,.ty n]/\fO X.K H x t/\PySem.W.kitOne X.K t (.type n)=some b/\Q (.bl b) H):=by
 intro ai s σ H xs us Q I r h
 obtain⟨x,t,n,b,rfl,ty,e,q⟩:=h
 obtain⟨u,u',rfl,ru,ru'⟩:=tR r
 cases ru';exact al7 I ru ty e λtk=>⟨.bl b,H,I.tok tk,rfl,q⟩
end
noncomputable def E3 (outer:List (Str×NameKind))(XN:List Str)(names:List (Str×NameKind))(N:List Str)(fr:List (Option Nat)):Bool:=
 names.all (λy=>!(y.2==.cell)||names.lookup y.1==some .cell)&&names.all (λy=>!(y.2==.local)||names.lookup y.1==some .local) &&
 names.all (λy=>!(y.2==.free)||(outer.lookup y.1==some .cell||outer.lookup y.1==some .free))&&fr.length==N.length &&
 (fr.zip N).all (λp=>match p.1 with
  |none=>true
  |some j=>XN[j]?==some p.2&&names.lookup p.2==some .free)
theorem eS.of {X:Cx}{scope:Scope}{N:List Str}{fr:List (Option Nat)}(hk:scope.kind = .function)(h:E3 X.env.scope.names X.N scope.names N fr=true):eS X scope N fr:=by
 unfold E3 at h;simp only[bg6]at h
 obtain⟨⟨⟨⟨h1,h2⟩,h3⟩,h4⟩,h5⟩:=h
 refine⟨hk,λy hy e=>?_,λy hy e=>?_,λy hy e=>?_,by simpa using h4,λi j e=>?_⟩
 ·have:=bp4.mp h1 y hy
  rw[e]at this;simpa using this
 ·have:=bp4.mp h2 y hy
  rw[e]at this;simpa using this
 ·have:=bp4.mp h3 y hy
  rw[e]at this;simpa using this
 ·have hl:fr.length=N.length:=by simpa using h4
  have hi:i<fr.length:=(bf7.mp e).1;have m:(some j,N[i]'(by omega))∈fr.zip N:=by
   have:(fr.zip N)[i]? = some (some j,N[i]'(by omega)):=by
    rw[List.getElem?_zip_eq_some]
    exact⟨e,by simp⟩
   exact bi9 this
  have:=bp4.mp h5 _ m
  simp only[bg6,beq_iff_eq]at this
  exact⟨N[i]'(by omega),by simp,this.1,this.2⟩
noncomputable def qP (ls:aa)(k:Int):ag:=ls.flatMap λl=>(if l.1=k then [l.2] else [])++(if l.2=k then [l.1] else [])
theorem at0 {α:Type}{xs:List α}{i:Int}{v:α}(h0:0<=i)(h:xs[i.toNat]? = some v):atI xs i=some v:=by
 have:=tY h
 rwa [show ((i.toNat:Nat):Int)=i by omega]at this
theorem kN {n:Nat}(h:n<=16000000):n<sizeLine:=by rw[sizeLine_eq];omega
theorem E4 {K:ad}{H:Hp}{p:az}{xs:List V}(h:aZ K H p xs):oD K "list" (.ref p) H:=.inl ⟨rfl,xs,h⟩
end L2
namespace Zp
open PySem PyProof.Rows
section
variable {prog:ba}{w:bf}{A:bc}{E:ax→ay→Prop}{s:ay}
theorem E5 {it t:az}{i:Nat}{items:Array ax}{x:ax}{Q:ax->ay->Prop}(hi:s.heap.IsTupleIter it t i)(ht:s.heap.IsTuple t items)(hx:items[i]? = some x)(q:∀h',h'.IsTupleIter it t (i+1)->Heap.SameBut it s.heap h'->Q x { s with heap:=h' }):wpAny (model prog w) A (Builtin.SmallTypes.nextOf (.ref it)) Q E s:=by
 have T:=hi.typeIs
 obtain⟨o,e1,e2,e3⟩:=hi
 obtain⟨u,f1,_,k,f3⟩:=ht
 have slot:=PySem.F.slot_tuple_iterator_next;have isref:(Value.ref t==Value.none)=false:=rfl;unfold Builtin.SmallTypes.nextOf;apply bd2;apply bj3 (name:=Str.ofString "__next__") T slot;apply bl5 slot T PySem.F.entry_tuple_iterator_next _ (PySem.F.args_tuple_iterator_next_1 _)
 change wpAny _ _ (field (.ref it) 0 >>= _) _ _ s
 apply bd2;refine bj2 e1 e3 (x:=.ref t) rfl ?_
 change wpAny _ _ (if (Value.ref t==Value.none)=true then _ else _) _ _ s
 simp only[isref,bg3,bl9]
 change wpAny _ _ (field (.ref it) 1 >>= _) _ _ s
 apply bd2;refine bj2 e1 e3 (x:=.int i 0) rfl ?_
 change wpAny _ _ (seqItems? (.ref t) >>= _) _ _ s
 apply bd2;apply bl0 f1 f3;simp only[bk2,hx];apply bd2;refine wpAny_setField e1 e3 (by simp) ?_;apply bd6;refine⟨x,rfl,bd6 (q _ ⟨_,Heap.get?_update_self _ e1 (Obj.isFreed_of_fields (Obj.data_mapFields e3 _)),?_,?_⟩ (Heap.SameBut.update ..))⟩
 ·rw[Obj.cls_mapFields];exact e2
 ·rw[Obj.data_mapFields e3];simp[rawInt]
theorem E6 {it t:az}{i:Nat}{items:Array ax}{Q:ax->ay->Prop}(hh:A.handled=none)(hi:s.heap.IsTupleIter it t i)(ht:s.heap.IsTuple t items)(hx:items[i]? = none)(q:∀h' e,Heap.ExtBut it s.heap h'->(∃o,h'.get? e=some o/\o.cls = .type "StopIteration")->E (.ref e) { s with heap:=h' }):wpAny (model prog w) A (Builtin.SmallTypes.nextOf (.ref it)) Q E s:=by
 have T:=hi.typeIs
 obtain⟨o,e1,e2,e3⟩:=hi
 obtain⟨u,f1,_,k,f3⟩:=ht
 have slot:=PySem.F.slot_tuple_iterator_next;have isref:(Value.ref t==Value.none)=false:=rfl;unfold Builtin.SmallTypes.nextOf;apply bd2;apply bj3 (name:=Str.ofString "__next__") T slot;apply bl5 slot T PySem.F.entry_tuple_iterator_next _ (PySem.F.args_tuple_iterator_next_1 _)
 change wpAny _ _ (field (.ref it) 0 >>= _) _ _ s
 apply bd2;refine bj2 e1 e3 (x:=.ref t) rfl ?_
 change wpAny _ _ (if (Value.ref t==Value.none)=true then _ else _) _ _ s
 simp only[isref,bg3,bl9]
 change wpAny _ _ (field (.ref it) 1 >>= _) _ _ s
 apply bd2;refine bj2 e1 e3 (x:=.int i 0) rfl ?_
 change wpAny _ _ (seqItems? (.ref t) >>= _) _ _ s
 apply bd2;apply bl0 f1 f3;simp only[bk2,hx];apply bd2;apply wpAny_rule;apply bd2;refine wpAny_setField e1 e3 (by simp) ?_;apply bd2;simp only[newExc,newTuple];apply bd2;refine bk1 ?_ (by size_fits);apply bd2;refine wpAny_of_eq (a:=Value.none) (by first|rfl|(simp only[firstArgMember];rfl)) ?_;refine bk1 ?_ (by size_fits);unfold raiseNew;apply bd2;apply wpAny_handled;have quiet:A.in1.handled=none:=hh;rw[quiet];refine wpAny_throw ?_;exact q _ _ (((Heap.SameBut.update ..).extBut.push _).push _) ⟨_,bf1 _ rfl,rfl⟩
theorem at1 (hh:A.handled=none)(it t:az)(ne:t≠it)(items:Array ax):Draws prog w A it [it,t] items.size (λi v=>items[i]? = some v) (λi h=>h.IsTupleIter it t i/\h.IsTuple t items) where
 live:=λ_ _ st=>st.1.elim λo y=>⟨o,y.1⟩
 frame:=λ_ _ _ st k=>⟨st.1.at λo e=>k it bd4 o e,st.2.elim λo y=>⟨o,k t (bd5 _ bd4) o y.1,y.2⟩⟩
 item:=λi s Q E lt st q=>E5 st.1 st.2 (Array.getElem?_eq_getElem lt) λh' again sb=>q _ h' s.toks (Array.getElem?_eq_getElem lt) ⟨again,st.2.elim λo y=>⟨o,sb.extBut t o ne y.1,y.2⟩⟩ sb
 done:=λs Q E st q=>E6 hh st.1 st.2 (Array.getElem?_eq_none (be2 _)) q
end
structure Ap (z TI TO i1 i2:az)(fp1 fp2:List az):Prop where
 TIz:TI≠z
 TOz:TO≠z
 TITO:TI≠TO
 z1:z∉fp1
 z2:z∉fp2
 o1:TO∉fp1
 o2:TO∉fp2
 t1:TI∉fp1
 t2:TI∉fp2
 m1:i1∈fp1
 m2:i2∈fp2
 n1:i1∉fp2
 n2:i2∉fp1
structure uG (z TI TO i1 i2:az)(St1 St2:Nat->Heap->Prop)(f0:ax)(i j:Nat)(h:Heap):Prop where
 zz:IsZip h z TI TO f0
 ti:IsPair h TI (.ref i1) (.ref i2)
 to_:∃a b,IsPair h TO a b
 s1:St1 i h
 s2:St2 j h
section
variable {prog:ba}{w:bf}{A:bc}{E:ax→ay→Prop}{s:ay}{z TI TO i1 i2:az}{fp1 fp2:List az}{n1 n2:Nat}{P1 P2:Nat→ax→Prop}{St1 St2:Nat→Heap→Prop}
theorem lZ (ap:Ap z TI TO i1 i2 fp1 fp2){b:az}(h:b∉fp1):b≠i1:=λe=>h (e▸ap.m1)
theorem qQ (ap:Ap z TI TO i1 i2 fp1 fp2){b:az}(h:b∉fp2):b≠i2:=λe=>h (e▸ap.m2)
theorem item (D1:Draws prog w A.in1 i1 fp1 n1 P1 St1)(D2:Draws prog w A.in1 i2 fp2 n2 P2 St2)(ap:Ap z TI TO i1 i2 fp1 fp2){i:Nat}(l1:i<n1)(l2:i<n2)(st:uG z TI TO i1 i2 St1 St2 .none i i s.heap){Q:Option ax->ay->Prop}(q:∀x y h' tk,P1 i x->P2 i y->uG z TI TO i1 i2 St1 St2 (rawInt s.heap.objs.size) (i+1) (i+1) h'->IsPair h' s.heap.objs.size x y->(∀c o,c≠z->c≠TO->c≠i1->c≠i2->s.heap.get? c=some o->h'.get? c=some o)->
   h'.objs.size=s.heap.objs.size+1->Q (some (.ref s.heap.objs.size)) { s with heap:=h',toks:=tk }):wpAny (model prog w) A (pyNext (.ref z)) Q E s:=by
 obtain⟨hz,hti,⟨a,b,hto⟩,h1,h2⟩:=st
 have T:s.TypeIs (.ref z) "zip":=⟨_,hz,rfl⟩;have slot:=PySem.F.slot_zip_next;unfold pyNext;apply bd2;apply wpAny_attempt;apply bj3 (name:=Str.ofString "__next__") T slot;apply bl5 slot T PySem.F.entry_zip_next _ (PySem.F.args_zip_next_1 _)
 change wpAny _ _ (field (.ref z) 2 >>= _) _ _ _
 apply bd2;refine bj2 hz rfl (x:=.bool false) rfl ?_
 change wpAny _ _ (field (.ref z) 3 >>= _) _ _ _
 apply bd2;refine bj2 hz rfl (x:=.ref TI) rfl ?_;apply bd2;apply bl0 hti rfl
 change wpAny _ _ (Builtin.SmallTypes.ownedTupleIsFree (.ref z) >>= _) _ _ _
 apply bd2;unfold Builtin.SmallTypes.ownedTupleIsFree;apply bd2;refine bj2 hz rfl (x:=.none) rfl (bd6 ?_);simp only[if_true];apply bd2;apply wpAny_rule;apply bd2;refine bj2 hz rfl (x:=.ref TO) rfl ?_;apply bd2;refine bk4 hz (by simp) λg1 hz1 sb1=>?_
 have k1:∀c o,c≠z->s.heap.get? c=some o->g1.get? c=some o:=λc o c1 e=>sb1.extBut c o c1 e
 apply bd2;simp only[List.zipIdx_cons,List.zipIdx_nil,List.forIn_cons,List.forIn_nil];apply bd2;apply bd2;apply wpAny_onRaise
 change wpAny _ _ (Builtin.SmallTypes.nextOf (.ref i1) >>= _) _ _ _
 apply bd2;refine D1.item i { s with heap:=g1 } _ _ l1 (D1.frame _ _ _ h1 λc hc o e=>k1 c o (λy=>ap.z1 (y▸hc)) e) λx g2 tk2 px st1 sb2=>bd6 ?_
 have k2:∀c o,c≠z->c≠i1->s.heap.get? c=some o->g2.get? c=some o:=λc o c1 c2 e=>sb2.extBut c o c2 (k1 c o c1 e)
 have to2:IsPair g2 TO a b:=k2 _ _ ap.TOz (lZ ap ap.o1) hto;apply bd2;apply bl0 to2 rfl;apply bd2;refine wpAny_updateSeq_pair to2 λg3 to3 sb3=>?_
 have to3:IsPair g3 TO x b:=to3;apply bd2;apply wpAny_letGo;apply bd6;apply bd2;apply bd2;apply wpAny_onRaise
 change wpAny _ _ (Builtin.SmallTypes.nextOf (.ref i2) >>= _) _ _ _
 apply bd2;have k3:∀c o,c≠z->c≠i1->c≠TO->s.heap.get? c=some o->g3.get? c=some o:=λc o c1 c2 c3 e=>sb3.extBut c o c3 (k2 c o c1 c2 e)
 refine D2.item i { s with heap:=g3,toks:=tk2 } _ _ l2 (D2.frame _ _ _ h2 λc hc o e=>k3 c o (λy=>ap.z2 (y▸hc)) (λy=>ap.n1 (y▸hc)) (λy=>ap.o2 (y▸hc)) e) λy g4 tk4 py st2 sb4=>bd6 ?_
 have to4:IsPair g4 TO x b:=sb4.extBut _ _ (qQ ap ap.o2) to3;apply bd2;apply bl0 to4 rfl;apply bd2;refine wpAny_updateSeq_pair to4 λg5 to5 sb5=>?_
 have to5:IsPair g5 TO x y:=to5;apply bd2;apply wpAny_letGo;apply bd6;apply bd6;apply bd2;apply bl0 to5 rfl;apply bd2;refine wpAny_newTuple ?_ (by show 2<=sizeLine;decide);have size:g5.objs.size=s.heap.objs.size:=by rw[sb5.1,sb4.1,sb3.1,sb2.1,sb1.1]
 have k5:∀c o,c≠z->c≠TO->c≠i1->c≠i2->s.heap.get? c=some o->g5.get? c=some o:=λc o c1 c2 c3 c4 e=>sb5.extBut c o c2 (sb4.extBut c o c4 (k3 c o c1 c3 c2 e))
 have z5:IsZip g5 z TI TO .ellipsis:=sb5.extBut _ _ (Ne.symm ap.TOz) (sb4.extBut _ _ (qQ ap ap.z2) (sb3.extBut _ _ (Ne.symm ap.TOz) (sb2.extBut _ _ (lZ ap ap.z1) hz1)))
 change wpAny _ _ (Builtin.SmallTypes.ownedTupleHandOut (.ref z) (.ref g5.objs.size) >>= _) _ _ _
 apply bd2;unfold Builtin.SmallTypes.ownedTupleHandOut;apply bd2;have z6:IsZip (g5.push { cls:=.type "tuple",data:=.seq #[x,y] }) z TI TO .ellipsis:=bd3 _ z5;refine bk4 z6 (by simp) λg7 z7 sb7=>?_
 have z7:IsZip g7 z TI TO (rawInt g5.objs.size):=z7;refine bk4 z7 (by simp) λg8 z8 sb8=>?_
 have z8:IsZip g8 z TI TO (rawInt g5.objs.size):=z8;have zlt:z<g5.objs.size:=be7 z5;have up:∀c o,c≠z->g5.get? c=some o->g8.get? c=some o:=λc o c1 e=>sb8.extBut c o c1 (sb7.extBut c o c1 (bd3 _ e))
 have p8:IsPair g8 g5.objs.size x y:=sb8.extBut _ _ (bl6 zlt) (sb7.extBut _ _ (bl6 zlt) (bf1 _ rfl));have s8:g8.objs.size=g5.objs.size+1:=by rw[sb8.1,sb7.1,bl4]
 have f1:St1 (i+1) g8:=D1.frame _ _ _ st1 λc hc o e=>up c o (λy=>ap.z1 (y▸hc)) (sb5.extBut c o (λy=>ap.o1 (y▸hc)) (sb4.extBut c o (λy=>ap.n2 (y▸hc)) (sb3.extBut c o (λy=>ap.o1 (y▸hc)) e)))
 have f2:St2 (i+1) g8:=D2.frame _ _ _ st2 λc hc o e=>up c o (λy=>ap.z2 (y▸hc)) (sb5.extBut c o (λy=>ap.o2 (y▸hc)) e)
 have ti8:IsPair g8 TI (.ref i1) (.ref i2):=up _ _ ap.TIz (k5 _ _ ap.TIz ap.TITO (lZ ap ap.t1) (qQ ap ap.t2) hti);rw[size]at z8 p8 s8;apply bd6;refine⟨_,rfl,bd6 ?_⟩
 change Q (some (.ref g5.objs.size)) _
 rw[size];exact q x y g8 tk4 px py ⟨z8,ti8,⟨x,y,up _ _ ap.TOz to5⟩,f1,f2⟩ p8 (λc o c1 c2 c3 c4 e=>up c o c1 (k5 c o c1 c2 c3 c4 e)) s8
theorem fin (D1:Draws prog w A.in1 i1 fp1 n1 P1 St1)(D2:Draws prog w A.in1 i2 fp2 n2 P2 St2)(ap:Ap z TI TO i1 i2 fp1 fp2){i:Nat}(le:i=n1∨(i<n1/\i=n2))(st:uG z TI TO i1 i2 St1 St2 .none i i s.heap){Q:Option ax->ay->Prop}(q:∀h' tk,(∀c o,c≠z->c≠TO->c≠i1->c≠i2->s.heap.get? c=some o->h'.get? c=some o)->Q none { s with heap:=h',toks:=tk }):wpAny (model prog w) A (pyNext (.ref z)) Q E s:=by
 obtain⟨hz,hti,⟨a,b,hto⟩,h1,h2⟩:=st
 have T:s.TypeIs (.ref z) "zip":=⟨_,hz,rfl⟩;have slot:=PySem.F.slot_zip_next;unfold pyNext;apply bd2;apply wpAny_attempt;apply bj3 (name:=Str.ofString "__next__") T slot;apply bl5 slot T PySem.F.entry_zip_next _ (PySem.F.args_zip_next_1 _)
 change wpAny _ _ (field (.ref z) 2 >>= _) _ _ _
 apply bd2;refine bj2 hz rfl (x:=.bool false) rfl ?_
 change wpAny _ _ (field (.ref z) 3 >>= _) _ _ _
 apply bd2;refine bj2 hz rfl (x:=.ref TI) rfl ?_;apply bd2;apply bl0 hti rfl
 change wpAny _ _ (Builtin.SmallTypes.ownedTupleIsFree (.ref z) >>= _) _ _ _
 apply bd2;unfold Builtin.SmallTypes.ownedTupleIsFree;apply bd2;refine bj2 hz rfl (x:=.none) rfl (bd6 ?_);simp only[if_true];apply bd2;apply wpAny_rule;apply bd2;refine bj2 hz rfl (x:=.ref TO) rfl ?_;apply bd2;refine bk4 hz (by simp) λg1 hz1 sb1=>?_
 have k1:∀c o,c≠z->s.heap.get? c=some o->g1.get? c=some o:=λc o c1 e=>sb1.extBut c o c1 e
 apply bd2;simp only[List.zipIdx_cons,List.zipIdx_nil,List.forIn_cons,List.forIn_nil];apply bd2;apply bd2;apply wpAny_onRaise
 change wpAny _ _ (Builtin.SmallTypes.nextOf (.ref i1) >>= _) _ _ _
 apply bd2;have z1:IsZip g1 z TI TO .ellipsis:=hz1;rcases le with rfl|⟨lt,rfl⟩
 ·refine D1.done { s with heap:=g1 } _ _ (D1.frame _ _ _ h1 λc hc o e=>k1 c o (λy=>ap.z1 (y▸hc)) e) λg2 e eb ex=>?_
  have z2:IsZip g2 z TI TO .ellipsis:=eb _ _ (lZ ap ap.z1) z1;refine bk4 z2 (by simp) λg3 z3 sb3=>?_
  obtain⟨oe,eo,co⟩:=ex
  have ne:e≠z:=λy=>by
   rw[y,z2]at eo
   have:=bf6 eo
   rw[<- this]at co;exact absurd (show Value.type "zip" = Value.type "StopIteration" from co) (by decide)
  apply bd2;refine bp3 (T:="StopIteration") (b:=true) ⟨oe,sb3.extBut _ _ ne eo,co⟩ isSubtype_stop ?_;exact bd6 (q g3 s.toks λc o c1 _ c3 _ e=>sb3.extBut c o c1 (eb c o c3 (k1 c o c1 e)))
 ·refine D1.item i { s with heap:=g1 } _ _ lt (D1.frame _ _ _ h1 λc hc o e=>k1 c o (λy=>ap.z1 (y▸hc)) e) λx g2 tk2 px st1 sb2=>bd6 ?_
  have k2:∀c o,c≠z->c≠i1->s.heap.get? c=some o->g2.get? c=some o:=λc o c1 c2 e=>sb2.extBut c o c2 (k1 c o c1 e)
  have to2:IsPair g2 TO a b:=k2 _ _ ap.TOz (lZ ap ap.o1) hto;apply bd2;apply bl0 to2 rfl;apply bd2;refine wpAny_updateSeq_pair to2 λg3 to3 sb3=>?_
  apply bd2;apply wpAny_letGo;apply bd6;apply bd2;apply bd2;apply wpAny_onRaise
  change wpAny _ _ (Builtin.SmallTypes.nextOf (.ref i2) >>= _) _ _ _
  apply bd2;have k3:∀c o,c≠z->c≠i1->c≠TO->s.heap.get? c=some o->g3.get? c=some o:=λc o c1 c2 c3 e=>sb3.extBut c o c3 (k2 c o c1 c2 e)
  refine D2.done { s with heap:=g3,toks:=tk2 } _ _ (D2.frame _ _ _ h2 λc hc o e=>k3 c o (λy=>ap.z2 (y▸hc)) (λy=>ap.n1 (y▸hc)) (λy=>ap.o2 (y▸hc)) e) λg4 e eb ex=>?_
  have z4:IsZip g4 z TI TO .ellipsis:=eb _ _ (qQ ap ap.z2) (sb3.extBut _ _ (Ne.symm ap.TOz) (sb2.extBut _ _ (lZ ap ap.z1) z1));refine bk4 z4 (by simp) λg5 z5 sb5=>?_
  obtain⟨oe,eo,co⟩:=ex
  have ne:e≠z:=λy=>by
   rw[y,z4]at eo
   have:=bf6 eo
   rw[<- this]at co;exact absurd (show Value.type "zip" = Value.type "StopIteration" from co) (by decide)
  apply bd2;refine bp3 (T:="StopIteration") (b:=true) ⟨oe,sb5.extBut _ _ ne eo,co⟩ isSubtype_stop ?_;exact bd6 (q g5 tk2 λc o c1 c2 c3 c4 e=>sb5.extBut c o c1 (eb c o c4 (k3 c o c1 c3 c2 e)))
end
noncomputable def gB (h:Heap)(t u:az):Heap:=
 ((((h.push { cls:=.type "tuple_iterator",data:=.fields #[.ref t,.int 0 0] }).push { cls:=.type "tuple_iterator",data:=.fields #[.ref u,.int 0 0] }).push { cls:=.type "tuple",data:=.seq #[.ref h.objs.size,.ref (h.objs.size+1)] }).push
  { cls:=.type "tuple",data:=.seq #[.none,.none] }).push { cls:=.type "zip",data:=.fields #[.none,.bool false,.bool false,.ref (h.objs.size+2),.ref (h.objs.size+3)] }
theorem at2 (t u:az)(xs ys:Array ax):Meets (Builtin.«zip.__new__» ⟨[.type "zip",.ref t,.ref u],[]⟩) (λ_ R s=>s.heap.IsTuple t xs/\s.heap.IsTuple u ys/\R (.ok (.ret (.ref (s.heap.objs.size+4)))) { s with heap:=gB s.heap t u }):=
 .of_wp λprog w A R s h=>by
  obtain⟨hp,g,d,tk,os⟩:=s
  obtain⟨ht,hu,h⟩:=h
  have sub:=sub_zip;have a1:Heap.IsTuple (Shared.heap ⟨hp,g,d,tk,os⟩) t xs:=ht;have a2:Heap.IsTuple (Shared.heap ⟨hp.push { cls:=.type "tuple_iterator",data:=.fields #[.ref t,.int 0 0] },g,d,tk,os⟩) u ys:=hu.elim λo y=>⟨o,bd3 _ y.1,y.2⟩
  wp_walk using bn2 a1,bn2 a2
  have e:∀(o:Obj) (k:Heap),(k.push o).objs.size=k.objs.size+1:=λo k=>bl4 ..
  refine⟨_,rfl,?_⟩;simp only[gB,e]at h ⊢;exact h
section
variable {prog:ba}{w:bf}{A:bc}{E:ax→ay→Prop}{s:ay}
theorem at3 {t u:az}{xs ys:Array ax}{Q:ax->ay->Prop}(ht:s.heap.IsTuple t xs)(hu:s.heap.IsTuple u ys)(q:∀h',IsZip h' (s.heap.objs.size+4) (s.heap.objs.size+2) (s.heap.objs.size+3) .none->IsPair h' (s.heap.objs.size+2) (.ref s.heap.objs.size) (.ref (s.heap.objs.size+1))->
   IsPair h' (s.heap.objs.size+3) .none .none->h'.IsTupleIter s.heap.objs.size t 0->h'.IsTupleIter (s.heap.objs.size+1) u 0->(∀c o,s.heap.get? c=some o->h'.get? c=some o)->Q (.ref (s.heap.objs.size+4)) { s with heap:=h' }) :
  wpAny (model prog w) A (call (.type "zip") [.ref t,.ref u]) Q E s:=by
 refine callType_new PySem.F.called_zip (by decide) (PySem.F.typeCall_zip_2 _ _) (PySem.F.newCall_zip_2 _ _) (λobj=>PySem.F.args_object_init_3 obj _ _) PySem.F.entry_zip_new (at2 t u xs ys) ⟨ht,hu,?_⟩;have e:∀(o:Obj) (k:Heap),(k.push o).objs.size=k.objs.size+1:=λo k=>bl4 ..
 have p0:∀(k:Heap) (o:Obj) (m:Nat),o.isFreed=false->m=k.objs.size->(k.push o).get? m=some o:=λk o m f z=>by rw[z];exact bf1 _ f
 have g0:(gB s.heap t u).get? s.heap.objs.size=some { cls:=.type "tuple_iterator",data:=.fields #[.ref t,.int 0 0] }:=by
  unfold gB;exact bd3 _ (bd3 _ (bd3 _ (bd3 _ (p0 _ _ _ rfl rfl))))
 have g1:(gB s.heap t u).get? (s.heap.objs.size+1)=some { cls:=.type "tuple_iterator",data:=.fields #[.ref u,.int 0 0] }:=by
  unfold gB;exact bd3 _ (bd3 _ (bd3 _ (p0 _ _ _ rfl (by simp only[e]))))
 have g2:(gB s.heap t u).get? (s.heap.objs.size+2)=some { cls:=.type "tuple",data:=.seq #[.ref s.heap.objs.size,.ref (s.heap.objs.size+1)] }:=by
  unfold gB;exact bd3 _ (bd3 _ (p0 _ _ _ rfl (by simp only[e])))
 have g3:(gB s.heap t u).get? (s.heap.objs.size+3)=some { cls:=.type "tuple",data:=.seq #[.none,.none] }:=by
  unfold gB;exact bd3 _ (p0 _ _ _ rfl (by simp only[e]))
 have g4:(gB s.heap t u).get? (s.heap.objs.size+4)=some { cls:=.type "zip",data:=.fields #[.none,.bool false,.bool false,.ref (s.heap.objs.size+2),.ref (s.heap.objs.size+3)] }:=by
  unfold gB;exact p0 _ _ _ rfl (by simp only[e])
 refine⟨⟨_,g4,rfl⟩,q _ g4 g2 g3 ⟨_,g0,rfl,rfl⟩ ⟨_,g1,rfl,rfl⟩ λc o z=>?_⟩;unfold gB;exact bd3 _ (bd3 _ (bd3 _ (bd3 _ (bd3 _ z))))
end
end Zp
namespace L2
open PySem PySem.Spec PyProof.Rows
noncomputable def E7 (K:ad)(a b:az):It:=
  ⟨λi H=>∃xs ys x y,aR K H a xs/\aR K H b ys/\xs[i]? = some x/\ys[i]? = some y,
   λi H v H'=>∃T x y,H T=none/\v = .ref T/\H'=upd H T (.tup [x,y])/\∀xs ys,aR K H a xs->aR K H b ys->xs[i]? = some x/\ys[i]? = some y,
   λi H=>∃xs ys,aR K H a xs/\aR K H b ys/\(i=xs.length∨(i<xs.length/\i=ys.length))⟩
noncomputable def Sq (t:Bool)(K:ad)(H:Hp)(a:az)(xs:List V):Prop:=match t with
 |true=>aR K H a xs
 |false=>aZ K H a xs
noncomputable def gC (t:Bool)(h:Heap)(i a:az)(n:Nat):Prop:=match t with
 |true=>h.IsTupleIter i a n
 |false=>h.IsListIter i a n
noncomputable def E8 (t:Bool)(h:Heap)(a:az)(xs:Array ax):Prop:=match t with
 |true=>h.IsTuple a xs
 |false=>h.IsList a xs
theorem gC.at {h h':Heap}{i a:az}{n:Nat}:∀{t:Bool},gC t h i a n->(∀o,h.get? i=some o->h'.get? i=some o)->gC t h' i a n
 |true,x,k=>Heap.IsTupleIter.at x k
 |false,x,k=>Heap.IsListIter.at x k
theorem gC.ob {h:Heap}{i a:az}{n:Nat}:∀{t:Bool},gC t h i a n->∃o,h.get? i=some o/\∀v,o.data≠.cell v
 |true,⟨o,f,_,d⟩=>⟨o,f,λv q=>by rw[d]at q;cases q⟩
 |false,⟨o,f,_,d⟩=>⟨o,f,λv q=>by rw[d]at q;cases q⟩
theorem gC.draws {prog:ba}{w:bf}{A:bc}:∀(t:Bool) (hh:A.handled=none) (it a:az) (ne:a≠it) (items:Array ax),Draws prog w A it [it,a] items.size (λi v=>items[i]? = some v) (λi h=>gC t h it a i/\E8 t h a items)
 |true,hh,it,a,ne,items=>Zp.at1 hh it a ne items
 |false,hh,it,a,ne,items=>Draws.list hh it a ne items
section
variable {X:Cx}{ai:List (az×Obj)}{σ:St}{H:Hp}{s:ay}{a:az}{xs ys:List V}
theorem Sq.get (I:aA X ai σ H s):∀{t:Bool},Sq t X.K H a xs->∃us,aN xs us/\E8 t s.heap a us.toArray
 |true,h=>by obtain⟨us,r,p,_⟩:=I.tuple h;exact⟨us,r,p⟩
 |false,h=>by obtain⟨us,r,p,_⟩:=I.list h;exact⟨us,r,p.isList⟩
theorem Sq.inj (I:aA X ai σ H s):∀{t:Bool},Sq t X.K H a xs->Sq t X.K H a ys->xs=ys
 |true,h,g=>I.tuple_inj h g
 |false,h,g=>I.list_inj h g
theorem Sq.off (I:aA X ai σ H s)(he:H a=none)(hb:X.base.get? a=none):∀{t:Bool},Sq t X.K H a xs->False
 |true,h=>by
  rcases h with (h|⟨_,h⟩)|⟨o,_,_,h,_⟩
  ·rw[he]at h;cases h
  ·rw[he]at h;cases h
  ·have:=I.ok.mod.kin a o h
   rw[hb]at this;cases this
 |false,h=>by
  rcases h with (h|⟨_,h⟩)|⟨o,_,_,h,_⟩
  ·rw[he]at h;cases h
  ·rw[he]at h;cases h
  ·have:=I.ok.mod.kin a o h
   rw[hb]at this;cases this
end
noncomputable def at4 (t1 t2:Bool)(K:ad)(a b:az):It:=
  ⟨λi H=>∃xs ys x y,Sq t1 K H a xs/\Sq t2 K H b ys/\xs[i]? = some x/\ys[i]? = some y,
   λi H v H'=>∃T x y,H T=none/\v = .ref T/\H'=upd H T (.tup [x,y])/\∀xs ys,Sq t1 K H a xs->Sq t2 K H b ys->xs[i]? = some x/\ys[i]? = some y,
   λi H=>∃xs ys,Sq t1 K H a xs/\Sq t2 K H b ys/\(i=xs.length∨(i<xs.length/\i=ys.length))⟩
structure uH (t1 t2:Bool)(z TI TO i1 i2 a b:az)(i:Nat)(h:Heap):Prop where
 zz:IsZip h z TI TO .none
 ti:IsPair h TI (.ref i1) (.ref i2)
 to_:∃x y,IsPair h TO x y
 s1:gC t1 h i1 a i
 s2:gC t2 h i2 b i
theorem E9 (t1 t2:Bool){P:ba}{w:bf}{K:ad}{elts:List Expr}{k:Nat}{pos:Pos}(a b z TI TO i1 i2:az)(d:[z,TI,TO,i1,i2].Nodup) :
  i5 P w K (.Tuple elts k pos) (at4 t1 t2 K a b) [z,TI,TO,i1,i2] z (uH t1 t2 z TI TO i1 i2 a b):=by
 have nd:z≠TI/\z≠TO/\z≠i1/\z≠i2/\TI≠TO/\TI≠i1/\TI≠i2/\TO≠i1/\TO≠i2/\i1≠i2:=by
  simp only[bh7,bd8,bf2,bi5,not_or]at d
  obtain⟨⟨a1,a2,a3,a4⟩,⟨b1,b2,b3⟩,⟨c1,c2⟩,e1,_⟩:=d
  exact⟨a1,a2,a3,a4,b1,b2,b3,c1,c2,e1⟩
 obtain⟨n1,n2,n3,n4,n5,n6,n7,n8,n9,n10⟩:=nd
 have offBase:∀{X:Cx}{ai:List (az×Obj)}{σ:St}{H:Hp}{s:ay},aA X ai σ H s->(∀c∈[z,TI,TO,i1,i2],fY X ai H c)->∀c∈[z,TI,TO,i1,i2],X.base.get? c=none:=by
  intro X ai σ H s I hf c hc;cases q:X.base.get? c with
  |none=>rfl
  |some o=>
   rcases (hf c hc).2.2.2.1 with h|h
   ·exact absurd h (I.ok.noex c o q)
   ·exact absurd (be6 (be7 q) (bh2 I.ok.bsz h)) (bi7 _)
 have off:∀{t:Bool}{X:Cx}{ai:List (az×Obj)}{σ:St}{H:Hp}{s:ay}{c:az}{zs:List V},aA X ai σ H s->(∀c∈[z,TI,TO,i1,i2],fY X ai H c)->Sq t X.K H c zs->c∉[z,TI,TO,i1,i2]:=by
  intro t X ai σ H s c zs I hf hc hm;exact Sq.off I (hf c hm).1 (offBase I hf c hm) hc
 have ap:∀{c e:az},c∉[z,TI,TO,i1,i2]->e∉[z,TI,TO,i1,i2]->Zp.Ap z TI TO i1 i2 [i1,c] [i2,e]:=λ{c e} hc he=>by
  simp only[bd8,bf2,bi5,not_or]at hc he
  obtain⟨c1,c2,c3,c4,c5⟩:=hc
  obtain⟨e1,e2,e3,e4,e5⟩:=he
  have two:∀{q u v:az},q≠u->q≠v->q∉[u,v]:=λ{q u v} h1 h2 hm=>by
   simp only[bd8,bf2,bi5]at hm;exact hm.elim h1 h2
  exact⟨n1.symm,n2.symm,n5,two n3 (Ne.symm c1),two n4 (Ne.symm e1),two n8 (Ne.symm c3),two n9 (Ne.symm e3),two n6 (Ne.symm c2),two n7 (Ne.symm e2),bd4,bd4,two n10 (Ne.symm e4),two n10.symm (Ne.symm c5)⟩
 refine⟨by simp,λi h st c hc=>?_,λi h h' st kp=>?_,?_,?_,λA i s Q E st q=>wpAny_pyIter_zip st.zz q⟩
 ·simp only[bd8,bf2,bi5]at hc
  obtain⟨x,y,to⟩:=st.to_
  rcases hc with rfl|rfl|rfl|rfl|rfl
  ·exact⟨_,st.zz,λv q=>by cases q⟩
  ·exact⟨_,st.ti,λv q=>by cases q⟩
  ·exact⟨_,to,λv q=>by cases q⟩
  ·exact st.s1.ob
  ·exact st.s2.ob
 ·obtain⟨x,y,to⟩:=st.to_
  exact⟨kp z (by simp) _ st.zz,kp TI (by simp) _ st.ti,⟨x,y,kp TO (by simp) _ to⟩,st.s1.at λo e=>kp i1 (by simp) o e,st.s2.at λo e=>kp i2 (by simp) o e⟩
 ·
  intro X hP hw hK hc i ai s σ H E I hf st hg;subst hP hw hK
  obtain⟨xs,ys,x,y,ha,hb,hx,hy⟩:=hg
  obtain⟨us,ru,pu⟩:=Sq.get I ha
  obtain⟨vs,rv,pv'⟩:=Sq.get I hb
  obtain⟨ux,eux,rux⟩:=ru.get hx
  obtain⟨vy,evy,rvy⟩:=rv.get hy
  have fa:=off I hf ha;have fb:=off I hf hb;have hh:X.A.in1.handled=none:=I.ok.hd hc;have l1:i<us.toArray.size:=by simpa using (bf7.mp eux).1
  have l2:i<vs.toArray.size:=by simpa using (bf7.mp evy).1
  have fa':a≠i1:=λq=>fa (by rw[q];simp)
  have fb':b≠i2:=λq=>fb (by rw[q];simp)
  have D1:=gC.draws t1 (prog:=X.prog) (w:=X.w) hh i1 a fa' us.toArray;have D2:=gC.draws t2 (prog:=X.prog) (w:=X.w) hh i2 b fb' vs.toArray;refine Zp.item D1 D2 (ap fa fb) l1 l2 ⟨st.zz,st.ti,st.to_,⟨st.s1,pu⟩,⟨st.s2,pv'⟩⟩ λp q h' tk hp hq st' pr kp sz=>⟨_,rfl,?_⟩
  obtain rfl:p=ux:=by
   have:us.toArray[i]? = some ux:=by simpa using eux
   rw[this]at hp;exact (bf6 hp).symm
  obtain rfl:q=vy:=by
   have:vs.toArray[i]? = some vy:=by simpa using evy
   rw[this]at hq;exact (bf6 hq).symm
  refine wpAny_letOwnedTupleGo_zip (s:={ s with heap:=h',toks:=tk }) st'.zz λg zz sb=>?_
  have hzl:z<s.heap.objs.size:=be7 st.zz;have up:∀c o,c≠z->c≠TO->c≠i1->c≠i2->s.heap.get? c=some o->g.get? c=some o:=λc o c1 c2 c3 c4 e=>sb.extBut c o c1 (kp c o c1 c2 c3 c4 e)
  have hT:H s.heap.objs.size=none:=I.hok.fresh (be2 _);have prG:IsPair g s.heap.objs.size p q:=sb.extBut _ _ (bl6 hzl) pr;have fpn:∀c u,H c=some u->c∉[z,TI,TO,i1,i2]:=λc u e hm=>by rw[(hf c hm).1]at e;cases e
  have upH:∀c o u,H c=some u->s.heap.get? c=some o->g.get? c=some o:=λc o u e z=>by
   have:=fpn c u e
   simp only[bd8,bf2,bi5,not_or]at this;exact up c o this.1 this.2.2.1 this.2.2.2.1 this.2.2.2.2 z
  have ns:∀m,s.heap.Ns X.env.locals m->g.Ns X.env.locals m:=λm hm=>by
   obtain⟨o,es,ep,e1,e2⟩:=hm
   exact⟨o,es,ep,up _ o (Ne.symm (hf z (by simp)).2.1) (Ne.symm (hf TO (by simp)).2.1) (Ne.symm (hf i1 (by simp)).2.1) (Ne.symm (hf i2 (by simp)).2.1) e1,e2⟩
  have I2:aA X ai σ (upd H s.heap.objs.size (.tup [x,y])) { s with heap:=g,toks:=tk }:=by
   refine I.step (g':=s.gens) (d':=s.drawn) (ch:=[z,TO,i1,i2]) (λc hc'=>?_) (λc o _ _ hc' e _=>?_) (λc o _ _ hc' e _=>⟨o.slots,?_⟩) (λc o _ e n=>?_) (λc o hc' e=>⟨o,?_⟩)
    (λc zs e=>by rw[aJ (cZ e hT)];exact e) (λc u zs e=>by rw[aJ (cZ e hT)];exact e) (λc ps e=>⟨#[],by rw[aJ (cZ e hT),e];simp⟩) ns (λc u e=>?_) I.bare
   ·have hm:c∈[z,TI,TO,i1,i2]:=by
     simp only[bd8,bf2,bi5]at hc' ⊢;rcases hc' with h|h|h|h<;>simp[h]
    exact⟨(hf c hm).2.2.2.1,(hf c hm).2.1,(hf c hm).2.2.2.2.1,(hf c hm).2.2.2.2.2⟩
   ·simp only[bd8,bf2,bi5,not_or]at hc'
    exact up c o hc'.1 hc'.2.1 hc'.2.2.1 hc'.2.2.2 e
   ·simp only[bd8,bf2,bi5,not_or]at hc'
    exact up c o hc'.1 hc'.2.1 hc'.2.2.1 hc'.2.2.2 e
   ·rw[aJ (bg7 (be7 e))];exact n
   ·simp only[bd8,bf2,bi5,not_or]at hc'
    exact up c o hc'.1 hc'.2.1 hc'.2.2.1 hc'.2.2.2 e
   ·by_cases hcT:c=s.heap.objs.size
    ·subst hcT
     rw[bH]at e;cases e
     exact⟨by show 2<=sizeLine;decide,[p,q],.cons rux (.cons rvy .nil),⟨_,prG,rfl,_,rfl⟩,λu e=>by rw[prG]at e;cases e;rfl⟩
    ·rw[aJ hcT]at e
     refine (I.hok c u e).stay (λc' o' hc2 q'=>?_) (λc' q'=>by rw[aJ (cZ q' hT)];exact q') λc' zs q'=>by rw[aJ (cZ q' hT)];exact q'
     rcases hc2 with rfl|hc2
     ·exact upH _ _ _ e q'
     ·exact upH _ _ _ hc2 q'
  obtain⟨x',y',to'⟩:=st'.to_
  refine⟨.ref s.heap.objs.size,_,I2,rfl,⟨_,x,y,hT,rfl,rfl,λxs' ys' ha' hb'=>?_⟩,⟨zz,sb.extBut _ _ n1.symm st'.ti,⟨x',y',sb.extBut _ _ n2.symm to'⟩,st'.s1.1.at λo e=>sb.extBut _ o n3.symm e,st'.s2.1.at λo e=>sb.extBut _ o n4.symm e⟩,λc hc'=>?_⟩
  ·rw[Sq.inj I ha' ha,Sq.inj I hb' hb];exact⟨hx,hy⟩
  ·obtain⟨o,e,_⟩:∃o,s.heap.get? c=some o/\True:=by
    simp only[bd8,bf2,bi5]at hc'
    obtain⟨x2,y2,to2⟩:=st.to_
    obtain⟨o1,f1,_⟩:=st.s1.ob
    obtain⟨o2,f2,_⟩:=st.s2.ob
    rcases hc' with rfl|rfl|rfl|rfl|rfl
    ·exact⟨_,st.zz,trivial⟩
    ·exact⟨_,st.ti,trivial⟩
    ·exact⟨_,to2,trivial⟩
    ·exact⟨_,f1,trivial⟩
    ·exact⟨_,f2,trivial⟩
   rw[aJ (bg7 (be7 e))];exact (hf c hc').1
 ·
  intro X hP hw hK hc i ai s σ H E I hf st hg;subst hP hw hK
  obtain⟨xs,ys,ha,hb,hi⟩:=hg
  obtain⟨us,ru,pu⟩:=Sq.get I ha
  obtain⟨vs,rv,pv'⟩:=Sq.get I hb
  have fa:=off I hf ha;have fb:=off I hf hb;have hh:X.A.in1.handled=none:=I.ok.hd hc;have fa':a≠i1:=λq=>fa (by rw[q];simp)
  have fb':b≠i2:=λq=>fb (by rw[q];simp)
  have D1:=gC.draws t1 (prog:=X.prog) (w:=X.w) hh i1 a fa' us.toArray;have D2:=gC.draws t2 (prog:=X.prog) (w:=X.w) hh i2 b fb' vs.toArray;have e1:=ru.length;have e2:=rv.length;refine Zp.fin D1 D2 (ap fa fb) (by simp only[bd9];omega) ⟨st.zz,st.ti,st.to_,⟨st.s1,pu⟩,⟨st.s2,pv'⟩⟩ λg tk kp=>⟨rfl,?_⟩
  have fpn:∀c u,H c=some u->c∉[z,TI,TO,i1,i2]:=λc u e hm=>by rw[(hf c hm).1]at e;cases e
  have upH:∀c o u,H c=some u->s.heap.get? c=some o->g.get? c=some o:=λc o u e z=>by
   have:=fpn c u e
   simp only[bd8,bf2,bi5,not_or]at this;exact kp c o this.1 this.2.2.1 this.2.2.2.1 this.2.2.2.2 z
  have ns:∀m,s.heap.Ns X.env.locals m->g.Ns X.env.locals m:=λm hm=>by
   obtain⟨o,es,ep,e1,e2⟩:=hm
   exact⟨o,es,ep,kp _ o (Ne.symm (hf z (by simp)).2.1) (Ne.symm (hf TO (by simp)).2.1) (Ne.symm (hf i1 (by simp)).2.1) (Ne.symm (hf i2 (by simp)).2.1) e1,e2⟩
  refine I.step (g':=s.gens) (d':=s.drawn) (ch:=[z,TO,i1,i2]) (λc hc'=>?_) (λc o _ _ hc' e _=>?_) (λc o _ _ hc' e _=>⟨o.slots,?_⟩) (λc o _ e n=>n) (λc o hc' e=>⟨o,?_⟩)
   (λc zs e=>e) (λc u zs e=>e) (λc ps e=>⟨#[],by rw[e];simp⟩) ns (λc u e=>?_) I.bare
  ·have hm:c∈[z,TI,TO,i1,i2]:=by
    simp only[bd8,bf2,bi5]at hc' ⊢;rcases hc' with h|h|h|h<;>simp[h]
   exact⟨(hf c hm).2.2.2.1,(hf c hm).2.1,(hf c hm).2.2.2.2.1,(hf c hm).2.2.2.2.2⟩
  ·simp only[bd8,bf2,bi5,not_or]at hc'
   exact kp c o hc'.1 hc'.2.1 hc'.2.2.1 hc'.2.2.2 e
  ·simp only[bd8,bf2,bi5,not_or]at hc'
   exact kp c o hc'.1 hc'.2.1 hc'.2.2.1 hc'.2.2.2 e
  ·simp only[bd8,bf2,bi5,not_or]at hc'
   exact kp c o hc'.1 hc'.2.1 hc'.2.2.1 hc'.2.2.2 e
  ·refine (I.hok c u e).stay (λc' o' hc2 q'=>?_) (λ_ q'=>q') λ_ _ q'=>q'
   rcases hc2 with rfl|hc2
   ·exact upH _ _ _ e q'
   ·exact upH _ _ _ hc2 q'
noncomputable abbrev at5:=uH true true
theorem at6 {P:ba}{w:bf}{K:ad}{elts:List Expr}{k:Nat}{pos:Pos}(a b z TI TO i1 i2:az)(d:[z,TI,TO,i1,i2].Nodup) :
  i5 P w K (.Tuple elts k pos) (E7 K a b) [z,TI,TO,i1,i2] z (at5 z TI TO i1 i2 a b):=E9 true true a b z TI TO i1 i2 d
end L2
namespace HT
open PySem PyProof.Rows
section
variable {prog:ba}{w:bf}{A:bc}{E:ax→ay→Prop}{s:ay}
theorem at7 {t sl:az}{items:Array ax}{vl vu:ax}{lo hi:Option Int}{Q:ax->ay->Prop}(ht:IsTup s.heap t items)(hs:s.heap.IsSliceOf sl vl vu .none)(pl:IsPart vl lo)(pu:IsPart vu hi)(h1:b9 items.size 0 lo=0)(h2:b9 items.size items.size hi=items.size)(h:Q (.ref t) s):wpAny (model prog w) A (getItem (.ref t) (.ref sl)) Q E s:=by
 obtain⟨o,e1,e2,e3⟩:=id hs
 have T:s.TypeIs (.ref sl) "slice":=⟨o,e1,e2⟩;unfold getItem
 try with_reducible refine bq8 ?_
 first|refine bd2 (bd6 ?_)|skip
 apply bd2;apply wpAny_sequenceKey ht.typeIs (by decide);apply bd2;apply bj3 (name:=Str.ofString "__getitem__") ht.typeIs bn9;apply bl5 bn9 ht.typeIs entry_tuple_getitem _ (args_tuple_getitem _ _)
 change wpAny _ _ (Builtin.Tuple.tupleItemsOf (.ref t) >>= _) _ _ s
 apply bd2;apply tupleItemsOf_ ht;apply bd2;apply wpAny_typeOf T;rw[if_pos (by decide)];apply bd2;apply A7 hs pl pu;rw[h1,h2];have yes:((((0:Nat):Int)==0&&(1:Int)==1&&(items.size-0)==items.size)=true):=by simp
 change wpAny _ _ (if ((((0:Nat):Int)==0&&(1:Int)==1&&(items.size-0)==items.size)=true) then _ else _) _ _ s
 rw[if_pos yes];apply bd2;unfold Builtin.Tuple.tupleIsExact;apply bd2;apply wpAny_typeOf ht.typeIs;apply bd6
 change wpAny _ _ (rule "tuple.getitem.whole" >>= λ_=>ret (Value.ref t)) _ _ s
 apply bd2;apply wpAny_rule;exact bd6 ⟨_,rfl,bd6 h⟩
end
end HT
namespace L2
open PySem PySem.Spec PyProof.Rows
section
variable {X:Cx}
noncomputable def at8 (K:ad):V->Option Int->Option Int->Hp->VK->Prop:=λx lo hi H Q=>∃a xs,x = .ref a/\aR K H a xs/\(∀p,H p=none->Q (.ref p) (upd H p (.tup (i7 xs lo hi))))/\(i7 xs lo hi=xs->Q (.ref a) H)
theorem at9:jN X (at8 X.K):=by
 intro ai s σ H x v vl vu lo hi sl Q I rx hs pl pu h
 obtain⟨a,xs,ex,hx,q1,q2⟩:=h
 by_cases hw:HT.b9 xs.length 0 lo=0/\HT.b9 xs.length xs.length hi=xs.length
 ·subst ex
  cases rx
  obtain⟨its,r,ht,hz⟩:=I.tuple hx
  have ao:its.toArray.size=xs.length:=by rw[bd9];exact r.length.symm
  refine⟨"tuple",_,PyProof.Rows.slot_tuple_getitem.lookup,ht.typeIs,?_⟩;refine HT.at7 ht hs pl pu (by rw[ao];exact hw.1) (by rw[ao];exact hw.2) ⟨.ref a,H,I,rfl,q2 ?_⟩;unfold i7;rw[hw.1,hw.2];simp
 ·exact ap0 ai s σ H x v vl vu lo hi sl Q I rx hs pl pu ⟨a,xs,ex,hx,hw,q1⟩
end
noncomputable def uI (K:ad)(a b:az):It:=
  ⟨λi H=>∃xs ys x y,aZ K H a xs/\aZ K H b ys/\xs[i]? = some x/\ys[i]? = some y,
   λi H v H'=>∃T x y,H T=none/\v = .ref T/\H'=upd H T (.tup [x,y])/\∀xs ys,aZ K H a xs->aZ K H b ys->xs[i]? = some x/\ys[i]? = some y,
   λi H=>∃xs ys,aZ K H a xs/\aZ K H b ys/\(i=xs.length∨(i<xs.length/\i=ys.length))⟩
noncomputable abbrev au0:=uH false false
theorem au1 {P:ba}{w:bf}{K:ad}{elts:List Expr}{k:Nat}{pos:Pos}(a b z TI TO i1 i2:az)(d:[z,TI,TO,i1,i2].Nodup) :
  i5 P w K (.Tuple elts k pos) (uI K a b) [z,TI,TO,i1,i2] z (au0 z TI TO i1 i2 a b):=E9 false false a b z TI TO i1 i2 d
theorem au2 (l:az)(items:Array ax)(n:Nat)(b:az)(items2:Array ax)(n2:Nat)(dd:Option az)(ss:Array (Option ax))(h0:¬(!items.isEmpty&&Builtin.List.listTooLong (items.size+items2.size))=true)(h1:items.size<=sizeLine)(h2:items.size+items2.size<=sizeLine+1) :
  Meets (Builtin.«list.extend» ⟨[.ref l,.ref b],[]⟩) (λ_ R s=>s.heap.get? l=some { cls:=.type "list",dict:=none,data:=.seq items n,slots:=#[] }/\s.heap.get? b=some { cls:=.type "tuple",dict:=dd,data:=.seq items2 n2,slots:=ss }/\R (.ok (.ret Value.none)) { s with heap:=s.heap.update l (Obj.mapSeq λx=>x++items2),toks:=s.toks }):=
 .of_wp λprog w A R s h=>by
  obtain⟨hp,g,d,tk,os⟩:=s;obtain⟨hl,hb,h⟩:=h;have f2:=AutoSeq1.sub_tuple_tuple;have f3:=AutoSeq1.sub_list_list;have f4:=AutoSeq1.sub_tuple_list;have f5:=AutoSeq1.sub_list_tuple
  have hz':(items++items2).size<=sizeLine+1:=by rw[Array.size_append];exact h2
  wp_walk using (wpAny_updateSeq hl rfl (hz:=h1) (_hz':=hz')),AutoSeq1.wpAny_loadPart' hl,AutoSeq1.wpAny_loadPart' hb
  exact⟨_,rfl,h⟩
noncomputable def G0 (K:ad):V->List V->Hp->VK->Prop:=λx vs H Q=>∃(l b:az) (xs zs:List V),x = .ref l/\vs = [.ref b]/\H l=some (.lst xs)/\aR K H b zs/\xs.length+zs.length<=sizeLine/\Q .non (upd H l (.lst (xs++zs)))
theorem au3 {X:Cx}:oE X "list.extend" (G0 X.K):=by
 intro ai s σ H x vs v us Q I rx rv h
 obtain⟨l,b,xs,zs,rfl,rfl,hH,hB,hz,q⟩:=h
 cases rx
 obtain⟨u,rfl,ru⟩:=rv.one
 cases ru
 obtain⟨z,its,n,r,hl,e⟩:=I.lstM hH
 obtain⟨av,r2,⟨⟨cls,dd,data,ss⟩,e2,hc,n2,hd⟩,z2⟩:=I.tuple hB
 cases hc;cases hd;have hl2:=r2.length;have hsz:its.toArray.size+av.toArray.size<=sizeLine:=by rw[bd9,bd9];omega
 have hlong:¬(!its.toArray.isEmpty&&Builtin.List.listTooLong (its.toArray.size+av.toArray.size))=true:=by
  rw[u4 hsz,Bool.and_false];exact be9
 refine call_meets F.slot_list_extend ⟨_,e,rfl⟩ F.entry_list_extend (F.args_list_extend_2 _ _)
  (au2 l its.toArray n b av.toArray n2 dd ss hlong (by rw[bd9];omega) (by omega)) ⟨e,e2,?_⟩
 refine⟨.non,_,I.lset (its':=its++av) hH e (by simp) (r.append r2) ?_,rfl,q⟩;rw[be3];omega
end L2
namespace L2
open PySem PySem.Spec PyProof.Rows PySem.W
structure bA where
 qual:Str
 params:Arguments
 body:Expr
 scope:Scope
 clos:List (Str×az)
noncomputable abbrev oH (l:bA)(pm cv ctv:ax):FuncData:=kla_fn "<lambda>" l.qual l.params l.body l.scope l.clos pm cv ctv
noncomputable abbrev G2 (l:bA)(pm cv ctv:ax):Obj:={ cls:=.type "function",data:=.func (oH l pm cv ctv) }
noncomputable def gT (H:Hp)(f:az)(l:bA):Prop:=∃(pm ctv:ax) (c:az),H f=some (.frz (G2 l pm (.ref c) ctv) (.cd c l.qual))
theorem gT.same {H H':Hp}{f:az}{l:bA}(s:aH H H')(h:gT H f l):gT H' f l:=
 let ⟨pm,ctv,c,e1⟩:=h;⟨pm,ctv,c,s _ _ e1⟩
structure gU (base:Heap)(mg:Str->Option ax)(P:az):Prop where
 ex:base.BuiltinsAt mg P
section
variable {X:Cx}{ai:List (az×Obj)}{σ:St}{H:Hp}{s:ay}{P:az}{l:bA}
theorem gU.at (B:gU X.base X.mg P)(I:aA X ai σ H s):s.heap.BuiltinsAt X.mg P:=
 let ⟨bm,o,h1,h2,h3,h4,h5,h6⟩:=B.ex;⟨bm,o,h1,h2,h3,h4,I.bk _ _ h5,h6⟩
theorem aA.table {t:Tok}{h':Heap}{tk:Nat}{qs qs':Array ax}{c:az}{oc:Obj}{vs:Array ax}{tq:Tok}(I:aA X ai σ H s)(hP:H P=some (.tbl #[.str l.qual t]))(hx:Heap.ExtBut P s.heap h')(hge:s.heap.objs.size<=c)(hoc:h'.get? c=some oc)(hd:oc.data = .fields vs)(hv:vs[1]? = some (.str l.qual tq))(e:s.heap.get? P=some { cls:=.none,data:=.fields qs })(e':h'.get? P=some { cls:=.none,data:=.fields qs' })(tr:TriplesOk qs'.toList)(cs:∀(pos:Pos) (cv:ax),codeAmong pos qs.toList=some cv->∃(c:az) (q:Str) (t':Tok),cv = .ref c/\H c=some (.code q)/\#[.str l.qual t] = #[Value.str q t'])(new:∀(pos:Pos) (cv:ax),codeAmong pos qs'.toList=some cv->codeAmong pos qs.toList=some cv∨cv = .ref c):aA X ai σ (upd H c (.code l.qual)) { s with heap:=h',toks:=tk }:=by
 have hn:H c=none:=I.hok.fresh hge;have cP:P≠c:=λz=>by rw[z,hn]at hP;cases hP
 have lt:∀{b o},s.heap.get? b=some o->b≠c:=λ{b o} g z=>absurd (be7 g) (by rw[z];exact Nat.not_lt.mpr hge)
 have old:∀{b o},H b=some o->b≠c:=λ{b o} g z=>by rw[z,hn]at g;cases g
 refine I.un ⟨λb o g n _ _=>hx b o (λz=>by rw[z,hP]at n;cases n) g,λb o g n _ _=>⟨o.slots,hx b o (λz=>by rw[z,hP]at n;cases n) g⟩,λb o g n _=>by rw[aJ (lt g)];exact n,λb o g _=>?_,λb xs g=>by rw[aJ (old g)];exact g,λb o u g=>by rw[aJ (old g)];exact g,λb ps g=>⟨#[],by rw[aJ (old g),g];simp⟩⟩ λb u z=>?_
 ·by_cases hb:b=P
  ·subst hb;exact⟨_,e'⟩
  ·exact⟨o,hx b o hb g⟩
 ·by_cases hb:b=c
  ·subst hb;rw[bH]at z;cases z
   exact⟨oc,vs,tq,hoc,hd,hv⟩
  ·rw[aJ hb]at z
   by_cases bP:b=P
   ·subst bP
    rw[hP]at z;cases z;refine⟨qs',e',tr,λpos cv h=>?_⟩;rcases new pos cv h with h|rfl
    ·obtain⟨c1,q,t',e1,e2,e3⟩:=cs pos cv h
     exact⟨c1,q,t',e1,by rw[aJ (old e2)];exact e2,e3⟩
    ·exact⟨c,l.qual,t,rfl,bH,rfl⟩
   ·refine (I.hok b u z).stay (λc' v hc q=>hx c' v ?_ q) (λc' q=>by rw[aJ (old q)];exact q) (λc' xs q=>by rw[aJ (old q)];exact q) (λc' r q=>by rw[aJ (old q)];exact q)
    rcases hc with rfl|hc
    ·exact bP
    ·intro w;rw[w,hP]at hc;cases hc
noncomputable def G3 (P:az)(l:bA):TE:=λ_ H Q=>(∃t:Tok,H P=some (.tbl #[.str l.qual t]))/\∀f H',aH H H'->H f=none->gT H' f l->Q (.ref f) H'
theorem au4 {pos:Pos}{c:ax}:∀{l:List ax},TriplesOk l->TriplesOk (l++[rawInt pos.line,rawInt pos.col,c]):=by
 intro l h
 fun_induction TriplesOk l with
 |case1=>exact trivial
 |case2 a b c d e r ih=>exact ih h
 |case3=>exact h.elim
theorem au5 {pos pos':Pos}{c cv:ax}:∀{l:List ax},TriplesOk l->codeAmong pos' (l++[rawInt pos.line,rawInt pos.col,c])=some cv->codeAmong pos' l=some cv∨cv=c:=by
 intro l h g
 fun_induction TriplesOk l with
 |case1=>
  simp only[List.nil_append,codeAmong,rawInt]at g;split at g
  ·exact .inr (bf6 g).symm
  ·cases g
 |case2 a b d e f r ih=>
  simp only[List.cons_append,codeAmong]at g ⊢;split
  ·rename_i hh
   rw[if_pos hh]at g;exact .inl g
  ·rename_i hh
   rw[if_neg hh]at g;exact ih h g
 |case3=>exact h.elim
theorem au6 {params:Arguments}{body:Expr}{scope:Scope}{pos:Pos}{c0:az}{clos:List (Str×az)}(hl:l=⟨X.env.qual++"<lambda>",params,body,scope,clos⟩)(hcode:X.env.code = .ref c0)(hK:codeHdIn X.K c0 P=true)(B:gU X.base X.mg P)(hgP:mainGlobals≠P)(hdef:defaultsOf params X.env=([],[]):=by rfl)(hcl:closureFor scope X.env=pure clos:=by rfl):PE X (.Lambda params body scope pos) (G3 P l):=by
 intro ai s σ H Q I ⟨⟨t,hP⟩,q⟩
 obtain⟨qs,e,tr,cs⟩:=(show bL X.prog X.w H s.heap P (.tbl #[.str l.qual t]) from I.hok P _ hP)
 have e0:s.heap.get? P=some (tabObj qs):=e;refine kla_eval hdef ?_;have lq:l.qual=X.env.qual++"<lambda>":=by rw[hl]
 cases hf:codeAmong pos qs.toList with
 |none=>
  refine kla_makeFunction hcl I.ok.glob (I.ok.mod.glob.keeps I.bk) hcode (codeHd_of_K I.kIn hK) e0 tr hf hgP (B.at I) λc' ctv h' tk hx hge hlt hrec htb=>?_
  obtain⟨c2,oc,vs,tq,ec,hoc,hd,hv⟩:=hrec
  cases ec;have hx2:Heap.ExtBut P s.heap h':=hx;have I1:aA X ai σ (upd H c' (.code l.qual)) { s with heap:=h',toks:=tk }:=I.table (l:=l) hP hx2 hge hoc hd (by rw[lq];exact hv) e htb (by rw[Array.toList_append];exact au4 tr) cs λpos' cv h=>by
   rw[Array.toList_append]at h;exact au5 tr h
  have fn:upd H c' (.code l.qual) h'.objs.size=none:=I1.hok.fresh (be2 _);have cf:c'≠h'.objs.size:=bg7 hlt
  let fo:Obj:=kla_obj "<lambda>" (X.env.qual++"<lambda>") params body scope clos ((X.mg "__name__").getD .none) c' ctv
  have I2:aA X ai σ (upd (upd H c' (.code l.qual)) h'.objs.size (.frz fo (.cd c' l.qual))) { s with heap:=h'.push fo,toks:=tk }:=I1.laid (s:={ s with heap:=h',toks:=tk }) (a:=h'.objs.size) (o:=.frz fo (.cd c' l.qual)) (t':=tk) (λb o g=>bd3 _ g) (be2 _) ⟨bf1 _ rfl,⟨fo,bf1 _ rfl⟩,by rw[aJ cf,bH]⟩;refine⟨.ref h'.objs.size,_,I2,rfl,q _ _ (λb o g=>?_) ?_ ⟨(X.mg "__name__").getD .none,ctv,c',by rw[bH,hl]⟩⟩
  ·have b1:b≠c':=λz=>by rw[z,I.hok.fresh hge]at g;cases g
   have b2:b≠h'.objs.size:=λz=>by
    have:=I.hok.lt g
    rw[z]at this;exact absurd (be6 (be6 this hge) (bp0 hlt)) (bi7 _)
   rw[aJ b2,aJ b1];exact g
  ·cases z:H h'.objs.size with
   |none=>rfl
   |some u=>exact absurd (be6 (be6 (I.hok.lt z) hge) (bp0 hlt)) (bi7 _)
 |some cv=>
  obtain⟨c,q',t',rfl,hc,eq⟩:=cs pos cv hf
  have hq:q'=l.qual:=by
   have:=congrArg (λa:Array ax=>a[0]?) eq
   simp at this;exact this.1.symm
  subst hq;refine kla_makeFunctionHit hcl I.ok.glob (I.ok.mod.glob.keeps I.bk) hcode (codeHd_of_K I.kIn hK) e0 tr hf (B.at I) λctv h' tk k hsz=>?_
  have I1:aA X ai σ H { s with heap:=h',toks:=tk }:=I.kept k
  let fo:Obj:={ cls:=.type "function",data:=.func (kla_fn "<lambda>" (X.env.qual++"<lambda>") params body scope clos ((X.mg "__name__").getD .none) (.ref c) ctv) }
  have I2:aA X ai σ (upd H h'.objs.size (.frz fo (.cd c l.qual))) { s with heap:=h'.push fo,toks:=tk }:=I1.laid (s:={ s with heap:=h',toks:=tk }) (a:=h'.objs.size) (o:=.frz fo (.cd c l.qual)) (t':=tk) (λb o g=>bd3 _ g) (be2 _) ⟨bf1 _ rfl,⟨fo,bf1 _ rfl⟩,by rw[aJ (λz=>by rw[z,I1.hok.fresh (be2 _)]at hc;cases hc)];exact hc⟩;have fn:H h'.objs.size=none:=I1.hok.fresh (be2 _);have old:∀{b o},H b=some o->b≠h'.objs.size:=λ{b o} g z=>by rw[z,fn]at g;cases g
  exact⟨.ref h'.objs.size,_,I2,rfl,q _ _ (λb o g=>by rw[aJ (old g)];exact g) fn ⟨(X.mg "__name__").getD .none,ctv,c,by rw[bH,hl]⟩⟩
end
end L2
namespace L2
open PySem PySem.Spec PyProof.Rows
structure qR (P:ba)(w:bf)(K:ad)(mg:Str->Option ax)(base:Heap)(CX:dO)(k:Nat)(l:bA)(sp:Sp):Prop where
 run:∀(A:bc) (outer:List Env) (s:ay) (H:Hp) (f:az) (us:List ax) (vs:List V) (Q:VK) (E:XK),bG k A->jM P w K mg base A outer s H->gT H f l->aN vs us->sp vs H Q E->
  codeAny (model P w) A (.call (.ref f) ⟨us,[]⟩) (CR CX outer P w H s Q E) s
theorem gT.at {P:ba}{w:bf}{H:Hp}{h:Heap}{f:az}{l:bA}(q:gT H f l)(ok:bS P w H h):∃(pm ctv:ax) (c:az),h.get? f=some (G2 l pm (.ref c) ctv)/\h.CodeRec (.ref c) l.qual:=by
 obtain⟨pm,ctv,c,e1⟩:=q
 have q1:=ok f _ e1
 obtain⟨oc,vs,t,g,d,e⟩:=(show bL P w H h c (.code l.qual) from ok c _ q1.2.2)
 exact⟨pm,ctv,c,q1.1,c,oc,vs,t,rfl,g,d,e⟩
theorem au7 {CX:dO}{P:ba}{w:bf}{K:ad}{mg:Str->Option ax}{base:Heap}{k:Nat}{l:bA}{N ps:List Str}{sp:Sp}(hc:l.clos = [])(S:FnScope N ps l.scope)(hb:∀(pm cv ctv:ax) (us:List ax),us.length=ps.length->bindArgs (oH l pm cv ctv) ⟨us,[]⟩=pure (ps.zip us))(len:∀vs H Q E,sp vs H Q E->vs.length=ps.length)(hbody:∀(A:bc) (outer:List Env) (s:ay) (H:Hp) (f:az) (cv:ax) (vs:List V) (Q:VK) (E:XK),bG k (A.deeper (envOfC l.qual l.scope s.heap.objs.size f cv))->sp vs H Q E->
   ∃t,PE (cK CX P w K mg base N l.qual l.scope f cv A outer s H E) l.body t/\t (dZ N vs) H Q) :
  qR P w K mg base CX (k+1) l sp:=by
 obtain⟨lq,lp,lb,ls,lc⟩:=l
 obtain rfl:lc = []:=hc;refine⟨λA outer s H f us vs Q E hr e0 hl r hsp=>?_⟩;have ao:=len _ _ _ _ hsp
 obtain⟨pm,ctv,c,ho,hcd⟩:=hl.at e0.hok
 have lim:s.heap.NoLimit:=e0.mod.nolimit.keeps λb o e=>(e0.bs b o e).1
 have hkind:∀y∈ps.zip us,ls.names.lookup y.1=some .local∨(ls.names.lookup y.1=some .cell/\((cellsFrom (s.heap.objs.size+1) ls.names []).lookup y.1).isSome=true):=λ⟨n,v⟩ hy=>by
  rcases S.par n (List.of_mem_zip hy).1 with q|q
  ·exact .inl q
  ·exact .inr ⟨q,PySem.W.cellsFrom_some _ _ _ (.inl q)⟩
 refine PySem.W.kla_callFunE hr.depth ho rfl S.co S.gen rfl hcd ?_;rw[hb pm (.ref c) ctv us (by rw[<- r.length];exact ao)];refine bd6 (wpAny_newFunctionEnv_cells S.kind hkind λenv he s1 x=>?_);subst he;refine⟨lim.keeps x.toInCall.keep,PySem.W.kla_codeExpr ?_⟩
 obtain⟨t,ht,hq⟩:=hbody A outer s H f (.ref c) vs Q E (hr.deeper _) hsp
 have I:aA (cK CX P w K mg base N lq ls f (.ref c) A outer s H E) [] (dZ N vs) H s1:=A1 S hr.hd e0 ao r x;refine bj6 (ht [] s1 (dZ N vs) H _ I hq) (λu s' hs=>?_) λe s' hs=>hs
 obtain⟨v,H',J,rv,q⟩:=hs
 exact⟨v,H',J.os,J.bare,J.base,J.hok,rv,q⟩
end L2
namespace Raw
open PySem PySem.W PySem.Calls PyProof.Rows
section
variable {prog:ba}{w:bf}{K:Type}[DecidableEq K]{knd:HeapKind prog w K}{A:bc}{E:ax→ay→Prop}{s:ay}{env:Env}
theorem au8 {k v:Expr}{pos:Pos}{Q:ax->ay->Prop}(hu:knd.room A)(h:wpAny (model prog w) A (eval k env) (λkv s1=>wpAny (model prog w) A (eval v env) (λvv s2=>∃a κ,kv = .ref a/\knd.is s2.heap κ a/\s2.heap.DictOfH knd s.heap.objs.size []/\
   ∀h',h'.DictOfH knd s.heap.objs.size [(κ,a,vv)]->Heap.SameBut s.heap.objs.size s2.heap h'->Q (.ref s.heap.objs.size) { s2 with heap:=h',toks:=s2.toks+knd.draws κ }) E s1) E
   { s with heap:=s.heap.push { cls:=.type "dict",data:=.dict #[] } }):wpAny (model prog w) A (eval (.Dict [some k] [v] pos) env) Q E s:=by
 rw[arm_eval_Dict,zip_pairTrees [some k] [v] env pos rfl rfl,dictDisplay_pairs _ (by simp[pairTrees]) (by simp[pairTrees])];refine bd2 (wpAny_standAt (bd2 ?_));unfold subDict;refine bd2 (wpAny_alloc ?_);refine bd2 (bq8 ?_);rw[if_pos (by simp[pairTrees])];refine bd2 (pairTrees_cons_walk (bj6 h (λkv s1 h1=>bj6 h1 (λvv s2 h2=>pairTrees_nil_walk ?_) λ_ _ e=>e) λ_ _ e=>e))
 obtain⟨a,κ,rfl,hk,hm,hQ⟩:=h2
 refine bq8 ?_;refine bd2 ?_;rw[List.forIn_cons];refine bd2 (bd2 (wpAny_dictSet_heap (hsz:=by simp) hu hk hm λh' hm' hs'=>bd6 ?_));dsimp only;rw[List.forIn_nil];exact bd6 (bd6 (bd6 (bd6 (hQ h' (by simpa[storedH,atKey] using hm') hs'))))
end
end Raw
namespace L2
open PySem PySem.Spec PyProof.Rows
noncomputable abbrev fP (H:Hp):List (List (Int×Bool)×V)->List (ae×az×ax)->Prop:=Paired λp q=>dD p.1=q.1/\eY H p.1 q.2.1/\aU p.2 q.2.2
theorem fP.val {H:Hp}{kvs:List (List (Int×Bool)×V)}{xs:List (ae×az×ax)}(r:fP H kvs xs)(k:List (Int×Bool)):hU (g9 kvs k) ((atKey xs (dD k)).map (·.2)):=by
 induction r with
 |nil=>exact br2
 |@cons p q ps qs h t ih=>
  obtain⟨h1,_,h2⟩:=h
  by_cases e:p.1=k
  ·have e':q.1=dD k:=by rw[<- h1,e]
   have b:atKey (q::qs) (dD k)=some q.2:=by simp[atKey,bh8,e']
   rw[u5 e,b];exact h2
  ·have e':¬q.1=dD k:=λz=>e (tH (h1.trans z))
   have b:atKey (q::qs) (dD k)=atKey qs (dD k):=by simp[atKey,bh8,e']
   rw[u6 e,b];exact ih
theorem fP.repl {H:Hp}{kvs:List (List (Int×Bool)×V)}{xs:List (ae×az×ax)}(r:fP H kvs xs)(k:List (Int×Bool)){y:V}{u:ax}(ry:aU y u) :
  fP H (kvs.map λkv=>if kv.1=k then (kv.1,y) else kv) (xs.map (putAt (dD k) u)):=by
 induction r with
 |nil=>exact .nil
 |@cons p q ps qs h t ih=>
  rw[bf0,bf0];refine .cons ?_ ih
  obtain⟨h1,h2,h3⟩:=h
  unfold putAt;by_cases e:p.1=k
  ·rw[if_pos e,if_pos (by rw[<- h1,e])];exact⟨h1,h2,ry⟩
  ·rw[if_neg e,if_neg (λz=>e (tH (h1.trans z)))];exact⟨h1,h2,h3⟩
theorem fP.put {H:Hp}{kvs:List (List (Int×Bool)×V)}{xs:List (ae×az×ax)}(r:fP H kvs xs)(k:List (Int×Bool)){b:az}{y:V}{u:ax}(hb:eY H k b)(ry:aU y u) :
  fP H (fB kvs k y) (storedH xs (dD k) b u):=by
 have e:(kvs.any λkv=>decide (kv.1=k))=(atKey xs (dD k)).isSome:=by
  rw[C3,(r.val k).isSome_eq,Option.isSome_map]
 unfold fB storedH;rw[e];by_cases q:(atKey xs (dD k)).isSome=true
 ·rw[if_pos q,if_pos q];exact r.repl k ry
 ·rw[if_neg q,if_neg q];exact Paired.snoc r ⟨rfl,hb,ry⟩
theorem fP.keeps {H H':Hp}{kvs:List (List (Int×Bool)×V)}{xs:List (ae×az×ax)}(r:fP H kvs xs)(ht:∀b ys,H b=some (.tup ys)->H' b=some (.tup ys)):fP H' kvs xs:=
 Paired.mapP r λ_ _ z=>⟨z.1,z.2.1.keeps ht,z.2.2⟩
section
variable {P:ba}{w:bf}{H:Hp}{h:Heap}{a:az}
theorem qS (P:ba)(w:bf)(k:Int)(v:ax):(iH P w).is k v=kD k v:=rfl
theorem au9 {c:az}{p:Int×Bool}(ok:bS P w H h)(e:H c=some (.tup [.int p.1,.bl p.2])):IsTupleKey (iH P w) h [p.1,if p.2 then 1 else 0] c:=by
 obtain⟨_,its,r,⟨o,h1,h2,n,h3⟩,_⟩:=(show bL P w H h c (.tup [.int p.1,.bl p.2]) from ok c _ e)
 refine⟨o,its.toArray,n,h1,h2,h3,?_⟩;cases r with
 |@cons _ v1 _ vs1 r1 t1=>
  cases t1 with
  |@cons _ v2 _ vs2 r2 t2=>
   cases t2
   obtain⟨t,rfl⟩:=(show ∃t,v1=Value.int p.1 t from r1)
   cases (show v2=Value.bool p.2 from r2);exact .cons (by rw[qS];simp[kD]) (.cons (by rw[qS];simp[kD]) .nil)
theorem mB {k:List (Int×Bool)}{b:az}(ok:bS P w H h)(e:eY H k b):(o0 (iH P w)).is h (dD k) b:=by
 obtain⟨us,e,r⟩:=e
 obtain⟨lz,its,rv,⟨o,h1,h2,n,h3⟩,nd⟩:=(show bL P w H h b (.tup us) from ok b _ e)
 refine⟨o,its.toArray,n,h1,h2,h3,?_⟩;show Paired _ _ its.toArray.toList;have e2:its.toArray.toList=its:=by simp
 rw[e2];clear h3 e2 e lz nd h1 h2
 induction r generalizing its with
 |nil=>cases rv;exact .nil
 |@cons p u ps us hd t ih=>
  cases rv with
  |@cons _ v _ vs r1 t1=>
   obtain⟨c,rfl,hc⟩:=hd
   cases (show v=Value.ref c from r1);exact .cons ⟨c,rfl,au9 ok hc⟩ (ih _ t1)
theorem mC {kvs:List (List (Int×Bool)×V)}(ok:bS P w H h)(e:Rd H a (.dA kvs)):kvs.length<=sizeLine/\(a==sysModules)=false/\
  ∃xs,fP H kvs xs/\h.DictOfH (o0 (iH P w)) a xs:=by
 obtain⟨z,y,xs,r,o,es,ep,h1,h2,h3,h4,h5⟩:=(show bL P w H h a (.dA kvs) from qK ok e)
 refine⟨z,y,xs,r,o,es,ep,h1,h2,h3,h4,λx hx=>?_,h5⟩;have all:∀{l:List (List (Int×Bool)×V)}{m:List (ae×az×ax)},fP H l m->∀x∈m,(o0 (iH P w)).is h x.1 x.2.1:=by
  intro l m q
  induction q with
  |nil=>intro x hx;exact nomatch hx
  |@cons p q ps qs hq t ih=>
   intro x hx;rcases bd8.mp hx with e|hx
   ·subst e
    rw[<- hq.1];exact mB ok hq.2.1
   ·exact ih x hx
 exact all r x hx
theorem oI {kvs:List (Int×V)}(ok:bS P w H h)(e:Rd H a (.dB kvs)):kvs.length<=sizeLine/\(a==sysModules)=false/\∃vs,KV kvs vs/\h.DictOf (iH P w) a vs:=
 show bL P w H h a (.dB kvs) from qK ok e
end
noncomputable def kO (k:Int)(y:V):Prop:=y = .int k∨∃b:Bool,y = .bl b/\k=if b then 1 else 0
theorem kO.is {k:Int}{y:V}{u:ax}{P:ba}{w:bf}(n:kO k y)(r:aU y u):(iH P w).is k u=true:=by
 rcases n with rfl|⟨b,rfl,rfl⟩
 ·obtain⟨t,rfl⟩:=(show ∃t,u=Value.int k t from r)
  rw[qS];simp[kD]
 ·cases (show u=Value.bool b from r)
  rw[qS];simp[kD]
noncomputable def jP (H:Hp)(a:az)(y:V)(r:Option V):Prop:=
 (∃kvs k b,Rd H a (.dA kvs)/\y = .ref b/\eY H k b/\r=g9 kvs k)∨∃kvs k,Rd H a (.dB kvs)/\kO k y/\r=g9 kvs k
noncomputable def G4 (H:Hp)(a:az)(y v:V)(H':Hp):Prop:=
 (∃kvs k b,H a=some (.dA kvs)/\y = .ref b/\eY H k b/\kvs.length<sizeLine/\H'=upd H a (.dA (fB kvs k v))) ∨
 ∃kvs k,H a=some (.dB kvs)/\kO k y/\kvs.length<sizeLine/\H'=upd H a (.dB (fB kvs k v))
section
variable {X:Cx}{ai:List (az×Obj)}{σ:St}{H:Hp}{s:ay}{a:az}{y v:V}{u r:ax}{o:Option V}{A:bc}{E:ax→ay→Prop}
theorem av0 (I:aA X ai σ H s)(g:jP H a y o):s.TypeIs (.ref a) "dict":=by
 rcases g with⟨kvs,k,b,e,_,_,_⟩|⟨kvs,k,e,_,_⟩
 ·obtain⟨_,_,xs,_,dd⟩:=mC I.hok e
  exact dd.typeIs
 ·obtain⟨_,_,vs,_,dd⟩:=oI I.hok e
  exact dd.typeIs
theorem av1 {Q:ax->ay->Prop}(hu:A.units+16<cLine)(I:aA X ai σ H s)(g:jP H a y (some v))(ry:aU y u)(h:∀w' s',aA X ai σ H s'->aU v w'->Q w' s') :
  wpAny (model X.prog X.w) A (getItem (.ref a) u) Q E s:=by
 rcases g with⟨kvs,k,b,e,ey,eb,l⟩|⟨kvs,k,e,ey,l⟩
 ·subst ey
  cases (show u=Value.ref b from ry)
  obtain⟨z,hd,xs,rel,dd⟩:=mC I.hok e
  obtain⟨w',hw,rw'⟩:=hU.some_of (v:=v) (o:=(atKey xs (dD k)).map (·.2)) (by rw[l];exact rel.val k)
  obtain⟨p,hp,hp2⟩:=Option.map_eq_some_iff.mp hw
  refine wpAny_getItem_heap (show A.units+1+8<cLine by omega) (mB I.hok eb) dd hp ?_;rw[hp2];exact h w' _ (I.tok _) rw'
 ·obtain⟨z,hd,vs,rel,dd⟩:=oI I.hok e
  obtain⟨w',hw,rw'⟩:=hU.some_of (v:=v) (o:=valueAt vs k) (by rw[l];exact rel.val k)
  exact wpAny_getItem_of (ey.is ry) dd.mapOf hw (h w' _ (I.tok _) rw')
theorem av2 {Q:ax->ay->Prop}(hu:A.units+16<cLine)(I:aA X ai σ H s)(g:jP H a y o)(ry:aU y u)(h:∀s',aA X ai σ H s'->Q (.bool o.isSome) s') :
  wpAny (model X.prog X.w) A (compareOp .In u (.ref a)) Q E s:=by
 rcases g with⟨kvs,k,b,e,ey,eb,l⟩|⟨kvs,k,e,ey,l⟩
 ·subst ey
  cases (show u=Value.ref b from ry)
  obtain⟨z,hd,xs,rel,dd⟩:=mC I.hok e
  refine wpAny_in_heap (show A.units+1+8<cLine by omega) (mB I.hok eb) hd dd ?_;have q:=(rel.val k).isSome_eq;rw[Option.isSome_map]at q;rw[<- q,<- l];exact h _ (I.tok _)
 ·obtain⟨z,hd,vs,rel,dd⟩:=oI I.hok e
  refine wpAny_in_of (ey.is ry) hd dd.mapOf ?_;rw[<- (rel.val k).isSome_eq,<- l];exact h _ (I.tok _)
theorem av3 {Q:ax->ay->Prop}(hu:A.units+16<cLine)(I:aA X ai σ H s)(g:jP H a y o)(ry:aU y u)(h:∀s',aA X ai σ H s'->Q (.bool (!o.isSome)) s') :
  wpAny (model X.prog X.w) A (compareOp .NotIn u (.ref a)) Q E s:=by
 rcases g with⟨kvs,k,b,e,ey,eb,l⟩|⟨kvs,k,e,ey,l⟩
 ·subst ey
  cases (show u=Value.ref b from ry)
  obtain⟨z,hd,xs,rel,dd⟩:=mC I.hok e
  refine wpAny_notIn_heap (show A.units+1+8<cLine by omega) (mB I.hok eb) hd dd ?_;have q:=(rel.val k).isSome_eq;rw[Option.isSome_map]at q;rw[<- q,<- l];exact h _ (I.tok _)
 ·obtain⟨z,hd,vs,rel,dd⟩:=oI I.hok e
  refine wpAny_notIn_of (ey.is ry) hd dd.mapOf ?_;rw[<- (rel.val k).isSome_eq,<- l];exact h _ (I.tok _)
theorem av4 {H':Hp}{Q:Unit->ay->Prop}(hu:A.units+16<cLine)(I:aA X ai σ H s)(g:G4 H a y v H')(ry:aU y u)(rv:aU v r)(h:∀s',aA X ai σ H' s'->Q () s') :
  wpAny (model X.prog X.w) A (setItem (.ref a) u r) Q E s:=by
 rcases g with⟨kvs,k,b,e,ey,eb,l,eH⟩|⟨kvs,k,e,ey,l,eH⟩
 ·subst ey eH
  cases (show u=Value.ref b from ry)
  obtain⟨z,hd,xs,rel,dd⟩:=mC I.hok (.inl e)
  have hz:xs.length<=sizeLine:=by rw[<- Paired.length rel];exact z
  have hl:(fB kvs k v).length<=sizeLine:=by have:=C4 kvs k v;omega
  refine wpAny_setItem_heap (hsz:=hz) (show A.units+1+8<cLine by omega) (mB I.hok eb) dd λh' dd' hs=>h _ ?_
  obtain⟨q,es,ep,hq,h2,h3,h4,_,h5⟩:=dd'
  refine u7 I (by rw[e];exact br2) hs ⟨q,hq⟩ ⟨hl,hd,_,(rel.put k eb rv).keeps λc ys ec=>?_,q,es,ep,hq,h2,h3,h4,h5⟩;rw[aJ (yR ec e (λz=>nomatch z))];exact ec
 ·subst eH
  obtain⟨z,hd,vs,rel,dd⟩:=oI I.hok (.inl e)
  have hz:vs.length<=sizeLine:=by rw[<- rel.length];exact z
  have hl:(fB kvs k v).length<=sizeLine:=by have:=C4 kvs k v;omega
  refine wpAny_setItem_pairs (hsz:=hz) (ey.is ry) dd λh' dd' hs=>h _ ?_
  have he:∃q,h'.get? a=some q:=let ⟨q,_,_,hq,_⟩:=dd';⟨q,hq⟩
  exact u7 I (by rw[e];exact br2) hs he ⟨hl,hd,_,rel.put k rv,dd'⟩
end
noncomputable def G5 (td ty:TE):TE:=λσ H Q=>td σ H λx H1=>ty σ H1 λy H2=>∃a v,x = .ref a/\jP H2 a y (some v)/\Q v H2
noncomputable def G6 (ty td:TE):TE:=λσ H Q=>ty σ H λy H1=>td σ H1 λx H2=>∃a o,x = .ref a/\jP H2 a y o/\Q (.bl o.isSome) H2
noncomputable def G7 (ty td:TE):TE:=λσ H Q=>ty σ H λy H1=>td σ H1 λx H2=>∃a o,x = .ref a/\jP H2 a y o/\Q (.bl (!o.isSome)) H2
noncomputable def mD (td ty tv:TE):TS:=λD σ H=>tv σ H λv H1=>td σ H1 λx H2=>ty σ H2 λy H3=>∃a H4,x = .ref a/\G4 H3 a y v H4/\D.nx σ H4
noncomputable def G8:TE:=λ_ H Q=>∀p,H p=none->Q (.ref p) (upd H p (.dA []))
noncomputable def G9:TE:=λ_ H Q=>∀p,H p=none->Q (.ref p) (upd H p (.dB []))
noncomputable def J0 (tk tv:TE):TE:=λσ H Q=>∀p,H p=none->tk σ (upd H p (.dA [])) λx H1=>tv σ H1 λy H2=>H2 p=some (.dA [])/\∃b k,x = .ref b/\eY H2 k b/\Q (.ref p) (upd H2 p (.dA [(k,y)]))
section
variable {X:Cx}{o i e value k v:Expr}{pos pos' tpos:Pos}{td ty tv tk:TE}
theorem av5 (hu:X.A.units+16<cLine)(ho:PE X o td)(hi:PE X i ty)(hs:u8 i):PE X (.Subscript o i pos) (G5 td ty):=by
 intro ai s σ H Q I h;refine ar6 PySem.F.slot_dict_getitem.lookup hs (aO (ho ai s σ H _ I h) λu s1 ⟨x,H1,I1,rx,q1⟩=>aO (hi ai s1 σ H1 _ I1 q1) λiv s2 ⟨y,H2,I2,ry,a,v,ex,g,q2⟩=>?_);subst ex;obtain rfl:u=Value.ref a:=rx
 exact⟨av0 I2 g,av1 hu I2 g ry λw' s3 I3 rw'=>⟨v,H2,I3,rw',q2⟩⟩
theorem av6 (hu:X.A.units+16<cLine)(hi:PE X i ty)(ho:PE X o td):PC X .In i o (G6 ty td):=by
 intro ai s σ H Q I h;refine aO (hi ai s σ H _ I h) λiv s1 ⟨y,H1,I1,ry,q1⟩=>aO (ho ai s1 σ H1 _ I1 q1) λu s2 ⟨x,H2,I2,rx,a,ov,ex,g,q2⟩=>?_
 subst ex;obtain rfl:u=Value.ref a:=rx;exact av2 hu I2 g ry λs3 I3=>⟨.bl ov.isSome,H2,I3,rfl,q2⟩
theorem av7 (hu:X.A.units+16<cLine)(hi:PE X i ty)(ho:PE X o td):PC X .NotIn i o (G7 ty td):=by
 intro ai s σ H Q I h;refine aO (hi ai s σ H _ I h) λiv s1 ⟨y,H1,I1,ry,q1⟩=>aO (ho ai s1 σ H1 _ I1 q1) λu s2 ⟨x,H2,I2,rx,a,ov,ex,g,q2⟩=>?_
 subst ex;obtain rfl:u=Value.ref a:=rx;exact av3 hu I2 g ry λs3 I3=>⟨.bl (!ov.isSome),H2,I3,rfl,q2⟩
theorem gD (hu:X.A.units+16<cLine)(ho:PE X o td)(hi:PE X i ty)(hv:PE X value tv)(hs:swapsWith value (some (.Subscript o i pos')) pos.line X.env=pure false) :
  PS X (.Assign [.Subscript o i pos'] value pos) (mD td ty tv):=by
 intro ai s σ H D I h;refine wpAny_Assign_Subscript (aO (hv ai s σ H _ I h) λr s1 ⟨v,H1,I1,rv,q1⟩=>aO (ho ai s1 σ H1 _ I1 q1) λu s2 ⟨x,H2,I2,rx,q2⟩=>aO (hi ai s2 σ H2 _ I2 q2) λiv s3 ⟨y,H3,I3,ry,a,H4,ex,g,q3⟩=>?_) hs;subst ex;obtain rfl:u=Value.ref a:=rx;exact av4 hu I3 g ry rv λs4 I4=>⟨σ,H4,I4,q3⟩
theorem J1 {P:ba}{w:bf}{H:Hp}(h:Heap)(hb:sysModules<h.objs.size):bL P w H (h.push { cls:=.type "dict",data:=.dict #[] }) h.objs.size (.dA []):=
 ⟨bp2 _,bo8.mpr (Ne.symm (bg7 hb)),[],.nil,_,#[],0,bf1 _ rfl,⟨rfl,rfl,rfl⟩,rfl,rfl,bk9⟩
theorem av8 {P:ba}{w:bf}{H:Hp}(h:Heap)(hb:sysModules<h.objs.size):bL P w H (h.push { cls:=.type "dict",data:=.dict #[] }) h.objs.size (.dB []):=
 ⟨bp2 _,bo8.mpr (Ne.symm (bg7 hb)),[],.nil,Heap.DictOf.new h⟩
theorem av9:PE X (.Dict [] [] pos) G8:=λai s σ H Q I h=>
 wpAny_Dict_empty ⟨.ref s.heap.objs.size,_,I.laid (a:=s.heap.objs.size) (o:=.dA []) (t':=s.toks) (λ_ _ q=>bd3 _ q) (be2 _) (J1 s.heap I.big),rfl,h _ (I.hok.fresh (be2 _))⟩
theorem aw0:PE X (.Dict [] [] pos) G9:=λai s σ H Q I h=>
 wpAny_Dict_empty ⟨.ref s.heap.objs.size,_,I.laid (a:=s.heap.objs.size) (o:=.dB []) (t':=s.toks) (λ_ _ q=>bd3 _ q) (be2 _) (av8 s.heap I.big),rfl,h _ (I.hok.fresh (be2 _))⟩
theorem aw1 (hu:X.A.units+16<cLine)(hk:PE X k tk)(hv:PE X v tv):PE X (.Dict [some k] [v] pos) (J0 tk tv):=by
 intro ai s σ H Q I q;have hn:=I.hok.fresh (be2 s.heap.objs.size);have I1:=I.laid (a:=s.heap.objs.size) (o:=.dA []) (h':=s.heap.push { cls:=.type "dict",data:=.dict #[] }) (t':=s.toks) (λ_ _ q=>bd3 _ q) (be2 _) (J1 s.heap I.big);refine Raw.au8 (knd:=o0 (iH X.prog X.w)) (show X.A.units+8<cLine by omega) (aO (hk ai _ σ _ _ I1 (q _ hn)) λkv s1 ⟨x,H1,I2,rx,q1⟩=>aO (hv ai s1 σ H1 _ I2 q1) λvv s2 ⟨y,H2,I3,ry,e,b,κ,ex,nk,q2⟩=>?_);subst ex;obtain rfl:kv=Value.ref b:=rx
 obtain⟨z,hd,xs,rel,dd⟩:=mC I3.hok (.inl e)
 cases rel;refine⟨b,dD κ,rfl,mB I3.hok nk,dd,λh' dd' hs=>⟨.ref s.heap.objs.size,_,?_,rfl,q2⟩⟩
 obtain⟨ob,es,ep,hq,h2,h3,h4,_,h5⟩:=dd'
 refine u7 I3 (by rw[e];exact br2) hs ⟨ob,hq⟩ ⟨by show (1:Nat)<=sizeLine;rw[sizeLine_eq];omega,hd,_,fP.keeps (.cons ⟨rfl,nk,ry⟩ .nil) λc ys ec=>?_,ob,es,ep,hq,h2,h3,h4,h5⟩;rw[aJ (yR ec e (λz=>nomatch z))];exact ec
end
end L2
namespace PP
open PySem L2
inductive PV where
 |non|bl (b:Bool)|int (i:Int)|str (x:Str)|tup (xs:List PV)|lst (xs:List PV)
 |dK (kvs:List (bW×PV))|dT (kvs:List (List bW×PV))|scr (ns:ag)|kt (xs:List PV)|exc (c:Str)|fK (kvs:List (bW×PV))|fT (kvs:List (List bW×PV))|fL (xs:List PV)|fn (x:Str)|ob (a:az)
 |lm (l:bA)|dA (kvs:List (List (Int×Bool)×PV))|dB (kvs:List (Int×PV))|fA (kvs:List (List (Int×Bool)×PV))
mutual
noncomputable def flat:PV->Bool
 |.tup xs=>flats xs
 |.lst _=>false
 |.dK _=>false
 |.dT _=>false
 |.non=>true
 |.bl _=>true
 |.int _=>true
 |.str _=>true
 |.scr _=>true
 |.kt xs=>flats xs
 |.exc _=>true
 |.fK _=>false
 |.fT _=>false
 |.fL xs=>flats xs
 |.fn _=>true
 |.ob _=>true
 |.lm _=>true
 |.dA _=>false
 |.dB _=>false
 |.fA _=>false
noncomputable def flats:List PV->Bool
 |[]=>true
 |x::r=>flat x&&flats r
end
noncomputable def iY (K:ad)(H:Hp)(a:az)(ns:ag):Prop:=(∃o,H a=some (.frz o (.lst (ns.map V.int)))) ∨
  ∃(o:Obj) (its:Array ax) (n:Nat),K.lookup a=some o/\o.cls = .type "list"/\o.dict=none/\o.data = .seq its n/\its.size<=sizeLine/\aN (ns.map V.int) its.toList
noncomputable def oJ (K:ad)(a:az)(us:List V):Prop:=∃(o:Obj) (its:Array ax) (n:Nat),K.lookup a=some o/\o.cls = .type "tuple"/\o.data = .seq its n/\its.size<=sizeLine/\aN us its.toList
mutual
inductive aG (K:ad)(M:az->Prop)(H:Hp):V->PV->Prop
 |non:aG K M H .non .non
 |bl (b:Bool):aG K M H (.bl b) (.bl b)
 |int (i:Int):aG K M H (.int i) (.int i)
 |str (x:Str):aG K M H (.str x) (.str x)
 |tup {a:az}{us:List V}{xs:List PV}:H a=some (.tup us)->Reps K M H us xs->aG K M H (.ref a) (.tup xs)
 |lst {a:az}{us:List V}{xs:List PV}:M a->H a=some (.lst us)->Reps K M H us xs->aG K M H (.ref a) (.lst xs)
 |dK {a:az}{kvs:List (bW×V)}{ps:List (bW×PV)}:M a->H a=some (.dK kvs)->kvs.map (·.1)=ps.map (·.1)->Reps K M H (kvs.map (·.2)) (ps.map (·.2))->aG K M H (.ref a) (.dK ps)
 |dT {a:az}{kvs:List (List bW×V)}{ps:List (List bW×PV)}:M a->H a=some (.dT kvs)->kvs.map (·.1)=ps.map (·.1)->Reps K M H (kvs.map (·.2)) (ps.map (·.2))->aG K M H (.ref a) (.dT ps)
 |scr {a:az}{ns:ag}:iY K H a ns->aG K M H (.ref a) (.scr ns)
 |kt {a:az}{us:List V}{xs:List PV}:oJ K a us->Reps K M H us xs->aG K M H (.ref a) (.kt xs)
 |exc {a C:az}{o:Obj}{c:Str}:H a=some (.frz o (.own a))->PySem.W.nsIn K mainGlobals c=some (some (.ref C))->o.cls = .ref C->aG K M H (.ref a) (.exc c)
 |fK {a:az}{o:Obj}{kvs:List (bW×V)}{ps:List (bW×PV)}:H a=some (.frz o (.dK kvs))->kvs.map (·.1)=ps.map (·.1)->Reps K M H (kvs.map (·.2)) (ps.map (·.2))->aG K M H (.ref a) (.fK ps)
 |fT {a:az}{o:Obj}{kvs:List (List bW×V)}{ps:List (List bW×PV)}:H a=some (.frz o (.dT kvs))->kvs.map (·.1)=ps.map (·.1)->Reps K M H (kvs.map (·.2)) (ps.map (·.2))->aG K M H (.ref a) (.fT ps)
 |fL {a:az}{o:Obj}{us:List V}{xs:List PV}:H a=some (.frz o (.lst us))->Reps K M H us xs->aG K M H (.ref a) (.fL xs)
 |fn {f:az}{x:Str}:PySem.W.nsIn K mainGlobals x=some (some (.ref f))->aG K M H (.ref f) (.fn x)
 |ob {a:az}:aG K M H (.ref a) (.ob a)
 |lm {f:az}{l:bA}:gT H f l->aG K M H (.ref f) (.lm l)
 |dA {a:az}{kvs:List (List (Int×Bool)×V)}{ps:List (List (Int×Bool)×PV)}:M a->H a=some (.dA kvs)->kvs.map (·.1)=ps.map (·.1)->Reps K M H (kvs.map (·.2)) (ps.map (·.2))->aG K M H (.ref a) (.dA ps)
 |dB {a:az}{kvs:List (Int×V)}{ps:List (Int×PV)}:M a->H a=some (.dB kvs)->kvs.map (·.1)=ps.map (·.1)->Reps K M H (kvs.map (·.2)) (ps.map (·.2))->aG K M H (.ref a) (.dB ps)
 |fA {a:az}{o:Obj}{kvs:List (List (Int×Bool)×V)}{ps:List (List (Int×Bool)×PV)}:H a=some (.frz o (.dA kvs))->kvs.map (·.1)=ps.map (·.1)->Reps K M H (kvs.map (·.2)) (ps.map (·.2))->aG K M H (.ref a) (.fA ps)
inductive Reps (K:ad)(M:az->Prop)(H:Hp):List V->List PV->Prop
 |nil:Reps K M H [] []
 |cons {v:V}{x:PV}{vs:List V}{xs:List PV}:aG K M H v x->Reps K M H vs xs->Reps K M H (v::vs) (x::xs)
end
noncomputable def uJ:HO->Bool
 |.frz _ _=>true
 |_=>false
noncomputable def J2:HO->Bool
 |.frz _ u=>uJ u
 |.ins _ _ _=>true
 |.ext _=>true
 |_=>false
noncomputable def aw2:HO->Bool
 |.dA _=>true
 |.dB _=>true
 |_=>false
structure fC (M M':az->Prop)(H H':Hp):Prop where
 lst:∀a us,M a->H a=some (.lst us)->M' a/\H' a=some (.lst us)
 dK:∀a kvs,M a->H a=some (.dK kvs)->M' a/\H' a=some (.dK kvs)
 dT:∀a kvs,M a->H a=some (.dT kvs)->M' a/\H' a=some (.dT kvs)
 tup:∀a us,H a=some (.tup us)->H' a=some (.tup us)
 frz:∀a o u,H a=some (.frz o u)->uJ u=false->H' a=some (.frz o u)
 dA:∀a u,aw2 u=true->M a->H a=some u->M' a/\H' a=some u
theorem iY.keep {K:ad}{H H':Hp}{a:az}{ns:ag}(k:∀a o u,H a=some (.frz o u)->uJ u=false->H' a=some (.frz o u))(h:iY K H a ns):iY K H' a ns:=
 h.elim (λ⟨o,e⟩=>.inl ⟨o,k _ _ _ e rfl⟩) .inr
mutual
theorem aG.keep {K:ad}{M M':az->Prop}{H H':Hp}(k:fC M M' H H'):∀{v:V}{x:PV},aG K M H v x->aG K M' H' v x
 |_,_,.non=>.non
 |_,_,.bl b=>.bl b
 |_,_,.int i=>.int i
 |_,_,.str x=>.str x
 |_,_,.tup h r=>.tup (k.tup _ _ h) (Reps.keep k r)
 |_,_,.lst m h r=>.lst (k.lst _ _ m h).1 (k.lst _ _ m h).2 (Reps.keep k r)
 |_,_,.dK m h e r=>.dK (k.dK _ _ m h).1 (k.dK _ _ m h).2 e (Reps.keep k r)
 |_,_,.dT m h e r=>.dT (k.dT _ _ m h).1 (k.dT _ _ m h).2 e (Reps.keep k r)
 |_,_,.scr h=>.scr (h.keep k.frz)
 |_,_,.kt h r=>.kt h (Reps.keep k r)
 |_,_,.exc h e c=>.exc (k.frz _ _ _ h rfl) e c
 |_,_,.fK h e r=>.fK (k.frz _ _ _ h rfl) e (Reps.keep k r)
 |_,_,.fT h e r=>.fT (k.frz _ _ _ h rfl) e (Reps.keep k r)
 |_,_,.fL h r=>.fL (k.frz _ _ _ h rfl) (Reps.keep k r)
 |_,_,.fn h=>.fn h
 |_,_,.ob=>.ob
 |_,_,.lm h=>.lm (let ⟨pm,ctv,c,e1⟩:=h;⟨pm,ctv,c,k.frz _ _ _ e1 rfl⟩)
 |_,_,.dA m h e r=>.dA (k.dA _ _ rfl m h).1 (k.dA _ _ rfl m h).2 e (Reps.keep k r)
 |_,_,.dB m h e r=>.dB (k.dA _ _ rfl m h).1 (k.dA _ _ rfl m h).2 e (Reps.keep k r)
 |_,_,.fA h e r=>.fA (k.frz _ _ _ h rfl) e (Reps.keep k r)
theorem Reps.keep {K:ad}{M M':az->Prop}{H H':Hp}(k:fC M M' H H'):∀{vs:List V}{xs:List PV},Reps K M H vs xs->Reps K M' H' vs xs
 |_,_,.nil=>.nil
 |_,_,.cons r t=>.cons (aG.keep k r) (Reps.keep k t)
end
mutual
theorem aG.flat {K:ad}{M M':az->Prop}{H:Hp}{v:V}{x:PV}(f:flat x=true)(r:aG K M H v x):aG K M' H v x:=by
 cases r with
 |non=>exact .non
 |bl b=>exact .bl b
 |int i=>exact .int i
 |str x=>exact .str x
 |tup h r=>exact .tup h (Reps.flat (by unfold PP.flat at f;exact f) r)
 |lst m h r=>unfold PP.flat at f;cases f
 |dK m h e r=>unfold PP.flat at f;cases f
 |dT m h e r=>unfold PP.flat at f;cases f
 |scr h=>exact .scr h
 |kt h r=>exact .kt h (Reps.flat (by unfold PP.flat at f;exact f) r)
 |exc h e c=>exact .exc h e c
 |fK h e r=>unfold PP.flat at f;cases f
 |fT h e r=>unfold PP.flat at f;cases f
 |fL h r=>exact .fL h (Reps.flat (by unfold PP.flat at f;exact f) r)
 |fn h=>exact .fn h
 |ob=>exact .ob
 |lm h=>exact .lm h
 |dA m h e r=>unfold PP.flat at f;cases f
 |dB m h e r=>unfold PP.flat at f;cases f
 |fA h e r=>unfold PP.flat at f;cases f
theorem Reps.flat {K:ad}{M M':az->Prop}{H:Hp}{vs:List V}{xs:List PV}(f:flats xs=true)(r:Reps K M H vs xs):Reps K M' H vs xs:=by
 cases r with
 |nil=>exact .nil
 |cons r t=>
  unfold PP.flats at f;rw[bg6]at f;exact .cons (aG.flat f.1 r) (Reps.flat f.2 t)
end
theorem fC.same {M M':az->Prop}{H H':Hp}(s:aH H H')(m:∀a,M a->M' a):fC M M' H H':=
 ⟨λa _ h e=>⟨m a h,s _ _ e⟩,λa _ h e=>⟨m a h,s _ _ e⟩,λa _ h e=>⟨m a h,s _ _ e⟩,λ_ _ e=>s _ _ e,λ_ _ _ e _=>s _ _ e,λa _ _ h e=>⟨m a h,s _ _ e⟩⟩
theorem aG.same {K:ad}{M M':az->Prop}{H H':Hp}{v:V}{x:PV}(r:aG K M H v x)(s:aH H H')(m:∀a,M a->M' a):aG K M' H' v x:=r.keep (.same s m)
theorem Reps.same {K:ad}{M M':az->Prop}{H H':Hp}{v:List V}{x:List PV}(r:Reps K M H v x)(s:aH H H')(m:∀a,M a->M' a):Reps K M' H' v x:=r.keep (.same s m)
noncomputable def dP:HO->Bool
 |.lst _=>true
 |.dK _=>true
 |.dT _=>true
 |.dA _=>true
 |.dB _=>true
 |_=>false
theorem fC.upd {M M':az->Prop}{H:Hp}{a:az}{o o':HO}(h:H a=some o')(mu:dP o'=true)(m:∀b,M b->b≠a/\M' b):fC M M' H (upd H a o):=
 ⟨λb _ hb e=>⟨(m b hb).2,by rw[aJ (m b hb).1];exact e⟩,λb _ hb e=>⟨(m b hb).2,by rw[aJ (m b hb).1];exact e⟩,λb _ hb e=>⟨(m b hb).2,by rw[aJ (m b hb).1];exact e⟩,
  λb _ e=>by rw[aJ (λz=>by rw[z,h]at e;cases e;cases mu)];exact e,
  λb _ _ e _=>by rw[aJ (λz=>by rw[z,h]at e;cases e;cases mu)];exact e,λb _ _ hb e=>⟨(m b hb).2,by rw[aJ (m b hb).1];exact e⟩⟩
theorem Reps.length {K:ad}{M:az->Prop}{H:Hp}:∀{vs:List V}{xs:List PV},Reps K M H vs xs->vs.length=xs.length
 |_,_,.nil=>rfl
 |_,_,.cons _ t=>congrArg (·+1) t.length
theorem Reps.get {K:ad}{M:az->Prop}{H:Hp}:∀{vs:List V}{xs:List PV}{i:Nat}{v:V},Reps K M H vs xs->vs[i]? = some v->∃x,xs[i]? = some x/\aG K M H v x
 |_,_,_,_,.nil,e=>by simp at e
 |_,_,0,_,.cons r _,e=>by simp at e;subst e;exact⟨_,rfl,r⟩
 |_,_,i+1,v,.cons _ t,e=>by
  rw[bn4]at e
  obtain⟨x,h1,h2⟩:=t.get e
  exact⟨x,by rw[bn4];exact h1,h2⟩
theorem Reps.at {K:ad}{M:az->Prop}{H:Hp}:∀{vs:List V}{xs:List PV}{i:Nat}{x:PV},Reps K M H vs xs->xs[i]? = some x->∃v,vs[i]? = some v/\aG K M H v x
 |_,_,_,_,.nil,e=>by simp at e
 |_,_,0,_,.cons r _,e=>by simp at e;subst e;exact⟨_,rfl,r⟩
 |_,_,i+1,v,.cons _ t,e=>by
  rw[bn4]at e
  obtain⟨x,h1,h2⟩:=t.at e
  exact⟨x,by rw[bn4];exact h1,h2⟩
theorem Reps.append {K:ad}{M:az->Prop}{H:Hp}:∀{vs:List V}{xs:List PV}{us:List V}{ys:List PV},Reps K M H vs xs->Reps K M H us ys->Reps K M H (vs++us) (xs++ys)
 |_,_,_,_,.nil,s=>s
 |_,_,_,_,.cons r t,s=>.cons r (t.append s)
theorem Reps.take {K:ad}{M:az->Prop}{H:Hp}:∀(n:Nat) {vs:List V}{xs:List PV},Reps K M H vs xs->Reps K M H (vs.take n) (xs.take n)
 |0,_,_,_=>by simp;exact .nil
 |_+1,_,_,.nil=>.nil
 |n+1,_,_,.cons r t=>.cons r (Reps.take n t)
theorem Reps.drop {K:ad}{M:az->Prop}{H:Hp}:∀(n:Nat) {vs:List V}{xs:List PV},Reps K M H vs xs->Reps K M H (vs.drop n) (xs.drop n)
 |0,_,_,r=>r
 |_+1,_,_,.nil=>.nil
 |n+1,_,_,.cons _ t=>Reps.drop n t
noncomputable abbrev intz (ns:ag):List PV:=ns.map PV.int
theorem Reps.intz {K:ad}{M:az->Prop}{H:Hp}:∀(ns:ag),Reps K M H (ns.map V.int) (intz ns)
 |[]=>.nil
 |n::r=>.cons (.int n) (Reps.intz r)
theorem Reps.ofInts {K:ad}{M:az->Prop}{H:Hp}:∀{ns:ag}{us:List V},Reps K M H us (PP.intz ns)->us=ns.map V.int
 |[],_,.nil=>rfl
 |n::r,_,.cons q t=>by
  cases q;rw[Reps.ofInts t];rfl
theorem kP:∀(ns:ag),flats (intz ns)=true
 |[]=>rfl
 |n::r=>by show (flat (.int n)&&flats (intz r))=true;rw[kP r];rfl
inductive Tg|rd|sh|nw|fr
inductive Slot|sh (g:Bool) (x:PV)|own (x:PV)|kp (g:Bool) (x:PV) (ks:List (az×List PV×List PV))
noncomputable def Slot.val:Slot->PV
 |.sh _ x=>x
 |.own x=>x
 |.kp _ x _=>x
noncomputable def Slot.tag:Slot->Tg
 |.sh true _=>.nw
 |.sh false _=>.sh
 |.own _=>.rd
 |.kp _ _ _=>.nw
noncomputable abbrev bT:=List (Option Slot)
noncomputable def Ms (H0:Hp)(W:az->Prop):Bool->az->Prop
 |false,a=>¬W a
 |true,a=>¬W a/\H0 a=none
noncomputable def Mg (H0:Hp)(W:az->Prop)(Hs:Hp):Tg->az->Prop
 |.rd,_=>True
 |.sh,a=>¬W a
 |.nw,a=>¬W a/\H0 a=none
 |.fr,a=>Hs a=none
noncomputable def gV (K:ad)(M:az->Prop)(H:Hp)(a:az):PV->Prop
 |.lst xs=>∃us,H a=some (.lst us)/\Reps K M H us xs
 |.dK ps=>∃kvs,H a=some (.dK kvs)/\kvs.map (·.1)=ps.map (·.1)/\Reps K M H (kvs.map (·.2)) (ps.map (·.2))
 |.dT ps=>∃kvs,H a=some (.dT kvs)/\kvs.map (·.1)=ps.map (·.1)/\Reps K M H (kvs.map (·.2)) (ps.map (·.2))
 |.dA ps=>∃kvs,H a=some (.dA kvs)/\kvs.map (·.1)=ps.map (·.1)/\Reps K M H (kvs.map (·.2)) (ps.map (·.2))
 |.dB ps=>∃kvs,H a=some (.dB kvs)/\kvs.map (·.1)=ps.map (·.1)/\Reps K M H (kvs.map (·.2)) (ps.map (·.2))
 |_=>False
noncomputable def kL (l:az)(us:List V):HO:=.ext λh=>us.length<=sizeLine/\∃(its:List ax) (n:Nat),aN us its/\h.get? l=some { cls:=.type "list",data:=.seq its.toArray n }
noncomputable def kQ (K:ad)(H0 H:Hp)(a:az)(st un:List PV):Prop:=∃(C dx l1 l2:az) (us1 us2:List V),PySem.W.nsIn K mainGlobals "Keeper" = some (some (.ref C))/\(H0 a=none/\H0 dx=none/\H0 l1=none/\H0 l2=none)/\l1≠l2/\H dx=some (.own a)/\
 H a=some (.ins C dx [("standing",.ref l1),("undone",.ref l2)])/\H l1=some (kL l1 us1)/\H l2=some (kL l2 us2)/\Reps K (λ_=>False) H us1 st/\Reps K (λ_=>False) H us2 un
theorem kQ.keep {K:ad}{H0 H H':Hp}{a:az}{st un:List PV}(k:fC (λ_=>False) (λ_=>False) H H')(f:∀b o,H b=some o->dP o=false->H' b=some o)(h:kQ K H0 H a st un):kQ K H0 H' a st un:=by
 obtain⟨C,dx,l1,l2,us1,us2,h1,h2,h3,h4,h5,h6,h7,r1,r2⟩:=h
 exact⟨C,dx,l1,l2,us1,us2,h1,h2,h3,f _ _ h4 rfl,f _ _ h5 rfl,f _ _ h6 rfl,f _ _ h7 rfl,r1.keep k,r2.keep k⟩
noncomputable def Ap2 (H:Hp)(a b:az):Prop:=a≠b/\∀C D dx dy l1 l2 m1 m2,H a=some (.ins C dx [("standing",.ref l1),("undone",.ref l2)])->H b=some (.ins D dy [("standing",.ref m1),("undone",.ref m2)])->l1≠m1/\l1≠m2/\l2≠m1/\l2≠m2
noncomputable def gE (K:ad)(H0 H:Hp)(ks:List (az×List PV×List PV)):Prop:=(∀k∈ks,kQ K H0 H k.1 k.2.1 k.2.2)/\ks.Pairwise λk m=>Ap2 H k.1 m.1
theorem gE.keep {K:ad}{H0 H H':Hp}{ks:List (az×List PV×List PV)}(k:fC (λ_=>False) (λ_=>False) H H')(f:∀b o,H b=some o->dP o=false->H' b=some o)(h:gE K H0 H ks):gE K H0 H' ks:=by
 refine⟨λx hx=>(h.1 x hx).keep k f,h.2.imp_of_mem λ{x y} hx hy r=>⟨r.1,λC D dx dy l1 l2 m1 m2 e1 e2=>?_⟩⟩
 obtain⟨C',dx',l1',l2',us1,us2,_,_,_,_,h5,_⟩:=h.1 x hx
 obtain⟨D',dy',m1',m2',ws1,ws2,_,_,_,_,g5,_⟩:=h.1 y hy
 have z1:=f _ _ h5 rfl;have z2:=f _ _ g5 rfl;rw[e1]at z1;rw[e2]at z2;cases z1;cases z2;exact r.2 _ _ _ _ _ _ _ _ h5 g5
theorem gE.same {K:ad}{H0 H H':Hp}{ks:List (az×List PV×List PV)}(s:aH H H')(h:gE K H0 H ks):gE K H0 H' ks:=h.keep (.same s λ_ z=>z) λ_ _ e _=>s _ _ e
theorem gE.upd {K:ad}{H0 H:Hp}{c:az}{o o':HO}{ks:List (az×List PV×List PV)}(e:H c=some o')(mu:dP o'=true)(h:gE K H0 H ks):gE K H0 (upd H c o) ks:=
 h.keep (.upd e mu λ_ z=>z.elim) λb u e2 m2=>by rw[aJ (λz=>by rw[z,e]at e2;cases e2;rw[mu]at m2;cases m2)];exact e2
noncomputable def qT (K:ad)(H0:Hp)(W:az->Prop)(H:Hp)(v:V):Slot->Prop
 |.sh g x=>aG K (Ms H0 W g) H v x
 |.own x=>∃a,v = .ref a/\W a/\gV K (Ms H0 W true) H a x
 |.kp g x ks=>(aG K (λ_=>False) H v x/\flat x=true)/\gE K (cond g H0 λ_=>none) H ks
structure PX (K:ad)(H0:Hp)(W:az->Prop)(σ:St)(ρ:bT)(H:Hp):Prop where
 len:ρ.length=σ.length
 same:aH H0 H
 wm:∀a,W a->H0 a=none/\∃o,H a=some o/\dP o=true
 sl:∀(i:Nat) (m:Slot),ρ[i]? = some (some m)->∃v,σ[i]? = some (some v)/\qT K H0 W H v m
 dis:∀(i j:Nat) (x y:PV) (a:az),ρ[i]? = some (some (.own x))->ρ[j]? = some (some (.own y))->σ[i]? = some (some (.ref a))->σ[j]? = some (some (.ref a))->i=j
theorem gV.keep {K:ad}{M M':az->Prop}{H H':Hp}{a:az}(k:fC M M' H H')(ha:∀o,H a=some o->H' a=some o):∀{x:PV},gV K M H a x->gV K M' H' a x
 |.lst _,⟨us,e,r⟩=>⟨us,ha _ e,r.keep k⟩
 |.dK _,⟨us,e,q,r⟩=>⟨us,ha _ e,q,r.keep k⟩
 |.dT _,⟨us,e,q,r⟩=>⟨us,ha _ e,q,r.keep k⟩
 |.dA _,⟨us,e,q,r⟩=>⟨us,ha _ e,q,r.keep k⟩
 |.dB _,⟨us,e,q,r⟩=>⟨us,ha _ e,q,r.keep k⟩
theorem gV.at {K:ad}{M:az->Prop}{H:Hp}{a:az}:∀{x:PV},gV K M H a x->∃o,H a=some o/\dP o=true
 |.lst _,⟨us,e,r⟩=>⟨_,e,rfl⟩
 |.dK _,⟨us,e,q,r⟩=>⟨_,e,rfl⟩
 |.dT _,⟨us,e,q,r⟩=>⟨_,e,rfl⟩
 |.dA _,⟨us,e,q,r⟩=>⟨_,e,rfl⟩
 |.dB _,⟨us,e,q,r⟩=>⟨_,e,rfl⟩
theorem gV.rep {K:ad}{M M':az->Prop}{H:Hp}{a:az}(m:∀b,M b->M' b)(ha:M' a):∀{x:PV},gV K M H a x->aG K M' H (.ref a) x
 |.lst _,⟨us,e,r⟩=>.lst ha e (r.same (aH.refl _) m)
 |.dK _,⟨us,e,q,r⟩=>.dK ha e q (r.same (aH.refl _) m)
 |.dT _,⟨us,e,q,r⟩=>.dT ha e q (r.same (aH.refl _) m)
 |.dA _,⟨us,e,q,r⟩=>.dA ha e q (r.same (aH.refl _) m)
 |.dB _,⟨us,e,q,r⟩=>.dB ha e q (r.same (aH.refl _) m)
section
variable {K:ad}{H0:Hp}{W W':az→Prop}{σ:St}{ρ:bT}{H H':Hp}
theorem PX.mono (p:PX K H0 W σ ρ H)(s:aH H H'):PX K H0 W σ ρ H':=by
 refine⟨p.len,p.same.trans s,λa h=>⟨(p.wm a h).1,let ⟨o,e,m⟩:=(p.wm a h).2;⟨o,s _ _ e,m⟩⟩,λi m h=>?_,p.dis⟩
 obtain⟨v,e,r⟩:=p.sl i m h
 refine⟨v,e,?_⟩;cases m with
 |sh g x=>exact aG.same r s λ_ z=>z
 |own x=>
  obtain⟨a,e1,e2,r⟩:=r
  exact⟨a,e1,e2,r.keep (.same s λ_ z=>z) λ_ z=>s _ _ z⟩
 |kp g x ks=>exact⟨⟨r.1.1.same s λ_ z=>z,r.1.2⟩,r.2.same s⟩
theorem PX.new (p:PX K H0 W σ ρ H){a:az}(h:H a=none):¬W a/\H0 a=none:=
 ⟨λz=>(by obtain⟨_,o,e,_⟩:=p.wm a z;rw[h]at e;cases e),p.same.free h⟩
theorem Mg.back {g:Tg}{H1:Hp}(s:aH H H1){a:az}(h:Mg H0 W H1 g a):Mg H0 W H g a:=by
 cases g with
 |fr=>exact s.free h
 |rd=>exact h
 |sh=>exact h
 |nw=>exact h
end
noncomputable abbrev PK:=PV->Tg->Prop
noncomputable abbrev aF:=bT->PK->Prop
noncomputable abbrev cQ:=bT->(Bool->Prop)->Prop
noncomputable abbrev bX:=bT->(List (PV×Tg)->Prop)->Prop
inductive i8 (K:ad)(H0:Hp)(W:az->Prop)(Hs H:Hp):List V->List (PV×Tg)->Prop
 |nil:i8 K H0 W Hs H [] []
 |cons {v:V}{x:PV}{g:Tg}{vs:List V}{xs:List (PV×Tg)}:aG K (Mg H0 W Hs g) H v x->i8 K H0 W Hs H vs xs->i8 K H0 W Hs H (v::vs) ((x,g)::xs)
noncomputable def qU (K:ad)(H0:Hp)(W:az->Prop)(H:Hp)(Q:PK)(Q':VK):Prop:=∀v H' x g,aH H H'->aG K (Mg H0 W H g) H' v x->Q x g->Q' v H'
noncomputable def LE (X:Cx)(t:aF):TE:=λσ H Q'=>∃(W:az->Prop) (ρ:bT) (Q:PK),PX X.K X.H₀ W σ ρ H/\t ρ Q/\qU X.K X.H₀ W H Q Q'
noncomputable def LT (X:Cx)(t:cQ):TT:=λσ H Q'=>∃(W:az->Prop) (ρ:bT) (Q:Bool->Prop),PX X.K X.H₀ W σ ρ H/\t ρ Q/\∀b H',aH H H'->Q b->Q' b H'
noncomputable def LA (X:Cx)(t:bX):TA:=λσ H Q'=>∃(W:az->Prop) (ρ:bT) (Q:List (PV×Tg)->Prop),PX X.K X.H₀ W σ ρ H/\t ρ Q/\∀vs H' xs,aH H H'->i8 X.K X.H₀ W H H' vs xs->Q xs->Q' vs H'
theorem i8.same {K:ad}{H0:Hp}{W:az->Prop}{Hs Hs' H H':Hp}(s:aH H H')(b:aH Hs' Hs):∀{vs:List V}{xs:List (PV×Tg)},i8 K H0 W Hs H vs xs->i8 K H0 W Hs' H' vs xs
 |_,_,.nil=>.nil
 |_,_,.cons r t=>.cons (r.same s λ_ z=>Mg.back b z) (t.same s b)
theorem i8.any {K:ad}{H0:Hp}{W:az->Prop}{Hs H:Hp}:∀{vs:List V}{xs:List (PV×Tg)},i8 K H0 W Hs H vs xs->Reps K (λ_=>True) H vs (xs.map (·.1))
 |_,_,.nil=>.nil
 |_,_,.cons r t=>.cons (r.same (aH.refl _) λ_ _=>trivial) t.any
noncomputable def Nw:Tg->PV->Prop
 |.fr,_=>True
 |.nw,_=>True
 |_,x=>flat x=true
section
variable {K:ad}{H0 Hs H:Hp}{W:az→Prop}{σ:St}{ρ:bT}
theorem Nw.rep {g:Tg}{x:PV}{v:V}(px:PX K H0 W σ ρ Hs)(n:Nw g x)(r:aG K (Mg H0 W Hs g) H v x):aG K (Ms H0 W true) H v x:=by
 cases g with
 |fr=>exact r.same (aH.refl _) λa z=>px.new z
 |nw=>exact r.same (aH.refl _) λa z=>z
 |sh=>exact r.flat n
 |rd=>exact r.flat n
theorem J3 {v:V}{m:Slot}(r:qT K H0 W H v m):aG K (Mg H0 W Hs m.tag) H v m.val:=by
 cases m with
 |sh g x=>
  cases g with
  |true=>exact aG.same r (aH.refl _) λ_ z=>z
  |false=>exact aG.same r (aH.refl _) λ_ z=>z
 |own x=>
  obtain⟨a,rfl,_,r⟩:=r
  exact r.rep (λ_ _=>trivial) trivial
 |kp g x ks=>exact r.1.1.flat r.1.2
end
section
variable {X:Cx}{σ:St}{H:Hp}{Q':VK}{ta tb:aF}
noncomputable def aC (i:Nat):aF:=λρ Q=>∃m,ρ[i]? = some (some m)/\Q m.val m.tag
noncomputable def qC (x:PV):aF:=λ_ Q=>Q x .fr
theorem aw3 {i:Nat}(h:LE X (aC i) σ H Q'):d5 i σ H Q':=by
 obtain⟨W,ρ,Q,px,⟨m,e,q⟩,k⟩:=h
 obtain⟨v,ev,r⟩:=px.sl i m e
 exact⟨v,ev,k v H _ _ (aH.refl _) (J3 r) q⟩
theorem oK {x:PV}{v:V}(hr:∀M,aG X.K M H v x)(h:LE X (qC x) σ H Q'):tC v σ H Q':=by
 obtain⟨W,ρ,Q,px,q,k⟩:=h
 exact k v H _ _ (aH.refl _) (hr _) q
noncomputable def fD (X:Cx)(R:PV->Tg->PV->Tg->PK->Prop)(r:R2):Prop:=∀(W:az->Prop) (Hs H:Hp) (u v:V) (x y:PV) (g g':Tg) (Q:PK) (Q':VK),aH Hs H->
 (∀a,Hs a=none->¬W a/\X.H₀ a=none)->aG X.K (Mg X.H₀ W Hs g) H u x->aG X.K (Mg X.H₀ W Hs g') H v y->R x g y g' Q->(∀w H' z gz,aH H H'->aG X.K (Mg X.H₀ W Hs gz) H' w z->Q z gz->Q' w H')->r u v H Q'
noncomputable def q2 (R:PV->Tg->PV->Tg->PK->Prop)(ta tb:aF):aF:=λρ Q=>ta ρ λx g=>tb ρ λy g'=>R x g y g' Q
theorem qV {R:PV->Tg->PV->Tg->PK->Prop}{r:R2}(c:fD X R r)(h:LE X (q2 R ta tb) σ H Q'):o8 r (LE X ta) (LE X tb) σ H Q':=by
 obtain⟨W,ρ,Q,px,q,k⟩:=h
 refine⟨W,ρ,_,px,q,λu H1 x g s1 r1 q1=>⟨W,ρ,_,px.mono s1,q1,λv H2 y g' s2 r2 q2=>?_⟩⟩;exact c W H H2 u v x y g g' Q Q' (s1.trans s2) (λa z=>px.new z) (r1.same s2 λ_ z=>z) (r2.same (aH.refl _) λ_ z=>Mg.back s1 z) q2 λw H' z gz s3 r3 q3=>k w H' z gz ((s1.trans s2).trans s3) r3 q3
noncomputable def RI (C:Int->Int->Prop)(f:Int->Int->PV):PV->Tg->PV->Tg->PK->Prop:=λx _ y _ Q=>∃i j,x = .int i/\y = .int j/\C i j/\Q (f i j) .fr
noncomputable def eT (f:Int->Int->PV):PV->Tg->PV->Tg->PK->Prop:=λx _ y _ Q=>∃i j,x = .int i/\y = .int j/\Q (f i j) .fr
theorem oM {C:Int->Int->Prop}{f:Int->Int->Int}:fD X (RI C λi j=>.int (f i j)) (rI C λi j=>.int (f i j)):=by
 rintro W Hs H u v x y g g' Q Q' s n r1 r2 ⟨i,j,rfl,rfl,c,q⟩ k;cases r1;cases r2
 exact⟨i,j,rfl,rfl,c,k _ _ _ _ (aH.refl _) (.int _) q⟩
theorem qW {f:Int->Int->Int}:fD X (eT λi j=>.int (f i j)) (i6 λi j=>.int (f i j)):=by
 rintro W Hs H u v x y g g' Q Q' s n r1 r2 ⟨i,j,rfl,rfl,q⟩ k;cases r1;cases r2
 exact⟨i,j,rfl,rfl,k _ _ _ _ (aH.refl _) (.int _) q⟩
theorem uK {f:Int->Int->Bool}:fD X (eT λi j=>.bl (f i j)) (i6 λi j=>.bl (f i j)):=by
 rintro W Hs H u v x y g g' Q Q' s n r1 r2 ⟨i,j,rfl,rfl,q⟩ k;cases r1;cases r2
 exact⟨i,j,rfl,rfl,k _ _ _ _ (aH.refl _) (.bl _) q⟩
noncomputable def kR (neg:Bool):PV->Tg->PV->Tg->PK->Prop:=λx _ y _ Q=>(∃i j,x = .int i/\y = .int j/\Q (.bl (if neg=true then !decide (i=j) else decide (i=j))) .fr)∨(∃i j,x = .bl i/\y = .bl j/\Q (.bl (if neg=true then !decide (i=j) else decide (i=j))) .fr)
theorem J4 (i j:Int):decide (V.int i=V.int j)=decide (i=j):=by
 rw[bq0,bh3,bh3];exact⟨λz=>V.int.inj z,λz=>congrArg V.int z⟩
theorem J5 (i j:Bool):decide (V.bl i=V.bl j)=decide (i=j):=by
 rw[bq0,bh3,bh3];exact⟨λz=>V.bl.inj z,λz=>congrArg V.bl z⟩
theorem J6:fD X (kR false) zM:=by
 rintro W Hs H u v x y g g' Q Q' s n r1 r2 (⟨i,j,rfl,rfl,q⟩|⟨i,j,rfl,rfl,q⟩) k
 ·cases r1;cases r2
  exact⟨rfl,by rw[J4];exact k _ _ _ _ (aH.refl _) (.bl _) q⟩
 ·cases r1;cases r2
  exact⟨rfl,by rw[J5];exact k _ _ _ _ (aH.refl _) (.bl _) q⟩
theorem aw4:fD X (kR true) zN:=by
 rintro W Hs H u v x y g g' Q Q' s n r1 r2 (⟨i,j,rfl,rfl,q⟩|⟨i,j,rfl,rfl,q⟩) k
 ·cases r1;cases r2
  exact⟨rfl,by rw[J4];exact k _ _ _ _ (aH.refl _) (.bl _) q⟩
 ·cases r1;cases r2
  exact⟨rfl,by rw[J5];exact k _ _ _ _ (aH.refl _) (.bl _) q⟩
noncomputable def bN (t:aF):cQ:=λρ Q=>t ρ λx _=>∃b,x = .bl b/\Q b
theorem qX {t:aF}{Q':Bool->Hp->Prop}(h:LT X (bN t) σ H Q'):LE X t σ H λx H'=>∃k,x = .bl k/\Q' k H':=by
 obtain⟨W,ρ,Q,px,q,k⟩:=h
 refine⟨W,ρ,_,px,q,?_⟩;rintro v H1 x g s r ⟨b,rfl,q⟩;cases r
 exact⟨b,rfl,k _ _ s q⟩
noncomputable def qY (t u:cQ):cQ:=λρ Q=>t ρ λc=>if c=true then u ρ Q else Q false
noncomputable def iK (t u:cQ):cQ:=λρ Q=>t ρ λc=>if c=true then Q true else u ρ Q
noncomputable def oN (t:cQ):cQ:=λρ Q=>t ρ λc=>Q (!c)
variable {t u:cQ}{Qb:Bool→Hp→Prop}
theorem aw5 (h:LT X (qY t u) σ H Qb):yZ (LT X t) (LT X u) σ H Qb:=by
 obtain⟨W,ρ,Q,px,q,k⟩:=h
 refine⟨W,ρ,_,px,q,λb H1 s1 q1=>?_⟩;cases b with
 |true=>exact cC ⟨W,ρ,Q,px.mono s1,by simpa using q1,λb H2 s2 q2=>k _ _ (s1.trans s2) q2⟩
 |false=>exact bJ (k _ _ s1 (by simpa using q1))
theorem aw6 (h:LT X (iK t u) σ H Qb):z0 (LT X t) (LT X u) σ H Qb:=by
 obtain⟨W,ρ,Q,px,q,k⟩:=h
 refine⟨W,ρ,_,px,q,λb H1 s1 q1=>?_⟩;cases b with
 |false=>exact bJ ⟨W,ρ,Q,px.mono s1,by simpa using q1,λb H2 s2 q2=>k _ _ (s1.trans s2) q2⟩
 |true=>exact cC (k _ _ s1 (by simpa using q1))
theorem aw7 (h:LT X (oN t) σ H Qb):z9 (LT X t) σ H Qb:=by
 obtain⟨W,ρ,Q,px,q,k⟩:=h
 exact⟨W,ρ,_,px,q,λb H1 s1 q1=>k _ _ s1 q1⟩
noncomputable def qZ (ta tb:aF):aF:=λρ Q=>ta ρ λx _=>∃c,x = .bl c/\if c=true then tb ρ Q else Q (.bl false) .fr
noncomputable def uL (ta:aF):aF:=λρ Q=>ta ρ λx _=>∃c,x = .bl c/\Q (.bl (!c)) .fr
theorem qU.back {K:ad}{H0:Hp}{W:az->Prop}{H H1:Hp}{Q:PK}(k:qU K H0 W H Q Q')(s:aH H H1):qU K H0 W H1 Q Q':=λv H' x g s' r q=>k v H' x g (s.trans s') (r.same (aH.refl _) λ_ z=>Mg.back s z) q
theorem aw8 (h:LE X (qZ ta tb) σ H Q'):zA (LE X ta) (LE X tb) σ H Q':=by
 obtain⟨W,ρ,Q,px,q,k⟩:=h
 refine⟨W,ρ,_,px,q,?_⟩;rintro v H1 x g s1 r ⟨c,rfl,q⟩;cases r;refine⟨c,rfl,?_⟩;cases c with
 |true=>exact cC ⟨W,ρ,Q,px.mono s1,by simpa using q,k.back s1⟩
 |false=>exact bJ (k _ _ _ _ s1 (.bl _) (by simpa using q))
theorem aw9 (h:LE X (uL ta) σ H Q'):zB (LE X ta) σ H Q':=by
 obtain⟨W,ρ,Q,px,q,k⟩:=h
 refine⟨W,ρ,_,px,q,?_⟩;rintro v H1 x g s1 r ⟨c,rfl,q⟩;cases r
 exact⟨c,rfl,k _ _ _ _ s1 (.bl _) q⟩
noncomputable def aM:bX:=λ_ Q=>Q []
noncomputable def aE (te:aF)(tr:bX):bX:=λρ Q=>te ρ λx g=>tr ρ λxs=>Q ((x,g)::xs)
variable {Qa:List V→Hp→Prop}{tr:bX}
theorem J7 (h:LA X aM σ H Qa):iU σ H Qa:=by
 obtain⟨W,ρ,Q,px,q,k⟩:=h
 exact k _ _ _ (aH.refl _) .nil q
theorem ax0 (h:LA X (aE ta tr) σ H Qa):eZ (LE X ta) (LA X tr) σ H Qa:=by
 obtain⟨W,ρ,Q,px,q,k⟩:=h
 refine⟨W,ρ,_,px,q,λv H1 x g s1 r1 q1=>⟨W,ρ,_,px.mono s1,q1,λvs H2 xs s2 r2 q2=>?_⟩⟩;exact k _ _ _ (s1.trans s2) (.cons (r1.same s2 λ_ z=>z) (r2.same (aH.refl _) s1)) q2
noncomputable def fE (t:bX):aF:=λρ Q=>t ρ λxs=>xs.length<=1000/\flats (xs.map (·.1))=true/\Q (.tup (xs.map (·.1))) .fr
noncomputable def mE (t:bX):aF:=λρ Q=>t ρ λxs=>xs.length<=1000/\flats (xs.map (·.1))=true/\Q (.lst (xs.map (·.1))) .fr
theorem i8.length {K:ad}{H0:Hp}{W:az->Prop}{Hs H:Hp}:∀{vs:List V}{xs:List (PV×Tg)},i8 K H0 W Hs H vs xs->vs.length=xs.length
 |_,_,.nil=>rfl
 |_,_,.cons _ t=>congrArg (·+1) t.length
theorem uM {n:Nat}(h:n<=1000):n<=sizeLine:=bp0 (ar9 h)
theorem ax1 (h:LE X (fE tr) σ H Q'):zU (LA X tr) σ H Q':=by
 obtain⟨W,ρ,Q,px,q,k⟩:=h
 refine⟨W,ρ,_,px,q,?_⟩;rintro vs H1 xs s1 r ⟨hl,n,q⟩;refine⟨by rw[r.length];exact uM hl,λp hp=>k _ _ _ .fr (s1.trans (bZ hp _)) (.tup bH ?_) q⟩;exact (r.any.flat n).same (bZ hp _) λ_ z=>z
theorem ax2 (h:LE X (mE tr) σ H Q'):zV (LA X tr) σ H Q':=by
 obtain⟨W,ρ,Q,px,q,k⟩:=h
 refine⟨W,ρ,_,px,q,?_⟩;rintro vs H1 xs s1 r ⟨hl,n,q⟩;refine⟨by rw[r.length];exact uM hl,λp hp=>k _ _ _ .fr (s1.trans (bZ hp _)) (.lst (s1.free hp) bH ?_) q⟩;exact (r.any.flat n).same (bZ hp _) λ_ z=>z
noncomputable def fG (X:Cx)(R:List PV->(PV->Prop)->Prop)(r:List V->Hp->VK->Prop):Prop:=∀(H:Hp) (vs:List V) (xs:List PV) (Q:PV->Prop) (Q':VK),Reps X.K (λ_=>True) H vs xs->R xs Q->
 (∀w H' z,aH H H'->aG X.K (λa=>H a=none) H' w z->Q z->Q' w H')->r vs H Q'
noncomputable def aP (R:List PV->(PV->Prop)->Prop)(t:bX):aF:=λρ Q=>t ρ λxs=>R (xs.map (·.1)) λz=>Q z .fr
theorem J8 {R:List PV->(PV->Prop)->Prop}{r:List V->Hp->VK->Prop}(c:fG X R r)(h:LE X (aP R tr) σ H Q'):tW r (LA X tr) σ H Q':=by
 obtain⟨W,ρ,Q,px,q,k⟩:=h
 refine⟨W,ρ,_,px,q,λvs H1 xs s1 r1 q1=>c H1 vs _ _ Q' r1.any q1 λw H' z s2 r2 q2=>k w H' z .fr (s1.trans s2) (r2.same (aH.refl _) λ_ z=>s1.free z) q2⟩
end
structure r6 where
 nx:bT->Prop
 rt:PV->Prop
 bk:bT->Prop:=λ_=>False
 ct:bT->Prop:=λ_=>False
noncomputable abbrev aY:=r6->bT->Prop
noncomputable def Ev (W:az->Prop)(H:Hp)(W':az->Prop)(H':Hp):Prop:=∀b o,H b=some o->¬W b->J2 o=false->H' b=some o/\¬W' b
theorem Ev.trans {W W1 W2:az->Prop}{H H1 H2:Hp}(a:Ev W H W1 H1)(b:Ev W1 H1 W2 H2):Ev W H W2 H2:=λc o h n z=>let ⟨h1,n1⟩:=a c o h n z;b c o h1 n1 z
theorem Ev.same {W:az->Prop}{H H':Hp}(s:aH H H'):Ev W H W H':=λc o h n _=>⟨s _ _ h,n⟩
theorem Ev.refl (W:az->Prop)(H:Hp):Ev W H W H:=Ev.same (aH.refl _)
structure r9 (X:Cx)(W:az->Prop)(H:Hp)(D':r6)(D:dX):Prop where
 nx:∀W' σ' H' ρ',Ev W H W' H'->PX X.K X.H₀ W' σ' ρ' H'->D'.nx ρ'->D.nx σ' H'
 rt:∀v H' x,aH X.H₀ H'->aG X.K (λa=>X.H₀ a=none) H' v x->D'.rt x->D.rt v H'
 bk:∀W' σ' H' ρ',Ev W H W' H'->PX X.K X.H₀ W' σ' ρ' H'->D'.bk ρ'->D.bk σ' H'
 ct:∀W' σ' H' ρ',Ev W H W' H'->PX X.K X.H₀ W' σ' ρ' H'->D'.ct ρ'->D.ct σ' H'
theorem r9.step {X:Cx}{W W1:az->Prop}{H H1:Hp}{D':r6}{D:dX}(k:r9 X W H D' D)(e:Ev W H W1 H1):r9 X W1 H1 D' D:=
 ⟨λW' σ' H' ρ' e'=>k.nx W' σ' H' ρ' (e.trans e'),k.rt,λW' σ' H' ρ' e'=>k.bk W' σ' H' ρ' (e.trans e'),λW' σ' H' ρ' e'=>k.ct W' σ' H' ρ' (e.trans e')⟩
noncomputable def LS (X:Cx)(t:aY):TS:=λD σ H=>∃(W:az->Prop) (ρ:bT) (D':r6),PX X.K X.H₀ W σ ρ H/\t D' ρ/\r9 X W H D' D
theorem gF {α:Type}{l:List α}{i j:Nat}{a b:α}(h:(l.set i a)[j]? = some b):(j=i/\i<l.length/\b=a)∨(j≠i/\l[j]? = some b):=by
 by_cases e:j=i
 ·subst e
  have hl:j<(l.set j a).length:=(bf7.mp h).1;rw[bn1]at hl;rw[bm2 hl]at h;exact .inl ⟨rfl,hl,(bf6 h).symm⟩
 ·rw[bh5 (Ne.symm e)]at h
  exact .inr ⟨e,h⟩
section
variable {K:ad}{H0:Hp}{W W':az→Prop}{σ:St}{ρ:bT}{H H' Hs:Hp}
theorem PX.setSh {i:Nat}{v:V}{g:Bool}{x:PV}(p:PX K H0 W σ ρ H)(r:aG K (Ms H0 W g) H v x):PX K H0 W (σ.set i (some v)) (ρ.set i (some (.sh g x))) H:=by
 refine⟨by rw[bn1,bn1];exact p.len,p.same,p.wm,λj m h=>?_,λj k y z a h1 h2 h3 h4=>?_⟩
 ·rcases gF h with⟨rfl,hl,e⟩|⟨hne,h⟩
  ·cases e
   rw[p.len]at hl
   exact⟨v,bm2 hl,r⟩
  ·obtain⟨u,e,q⟩:=p.sl j m h
   exact⟨u,by rw[bh5 (Ne.symm hne)];exact e,q⟩
 ·rcases gF h1 with⟨_,_,e⟩|⟨n1,h1⟩
  ·cases e
  ·rcases gF h2 with⟨_,_,e⟩|⟨n2,h2⟩
   ·cases e
   ·rw[bh5 (Ne.symm n1)]at h3
    rw[bh5 (Ne.symm n2)]at h4;exact p.dis j k y z a h1 h2 h3 h4
noncomputable def mF (W:az->Prop)(a:az):az->Prop:=λb=>W b∨b=a
theorem rA {g:Bool}{a b:az}(n:b≠a)(h:Ms H0 W g b):Ms H0 (mF W a) g b:=by
 cases g with
 |true=>exact⟨λz=>z.elim h.1 n,h.2⟩
 |false=>exact λz=>z.elim h n
theorem PX.setOwn {i:Nat}{a:az}{x:PV}(p:PX K H0 W σ ρ Hs)(s:aH Hs H)(ha:Hs a=none)(r:gV K (Ms H0 (mF W a) true) H a x):PX K H0 (mF W a) (σ.set i (some (.ref a))) (ρ.set i (some (.own x))) H:=by
 have old:∀b o,Hs b=some o->b≠a:=λb o e z=>by rw[z,ha]at e;cases e
 have kp:∀g,fC (Ms H0 W g) (Ms H0 (mF W a) g) Hs H:=λg=>⟨λb _ m e=>⟨rA (old _ _ e) m,s _ _ e⟩,λb _ m e=>⟨rA (old _ _ e) m,s _ _ e⟩,λb _ m e=>⟨rA (old _ _ e) m,s _ _ e⟩,λ_ _ e=>s _ _ e,λ_ _ _ e _=>s _ _ e,λb _ _ m e=>⟨rA (old _ _ e) m,s _ _ e⟩⟩
 have wa:¬W a:=(p.new ha).1;refine⟨by rw[bn1,bn1];exact p.len,p.same.trans s,λb z=>?_,λj m h=>?_,λj k y z b h1 h2 h3 h4=>?_⟩
 ·rcases z with z|rfl
  ·obtain⟨h1,o,h2,h3⟩:=p.wm b z
   exact⟨h1,o,s _ _ h2,h3⟩
  ·exact⟨(p.new ha).2,r.at⟩
 ·rcases gF h with⟨rfl,hl,e⟩|⟨hne,h⟩
  ·cases e
   rw[p.len]at hl
   exact⟨_,bm2 hl,a,rfl,.inr rfl,r⟩
  ·obtain⟨u,e,q⟩:=p.sl j m h
   refine⟨u,by rw[bh5 (Ne.symm hne)];exact e,?_⟩;cases m with
   |sh g y=>exact aG.keep (kp g) q
   |own y=>
    obtain⟨b,e1,e2,q⟩:=q
    exact⟨b,e1,.inl e2,q.keep (kp true) λo z=>s _ _ z⟩
   |kp g c ks=>exact⟨⟨q.1.1.same s λ_ z=>z,q.1.2⟩,q.2.same s⟩
 ·have ne:∀{j:Nat}{y:PV},ρ[j]? = some (some (.own y))->σ[j]?≠some (some (.ref a)):=λ{j y} h1 h2=>by
   obtain⟨u,e,c,e1,e2,_⟩:=p.sl j _ h1
   rw[h2]at e;cases e;cases e1;exact wa e2
  rcases gF h1 with⟨e1,l1,_⟩|⟨n1,h1⟩
  ·rcases gF h2 with⟨e2,_,_⟩|⟨n2,h2⟩
   ·rw[e1,e2]
   ·rw[e1,bm2 (by rw[<- p.len];exact l1)]at h3
    rw[bh5 (Ne.symm n2)]at h4;cases h3;exact absurd h4 (ne h2)
  ·rw[bh5 (Ne.symm n1)]at h3
   rcases gF h2 with⟨e2,l2,_⟩|⟨n2,h2⟩
   ·rw[e2,bm2 (by rw[<- p.len];exact l2)]at h4
    cases h4;exact absurd h3 (ne h1)
   ·rw[bh5 (Ne.symm n2)]at h4
    exact p.dis j k y z b h1 h2 h3 h4
theorem Ev.own {a:az}(s:aH Hs H)(ha:Hs a=none):Ev W Hs (mF W a) H:=λb o e n _=>⟨s _ _ e,λz=>z.elim n λz=>by rw[z,ha]at e;cases e⟩
theorem jQ {g:Bool}{a b:az}(wa:W a)(h:Ms H0 W g b):b≠a:=by
 cases g with
 |true=>exact λz=>h.1 (by rw[z];exact wa)
 |false=>exact λz=>h (by rw[z];exact wa)
theorem PX.updOwn {i:Nat}{a:az}{x y:PV}{o:HO}(p:PX K H0 W σ ρ H)(hi:ρ[i]? = some (some (.own x)))(ha:σ[i]? = some (some (.ref a)))(wa:W a)(mu:dP o=true)(r:gV K (Ms H0 W true) (upd H a o) a y) :
  PX K H0 W σ (ρ.set i (some (.own y))) (upd H a o):=by
 obtain⟨w0,o',e',mu'⟩:=p.wm a wa
 have kp:∀g,fC (Ms H0 W g) (Ms H0 W g) H (upd H a o):=λg=>.upd e' mu' λb m=>⟨jQ wa m,m⟩
 refine⟨by rw[bn1];exact p.len,λb u e=>by rw[aJ (λz=>by rw[z,w0]at e;cases e)];exact p.same _ _ e,λb z=>?_,λj m h=>?_,λj k y' z b h1 h2 h3 h4=>?_⟩
 ·by_cases e:b=a
  ·subst e;exact⟨w0,o,bH,mu⟩
  ·obtain⟨h1,o2,h2,h3⟩:=p.wm b z
   exact⟨h1,o2,by rw[aJ e];exact h2,h3⟩
 ·rcases gF h with⟨rfl,hl,e⟩|⟨hne,h⟩
  ·cases e
   exact⟨_,ha,a,rfl,wa,r⟩
  ·obtain⟨u,e,q⟩:=p.sl j m h
   refine⟨u,e,?_⟩;cases m with
   |sh g y=>exact aG.keep (kp g) q
   |own y=>
    obtain⟨b,e1,e2,q⟩:=q
    have hb:b≠a:=λz=>by
     subst e1;rw[z]at e;exact hne (p.dis j i _ _ a h hi e ha)
    exact⟨b,e1,e2,q.keep (kp true) λo z=>by rw[aJ hb];exact z⟩
   |kp g c ks=>exact⟨⟨q.1.1.keep (.upd e' mu' λ_ z=>z.elim),q.1.2⟩,q.2.upd e' mu'⟩
 ·have g1:∃y,ρ[j]? = some (some (.own y)):=by
   rcases gF h1 with⟨e,_,_⟩|⟨_,h⟩
   ·exact⟨x,by rw[e];exact hi⟩
   ·exact⟨_,h⟩
  have g2:∃y,ρ[k]? = some (some (.own y)):=by
   rcases gF h2 with⟨e,_,_⟩|⟨_,h⟩
   ·exact⟨x,by rw[e];exact hi⟩
   ·exact⟨_,h⟩
  obtain⟨y1,g1⟩:=g1
  obtain⟨y2,g2⟩:=g2
  exact p.dis j k y1 y2 b g1 g2 h3 h4
theorem Ev.upd {a:az}{o:HO}(wa:W a):Ev W H W (upd H a o):=λb u e n _=>⟨by rw[aJ (λz=>n (by rw[z];exact wa))];exact e,n⟩
noncomputable def mG (W:az->Prop)(a:az):az->Prop:=λb=>W b/\b≠a
theorem J9 {g:Bool}{a b:az}(h:Ms H0 W g b):Ms H0 (mG W a) g b:=by
 cases g with
 |true=>exact⟨λz=>h.1 z.1,h.2⟩
 |false=>exact λz=>h z.1
end
section
variable {X:Cx}{σ:St}{H:Hp}{D:dX}{te:aF}{t u:aY}
noncomputable def dF:aY:=λD ρ=>D.nx ρ
noncomputable def bC (t u:aY):aY:=λD ρ=>t { D with nx:=u D } ρ
theorem ax3 (h:LS X dF D σ H):zC D σ H:=by
 obtain⟨W,ρ,D',px,q,k⟩:=h
 exact k.nx W σ H ρ (Ev.refl _ _) px q
theorem ax4 (h:LS X (bC t u) D σ H):zD (LS X t) (LS X u) D σ H:=by
 obtain⟨W,ρ,D',px,q,k⟩:=h
 exact⟨W,ρ,_,px,q,λW' σ' H' ρ' e px' q'=>⟨W',ρ',D',px',q',k.step e⟩,k.rt,k.bk,k.ct⟩
noncomputable def K0:Tg->PV->Bool
 |.fr,_=>true
 |.nw,_=>true
 |_,x=>flat x
noncomputable def K1:Tg->PV->Prop
 |.rd,x=>flat x=true
 |_,_=>True
theorem ax5 {K:ad}{H0 Hs H:Hp}{W:az->Prop}{σ:St}{ρ:bT}{g:Tg}{x:PV}{v:V}(px:PX K H0 W σ ρ Hs)(n:K1 g x)(r:aG K (Mg H0 W Hs g) H v x):aG K (Ms H0 W (K0 g x)) H v x:=by
 cases g with
 |fr=>exact Nw.rep (g:=.fr) px trivial r
 |nw=>exact Nw.rep (g:=.nw) px trivial r
 |sh=>
  show aG K (Ms H0 W (flat x)) H v x;cases e:flat x with
  |true=>exact r.flat e
  |false=>exact r.same (aH.refl _) λ_ z=>z
 |rd=>exact r.flat n
noncomputable def cR (i:Nat)(te:aF):aY:=λD ρ=>te ρ λx g=>K1 g x/\D.nx (ρ.set i (some (.sh (K0 g x) x)))
theorem K2 {i:Nat}(h:LS X (cR i te) D σ H):kI (LE X te) (dM i) D σ H:=by
 obtain⟨W,ρ,D',px,q,k⟩:=h
 refine⟨W,ρ,_,px,q,?_⟩;rintro v H1 x g s r ⟨n,q⟩;exact k.nx W _ H1 _ (Ev.same s) ((px.mono s).setSh (ax5 px n r)) q
noncomputable def K3:PV->Bool
 |.lst xs=>flats xs
 |.dK ps=>flats (ps.map (·.2))
 |.dT ps=>flats (ps.map (·.2))
 |_=>false
theorem ax6 {K:ad}{M:az->Prop}{H:Hp}{v:V}{x:PV}(r:aG K M H v x)(o:K3 x=true):∃a,v = .ref a/\M a/\∀M',gV K M' H a x:=by
 cases r with
 |lst m e r=>exact⟨_,rfl,m,λ_=>⟨_,e,r.flat o⟩⟩
 |dK m e q r=>exact⟨_,rfl,m,λ_=>⟨_,e,q,r.flat o⟩⟩
 |dT m e q r=>exact⟨_,rfl,m,λ_=>⟨_,e,q,r.flat o⟩⟩
 |_=>cases o
noncomputable def uN (i:Nat)(te:aF):aY:=λD ρ=>te ρ λx g=>g = .fr/\K3 x=true/\D.nx (ρ.set i (some (.own x)))
theorem ax7 {i:Nat}(h:LS X (uN i te) D σ H):kI (LE X te) (dM i) D σ H:=by
 obtain⟨W,ρ,D',px,q,k⟩:=h
 refine⟨W,ρ,_,px,q,?_⟩;rintro v H1 x g s r ⟨rfl,o,q⟩
 obtain⟨a,rfl,m,w⟩:=ax6 r o
 exact k.nx _ _ H1 _ (Ev.own s m) (px.setOwn s m (w _)) q
noncomputable def jR (te:aF):aY:=λD ρ=>te ρ λ_ _=>D.nx ρ
theorem ax8 (h:LS X (jR te) D σ H):o5 (LE X te) D σ H:=by
 obtain⟨W,ρ,D',px,q,k⟩:=h
 exact⟨W,ρ,_,px,q,λv H1 x g s r q=>k.nx W σ H1 ρ (Ev.same s) (px.mono s) q⟩
noncomputable def cL (te:aF):aY:=λD ρ=>te ρ λx g=>Nw g x/\D.rt x
theorem ax9 (h:LS X (cL te) D σ H):tI (LE X te) D σ H:=by
 obtain⟨W,ρ,D',px,q,k⟩:=h
 refine⟨W,ρ,_,px,q,?_⟩;rintro v H1 x g s r ⟨n,q⟩;exact k.rt v H1 x (px.same.trans s) ((Nw.rep px n r).same (aH.refl _) λ_ z=>z.2) q
noncomputable def Slot.nw:Slot->Prop
 |.own _=>True
 |.kp _ _ _=>True
 |.sh true _=>True
 |.sh false x=>flat x=true
noncomputable def rB (i:Nat):aY:=λD ρ=>∃m,ρ[i]? = some (some m)/\m.nw/\D.rt m.val
theorem ay0 {i:Nat}(h:LS X (rB i) D σ H):tI (d5 i) D σ H:=by
 obtain⟨W,ρ,D',px,⟨m,hi,n,q⟩,k⟩:=h
 obtain⟨v,ev,r⟩:=px.sl i _ hi
 refine⟨v,ev,k.rt v H _ px.same ?_ q⟩;cases m with
 |own x=>
  obtain⟨a,rfl,wa,r⟩:=r
  exact r.rep (λ_ z=>z.2) (px.wm a wa).1
 |sh g x=>
  cases g with
  |true=>exact aG.same r (aH.refl _) λ_ z=>z.2
  |false=>exact aG.flat n r
 |kp g x ks=>exact r.1.1.flat r.1.2
noncomputable def dG (c:cQ)(t u:aY):aY:=λD ρ=>c ρ λb=>if b=true then t D ρ else u D ρ
theorem ay1 {c:cQ}(h:LS X (dG c t u) D σ H):pZ (LT X c) (LS X t) (LS X u) D σ H:=by
 obtain⟨W,ρ,D',px,q,k⟩:=h
 refine⟨W,ρ,_,px,q,λb H1 s q1=>?_⟩;cases b with
 |true=>exact cC ⟨W,ρ,D',px.mono s,by simpa using q1,k.step (Ev.same s)⟩
 |false=>exact bJ ⟨W,ρ,D',px.mono s,by simpa using q1,k.step (Ev.same s)⟩
noncomputable def rC (c:cQ)(tb:aY):aY:=λD ρ=>∃I:Nat->bT->Prop,(∃m,I m ρ)/\∀m ρ',I m ρ'->c ρ' λb=>if b=true then tb { D with nx:=λρ2=>∃m',m'<m/\I m' ρ2,ct:=λρ2=>∃m',m'<m/\I m' ρ2,bk:=D.nx } ρ' else D.nx ρ'
theorem ay2 {c:cQ}{tb:aY}(h:LS X (rC c tb) D σ H):zH (LT X c) (LS X tb) D σ H:=by
 obtain⟨W,ρ,D',px,⟨I,⟨m0,i0⟩,turn⟩,k⟩:=h
 refine⟨λm σ2 H2=>∃W2 ρ2,PX X.K X.H₀ W2 σ2 ρ2 H2/\Ev W H W2 H2/\I m ρ2,⟨m0,W,ρ,px,Ev.refl _ _,i0⟩,?_⟩;rintro m σ2 H2 ⟨W2,ρ2,px2,e2,i2⟩;refine⟨W2,ρ2,_,px2,turn m ρ2 i2,λb H3 s3 q3=>?_⟩;cases b with
 |true=>
  refine cC ⟨λσ4 H4=>∃W4 ρ4,PX X.K X.H₀ W4 σ4 ρ4 H4/\Ev W H W4 H4/\∃m',m'<m/\I m' ρ4,λσ4 H4 ⟨W4,ρ4,a,b,m',c,d⟩=>⟨m',c,W4,ρ4,a,b,d⟩,W2,ρ2,_,px2.mono s3,by simpa using q3,?_⟩;have e3:Ev W H W2 H3:=e2.trans (Ev.same s3)
  exact⟨λW' σ' H' ρ' e p q=>⟨W',ρ',p,e3.trans e,q⟩,k.rt,λW' σ' H' ρ' e p q=>k.nx W' σ' H' ρ' (e3.trans e) p q,λW' σ' H' ρ' e p q=>⟨W',ρ',p,e3.trans e,q⟩⟩
 |false=>exact bJ (k.nx W2 σ2 H3 ρ2 (e2.trans (Ev.same s3)) (px2.mono s3) (by simpa using q3))
end
theorem lim {n:Nat}(h:n<=16000000):n<=sizeLine:=bp0 (kN h)
theorem aG.sqT {K:ad}{M:az->Prop}{H:Hp}{v:V}{xs:List PV}(r:aG K M H v (.tup xs)):∃a us,v = .ref a/\H a=some (.tup us)/\Reps K M H us xs:=by
 cases r with
 |tup e r=>exact⟨_,_,rfl,e,r⟩
theorem aG.sqL {K:ad}{M:az->Prop}{H:Hp}{v:V}{xs:List PV}(r:aG K M H v (.lst xs)):∃a us,v = .ref a/\M a/\H a=some (.lst us)/\Reps K M H us xs:=by
 cases r with
 |lst m e r=>exact⟨_,_,rfl,m,e,r⟩
theorem iY.sqL {K:ad}{H:Hp}{a:az}{ns:ag}(h:iY K H a ns):aZ K H a (ns.map V.int):=h.elim (λz=>.inl (.inr z)) .inr
noncomputable def kS:PV->Option (List PV)
 |.tup xs=>some xs
 |.lst xs=>some xs
 |.scr ns=>some (intz ns)
 |.kt xs=>some xs
 |.fL xs=>some xs
 |_=>none
theorem aG.seq {K:ad}{M:az->Prop}{H:Hp}{v:V}{x:PV}{xs:List PV}(r:aG K M H v x)(e:kS x=some xs):∃a us,v = .ref a/\(aZ K H a us∨aR K H a us)/\Reps K M H us xs:=by
 cases r with
 |tup h r=>cases e;exact⟨_,_,rfl,.inr (aR.of h),r⟩
 |lst m h r=>cases e;exact⟨_,_,rfl,.inl (aZ.of h),r⟩
 |scr h=>cases e;exact⟨_,_,rfl,.inl h.sqL,Reps.intz _⟩
 |kt h r=>cases e;exact⟨_,_,rfl,.inr (.inr h),r⟩
 |fL h r=>cases e;exact⟨_,_,rfl,.inl (.inl (.inr ⟨_,h⟩)),r⟩
 |_=>cases e
section
variable {X:Cx}{σ:St}{H:Hp}{D:dX}{te ti to:aF}{t u:aY}{Q':VK}
theorem _root_.PP.PX.updL {K:ad}{H0:Hp}{W:az->Prop}{σ:St}{ρ:bT}{H:Hp}{i:Nat}{a:az}{x:PV}{us:List V}{ys:List PV}(p:PX K H0 W σ ρ H)(hi:ρ[i]? = some (some (.own x)))(ha:σ[i]? = some (some (.ref a)))(wa:W a)(r:Reps K (Ms H0 W true) (upd H a (.lst us)) us ys) :
  PX K H0 W σ (ρ.set i (some (.own (.lst ys)))) (upd H a (.lst us)):=p.updOwn hi ha wa rfl (y:=.lst ys) ⟨us,bH,r⟩
noncomputable def K4 (K:ad):V->List V->Hp->VK->Prop:=λx vs H Q=>B8 x vs H Q∨G0 K x vs H Q
noncomputable def uO (i:Nat)(te:aF):aY:=λD ρ=>∃xs,ρ[i]? = some (some (.own (.lst xs)))/\te ρ λy g=>∃ys,(y = .tup ys∨y = .lst ys)/\(Nw g y∨flats ys=true)/\xs.length+ys.length<=16000000/\D.nx (ρ.set i (some (.own (.lst (xs++ys)))))
theorem ay3 {i:Nat}(h:LS X (uO i te) D σ H):o5 (B7 X.K "list" (K4 X.K) (d5 i) (eZ (LE X te) iU)) D σ H:=by
 obtain⟨W,ρ,D',px,⟨xs,hi,q⟩,k⟩:=h
 obtain⟨v,ev,a,rfl,wa,us,ea,r⟩:=px.sl i _ hi
 refine⟨_,ev,E4 (aZ.of ea),W,ρ,_,px,q,?_⟩;rintro w H1 y g s ry ⟨ys,hy,n,hl,q⟩;have ea1:=s _ _ ea;have key:∀(zs:List V),Reps X.K (Ms X.H₀ W true) H1 zs ys->D.nx σ (upd H1 a (.lst (us++zs))):=λzs rz=>by
  refine k.nx W σ _ _ ((Ev.same s).trans (Ev.upd wa)) ((px.mono s).updL hi ev wa ?_) q;exact ((r.same s λ_ z=>z).append rz).keep (.upd ea1 rfl λb m=>⟨jQ wa m,m⟩)
 have lr:=r.length;rcases hy with rfl|rfl
 ·obtain⟨b,zs,rfl,eb,rz⟩:=ry.sqT
  have lz:=rz.length;refine .inr ⟨a,b,us,zs,rfl,rfl,ea1,aR.of eb,lim (by omega),key zs ?_⟩;rcases n with n|n
  ·obtain⟨b',zs',e1,e2,rz'⟩:=(Nw.rep px n ry).sqT
   cases e1;rw[eb]at e2;cases e2;exact rz'
  ·exact rz.flat n
 ·obtain⟨b,zs,rfl,_,eb,rz⟩:=ry.sqL
  have lz:=rz.length;refine .inl ⟨a,b,us,zs,rfl,rfl,ea1,eb,lim (by omega),key zs ?_⟩;rcases n with n|n
  ·obtain⟨b',zs',e1,_,e2,rz'⟩:=(Nw.rep px n ry).sqL
   cases e1;rw[eb]at e2;cases e2;exact rz'
  ·exact rz.flat n
noncomputable def uP (i j:Nat):aY:=λD ρ=>∃xs y,ρ[i]? = some (some (.own (.lst (xs++[y]))))/\D.nx ((ρ.set i (some (.own (.lst xs)))).set j (some (.sh true y)))
theorem Reps.snoc_inv {K:ad}{M:az->Prop}{H:Hp}{us:List V}{xs:List PV}{y:PV}(r:Reps K M H us (xs++[y])):∃vs v,us=vs++[v]/\Reps K M H vs xs/\aG K M H v y:=by
 have l:=r.length;have h1:=r.take xs.length;have h2:=r.drop xs.length;rw[List.take_left]at h1;rw[List.drop_left]at h2;generalize hd:us.drop xs.length=ds at h2;cases h2 with
 |cons q t=>
  cases t
  exact⟨_,_,by rw[<- hd,List.take_append_drop],h1,q⟩
theorem ay4 {i j:Nat}(h:LS X (uP i j) D σ H):kI (B6 X.K "list" B9 (d5 i)) (dM j) D σ H:=by
 obtain⟨W,ρ,D',px,⟨xs,y,hi,q⟩,k⟩:=h
 obtain⟨v,ev,a,rfl,wa,us,ea,r⟩:=px.sl i _ hi
 obtain⟨vs,w,rfl,r1,ry⟩:=r.snoc_inv
 refine⟨_,ev,E4 (aZ.of ea),a,_,w,rfl,rfl,ea,by simp,?_⟩;rw[List.dropLast_concat];have kp:fC (Ms X.H₀ W true) (Ms X.H₀ W true) H (upd H a (.lst vs)):=.upd ea rfl λb m=>⟨jQ wa m,m⟩
 exact k.nx W _ _ _ (Ev.upd wa) ((px.updL hi ev wa (r1.keep kp)).setSh (ry.keep kp)) q
end
theorem Reps.atI {K:ad}{M:az->Prop}{H:Hp}{us:List V}{xs:List PV}{i:Int}{z:PV}(r:Reps K M H us xs)(h:L2.atI xs i=some z):∃v,L2.atI us i=some v/\aG K M H v z:=by
 unfold L2.atI at h ⊢;rw[r.length];cases e:iJ xs.length i with
 |none=>rw[e]at h;cases h
 |some j=>rw[e]at h;exact r.at h
section
variable {X:Cx}{σ:St}{H:Hp}{Q':VK}{ta tb te:aF}{tr:bX}
noncomputable def uQ:PV->Tg->PV->Tg->PK->Prop:=λx g y _ Q=>∃xs i z,kS x=some xs/\y = .int i/\L2.atI xs i=some z/\Q z g
theorem ay5:fD X uQ (B4 X.K):=by
 rintro W Hs H u v x y g g' Q Q' s n r1 r2 ⟨xs,i,z,e,rfl,hz,q⟩ k;cases r2
 obtain⟨a,us,rfl,hs,r⟩:=r1.seq e
 obtain⟨v,hv,rv⟩:=r.atI hz
 rcases hs with hs|hs
 ·exact .inl ⟨a,us,i,v,rfl,rfl,hs,hv,k v H z g (aH.refl _) rv q⟩
 ·exact .inr (.inl ⟨a,us,i,v,rfl,rfl,hs,hv,k v H z g (aH.refl _) rv q⟩)
noncomputable def mH:PV->Option Nat
 |.tup xs=>some xs.length
 |.lst xs=>some xs.length
 |.scr ns=>some ns.length
 |.dK ps=>some ps.length
 |.kt xs=>some xs.length
 |.fL xs=>some xs.length
 |_=>none
noncomputable def e9:List PV->(PV->Prop)->Prop:=λxs Q=>∃x n,xs = [x]/\mH x=some n/\Q (.int n)
theorem Reps.one {K:ad}{M:az->Prop}{H:Hp}{vs:List V}{x:PV}(r:Reps K M H vs [x]):∃v,vs = [v]/\aG K M H v x:=by
 cases r with
 |cons r t=>cases t;exact⟨_,rfl,r⟩
theorem Reps.two {K:ad}{M:az->Prop}{H:Hp}{vs:List V}{x y:PV}(r:Reps K M H vs [x,y]):∃v w,vs = [v,w]/\aG K M H v x/\aG K M H w y:=by
 cases r with
 |cons r t=>
  obtain⟨w,rfl,q⟩:=t.one
  exact⟨_,_,rfl,r,q⟩
theorem ay6:fG X e9 (λxs H Q=>(∃p ys,xs = [.ref p]/\(aZ X.K H p ys∨aR X.K H p ys)/\Q (.int ys.length) H)∨∃a kvs,xs = [V.ref a]/\H a=some (.dK kvs)/\Q (.int kvs.length) H):=by
 rintro H vs xs Q Q' r ⟨x,n,rfl,e,q⟩ k
 obtain⟨v,rfl,r1⟩:=r.one
 have fin:∀{m:Nat},m=n->Q' (.int m) H:=λ{m} z=>by rw[z];exact k _ _ _ (aH.refl _) (.int _) q
 cases r1 with
 |tup h r2=>cases e;exact .inl ⟨_,_,rfl,.inr (aR.of h),fin r2.length⟩
 |lst m h r2=>cases e;exact .inl ⟨_,_,rfl,.inl (aZ.of h),fin r2.length⟩
 |scr h=>cases e;exact .inl ⟨_,_,rfl,.inl h.sqL,fin (by rw[be0])⟩
 |kt h r2=>cases e;exact .inl ⟨_,_,rfl,.inr (.inr h),fin r2.length⟩
 |fL h r2=>cases e;exact .inl ⟨_,_,rfl,.inl (.inl (.inr ⟨_,h⟩)),fin r2.length⟩
 |dK m h e' r=>
  cases e;refine .inr ⟨_,_,rfl,h,fin ?_⟩
  have:=congrArg List.length e'
  rw[be0,be0]at this;exact this
 |_=>cases e
noncomputable def K5:PV->Option (List PV)
 |.kt _=>none
 |x=>kS x
noncomputable def K6:List PV->(PV->Prop)->Prop:=λxs Q=>∃x ys,xs = [x]/\K5 x=some ys/\flats ys=true/\Q (.tup ys)
theorem ay7:fG X (λxs Q=>K6 xs Q/\∀ns,xs≠[.scr ns]) (λxs H Q=>∃p ys,xs = [.ref p]/\((aZ X.K H p ys/\∀l,H l=none->Q (.ref l) (upd H l (.tup ys)))∨(aR X.K H p ys/\Q (.ref p) H))):=by
 rintro H vs xs Q Q' r ⟨⟨x,ys,rfl,e,f,q⟩,nsc⟩ k
 obtain⟨v,rfl,r1⟩:=r.one
 cases r1 with
 |tup h r2=>cases e;exact⟨_,_,rfl,.inr ⟨aR.of h,k _ _ _ (aH.refl _) (.tup h (r2.flat f)) q⟩⟩
 |lst m h r2=>cases e;exact⟨_,_,rfl,.inl ⟨aZ.of h,λl hl=>k _ _ _ (bZ hl _) (.tup bH ((r2.flat f).same (bZ hl _) λ_ z=>z)) q⟩⟩
 |scr h=>exact absurd rfl (nsc _)
 |fL h r2=>cases e;exact⟨_,_,rfl,.inl ⟨.inl (.inr ⟨_,h⟩),λl hl=>k _ _ _ (bZ hl _) (.tup bH ((r2.flat f).same (bZ hl _) λ_ z=>z)) q⟩⟩
 |_=>cases e
noncomputable abbrev b7:=List PV->(PV->Prop)->Prop
noncomputable def iZ (K:ad)(p:b7):Sp:=λvs H Q _=>∃xs Qp,Reps K (λ_=>True) H vs xs/\p xs Qp/\∀v H' x,aH H H'->aG K (λa=>H a=none) H' v x->Qp x->Q v H'
theorem ay8 {p:b7}{E:XK}(h:LE X (aP p tr) σ H Q'):kJ (iZ X.K p) [] E (LA X tr) σ H Q':=by
 obtain⟨W,ρ,Q,px,q,k⟩:=h
 refine⟨W,ρ,_,px,q,λvs H1 xs s1 r1 q1=>⟨_,_,by rw[bm1];exact r1.any,q1,λv H' x s2 r2 q2=>k v H' x .fr (s1.trans s2) (r2.same (aH.refl _) λ_ z=>s1.free z) q2⟩⟩
noncomputable def ay9:PV->Option Bool
 |.non=>some false
 |.bl b=>some b
 |.int i=>some (i != 0)
 |.tup xs=>some (!xs.isEmpty)
 |.lst xs=>some (!xs.isEmpty)
 |.dK ps=>some (!ps.isEmpty)
 |_=>none
noncomputable def mI (t:aF):cQ:=λρ Q=>t ρ λx _=>∃b,ay9 x=some b/\Q b
theorem uR {α β:Type}:∀{l:List α}{m:List β},l.length=m.length->l.isEmpty=m.isEmpty
 |[],[],_=>rfl
 |_::_,_::_,_=>rfl
theorem az0 {t:aF}{Qb:Bool->Hp->Prop}(h:LT X (mI t) σ H Qb):LE X t σ H λx H'=>∃k,tQ X.K x H' k/\Qb k H':=by
 obtain⟨W,ρ,Q,px,q,k⟩:=h
 refine⟨W,ρ,_,px,q,?_⟩;rintro v H1 x g s r ⟨b,e,q⟩;refine⟨b,?_,k _ _ s q⟩;cases r with
 |non=>cases e;rfl
 |bl b=>cases e;rfl
 |int i=>cases e;rfl
 |str x=>cases e
 |tup h r=>cases e;exact .inr (.inl ⟨_,aR.of h,by rw[uR r.length]⟩)
 |lst m h r=>cases e;exact .inl ⟨_,aZ.of h,by rw[uR r.length]⟩
 |dK m h e' r=>
  cases e;refine .inr (.inr ⟨_,h,?_⟩)
  have:=congrArg List.length e'
  rw[be0,be0]at this;rw[uR this]
 |dT m h e' r=>cases e
 |scr h=>cases e
 |kt h r=>cases e
 |exc h e' c=>cases e
 |fK h e' r=>cases e
 |fT h e' r=>cases e
 |fL h r=>cases e
 |fn h=>cases e
 |ob=>cases e
 |lm h=>cases e
 |dA m h e' r=>cases e
 |dB m h e' r=>cases e
 |fA h e' r=>cases e
end
structure kT (K:ad)(H0:Hp)(W:az->Prop)(g:Bool)(H1:Hp)(J:It)(xs:List PV):Prop where
 go:∀W' H' i,Ev W H1 W' H'->i<xs.length->J.go i H'
 yld:∀W' H' i v H2,Ev W H1 W' H'->J.yld i H' v H2->i<xs.length->aH H' H2/\∃x,xs[i]? = some x/\aG K (Ms H0 W' g) H2 v x
 stop:∀W' H',Ev W H1 W' H'->J.stop xs.length H'
noncomputable abbrev eU:=bT->(List PV->Bool->Prop)->Prop
noncomputable def LI (X:Cx)(t:eU):TI:=λσ H R=>∃(W:az->Prop) (ρ:bT) (Q:List PV->Bool->Prop),PX X.K X.H₀ W σ ρ H/\t ρ Q/\∀J H1 xs g,aH H H1->kT X.K X.H₀ W g H1 J xs->Q xs g->R J H1
theorem Ev.keep {H0:Hp}{W W':az->Prop}{H H':Hp}{g:Bool}(e:Ev W H W' H')(tw:∀a,W a->∃o,H a=some o/\dP o=true):fC (Ms H0 W g) (Ms H0 W' g) H H':=by
 have m:∀{a:az}{o:HO},Ms H0 W g a->H a=some o->J2 o=false->Ms H0 W' g a/\H' a=some o:=λ{a o} z h hk=>by
  cases g with
  |true=>
   obtain⟨h1,h2⟩:=e a _ h z.1 hk
   exact⟨⟨h2,z.2⟩,h1⟩
  |false=>
   obtain⟨h1,h2⟩:=e a _ h z hk
   exact⟨h2,h1⟩
 refine⟨λa _ z h=>m z h rfl,λa _ z h=>m z h rfl,λa _ z h=>m z h rfl,λa _ h=>(e a _ h (λz=>?_) rfl).1,λa _ _ h f=>(e a _ h (λz=>?_) f).1,λa u d z h=>m z h (by cases u<;>first|rfl|cases d)⟩
 ·obtain⟨o,h',mu⟩:=tw a z;rw[h]at h';cases h';cases mu
 ·obtain⟨o,h',mu⟩:=tw a z;rw[h]at h';cases h';cases mu
section
variable {X:Cx}{σ:St}{H:Hp}{te:aF}{tr:bX}{R:It→Hp→Prop}
noncomputable def K7 (K:ad)(tl:TE):TI:=λσ H R=>tl σ H λx H1=>∃a,x = .ref a/\((∃xs,aZ K H1 a xs/\R (tJ K a) H1)∨(∃xs,aR K H1 a xs/\R (tK K a) H1))
noncomputable def uS:Tg->List PV->Bool
 |.fr,_=>true
 |.nw,_=>true
 |_,xs=>flats xs
noncomputable def mJ (te:aF):eU:=λρ Q=>te ρ λx g=>∃xs,kS x=some xs/\(g = .rd->flat x=true)/\Q xs (uS g xs)
theorem uT {K:ad}{H0:Hp}{W:az->Prop}{g:Bool}{H1:Hp}{a:az}{us:List V}{xs:List PV}(tw:∀a,W a->∃o,H1 a=some o/\dP o=true)(ha:∀W' H',Ev W H1 W' H'->aZ K H' a us)(r:Reps K (Ms H0 W g) H1 us xs):kT K H0 W g H1 (tJ K a) xs:=by
 have lr:=r.length;refine⟨λW' H' i e hi=>⟨us,us[i]'(by omega),ha W' H' e,by simp⟩,λW' H' i v H2 e y hi=>?_,λW' H' e=>⟨us,ha W' H' e,by omega⟩⟩
 obtain⟨rfl,y⟩:=y
 obtain⟨x,hx,rx⟩:=r.get (y us (ha W' _ e))
 exact⟨aH.refl _,x,hx,rx.keep (e.keep tw)⟩
theorem K8 {K:ad}{H0:Hp}{W:az->Prop}{g:Bool}{H1:Hp}{a:az}{us:List V}{xs:List PV}(tw:∀a,W a->∃o,H1 a=some o/\dP o=true)(ha:∀W' H',Ev W H1 W' H'->aR K H' a us)(r:Reps K (Ms H0 W g) H1 us xs):kT K H0 W g H1 (tK K a) xs:=by
 have lr:=r.length;refine⟨λW' H' i e hi=>⟨us,us[i]'(by omega),ha W' H' e,by simp⟩,λW' H' i v H2 e y hi=>?_,λW' H' e=>⟨us,ha W' H' e,by omega⟩⟩
 obtain⟨rfl,y⟩:=y
 obtain⟨x,hx,rx⟩:=r.get (y us (ha W' _ e))
 exact⟨aH.refl _,x,hx,rx.keep (e.keep tw)⟩
theorem kU {K:ad}{H0 Hs H:Hp}{W:az->Prop}{σ:St}{ρ:bT}{g:Tg}{us:List V}{xs:List PV}(px:PX K H0 W σ ρ Hs)(hg:g = .rd->flats xs=true)(r:Reps K (Mg H0 W Hs g) H us xs):Reps K (Ms H0 W (uS g xs)) H us xs:=by
 cases g with
 |fr=>exact r.same (aH.refl _) λ_ z=>px.new z
 |nw=>exact r.same (aH.refl _) λ_ z=>z
 |sh=>
  show Reps K (Ms H0 W (flats xs)) H us xs;cases e:flats xs with
  |true=>exact r.flat e
  |false=>exact r.same (aH.refl _) λ_ z=>z
 |rd=>exact r.flat (hg rfl)
theorem az1 (h:LI X (mJ te) σ H R):K7 X.K (LE X te) σ H R:=by
 obtain⟨W,ρ,Q,px,q,k⟩:=h
 refine⟨W,ρ,_,px,q,?_⟩;rintro v H1 x g s r ⟨xs,e,hg,q⟩;have px1:=px.mono s;have tw:∀a,W a->∃o,H1 a=some o/\dP o=true:=λa z=>(px1.wm a z).2
 cases r with
 |tup h r=>
  cases e;refine⟨_,rfl,.inr ⟨_,aR.of h,k _ _ _ _ s (K8 tw (λW' H' e=>aR.of (e _ _ h (λz=>?_) rfl).1) (kU px (λz=>by have:=hg z;unfold flat at this;exact this) r)) q⟩⟩
  obtain⟨o,h',mu⟩:=tw _ z;rw[h]at h';cases h';cases mu
 |@lst a us xs' m h r=>
  cases e;have wa:¬W a:=by
   cases g with
   |fr=>exact (px.new m).1
   |nw=>exact m.1
   |sh=>exact m
   |rd=>have:=hg rfl;unfold flat at this;cases this
  exact⟨_,rfl,.inl ⟨_,aZ.of h,k _ _ _ _ s (uT tw (λW' H' e=>aZ.of (e _ _ h wa rfl).1) (kU px (λz=>by have:=hg z;unfold flat at this;cases this) r)) q⟩⟩
 |scr h=>
  cases e;refine⟨_,rfl,.inl ⟨_,h.sqL,k _ _ _ _ s (uT tw (λW' H' e=>(iY.keep (λa o u hz f=>(e _ _ hz (λz=>?_) f).1) h).sqL) (kU (g:=g) px (λz=>kP _) (Reps.intz _))) q⟩⟩
  obtain⟨o,h',mu⟩:=tw _ z;rw[hz]at h';cases h';cases mu
 |kt h r=>
  cases e
  exact⟨_,rfl,.inr ⟨_,.inr h,k _ _ _ _ s (K8 tw (λW' H' e=>.inr h) (kU px (λz=>by have:=hg z;unfold flat at this;exact this) r)) q⟩⟩
 |fL h r=>
  cases e;refine⟨_,rfl,.inl ⟨_,.inl (.inr ⟨_,h⟩),k _ _ _ _ s (uT tw (λW' H' e=>.inl (.inr ⟨_,(e _ _ h (λz=>?_) rfl).1⟩)) (kU px (λz=>by have:=hg z;unfold flat at this;exact this) r)) q⟩⟩
  obtain⟨o,h',mu⟩:=tw _ z;rw[h]at h';cases h';cases mu
 |_=>cases e
noncomputable def gW (lo:Int)(n:Nat):List PV:=(List.range n).map λ(i:Nat)=>PV.int (lo+(i:Int))
theorem fH (lo:Int)(n:Nat):(gW lo n).length=n:=by unfold gW;rw[be0,List.length_range]
theorem rD {lo:Int}{n i:Nat}(h:i<n):(gW lo n)[i]? = some (.int (lo+i)):=by unfold gW;rw[bf4,List.getElem?_range h];rfl
noncomputable def kW (te:aF):eU:=λρ Q=>te ρ λx _=>∃j:Int,x = .int j/\-1000000<=j/\j<=1000000/\Q (gW 0 j.toNat) true
theorem az2 {K:ad}{H0:Hp}{W:az->Prop}{H1:Hp}(lo:Int)(n:Nat):kT K H0 W true H1 (qG lo n) (gW lo n):=by
 refine⟨λW' H' i e hi=>by rw[fH]at hi;exact hi,λW' H' i v H2 e y hi=>?_,λW' H' e=>by show n<=(gW lo n).length;rw[fH];exact be2 _⟩;rw[fH]at hi
 obtain⟨rfl,rfl⟩:=y
 exact⟨aH.refl _,_,rD hi,.int _⟩
theorem az3 (h:LI X (kW te) σ H R):zJ (eZ (LE X te) iU) σ H R:=by
 obtain⟨W,ρ,Q,px,q,k⟩:=h
 refine⟨W,ρ,_,px,q,?_⟩;rintro v H1 x g s r ⟨j,rfl,h1,h2,q⟩;cases r
 exact⟨j,rfl,by omega,by omega,k _ _ _ _ s (az2 0 j.toNat) q⟩
end
noncomputable abbrev jS:=PV->Bool->bT->(bT->Prop)->Prop
noncomputable def oO (K:ad)(own:Nat->Prop)(p:jS)(t:TG):Prop:=∀(H0:Hp) (W:az->Prop) (σ:St) (ρ:bT) (H:Hp) (v:V) (x:PV) (g:Bool) (Q:bT->Prop) (Q':St->Hp->Prop),
 PX K H0 W σ ρ H->aG K (Ms H0 W g) H v x->p x g ρ Q->(∀σ' ρ',PX K H0 W σ' ρ' H->(∀i,¬own i->σ'[i]? = σ[i]?)->σ'.length=σ.length->Q ρ'->Q' σ' H)->t v σ H Q'
noncomputable def fQ (i:Nat):jS:=λx g ρ Q=>Q (ρ.set i (some (.sh (g||flat x) x)))
theorem rE {K:ad}{H0 H:Hp}{W:az->Prop}{v:V}{x:PV}{g:Bool}(r:aG K (Ms H0 W g) H v x):aG K (Ms H0 W (g||flat x)) H v x:=by
 cases g with
 |true=>exact r
 |false=>
  show aG K (Ms H0 W (flat x)) H v x;cases e:flat x with
  |true=>exact r.flat e
  |false=>exact r
theorem rG (K:ad)(i:Nat):oO K (· = i) (fQ i) (dM i):=by
 intro H0 W σ ρ H v x g Q Q' px r q k;exact k _ _ (px.setSh (rE r)) (λj hj=>by rw[bh5 (Ne.symm hj)]) (bn1 ..) q
noncomputable def kX (i j:Nat):jS:=λx g ρ Q=>∃y z,x = .tup [y,z]/\Q ((ρ.set i (some (.sh (g||flat y) y))).set j (some (.sh (g||flat z) z)))
theorem K9 (K:ad)(i j:Nat):oO K (λk=>k=i∨k=j) (kX i j) (qE K 2 (kH (dM i) (kH (dM j) qB))):=by
 intro H0 W σ ρ H v x g Q Q' px r q k
 obtain⟨y,z,rfl,q⟩:=q
 obtain⟨a,us,rfl,h,r⟩:=r.sqT
 obtain⟨u1,u2,rfl,r1,r2⟩:=r.two
 refine⟨a,_,rfl,aR.of h,rfl,u1,_,rfl,u2,_,rfl,rfl,k _ _ ((px.setSh (rE r1)).setSh (rE r2)) (λk hk=>?_) (by rw[bn1,bn1]) q⟩;rw[bh5 (λe=>hk (.inr e.symm)),bh5 (λe=>hk (.inl e.symm))]
section
variable {X:Cx}{σ:St}{H:Hp}{D:dX}
noncomputable def i9 (ti:eU)(p:jS)(tb:aY):aY:=λD ρ=>ti ρ λxs g=>∃I:Nat->bT->Prop,I 0 ρ/\(∀i x ρ',xs[i]? = some x->I i ρ'->p x g ρ' λρ2=>tb { D with nx:=I (i+1),ct:=I (i+1),bk:=D.nx } ρ2)/\∀ρ',I xs.length ρ'->D.nx ρ'
theorem az4 {ti:eU}{p:jS}{g:TG}{tb:aY}{own:Nat->Prop}(hg:oO X.K own p g)(h:LS X (i9 ti p tb) D σ H):zK (LI X ti) g (LS X tb) D σ H:=by
 obtain⟨W,ρ,D',px,q,k⟩:=h
 refine⟨W,ρ,_,px,q,?_⟩;rintro J H1 xs gb s it ⟨I,i0,turn,fin⟩;refine⟨λi m σ2 H2=>m=xs.length-i/\i<=xs.length/\∃W2 ρ2,PX X.K X.H₀ W2 σ2 ρ2 H2/\Ev W H1 W2 H2/\I i ρ2,⟨xs.length,by omega,bp2 _,W,ρ,px.mono s,Ev.refl _ _,i0⟩,?_⟩;rintro i m σ2 H2 ⟨rfl,hi,W2,ρ2,px2,e2,i2⟩;have e0:Ev W H W2 H2:=(Ev.same s).trans e2;by_cases hlt:i<xs.length
 ·refine .inr ⟨it.go W2 H2 i e2 hlt,λσ3 H3=>∃W3 ρ3,PX X.K X.H₀ W3 σ3 ρ3 H3/\Ev W H1 W3 H3/\I (i+1) ρ3,λσ3 H3 ⟨W3,ρ3,a,b,c⟩=>⟨xs.length-(i+1),by omega,rfl,hlt,W3,ρ3,a,b,c⟩,λv H3 y=>?_⟩
  obtain⟨s3,x,hx,rx⟩:=it.yld W2 H2 i v H3 e2 y hlt
  refine hg X.H₀ W2 σ2 ρ2 H3 v x gb _ _ (px2.mono s3) rx (turn i x ρ2 hx i2) λσ4 ρ4 px4 _ _ q4=>?_
  have e3:Ev W H1 W2 H3:=e2.trans (Ev.same s3);have e3':Ev W H W2 H3:=e0.trans (Ev.same s3)
  exact⟨W2,ρ4,_,px4,q4,λW' σ' H' ρ' e p q=>⟨W',ρ',p,e3.trans e,q⟩,k.rt,λW' σ' H' ρ' e p q=>k.nx W' σ' H' ρ' (e3'.trans e) p q,λW' σ' H' ρ' e p q=>⟨W',ρ',p,e3.trans e,q⟩⟩
 ·have e:i=xs.length:=by omega
  subst e;exact .inl ⟨it.stop W2 H2 e2,k.nx W2 σ2 H2 ρ2 e0 px2 (fin ρ2 i2)⟩
end
noncomputable def Slot.blk:Slot->Slot
 |.kp _ x ks=>.kp false x ks
 |.sh _ x=>.sh false x
 |.own x=>.sh false x
noncomputable def mK (fr:List (Option Nat))(ρ:bT):bT:=fr.map λo=>o.bind λj=>(ρ[j]?).join.map Slot.blk
theorem kQ.any {K:ad}{H0 H:Hp}{a:az}{st un:List PV}(h:kQ K H0 H a st un):kQ K (λ_=>none) H a st un:=by
 obtain⟨C,dx,l1,l2,us1,us2,h1,h2,h⟩:=h
 exact⟨C,dx,l1,l2,us1,us2,h1,⟨rfl,rfl,rfl,rfl⟩,h⟩
theorem gE.any {K:ad}{H0 H:Hp}{ks:List (az×List PV×List PV)}(h:gE K H0 H ks):gE K (λ_=>none) H ks:=⟨λk hk=>(h.1 k hk).any,h.2⟩
theorem Slot.blk_own {m:Slot}{x:PV}(h:m.blk = .own x):False:=by
 cases m<;>cases h
theorem az5 {K:ad}{H0 H1 H1' H':Hp}{W W':az->Prop}{v:V}{m:Slot}(r:qT K H0 W H1 v m)(k:fC (λ_=>False) (λ_=>False) H1 H')(f:∀b o,H1 b=some o->dP o=false->H' b=some o)(rv:aG K (λa=>¬W' a) H' v m.val):qT K H1' W' H' v m.blk:=by
 cases m with
 |sh g x=>exact rv
 |own x=>exact rv
 |kp g x ks=>exact⟨⟨r.1.1.keep k,r.1.2⟩,r.2.any.keep k f⟩
noncomputable def kY (D:az):az->Prop:=λa=>a=D
theorem az6 {K:ad}{H0:Hp}{W:az->Prop}{σ:St}{ρ:bT}{H1 H':Hp}{D:az}{acc:List V}{fr:List (Option Nat)}(px:PX K H0 W σ ρ H1)(hD:H1 D=none)(s:aH H1 H')(ha:H' D=some (.lst acc)) :
  PX K H1 (kY D) (gA fr σ) (mK fr ρ) H':=by
 have old:∀{a:az}{o:HO},H1 a=some o->a≠D:=λ{a o} e z=>by rw[z,hD]at e;cases e
 refine⟨by unfold gA mK;rw[be0,be0],s,λa z=>by cases z;exact⟨hD,_,ha,rfl⟩,λi m h=>?_,λi j x y a h1=>?_⟩
 ·unfold mK at h
  rw[bf4]at h;cases ef:fr[i]? with
  |none=>rw[ef]at h;cases h
  |some o=>
   rw[ef]at h;cases o with
   |none=>cases h
   |some j=>
    have h:some ((ρ[j]?).join.map Slot.blk)=some (some m):=h;cases er:ρ[j]? with
    |none=>rw[er]at h;cases h
    |some o=>
     rw[er]at h;cases o with
     |none=>cases h
     |some m0=>
      cases h
      obtain⟨v,ev,r⟩:=px.sl j m0 er
      refine⟨v,?_,?_⟩
      ·unfold gA
       rw[bf4,ef];show some ((σ[j]?).join)=_;rw[ev];rfl
      ·have r':aG K (λ_=>True) H1 v m0.val:=(J3 (Hs:=H1) r).same (aH.refl _) λ_ _=>trivial
       refine az5 r (.same s λ_ z=>z) (λ_ _ e _=>s _ _ e) ?_;exact r'.keep ⟨λa _ _ e=>⟨old e,s _ _ e⟩,λa _ _ e=>⟨old e,s _ _ e⟩,λa _ _ e=>⟨old e,s _ _ e⟩,λ_ _ e=>s _ _ e,λ_ _ _ e _=>s _ _ e,λa _ _ _ e=>⟨old e,s _ _ e⟩⟩
 ·unfold mK at h1
  rw[bf4]at h1;cases ef:fr[i]? with
  |none=>rw[ef]at h1;cases h1
  |some o=>
   rw[ef]at h1;cases o with
   |none=>cases h1
   |some j=>
    have h1:some ((ρ[j]?).join.map Slot.blk)=some (some (Slot.own x)):=h1;cases er:ρ[j]? with
    |none=>rw[er]at h1;cases h1
    |some o=>
     rw[er]at h1;cases o with
     |none=>cases h1
     |some m0=>exact (Slot.blk_own (bf6 (bf6 h1))).elim
section
variable {X:Cx}{σ:St}{H:Hp}{Q':VK}
noncomputable abbrev _root_.L2.Cx.frm (X:Cx)(H1:Hp):Cx:={ X with H₀:=H1 }
noncomputable def iA (ti:eU)(fr:List (Option Nat))(p:jS)(tc:cQ)(te:aF):aF:=λρ Q=>ti ρ λxs g=>xs.length<=16000000/\∃I:Nat->List PV->Prop,I 0 []/\
 (∀i x acc,xs[i]? = some x->I i acc->p x false (mK fr ρ) λρ2=>tc ρ2 λb=>if b=true then te ρ2 λy gy=>Nw gy y/\I (i+1) (acc++[y]) else I (i+1) acc)/\∀acc,I xs.length acc->Q (.lst acc) .fr
theorem rH {ti:eU}{fr:List (Option Nat)}{p:jS}{g:TG}{tc:cQ}{te:aF}{own:Nat->Prop}(hg:oO X.K own p g)(ho:∀i,own i->fr[i]? = some none)(h:LE X (iA ti fr p tc te) σ H Q') :
  uE (LI X ti) fr (λ_=>g) (λH1=>LT (X.frm H1) tc) (λH1=>LE (X.frm H1) te) σ H Q':=by
 obtain⟨W,ρ,Q,px,q,k⟩:=h
 refine⟨W,ρ,_,px,q,?_⟩;rintro J H1 xs gb s it ⟨hl,I,i0,turn,fin⟩ D hD;have px1:=px.mono s;refine⟨λi m acc H'=>m=xs.length-i/\i<=xs.length/\aH H1 H'/\H' D=some (.lst acc)/\∃ys,Reps X.K (Ms H1 (kY D) true) H' acc ys/\ys.length<=i/\I i ys,⟨xs.length,by omega,bp2 _,bZ hD _,bH,[],.nil,be2 _,i0⟩,?_⟩;rintro i m acc H' ⟨rfl,hi,sm,ha,ys,ry,hy,iy⟩;refine⟨ha,?_⟩;have ev:Ev W H1 (mF W D) H':=Ev.own sm hD;by_cases hlt:i<xs.length
 ·refine .inr ⟨it.go _ H' i ev hlt,λv H2 y=>?_⟩
  obtain⟨s2,x,hx,rx⟩:=it.yld _ H' i v H2 ev y hlt
  have ha2:=s2 _ _ ha;have pxb:PX X.K H1 (kY D) (gA fr σ) (mK fr ρ) H2:=az6 px1 hD (sm.trans s2) ha2;have rx':aG X.K (Ms H1 (kY D) false) H2 v x:=rx.same (aH.refl _) λa z=>by
   cases gb with
   |true=>exact λe=>z.1 (.inr e)
   |false=>exact λe=>z (.inr e)
  refine hg H1 (kY D) _ _ H2 v x false _ _ pxb rx' (turn i x ys hx iy) λσ2 ρ2 px2 hown ao q2=>⟨⟨ao.symm,λj w e=>?_⟩,?_⟩
  ·by_cases oj:own j
   ·have:=ho j oj
    unfold gA at e;rw[bf4,this]at e;cases e
   ·rw[hown j oj];exact e
  ·refine⟨kY D,ρ2,_,px2,q2,λb H4 s4 q4=>?_⟩
   have ha4:=s4 _ _ ha2;have sm4:=(sm.trans s2).trans s4;cases b with
   |false=>
    refine bJ ⟨xs.length-(i+1),by omega,rfl,hlt,sm4,ha4,ys,ry.same (s2.trans s4) λ_ z=>z,by omega,by simpa using q4⟩
   |true=>
    refine cC ⟨kY D,ρ2,_,px2.mono s4,by simpa using q4,?_⟩;rintro w H5 y gy s5 ryy ⟨nw,q5⟩;have ha5:=s5 _ _ ha4;have lr:=ry.length;refine⟨ha5,kN (by omega),xs.length-(i+1),by omega,rfl,hlt,λb o e=>?_,bH,ys++[y],?_,by rw[be3,List.length_singleton];omega,q5⟩
    ·rw[aJ (λz=>by rw[z,hD]at e;cases e)]
     exact s5 _ _ (sm4 _ _ e)
    ·exact ((ry.same ((s2.trans s4).trans s5) λ_ z=>z).append (.cons (Nw.rep (px2.mono s4) nw ryy) .nil)).keep (.upd ha5 rfl λb m=>⟨m.1,m⟩)
 ·have e:i=xs.length:=by omega
  subst e;refine .inl ⟨it.stop _ H' ev,k _ H' _ .fr (s.trans sm) (.lst (s.free hD) ha (ry.same (aH.refl _) λ_ z=>s.free z.2)) (fin ys iy)⟩
noncomputable def gG:cQ:=λ_ Q=>Q true
theorem az7 {Qb:Bool->Hp->Prop}(h:LT X gG σ H Qb):D9 σ H Qb:=by
 obtain⟨W,ρ,Q,px,q,k⟩:=h
 exact k _ _ (aH.refl _) q
end
section
variable {κ:Type}[DecidableEq κ]
noncomputable def d6 (ps:List (κ×PV))(k:κ):Option PV:=(ps.find? λp=>decide (p.1=k)).map (·.2)
noncomputable def fJ (ps:List (κ×PV))(k:κ)(x:PV):List (κ×PV):=if (ps.any λp=>decide (p.1=k))=true then ps.map (λp=>if p.1=k then (p.1,x) else p) else ps++[(k,x)]
variable {K:ad}{M:az→Prop}{H:Hp}
theorem kZ (k:κ):∀{kvs:List (κ×V)}{ps:List (κ×PV)},kvs.map (·.1)=ps.map (·.1)->Reps K M H (kvs.map (·.2)) (ps.map (·.2))->(d6 ps k=none->g9 kvs k=none)/\∀x,d6 ps k=some x->∃v,g9 kvs k=some v/\aG K M H v x
 |[],[],_,_=>⟨λ_=>rfl,λx h=>by cases h⟩
 |[],_::_,e,_=>by cases e
 |_::_,[],e,_=>by cases e
 |(k1,v)::kvs,(k2,x)::ps,e,r=>by
  injection e with e1 e2
  have e1:k1=k2:=e1;subst e1;cases r with
  |cons r t=>
   obtain⟨h1,h2⟩:=kZ k e2 t
   unfold d6 g9 at h1 h2 ⊢;by_cases e:k1=k
   ·simp only[bh8,e,decide_true,Option.map_some]
    exact⟨λz=>(by cases z),λy z=>(by cases z;exact⟨v,rfl,r⟩)⟩
   ·simp only[bh8,e,decide_false]
    exact⟨h1,h2⟩
theorem az8 (k:κ){kvs:List (κ×V)}{ps:List (κ×PV)}(e:kvs.map (·.1)=ps.map (·.1)):(kvs.any λp=>decide (p.1=k))=ps.any λp=>decide (p.1=k):=by
 have h1:(kvs.any λp=>decide (p.1=k))=(kvs.map (·.1)).any λz=>decide (z=k):=by rw[List.any_map];rfl
 have h2:(ps.any λp=>decide (p.1=k))=(ps.map (·.1)).any λz=>decide (z=k):=by rw[List.any_map];rfl
 rw[h1,h2,e]
theorem L0 (k:κ){w:V}{y:PV}(q:aG K M H w y):∀{kvs:List (κ×V)}{ps:List (κ×PV)},kvs.map (·.1)=ps.map (·.1)->Reps K M H (kvs.map (·.2)) (ps.map (·.2))->
  (kvs.map λkv=>if kv.1=k then (kv.1,w) else kv).map (·.1)=(ps.map λkv=>if kv.1=k then (kv.1,y) else kv).map (·.1)/\Reps K M H ((kvs.map λkv=>if kv.1=k then (kv.1,w) else kv).map (·.2)) ((ps.map λkv=>if kv.1=k then (kv.1,y) else kv).map (·.2))
 |[],[],_,_=>⟨rfl,.nil⟩
 |[],_::_,e,_=>by cases e
 |_::_,[],e,_=>by cases e
 |(k1,v)::kvs,(k2,x)::ps,e,r=>by
  injection e with e1 e2
  have e1:k1=k2:=e1;subst e1;cases r with
  |cons r t=>
   obtain⟨h1,h2⟩:=L0 k q e2 t
   by_cases e:k1=k
   ·simp only[bf0,e,if_true]
    exact⟨by rw[h1],.cons q h2⟩
   ·simp only[bf0,e,bl9]
    exact⟨by rw[h1],.cons r h2⟩
theorem uU (k:κ){w:V}{y:PV}(q:aG K M H w y){kvs:List (κ×V)}{ps:List (κ×PV)}(e:kvs.map (·.1)=ps.map (·.1))(r:Reps K M H (kvs.map (·.2)) (ps.map (·.2))) :
  (fB kvs k w).map (·.1)=(fJ ps k y).map (·.1)/\Reps K M H ((fB kvs k w).map (·.2)) ((fJ ps k y).map (·.2)):=by
 unfold fB fJ;rw[az8 k e];split
 ·exact L0 k q e r
 ·rw[bg4,bg4,bg4,bg4,e]
  exact⟨rfl,r.append (.cons q .nil)⟩
end
section
variable {X:Cx}{σ:St}{H:Hp}{D:dX}{tk td te:aF}{Q':VK}
theorem L1 {α β:Type}{o:Option α}{o':Option β}{P:β->α->Prop}(h1:o=none->o'=none)(h2:∀z,o=some z->∃u,o'=some u/\P u z):o'.isSome=o.isSome:=by
 cases o with
 |none=>rw[h1 rfl];rfl
 |some z=>obtain⟨u,e,_⟩:=h2 z rfl;rw[e];rfl
theorem mL {κ α β:Type}{l:List (κ×α)}{m:List (κ×β)}(e:l.map (·.1)=m.map (·.1)):l.length=m.length:=by
 have:=congrArg List.length e
 rw[be0,be0]at this;exact this
end
noncomputable def eC:Nat->PV->PV->Bool
 |_,.non,.non=>true
 |_,.bl a,.bl b=>a==b
 |_,.int a,.int b=>a==b
 |_,.str a,.str b=>a==b
 |n+1,.tup xs,.tup ys=>(xs.zip ys).all (λp=>eC n p.1 p.2)&&xs.length==ys.length
 |n+1,.lst xs,.lst ys=>(xs.zip ys).all (λp=>eC n p.1 p.2)&&xs.length==ys.length
 |n+1,.kt xs,.kt ys=>(xs.zip ys).all (λp=>eC n p.1 p.2)&&xs.length==ys.length
 |_,_,_=>false
noncomputable def gX:Nat->PV->PV->Bool
 |_,.non,.non=>true
 |_,.bl _,.bl _=>true
 |_,.int _,.int _=>true
 |_,.str _,.str _=>true
 |_,.non,.int _=>true
 |_,.int _,.non=>true
 |n+1,.tup xs,.tup ys=>(xs.zip ys).all (λp=>gX n p.1 p.2)
 |n+1,.lst xs,.lst ys=>(xs.zip ys).all (λp=>gX n p.1 p.2)
 |n+1,.kt xs,.kt ys=>(xs.zip ys).all (λp=>gX n p.1 p.2)
 |_+1,.non,.tup _=>true
 |_+1,.tup _,.non=>true
 |_,_,_=>false
theorem az9 (n:Nat)(a b:Int):eC n (.int a) (.int b)=(a==b):=by cases n<;>rfl
theorem L3 (n:Nat):∀(a b:ag),((((intz a).zip (intz b)).all λp=>eC n p.1 p.2)&&(intz a).length==(intz b).length)=decide (a=b)
 |[],[]=>rfl
 |[],_::_=>by simp
 |_::_,[]=>by simp
 |x::a,y::b=>by
  have ih:=L3 n a b;simp only[bf0,bo2,List.all_cons,bg2,az9]at ih ⊢;by_cases e:x=y
  ·subst e
   have:((intz a).length+1==(intz b).length+1)=((intz a).length==(intz b).length):=by simp
   rw[this,bj8,Bool.true_and,ih];simp
  ·have:(x==y)=false:=bo8.mpr e
   rw[this,Bool.false_and,Bool.false_and];simp[e]
theorem aA0 (n:Nat)(a b:ag):eC (n+1) (.tup (intz a)) (.tup (intz b))=decide (a=b):=L3 n a b
theorem L4 (n:Nat):∀(a b:ag),(((intz a).zip (intz b)).all λp=>gX n p.1 p.2)=true
 |[],_=>by simp
 |_::_,[]=>by simp
 |x::a,y::b=>by
  simp only[bf0,bo2,List.all_cons,L4 n a b,Bool.and_true];cases n<;>rfl
theorem aA1 (n:Nat)(a b:ag):gX (n+1) (.tup (intz a)) (.tup (intz b))=true:=L4 n a b
noncomputable def uV (ta:aF):aF:=λρ Q=>ta ρ λx _=>∃i,x = .int i/\Q (.int (-i)) .fr
noncomputable def L5:PV->Option String
 |.non=>some "NoneType"
 |.bl _=>some "bool"
 |.int _=>some "int"
 |.str _=>some "str"
 |.tup _=>some "tuple"
 |.kt _=>some "tuple"
 |.lst _=>some "list"
 |_=>none
noncomputable def lA (K:ad)(n:String)(te:aF):aF:=λρ Q=>te ρ λx _=>∃T b,L5 x=some T/\PySem.W.kitOne K (.type T) (.type n)=some b/\Q (.bl b) .fr
noncomputable abbrev mM:=bT->(Option Int->Prop)->Prop
noncomputable def gH (xs:List PV)(lo hi:Option Int):List PV:=(xs.drop (HT.b9 xs.length 0 lo)).take (HT.b9 xs.length xs.length hi-HT.b9 xs.length 0 lo)
noncomputable def aA2:PV->List PV->PV
 |.tup _,ys=>.tup ys
 |.kt _,ys=>.tup ys
 |_,ys=>.lst ys
noncomputable def rJ:mM:=λ_ Q=>Q none
noncomputable def rK (te:aF):mM:=λρ Q=>te ρ λx _=>∃i,x = .int i/\Q (some i)
noncomputable def rM (te:aF)(tl th:mM):aF:=λρ Q=>te ρ λx _=>tl ρ λlo=>th ρ λhi=>∃xs,K5 x=some xs/\flats xs=true/\Q (aA2 x (gH xs lo hi)) .fr
noncomputable def bF (N:List Str)(xs:List PV):bT:=xs.map (λx=>some (.sh (flat x) x))++List.replicate (N.length-xs.length) none
noncomputable abbrev iL (ta tb:aF):aF:=q2 (eT λi j=>.int (i+j)) ta tb
noncomputable abbrev oP (ta tb:aF):aF:=q2 (eT λi j=>.int (i-j)) ta tb
noncomputable abbrev L6 (ta tb:aF):aF:=q2 (RI oA λi j=>.int (i*j)) ta tb
noncomputable abbrev j0 (ta tb:aF):aF:=q2 (RI tO λi j=>.int (i/j)) ta tb
noncomputable abbrev gI (ta tb:aF):aF:=q2 (RI (λ_ j=>0<j) λi j=>.int (i%j)) ta tb
noncomputable abbrev L7 (ta tb:aF):aF:=q2 (RI tP λi j=>.int (i*2^j.toNat)) ta tb
noncomputable abbrev mO (ta tb:aF):aF:=q2 (eT λi j=>.bl (decide (i<j))) ta tb
noncomputable abbrev rO (ta tb:aF):aF:=q2 (eT λi j=>.bl (decide (j<i))) ta tb
noncomputable abbrev qGe (ta tb:aF):aF:=q2 (eT λi j=>.bl (decide (j<=i))) ta tb
noncomputable abbrev iM (ta tb:aF):aF:=q2 (kR false) ta tb
noncomputable abbrev mP (ta tb:aF):aF:=q2 (kR true) ta tb
noncomputable abbrev d4 (ta tb:aF):aF:=q2 uQ ta tb
noncomputable def L8:List PV->(PV->Prop)->Prop:=λxs Q=>K6 xs Q/\∀ns,xs≠[.scr ns]
noncomputable def QE (X:Cx)(e:Expr)(t:aF):Prop:=PE X e (LE X t)
noncomputable def QT (X:Cx)(e:Expr)(t:cQ):Prop:=PT X e (LT X t)
noncomputable def QW (X:Cx)(e:Expr)(t:cQ):Prop:=PW X e (LT X t)
noncomputable def QA (X:Cx)(es:List Expr)(t:bX):Prop:=PA X es (LA X t)
noncomputable def QS (X:Cx)(st:Stmt)(t:aY):Prop:=PS X st (LS X t)
noncomputable def fM (X:Cx)(st:List Stmt)(t:aY):Prop:=dE X st (LS X t)
noncomputable def QI (X:Cx)(tg iter:Expr)(t:eU):Prop:=PI X tg iter (LI X t)
section
variable {X:Cx}
theorem bV {e:Expr}{t t':TE}(h:PE X e t)(m:∀σ H Q,t' σ H Q->t σ H Q):PE X e t':=λai s σ H Q I q=>h ai s σ H Q I (m σ H Q q)
theorem mQ {e:Expr}{t t':TT}(h:PT X e t)(m:∀σ H Q,t' σ H Q->t σ H Q):PT X e t':=λai s σ H Q I q=>h ai s σ H Q I (m σ H Q q)
theorem L9 {e:Expr}{t t':TT}(h:PW X e t)(m:∀σ H Q,t' σ H Q->t σ H Q):PW X e t':=λwh ai s σ H Q I q=>h wh ai s σ H Q I (m σ H Q q)
theorem M0 {e:List Expr}{t t':TA}(h:PA X e t)(m:∀σ H Q,t' σ H Q->t σ H Q):PA X e t':=λpos ai s σ H Q I q=>h pos ai s σ H Q I (m σ H Q q)
theorem eD {e:Stmt}{t t':TS}(h:PS X e t)(m:∀D σ H,t' D σ H->t D σ H):PS X e t':=λai s σ H D I q=>h ai s σ H D I (m D σ H q)
theorem M3 {e:List Stmt}{t t':TS}(h:dE X e t)(m:∀D σ H,t' D σ H->t D σ H):dE X e t':=λai s σ H D I q=>h ai s σ H D I (m D σ H q)
theorem oQ {tg e:Expr}{t t':TI}(h:PI X tg e t)(m:∀σ H R,t' σ H R->t σ H R):PI X tg e t':=λai s σ H R I q=>h ai s σ H R I (m σ H R q)
variable {a b c e o:Expr}{es rest:List Expr}{ta tb te to tk:aF}{tr:bX}{tA tB' tc:cQ}{pos p2 px:Pos}{st:Stmt}{sts:List Stmt}{t u:aY}
theorem qv (i:Nat){x:Str}{pos:Pos}(hN:X.N[i]? = some x:=by rfl)(hv:dY X.env.scope x:=by first|exact Or.inl rfl|exact Or.inr (Or.inl rfl)|exact Or.inr (Or.inr rfl))(hd:(x==("__debug__":Str))=false:=by decide)(hcd:(x==("__classdict__":Str))=false:=by decide):QE X (.Name x pos) (aC i):=bV (iI hN hv hd hcd) λ_ _ _=>aw3
theorem aL {i j}:QE X (.Constant (.int i) j pos) (qC (.int i)):=bV ag6 λ_ _ _=>oK λ_=>.int i
theorem eF {i j}:QE X (.Constant (.bool i) j pos) (qC (.bl i)):=bV ag7 λ_ _ _=>oK λ_=>.bl i
theorem uW {i j}:QE X (.Constant (.str i) j pos) (qC (.str i)):=bV ag8 λ_ _ _=>oK λ_=>.str i
theorem fR {op:Operator}{R:PV->Tg->PV->Tg->PK->Prop}{r:R2}(ho:cJ X (binaryOp op) r)(cv:fD X R r)(ha:QE X a ta)(hb:QE X b tb):QE X (.BinOp a op b pos) (q2 R ta tb):=bV (aj2 ho ha hb) λ_ _ _=>qV cv
theorem iB (ha:QE X a ta)(hb:QE X b tb):QE X (.BinOp a .Add b pos) (q2 (eT λi j=>.int (i+j)) ta tb):=fR aj5 qW ha hb
theorem oR (ha:QE X a ta)(hb:QE X b tb):QE X (.BinOp a .Sub b pos) (q2 (eT λi j=>.int (i-j)) ta tb):=fR aj6 qW ha hb
theorem M4 (ha:QE X a ta)(hb:QE X b tb):QE X (.BinOp a .Mult b pos) (q2 (RI oA λi j=>.int (i*j)) ta tb):=fR aj7 oM ha hb
theorem j3 (ha:QE X a ta)(hb:QE X b tb):QE X (.BinOp a .FloorDiv b pos) (q2 (RI tO λi j=>.int (i/j)) ta tb):=fR aj8 oM ha hb
theorem gK (ha:QE X a ta)(hb:QE X b tb):QE X (.BinOp a .Mod b pos) (q2 (RI (λ_ j=>0<j) λi j=>.int (i%j)) ta tb):=fR aj9 oM ha hb
theorem rQ (ha:QE X a ta)(hb:QE X b tb):QE X (.BinOp a .LShift b pos) (q2 (RI tP λi j=>.int (i*2^j.toNat)) ta tb):=fR ak0 oM ha hb
theorem aA3 (ha:QE X a ta)(hb:QE X b tb):QE X (.BinOp a .RShift b pos) (q2 (RI (λ_ j=>0<=j) λi j=>.int (i/2^j.toNat)) ta tb):=fR ak1 oM ha hb
theorem aA4 {op:CmpOp}{R:PV->Tg->PV->Tg->PK->Prop}{r:R2}(ho:cJ X (compareOp op) r)(cv:fD X R r)(ha:QE X a ta)(hb:QE X b tb)(hm:behindInMarks op b=false):QE X (.Compare a [op] [b] pos) (q2 R ta tb):=bV (ak9 ho ha hb hm) λ_ _ _=>qV cv
theorem oS {op:CmpOp}{R:PV->Tg->PV->Tg->PK->Prop}{r:R2}(ho:cJ X (compareOp op) r)(cv:fD X R r)(ha:QE X a ta)(hb:QE X b tb)(hm:behindInMarks op b=false):QT X (.Compare a [op] [b] pos) (bN (q2 R ta tb)):=mQ (al1 ho ha hb hm) λ_ _ _ h=>qV cv (qX h)
theorem M5 (ha:QE X a ta)(hb:QE X b tb):QE X (.Compare a [.Eq] [b] pos) (q2 (kR false) ta tb):=aA4 zS J6 ha hb (lX _)
theorem mR (ha:QE X a ta)(hb:QE X b tb):QT X (.Compare a [.Lt] [b] pos) (bN (q2 (eT λi j=>.bl (decide (i<j))) ta tb)):=oS ak6 uK ha hb (lX _)
theorem rR (ha:QE X a ta)(hb:QE X b tb):QT X (.Compare a [.Gt] [b] pos) (bN (q2 (eT λi j=>.bl (decide (j<i))) ta tb)):=oS ak7 uK ha hb (lX _)
theorem aA5 (ha:QE X a ta)(hb:QE X b tb):QT X (.Compare a [.GtE] [b] pos) (bN (q2 (eT λi j=>.bl (decide (j<=i))) ta tb)):=oS ak8 uK ha hb (lX _)
theorem jT (ha:QE X a ta)(hb:QE X b tb):QT X (.Compare a [.Eq] [b] pos) (bN (q2 (kR false) ta tb)):=oS zS J6 ha hb (lX _)
theorem mS (ha:QE X a ta)(hb:QE X b tb):QT X (.Compare a [.NotEq] [b] pos) (bN (q2 (kR true) ta tb)):=oS ak5 aw4 ha hb (lX _)
theorem M6 (h:QE X e te)(he:∀whole,isTrue e X.env whole=(do let v <- whole;standAt e.pos;holding [v] (truthy v)):=by intro _;rfl):QT X e (bN te):=mQ (ah1 h he) λ_ _ _ h=>qX h
theorem mT (h:QE X e te)(he:∀whole,isTrue e X.env whole=(do let v <- whole;standAt e.pos;holding [v] (truthy v)):=by intro _;rfl):QT X e (mI te):=mQ (al4 h he) λ_ _ _ h=>az0 h
theorem M7 (ha:QT X a tA):QW X (.BoolOp .And [a] pos) tA:=ah2 ha
theorem rS (ha:QT X a tA):QW X (.BoolOp .Or [a] pos) tA:=ah3 ha
theorem M8 (ha:QT X a tA)(hb:QW X (.BoolOp .And (b::rest) pos) tB'):QW X (.BoolOp .And (a::b::rest) pos) (qY tA tB'):=L9 (ah4 ha hb) λ_ _ _=>aw5
theorem jU (ha:QT X a tA)(hb:QW X (.BoolOp .Or (b::rest) pos) tB'):QW X (.BoolOp .Or (a::b::rest) pos) (iK tA tB'):=L9 (ah5 ha hb) λ_ _ _=>aw6
theorem mU (h:QW X e tA):QT X e tA:=PW.pt h
theorem uX (ha:QT X a tA):QT X (.UnaryOp .Not a pos) (oN tA):=mQ (ah6 ha) λ_ _ _=>aw7
theorem M9 {op}(h:QE X a ta):QE X (.BoolOp op [a] pos) ta:=ah7 h
theorem N0 (ha:QE X a ta)(hb:QE X (.BoolOp .And (b::rest) pos) tb):QE X (.BoolOp .And (a::b::rest) pos) (qZ ta tb):=bV (ah8 ha hb) λ_ _ _=>aw8
theorem aA6 (ha:QE X a ta):QE X (.UnaryOp .Not a pos) (uL ta):=bV (ah9 ha) λ_ _ _=>aw9
theorem aK:QA X [] aM:=M0 jL λ_ _ _=>J7
theorem aD (ha:QE X e te)(hr:QA X es tr)(hs:starEach (e::es) X.env=(false,eval e X.env)::starEach es X.env:=by rfl):QA X (e::es) (aE te tr):=M0 (eQ ha hr hs) λ_ _ _=>ax0
theorem eG {x1}(h:QA X es tr):QE X (.Tuple es x1 pos) (fE tr):=bV (al8 h) λ_ _ _=>ax1
theorem rT (h:QA X es tr):QE X (.List es pos) (mE tr):=bV (al9 h) λ_ _ _=>ax2
theorem cS (ha:QE X a ta)(hb:QE X b tb)(hs:A9 b:=by exact λ_ _=>rfl):QE X (.Subscript a b pos) (q2 uQ ta tb):=bV (ap4 ap8 ha hb hs) λ_ _ _=>qV ay5
theorem oT {x:Str}{id:String}{R:List PV->(PV->Prop)->Prop}{r:List V->Hp->VK->Prop}(hc:dN X (.builtin id) r)(cv:fG X R r)(hg:Gl X x)(hm:X.mg x=none)(hv:bootBuiltins x=some (.builtin id))(ha:QA X (e::es) tr)(hn:x≠"__name__":=by decide)(hdb:(x==("__debug__":Str))=false:=by decide)(he:starEach (e::es) X.env=(false,eval e X.env)::starEach es X.env:=by rfl)(hpl:(backTo pos (starEach es X.env)).any (·.1)=false:=by rfl):QE X (.Call (.Name x p2) (e::es) [] pos) (aP R tr):=bV (A2 hc hg hm hv ha hn hdb he hpl) λ_ _ _=>J8 cv
theorem aA7 {x:Str}{T:String}{R:List PV->(PV->Prop)->Prop}{r:List V->Hp->VK->Prop}(hc:dN X (.type T) r)(cv:fG X R r)(hg:Gl X x)(hm:X.mg x=none)(hv:bootBuiltins x=some (.type T))(ha:QA X (e::es) tr)(hn:x≠"__name__":=by decide)(hdb:(x==("__debug__":Str))=false:=by decide)(he:starEach (e::es) X.env=(false,eval e X.env)::starEach es X.env:=by rfl)(hpl:(backTo pos (starEach es X.env)).any (·.1)=false:=by rfl):QE X (.Call (.Name x p2) (e::es) [] pos) (aP R tr):=bV (am1 hc hg hm hv ha hn hdb he hpl) λ_ _ _=>J8 cv
theorem dH:fM X [] dF:=M3 ai1 λ_ _ _=>ax3
theorem aV (h1:QS X st t)(h2:fM X sts u):fM X (st::sts) (bC t u):=M3 (ai2 h1 h2) λ_ _ _=>ax4
theorem bB (h1:QS X st t):fM X [st] t:=dL h1
theorem cO {i:Nat}{x:Str}(hN:X.N.Nodup)(he:QE X e te)(hi:X.N[i]? = some x:=by rfl)(hx:gR X.env.scope x:=by first|exact Or.inl rfl|exact Or.inr rfl)(hs:swapsWith e (some (.Name x p2)) pos.line X.env=pure false:=by rfl)(hf:X.fn x=true∨X.env.scope.names.lookup x=some .local:=by first|exact .inl rfl|exact .inr rfl) :
  QS X (.Assign [.Name x p2] e pos) (cR i te):=eD (o6 hN hi hx he hs hf) λ_ _ _=>K2
theorem aA8 {i:Nat}{x:Str}(hN:X.N.Nodup)(he:QE X e te)(hi:X.N[i]? = some x:=by rfl)(hx:gR X.env.scope x:=by first|exact Or.inl rfl|exact Or.inr rfl)(hs:swapsWith e (some (.Name x p2)) pos.line X.env=pure false:=by rfl)(hf:X.fn x=true∨X.env.scope.names.lookup x=some .local:=by first|exact .inl rfl|exact .inr rfl) :
  QS X (.Assign [.Name x p2] e pos) (uN i te):=eD (o6 hN hi hx he hs hf) λ_ _ _=>ax7
theorem mV (he:QE X e te)(hs:swapsWith e none pos.line X.env=pure false:=by rfl):QS X (.Expr e pos) (jR te):=eD (pY he hs) λ_ _ _=>ax8
theorem cM (he:QE X e te):QS X (.Return (some e) pos) (cL te):=eD (zE he) λ_ _ _=>ax9
theorem N1 (i:Nat){x:Str}(hN:X.N[i]? = some x:=by rfl)(hv:dY X.env.scope x:=by first|exact Or.inl rfl|exact Or.inr (Or.inl rfl)|exact Or.inr (Or.inr rfl))(hd:(x==("__debug__":Str))=false:=by decide)(hcd:(x==("__classdict__":Str))=false:=by decide) :
  QS X (.Return (some (.Name x p2)) pos) (rB i):=eD (zE (iI hN hv hd hcd)) λ_ _ _=>ay0
theorem dI {sa sb:List Stmt}(hc:QT X c tc)(ha:fM X sa t)(hb:fM X sb u):QS X (.If c sa sb pos) (dG tc t u):=eD (kE hc ha hb) λ_ _ _=>ay1
theorem N2 {body:List Stmt}(hp:PassesOwn (model X.prog X.w) X.A X.env X.xe)(hc:QT X c tc)(hb:fM X body t):QS X (.While c body [] pos) (rC tc t):=eD (ai3 hp hc hb) λ_ _ _=>ay2
theorem aA9 {tg l:Expr}{tl:TE}(hl:PE X l tl):PI X tg l (K7 X.K tl):=by
 intro ai s σ H R I h;refine aO (hl ai s σ H _ I h) λv s1 ⟨x,H1,I1,r1,q1⟩=>?_
 obtain⟨a,e,q⟩:=q1
 subst e;cases r1;rcases q with⟨xs,hq,q⟩|⟨xs,hq,q⟩
 ·obtain⟨its,rv,p,hz⟩:=I1.list hq
  refine wpAny_pyIter_list p.isList ?_;refine⟨s1.heap.objs.size,[s1.heap.objs.size],_,_,H1,rfl,I1.kept (t':=s1.toks) λb o e=>bd3 _ e,ai4 a _,⟨_,bf1 _ rfl,rfl,rfl⟩,λb hb=>?_,q⟩;have e:b=s1.heap.objs.size:=by simpa using hb
  subst e;exact I1.fpOk (be2 _) (I1.hok.fresh (be2 _))
 ·obtain⟨its,rv,p,hz⟩:=I1.tuple hq
  refine bn2 (show s1.heap.IsTuple a its.toArray from p) ?_;refine⟨s1.heap.objs.size,[s1.heap.objs.size],_,_,H1,rfl,I1.kept (t':=s1.toks) λb o e=>bd3 _ e,ai5 a _,⟨_,bf1 _ rfl,rfl,rfl⟩,λb hb=>?_,q⟩;have e:b=s1.heap.objs.size:=by simpa using hb
  subst e;exact I1.fpOk (be2 _) (I1.hok.fresh (be2 _))
theorem mW {tg l:Expr}(hl:QE X l te):QI X tg l (mJ te):=oQ (aA9 hl) λ_ _ _=>az1
theorem lB {tg:Expr}(hg:Gl X "range")(hm:X.mg "range" = none)(ha:QE X a ta)(hs:starEach [a] X.env = [(false,eval a X.env)]:=by rfl):QI X tg (.Call (.Name "range" p2) [a] [] pos) (kW ta):=oQ (ai8 hg hm (eQ ha jL hs) hs) λ_ _ _=>az3
theorem N3 {tg:Expr}{body:List Stmt}{ti:eU}{p:jS}{g:TG}{own:Nat->Prop}(hp:PassesOwn (model X.prog X.w) X.A X.env X.xe)(hc:X.calm=true)(hi:QI X tg e ti)(hg:PG X tg g)(ht:oO X.K own p g)(hb:fM X body t)(hs:∀x,foldedSetIterable e X.env x=pure x:=by intro _;rfl):QS X (.For tg e body [] pos) (i9 ti p t):=eD (aj0 hp hc hi hg hb hs) λ_ _ _=>az4 ht
end
section
variable {X:Cx}{ai:List (az×Obj)}{σ:St}{H:Hp}{s:ay}{K:ad}{M M':az→Prop}
theorem oJ.inj {a:az}{us ws:List V}(h:oJ K a us)(h':oJ K a ws):us=ws:=by
 obtain⟨o,its,n,e1,_,e2,_,v⟩:=h
 obtain⟨o',its',n',e1',_,e2',_,v'⟩:=h'
 rw[e1]at e1';cases e1';rw[e2]at e2';cases e2';exact v.inj v'
theorem Reps.self_of {n:Nat}(ih:∀{v:V}{x y:PV},aG K M H v x->aG K M' H v y->gX n x y=true->eC n x y=true):∀{vs:List V}{xs ys:List PV},Reps K M H vs xs->Reps K M' H vs ys->((xs.zip ys).all λp=>gX n p.1 p.2)=true->(((xs.zip ys).all λp=>eC n p.1 p.2)&&xs.length==ys.length)=true
 |_,_,_,.nil,.nil,_=>rfl
 |_,_,_,.cons r t,.cons r' t',o=>by
  simp only[bo2,List.all_cons,bg6]at o;have h1:=ih r r' o.1;have h2:=Reps.self_of ih t t' o.2;simp only[bo2,List.all_cons,h1,Bool.true_and,bg2]at h2 ⊢;rw[<- h2];congr 1;simp
theorem aG.self:∀(n:Nat) {v:V}{x y:PV},aG K M H v x->aG K M' H v y->gX n x y=true->eC n x y=true:=by
 intro n
 induction n with
 |zero=>
  intro v x y r r' o;cases r with
  |non=>cases r';rfl
  |bl b=>cases r';exact bj8 b
  |int i=>cases r';exact bj8 i
  |str z=>cases r';exact bj8 z
  |_=>cases o
 |succ n ih=>
  intro v x y r r' o;cases r with
  |non=>cases r';rfl
  |bl b=>cases r';exact bj8 b
  |int i=>cases r';exact bj8 i
  |str z=>cases r';exact bj8 z
  |tup h rr=>
   cases r' with
   |tup h' rr'=>rw[h]at h';cases h';exact Reps.self_of ih rr rr' o
   |_=>cases o
  |lst _ h rr=>
   cases r' with
   |lst _ h' rr'=>rw[h]at h';cases h';exact Reps.self_of ih rr rr' o
   |_=>cases o
  |kt h rr=>
   cases r' with
   |kt h' rr'=>cases oJ.inj h h';exact Reps.self_of ih rr rr' o
   |_=>cases o
  |_=>cases o
theorem Reps.self (n:Nat){vs:List V}{xs ys:List PV}(r:Reps K M H vs xs)(r':Reps K M' H vs ys)(o:((xs.zip ys).all λp=>gX n p.1 p.2)=true):(((xs.zip ys).all λp=>eC n p.1 p.2)&&xs.length==ys.length)=true:=Reps.self_of (aG.self n) r r' o
theorem uY (n:Nat)(xs ys:List PV):(List.range (min xs.length ys.length)).all (λj=>eC n (xs.getD j .non) (ys.getD j .non))=(xs.zip ys).all λp=>eC n p.1 p.2:=by
 rw[bq0];simp only[bp4,bl1];constructor
 ·intro h p hp
  obtain⟨j,hj,e⟩:=List.getElem_of_mem hp
  have hj':j<min xs.length ys.length:=by simpa using hj
  have:=h j hj'
  rw[List.getElem_zip]at e;subst e;have h1:j<xs.length:=by omega
  have h2:j<ys.length:=by omega
  simpa[bf5,h1,h2] using this
 ·intro h j hj
  have h1:j<xs.length:=by omega
  have h2:j<ys.length:=by omega
  have hz:j<(xs.zip ys).length:=by simp;omega
  have:=h _ (List.getElem_mem hz)
  rw[List.getElem_zip]at this;simpa[bf5,h1,h2] using this
theorem aB0 (I:aA X ai σ H s):∀(n:Nat) {A:bc}{v w:V}{x y:PV}{a b:ax},A.units+n<cLine->aG X.K M H v x->aG X.K M' H w y->aU v a->aU w b->gX n x y=true->SeqAt.EqAt A s a b (eC n x y):=by
 intro n
 induction n with
 |zero=>
  intro A v w x y a b hu rx ry ra rb o;cases rx with
  |non=>
   cases ra;cases ry with
   |non=>cases rb;exact SeqAt.EqAt.same _
   |int i=>obtain⟨t',rfl⟩:=rb;exact SeqAt.EqAt.none_int _ _
   |_=>cases o
  |bl i=>
   cases ra;cases ry with
   |bl j=>cases rb;exact SeqAt.EqAt.bool_bool _ _
   |_=>cases o
  |int i=>
   obtain⟨t,rfl⟩:=ra
   cases ry with
   |int j=>obtain⟨t',rfl⟩:=rb;exact SeqAt.EqAt.int_int _ _ _ _
   |non=>cases rb;exact SeqAt.EqAt.int_none _ _
   |_=>cases o
  |str i=>
   obtain⟨t,rfl⟩:=ra
   cases ry with
   |str j=>obtain⟨t',rfl⟩:=rb;exact SeqAt.EqAt.str_str _ _ _ _
   |_=>cases o
  |_=>cases o
 |succ n ih=>
  intro A v w x y a b hu rx ry ra rb o;have items:∀{us ws:List V}{xs ys:List PV}{its av:List ax},Reps X.K M H us xs->Reps X.K M' H ws ys->aN us its->aN ws av->((xs.zip ys).all λp=>gX n p.1 p.2)=true->
    ∀j (h1:j<its.toArray.size) (h2:j<av.toArray.size),SeqAt.EqAt A.in1 s its.toArray[j] av.toArray[j] (eC n (xs.getD j .non) (ys.getD j .non)):=λ{us ws xs ys its av} r1 r2 v1 v2 ok j h1 h2=>by
   have l1:=v1.length;have l2:=v2.length;have m1:=r1.length;have m2:=r2.length;have k1:j<its.length:=by simpa using h1
   have k2:j<av.length:=by simpa using h2
   have j1:j<us.length:=by omega
   have j2:j<ws.length:=by omega
   have i1:j<xs.length:=by omega
   have i2:j<ys.length:=by omega
   obtain⟨u,hu',ru⟩:=v1.get (bf3 j1)
   obtain⟨u2,hu2',ru2⟩:=v2.get (bf3 j2)
   obtain⟨x,hx,rx⟩:=r1.get (bf3 j1)
   obtain⟨y,hy,ry⟩:=r2.get (bf3 j2)
   have e1:its.toArray[j]=u:=by
    rw[bf3 k1]at hu';simpa using hu'
   have e2:av.toArray[j]=u2:=by
    rw[bf3 k2]at hu2';simpa using hu2'
   have ok':gX n x y=true:=by
    rw[bp4]at ok;have hz:j<(xs.zip ys).length:=by simp;omega
    have:=ok _ (List.getElem_mem hz)
    rw[List.getElem_zip]at this;rw[bf3 i1]at hx;rw[bf3 i2]at hy;cases hx;cases hy;exact this
   rw[e1,e2];have g1:xs.getD j .non=x:=by rw[bf5,hx];rfl
   have g2:ys.getD j .non=y:=by rw[bf5,hy];rfl
   rw[g1,g2];exact ih (by show A.units+1+n<cLine;omega) rx ry ru ru2 ok'
  have huA:A.units<cLine:=by omega
  cases rx with
  |@kt p us xs h1 r1=>
   obtain⟨its,v1,p1,_⟩:=I.tuple (.inr h1)
   cases (show a=Value.ref p from ra);cases ry with
   |@kt p2 ws ys h2 r2=>
    obtain⟨av,v2,p2',_⟩:=I.tuple (.inr h2)
    cases (show b=Value.ref p2 from rb);by_cases e:p=p2
    ·subst e
     have:=aG.self (K:=X.K) (M:=M) (M':=M') (n+1) (.kt h1 r1) (.kt h2 r2) o
     rw[this];exact SeqAt.EqAt.same _
    ·have:=SeqAt.RcAt.tuples p1 p2' huA (items r1 r2 v1 v2 o)
     refine .of_refs e ?_;have l1:=v1.length;have l2:=v2.length;have m1:=r1.length;have m2:=r2.length;rw[bd9,bd9,<- l1,<- l2,m1,m2,uY]at this;exact this
   |_=>cases o
  |@tup p us xs h1 r1=>
   obtain⟨its,v1,p1,_⟩:=I.tuple (aR.of (K:=X.K) h1)
   cases (show a=Value.ref p from ra);cases ry with
   |@tup p2 ws ys h2 r2=>
    obtain⟨av,v2,p2',_⟩:=I.tuple (aR.of (K:=X.K) h2)
    cases (show b=Value.ref p2 from rb);by_cases e:p=p2
    ·subst e
     have:=aG.self (K:=X.K) (M:=M) (M':=M') (n+1) (.tup h1 r1) (.tup h2 r2) o
     rw[this];exact SeqAt.EqAt.same _
    ·have:=SeqAt.RcAt.tuples p1 p2' huA (items r1 r2 v1 v2 o)
     refine .of_refs e ?_;have l1:=v1.length;have l2:=v2.length;have m1:=r1.length;have m2:=r2.length;rw[bd9,bd9,<- l1,<- l2,m1,m2,uY]at this;exact this
   |non=>cases rb;exact SeqAt.EqAt.tuple_none p1 huA
   |_=>cases o
  |@lst p us xs _ h1 r1=>
   obtain⟨its,v1,p1,_⟩:=I.list (aZ.of (K:=X.K) h1)
   cases (show a=Value.ref p from ra);cases ry with
   |@lst p2 ws ys _ h2 r2=>
    obtain⟨av,v2,p2',_⟩:=I.list (aZ.of (K:=X.K) h2)
    cases (show b=Value.ref p2 from rb);have l1:=v1.length;have l2:=v2.length;have m1:=r1.length;have m2:=r2.length;by_cases e:p=p2
    ·subst e
     rw[h1]at h2;cases h2
     have:=Reps.self n r1 r2 o
     show SeqAt.EqAt A s _ _ ((xs.zip ys).all (λp=>eC n p.1 p.2)&&xs.length==ys.length);rw[this];exact SeqAt.EqAt.same _
    ·refine .of_refs e ?_
     by_cases hl:xs.length=ys.length
     ·have:=SeqAt.RcAt.lists p1.isList p2'.isList (by rw[bd9,bd9];omega) huA (items r1 r2 v1 v2 o)
      have hm:min xs.length ys.length=its.length:=by omega
      rw[bd9,<- hm,uY]at this;show SeqAt.RcAt A s _ _ ((xs.zip ys).all (λp=>eC n p.1 p.2)&&xs.length==ys.length);rw[show (xs.length==ys.length)=true by simpa using hl,Bool.and_true];exact this
     ·have:=SeqAt.RcAt.lists_lengths (A:=A) p1.isList p2'.isList (by rw[bd9,bd9];simp;omega) huA
      show SeqAt.RcAt A s _ _ ((xs.zip ys).all (λp=>eC n p.1 p.2)&&xs.length==ys.length);rw[show (xs.length==ys.length)=false by simpa using hl,Bool.and_false];exact this
   |_=>cases o
  |non=>
   cases ra;cases ry with
   |non=>cases rb;exact SeqAt.EqAt.same _
   |int i=>obtain⟨t',rfl⟩:=rb;exact SeqAt.EqAt.none_int _ _
   |@tup p2 ws ys h2 r2=>
    obtain⟨av,v2,p2',_⟩:=I.tuple (aR.of (K:=X.K) h2)
    cases (show b=Value.ref p2 from rb);exact SeqAt.EqAt.none_tuple p2' huA
   |_=>cases o
  |bl i=>
   cases ra;cases ry with
   |bl j=>cases rb;exact SeqAt.EqAt.bool_bool _ _
   |_=>cases o
  |int i=>
   obtain⟨t,rfl⟩:=ra
   cases ry with
   |int j=>obtain⟨t',rfl⟩:=rb;exact SeqAt.EqAt.int_int _ _ _ _
   |non=>cases rb;exact SeqAt.EqAt.int_none _ _
   |_=>cases o
  |str i=>
   obtain⟨t,rfl⟩:=ra
   cases ry with
   |str j=>obtain⟨t',rfl⟩:=rb;exact SeqAt.EqAt.str_str _ _ _ _
   |_=>cases o
  |_=>cases o
end
structure Bt (mg:Str->Option ax):Prop where
 len:mg "len" = none
 range:mg "range" = none
 tuple:mg "tuple" = none
 list:mg "list" = none
 sorted:mg "sorted" = none
 all:mg "all" = none
 any:mg "any" = none
 zip:mg "zip" = none
 min:mg "min" = none
 max:mg "max" = none
 sum:mg "sum" = none
 isinst:mg "isinstance" = none
 int:mg "int" = none
 bool:mg "bool" = none
 enum:mg "enumerate" = none
section
variable {X:Cx}{a b c e o:Expr}{es rest:List Expr}{ta tb te to tk:aF}{tr:bX}{tA tB' tc:cQ}{pos p2 px:Pos}{st:Stmt}{sts:List Stmt}{t u:aY}
theorem eI (B:Bt X.mg)(ha:QA X [e] tr)(hg:Gl X "len":=by rfl)(he:starEach [e] X.env=(false,eval e X.env)::starEach [] X.env:=by rfl)(hpl:(backTo pos (starEach [] X.env)).any (·.1)=false:=by rfl):QE X (.Call (.Name "len" p2) [e] [] pos) (aP e9 tr):=
 oT (aq3.or as0) ay6 hg B.len PySem.boot_len ha (he:=he) (hpl:=hpl)
theorem aB1 (B:Bt X.mg)(ha:QA X [e] tr)(hg:Gl X "tuple":=by rfl)(he:starEach [e] X.env=(false,eval e X.env)::starEach [] X.env:=by rfl)(hpl:(backTo pos (starEach [] X.env)).any (·.1)=false:=by rfl):QE X (.Call (.Name "tuple" p2) [e] [] pos) (aP L8 tr):=
 aA7 aq4 ay7 hg B.tuple PyProof.Rows.boot_tuple ha (he:=he) (hpl:=hpl)
theorem N4 (ha:QE X a ta):QE X (.UnaryOp .USub a pos) (uV ta):=bV (aj3 ak4 ha) λσ H Q' h=>by
 obtain⟨W,ρ,Q,px,q,k⟩:=h
 refine⟨W,ρ,_,px,q,?_⟩;rintro v H1 x g s r ⟨i,rfl,q⟩;cases r
 exact⟨i,rfl,k _ _ _ .fr s (.int _) q⟩
noncomputable def N5 (K:ad)(H:Hp)(x:V)(t:ax):Prop:=fO K H x t∨∃a us,x = .ref a/\aR K H a us/\t = .type "tuple"
theorem aB2:dN X (.builtin "isinstance") (λxs H Q=>∃x t n b,xs = [x,.ty n]/\N5 X.K H x t/\PySem.W.kitOne X.K t (.type n)=some b/\Q (.bl b) H):=by
 intro ai s σ H xs us Q I r h
 obtain⟨x,t,n,b,rfl,ty,e,q⟩:=h
 rcases ty with ty|⟨a,ws,rfl,hs,rfl⟩
 ·exact as9 ai s σ H _ us Q I r ⟨x,t,n,b,rfl,ty,e,q⟩
 obtain⟨u,u',rfl,ru,ru'⟩:=tR r
 cases ru';cases (show u=Value.ref a from ru)
 obtain⟨its,_,⟨o,h1,h2,_⟩,_⟩:=I.tuple hs
 exact bl2 PySem.W.kitx_tuple I.kIn ⟨o,h1,h2⟩ e (λz=>nomatch z) λtk=>⟨.bl b,H,I.tok tk,rfl,q⟩
theorem aB3 {K:ad}{M:az->Prop}{H:Hp}{v:V}{x:PV}{T:String}(r:aG K M H v x)(e:L5 x=some T):N5 K H v (.type T):=by
 cases r with
 |non=>cases e;exact .inl .non
 |bl b=>cases e;exact .inl (.bl b)
 |int i=>cases e;exact .inl (.int i)
 |str i=>cases e;exact .inl (.str i)
 |tup h _=>cases e;exact .inl (.tup h)
 |lst _ h _=>cases e;exact .inl (.lst h)
 |kt h _=>cases e;exact .inr ⟨_,_,rfl,.inr h,rfl⟩
 |_=>cases e
theorem uZ {x:Str}{n:String}(B:Bt X.mg)(hn:bootBuiltins x=some (.type n))(hm:X.mg x=none)(ha:QE X a ta)(hg:Gl X "isinstance":=by rfl)(hgx:Gl X x:=by rfl)(hx:x≠"__name__":=by decide)(hdx:(x==("__debug__":Str))=false:=by decide)(he:starEach [a,.Name x px] X.env=(false,eval a X.env)::starEach [.Name x px] X.env:=by rfl)(he2:starEach [.Name x px] X.env=(false,eval (.Name x px) X.env)::starEach [] X.env:=by rfl)(hpl:(backTo pos (starEach [.Name x px] X.env)).any (·.1)=false:=by rfl):QE X (.Call (.Name "isinstance" p2) [a,.Name x px] [] pos) (lA X.K n ta):=
 bV (A2 aB2 hg B.isinst PyProof.Rows.boot_isinstance (eQ ha (eQ (ah0 (v:=.ty n) hgx hm hn rfl hx hdx) jL he2) he) (he:=he) (hpl:=hpl)) λσ H Q' h=>by
  obtain⟨W,ρ,Q,px,q,k⟩:=h
  refine⟨W,ρ,_,px,q,?_⟩;rintro v H1 x g s r ⟨T,b,e,kt,q⟩
  exact⟨v,_,n,b,rfl,aB3 r e,kt,k _ _ _ .fr s (.bl _) q⟩
theorem aB4 (B:Bt X.mg)(ha:QE X a ta)(hg:Gl X "isinstance":=by rfl)(hgx:Gl X "int":=by rfl)(he:starEach [a,.Name "int" px] X.env=(false,eval a X.env)::starEach [.Name "int" px] X.env:=by rfl)(he2:starEach [.Name "int" px] X.env=(false,eval (.Name "int" px) X.env)::starEach [] X.env:=by rfl)(hpl:(backTo pos (starEach [.Name "int" px] X.env)).any (·.1)=false:=by rfl):QE X (.Call (.Name "isinstance" p2) [a,.Name "int" px] [] pos) (lA X.K "int" ta):=uZ B PyProof.Rows.boot_int B.int ha (hg:=hg) (hgx:=hgx) (he:=he) (he2:=he2) (hpl:=hpl)
theorem aB5 (B:Bt X.mg)(ha:QE X a ta)(hg:Gl X "isinstance":=by rfl)(hgx:Gl X "bool":=by rfl)(he:starEach [a,.Name "bool" px] X.env=(false,eval a X.env)::starEach [.Name "bool" px] X.env:=by rfl)(he2:starEach [.Name "bool" px] X.env=(false,eval (.Name "bool" px) X.env)::starEach [] X.env:=by rfl)(hpl:(backTo pos (starEach [.Name "bool" px] X.env)).any (·.1)=false:=by rfl):QE X (.Call (.Name "isinstance" p2) [a,.Name "bool" px] [] pos) (lA X.K "bool" ta):=uZ B PyProof.Rows.boot_bool B.bool ha (hg:=hg) (hgx:=hgx) (he:=he) (he2:=he2) (hpl:=hpl)
theorem aB6 (B:Bt X.mg)(ha:QE X a ta)(hg:Gl X "isinstance":=by rfl)(hgx:Gl X "list":=by rfl)(he:starEach [a,.Name "list" px] X.env=(false,eval a X.env)::starEach [.Name "list" px] X.env:=by rfl)(he2:starEach [.Name "list" px] X.env=(false,eval (.Name "list" px) X.env)::starEach [] X.env:=by rfl)(hpl:(backTo pos (starEach [.Name "list" px] X.env)).any (·.1)=false:=by rfl):QE X (.Call (.Name "isinstance" p2) [a,.Name "list" px] [] pos) (lA X.K "list" ta):=uZ B PyProof.Rows.boot_list B.list ha (hg:=hg) (hgx:=hgx) (he:=he) (he2:=he2) (hpl:=hpl)
end
end PP
namespace PP
open PySem L2 PyProof.Rows
noncomputable def LO (X:Cx)(t:mM):TO:=λσ H Q'=>∃(W:az->Prop) (ρ:bT) (Q:Option Int->Prop),PX X.K X.H₀ W σ ρ H/\t ρ Q/\∀o H',aH H H'->Q o->Q' o H'
noncomputable def QO (X:Cx)(e:Option Expr)(t:mM):Prop:=PO X e (LO X t)
theorem Reps.cut {K:ad}{M:az->Prop}{H:Hp}{us:List V}{xs:List PV}(r:Reps K M H us xs)(lo hi:Option Int):Reps K M H (i7 us lo hi) (gH xs lo hi):=by
 unfold i7 gH;rw[r.length];exact (r.drop _).take _
section
variable {X:Cx}{a b c e o:Expr}{es rest:List Expr}{ta tb te to tk:aF}{tr:bX}{tA tB' tc:cQ}{pos p2 px:Pos}{st:Stmt}{sts:List Stmt}{t u:aY}
theorem v5:QO X none rJ:=λai s σ H Q I h=>ao6 ai s σ H Q I (by
 obtain⟨W,ρ,Q1,px,q,k⟩:=h
 exact k _ _ (aH.refl _) q)
theorem v6 (h:QE X e te):QO X (some e) (rK te):=λai s σ H Q I hq=>ao7 h ai s σ H Q I (by
 obtain⟨W,ρ,Q1,px,q,k⟩:=hq
 refine⟨W,ρ,_,px,q,?_⟩;rintro v H1 x g s r ⟨i,rfl,q⟩;cases r
 exact⟨i,rfl,k _ _ s q⟩)
theorem v7 {lo hi:Option Expr}{tl th:mM}{sp:Pos}(he:QE X e te)(hl:QO X lo tl)(hh:QO X hi th):QE X (.Subscript e (.Slice lo hi none sp) pos) (rM te tl th):=bV (ao8 (aq2.or at9) he hl hh) λσ H Q' h=>by
 obtain⟨W,ρ,Q,px,q,k⟩:=h
 refine⟨W,ρ,_,px,q,λv H1 x g s1 r1 q1=>⟨W,ρ,_,px.mono s1,q1,λlo H2 s2 q2=>⟨W,ρ,_,px.mono (s1.trans s2),q2,?_⟩⟩⟩;rintro hi H3 s3 ⟨xs,e,f,q3⟩;have S:=(s1.trans s2).trans s3;have r3:=r1.same (M':=Mg X.H₀ W H g) (s2.trans s3) λ_ z=>z
 cases r3 with
 |tup h r=>
  cases e;refine .inr ⟨_,_,rfl,aR.of h,λp hp=>k _ _ _ .fr (S.trans (bZ hp _)) (.tup bH (((r.flat f).cut lo hi).same (bZ hp _) λ_ z=>z)) q3,λec=>k _ _ _ .fr S (.tup h ?_) q3⟩
  have:=(r.flat (M':=Mg X.H₀ W H .fr) f).cut lo hi
  rw[ec]at this;exact this
 |lst m h r=>
  cases e;exact .inl ⟨_,_,rfl,aZ.of h,λp hp=>k _ _ _ .fr (S.trans (bZ hp _)) (.lst (S.free hp) bH (((r.flat f).cut lo hi).same (bZ hp _) λ_ z=>z)) q3⟩
 |scr h=>
  cases e;exact .inl ⟨_,_,rfl,h.sqL,λp hp=>k _ _ _ .fr (S.trans (bZ hp _)) (.lst (S.free hp) bH (((Reps.intz _).cut lo hi).same (bZ hp _) λ_ z=>z)) q3⟩
 |fL h r=>
  cases e;exact .inl ⟨_,_,rfl,.inl (.inr ⟨_,h⟩),λp hp=>k _ _ _ .fr (S.trans (bZ hp _)) (.lst (S.free hp) bH (((r.flat f).cut lo hi).same (bZ hp _) λ_ z=>z)) q3⟩
 |_=>cases e
structure Df (P:ba)(w:bf)(K:ad)(mg:Str->Option ax)(base:Heap)(k:Nat)(x:Str)(ps:List Str)(p:b7):Prop where
 ex:∃f fd,cX P w K mg base cF k f fd ps (iZ K p)/\fZ K fd ps []/\PySem.W.keepIn K (.ref f)=true/\mg x=some (.ref f)
theorem cT {k j:Nat}{x:Str}{ps:List Str}{p:b7}(d:Df X.prog X.w X.K X.mg X.base k x ps p)(hr:bG j X.A)(ha:QA X (e::es) tr)(hkj:k<=j:=by decide)(hg:Gl X x:=by rfl)(hdb:(x==("__debug__":Str))=false:=by decide)(he:starEach (e::es) X.env=(false,eval e X.env)::starEach es X.env:=by rfl)(hpl:(backTo pos (starEach es X.env)).any (·.1)=false:=by rfl):QE X (.Call (.Name x p2) (e::es) [] pos) (aP p tr):=by
 obtain⟨f,fd,F,b,kp,m⟩:=d.ex
 exact bV (oC F (hr.mono hkj) hg m kp b .nil jO ha hdb he hpl) λ_ _ _=>ay8
theorem j4 {K:ad}{H:Hp}{N:List Str}{vs:List V}{xs:List PV}(r:Reps K (λ_=>True) H vs xs):PX K H (λ_=>False) (L2.dZ N vs) (bF N xs) H:=by
 have lr:=r.length;have own:∀{i:Nat}{m:Slot},(bF N xs)[i]? = some (some m)->∃x,xs[i]? = some x/\m = .sh (flat x) x:=λ{i m} h=>by
  unfold bF at h;by_cases hi:i<xs.length
  ·rw[bo0 (by simpa using hi),bf4]at h
   rw[bf3 hi]at h ⊢;cases h
   exact⟨_,rfl,rfl⟩
  ·rw[List.getElem?_append_right (by simpa using hi),List.getElem?_replicate]at h
   split at h<;>cases h
 refine⟨by unfold L2.dZ bF;simp[lr],aH.refl _,λa z=>z.elim,λi m h=>?_,λi j x y a h1=>?_⟩
 ·obtain⟨x,hx,rfl⟩:=own h
  obtain⟨v,hv,rx⟩:=r.at hx
  refine⟨v,?_,rE (g:=false) (rx.same (aH.refl _) λ_ _ z=>z)⟩;have hi:i<vs.length:=(bf7.mp hv).1;unfold L2.dZ;rw[bo0 (by simpa using hi),bf4,hv];rfl
 ·obtain⟨x,_,e⟩:=own h1
  cases e
theorem Df.of {P:ba}{w:bf}{K:ad}{mg:Str->Option ax}{base:Heap}{k:Nat}{x:Str}{ps N:List Str}{p:b7}{st:Stmt}{f:az}{fd:FuncData}(F:bM K x x st f fd)(m:mg x=some (.ref f))(S:FnScope N ps (aI st))(hb:∀(kV doc pm:ax) (an:Option az) (cdv ct:ax) (us:List ax),us.length=ps.length->bindArgs (PySem.W.fnOf x x (bI st) (bD st) (aI st) .none kV doc pm an cdv ct) ⟨us,[]⟩=pure (ps.zip us))(len:∀xs Q,p xs Q->xs.length=ps.length)(body:∀(cdv:ax) (A:bc) (outer:List Env) (s:ay) (H:Hp) (E:XK),bG k (A.deeper (envOfC x (aI st) s.heap.objs.size f cdv))->
   ∃t,fM (cK cF P w K mg base N x (aI st) f cdv A outer s H E).nox (bD st) t/\∀xs Q,p xs Q->t { nx:=λ_=>Q .non,rt:=Q } (bF N xs)):Df P w K mg base (k+1) x ps p:=by
 refine⟨f,fd,F.ok S (λvs H Q E h=>?_) (λcdv A outer s H vs Q E hr h=>?_),F.binds hb,F.kp,m⟩
 ·obtain⟨xs,Qp,r,q,_⟩:=h
  rw[r.length];exact len xs Qp q
 ·obtain⟨xs,Qp,r,q,k⟩:=h
  obtain⟨t,ht,hq⟩:=body cdv A outer s H E hr
  refine⟨_,ht,λ_=>False,bF N xs,_,j4 r,hq xs Qp q,?_,?_,?_,?_⟩
  ·exact λW' σ' H' ρ' e px q=>k _ _ _ px.same .non q
  ·exact λv H' x s r q=>k _ _ _ s r q
  ·exact λW' σ' H' ρ' e px q=>q
  ·exact λW' σ' H' ρ' e px q=>q
theorem iC (i:Nat){x:Str}{tp:Pos}{body:List Stmt}{ti:eU}(hN:X.N.Nodup)(hi:QI X (.Name x tp) e ti)(hb:fM X body t)(hx:X.N[i]? = some x:=by rfl)(hl:gR X.env.scope x:=by first|exact Or.inl rfl|exact Or.inr rfl)(hf:X.fn x=true∨X.env.scope.names.lookup x=some .local:=by first|exact .inl rfl|exact .inr rfl)(hp:PassesOwn (model X.prog X.w) X.A X.env X.xe:=by exact PassesOwn.never)(hc:X.calm=true:=by rfl)(hs:∀x,foldedSetIterable e X.env x=pure x:=by intro _;rfl):QS X (.For (.Name x tp) e body [] pos) (i9 ti (fQ i) t):=
 N3 hp hc hi (lW hN hx hl hf) (rG _ i) hb hs
theorem rV (i j:Nat){x y:Str}{tp xp yp:Pos}{kt:Nat}{body:List Stmt}{ti:eU}(hN:X.N.Nodup)(hi:QI X (.Tuple [.Name x xp,.Name y yp] kt tp) e ti)(hb:fM X body t)(hx:X.N[i]? = some x:=by rfl)(hy:X.N[j]? = some y:=by rfl)(hlx:gR X.env.scope x:=by first|exact Or.inl rfl|exact Or.inr rfl)(hly:gR X.env.scope y:=by first|exact Or.inl rfl|exact Or.inr rfl)(hfx:X.fn x=true∨X.env.scope.names.lookup x=some .local:=by first|exact .inl rfl|exact .inr rfl)(hfy:X.fn y=true∨X.env.scope.names.lookup y=some .local:=by first|exact .inl rfl|exact .inr rfl)(hp:PassesOwn (model X.prog X.w) X.A X.env X.xe:=by exact PassesOwn.never)(hc:X.calm=true:=by rfl)(hs:∀x,foldedSetIterable e X.env x=pure x:=by intro _;rfl):QS X (.For (.Tuple [.Name x xp,.Name y yp] kt tp) e body [] pos) (i9 ti (kX i j) t):=
 N3 hp hc hi (zG hc (qD (lW hN hx hlx hfx) (qD (lW hN hy hly hfy) zF))) (K9 _ i j) hb hs
noncomputable abbrev d7:ax->ay->Prop:=λ_ _=>False
section
variable {scope:Scope}{N:List Str}{fr:List (Option Nat)}{x y:Str}{tp xp yp:Pos}{kt:Nat}{iter elt:Expr}{ti:eU}
theorem v8 {ifs:List Expr}{tcs:cQ}(he:∀(s:ay) (H:Hp) (C:az) (fp:List az),QE (cN X scope N s H C fp d7) elt te)(hi:∀(s:ay) (H:Hp) (C:az) (fp:List az),kM (cN X scope N s H C fp d7) ifs (LT (cN X scope N s H C fp d7) tcs))(hN:N.Nodup)(h0:N[0]? = some x)(hl:∀(s:ay) (H:Hp) (C:az) (fp:List az),(cN X scope N s H C fp d7).env.scope.names.lookup x=some .local)(s:ay)(H:Hp) :
  oF X scope N (.Name x tp) ifs elt s H (dM 0) (LT (X.frm H) tcs) (LE (X.frm H) te):=
 ⟨λC fp=>lW (X:=cN X scope N s H C fp d7) hN h0 (.inl (hl s H C fp)) (.inr (hl s H C fp)),λC fp=>hi s H C fp,λC fp=>he s H C fp⟩
theorem v9 {Y:Cx}:kM Y [] (LT Y gG):=λai s σ H Q I h=>as3 ai s σ H Q I (az7 h)
theorem aB7 (hi:QI X (.Name x tp) iter ti)(he:∀(s:ay) (H:Hp) (C:az) (fp:List az),QE (cN X scope N s H C fp d7) elt te)(hc:X.calm=true:=by rfl)(S:eS X scope N fr:=by exact eS.of rfl rfl)(hN:N.Nodup:=by decide +kernel)(h0:N[0]? = some x:=by rfl)(hl:∀(s:ay) (H:Hp) (C:az) (fp:List az),(cN X scope N s H C fp d7).env.scope.names.lookup x=some .local:=by intro _ _ _ _;rfl)(hf:fr[0]? = some none:=by rfl)(hs:∀x,foldedSetIterable iter X.env x=pure x:=by intro _;rfl):QE X (.ListComp elt [⟨.Name x tp,iter,[],0⟩] scope pos) (iA ti fr (fQ 0) gG te):=
 bV (uF (gh:=λ_=>dM 0) (tch:=λH=>LT (X.frm H) gG) (teh:=λH=>LE (X.frm H) te) hc S hi (v8 he (λ_ _ _ _=>v9) hN h0 hl) hs) λ_ _ _=>rH (rG _ 0) (λi e=>by subst e;exact hf)
theorem N6 {c:Expr}{tcs:cQ}(hi:QI X (.Name x tp) iter ti)(ht:∀(s:ay) (H:Hp) (C:az) (fp:List az),QT (cN X scope N s H C fp d7) c tcs)(he:∀(s:ay) (H:Hp) (C:az) (fp:List az),QE (cN X scope N s H C fp d7) elt te)(hc:X.calm=true:=by rfl)(S:eS X scope N fr:=by exact eS.of rfl rfl)(hN:N.Nodup:=by decide +kernel)(h0:N[0]? = some x:=by rfl)(hl:∀(s:ay) (H:Hp) (C:az) (fp:List az),(cN X scope N s H C fp d7).env.scope.names.lookup x=some .local:=by intro _ _ _ _;rfl)(hf:fr[0]? = some none:=by rfl)(hs:∀x,foldedSetIterable iter X.env x=pure x:=by intro _;rfl):QE X (.ListComp elt [⟨.Name x tp,iter,[c],0⟩] scope pos) (iA ti fr (fQ 0) tcs te):=
 bV (uF (gh:=λ_=>dM 0) (tch:=λH=>LT (X.frm H) tcs) (teh:=λH=>LE (X.frm H) te) hc S hi (v8 he (λs H C fp=>as4 (ht s H C fp)) hN h0 hl) hs) λ_ _ _=>rH (rG _ 0) (λi e=>by subst e;exact hf)
theorem aB8 {i:Nat}{z:Str}{zp:Pos}(nd:X.N.Nodup)(hi:QI X (.Name x tp) iter ti)(he:∀(s:ay) (H:Hp) (C:az) (fp:List az),QE (cN X scope N s H C fp d7) elt te)(hz:X.N[i]? = some z:=by rfl)(hzl:X.env.scope.names.lookup z=some .local:=by rfl)(hsw:swapsWith (.ListComp elt [⟨.Name x tp,iter,[],0⟩] scope p2) (some (.Name z zp)) pos.line X.env=pure true:=by rfl)(hc:X.calm=true:=by rfl)(S:eS X scope N fr:=by exact eS.of rfl rfl)(hN:N.Nodup:=by decide +kernel)(h0:N[0]? = some x:=by rfl)(hl:∀(s:ay) (H:Hp) (C:az) (fp:List az),(cN X scope N s H C fp d7).env.scope.names.lookup x=some .local:=by intro _ _ _ _;rfl)(hf:fr[0]? = some none:=by rfl)(hs:∀x,foldedSetIterable iter X.env x=pure x:=by intro _;rfl):QS X (.Assign [.Name z zp] (.ListComp elt [⟨.Name x tp,iter,[],0⟩] scope p2) pos) (cR i (iA ti fr (fQ 0) gG te)):=
 eD (as8 (gh:=λ_=>dM 0) (tch:=λH=>LT (X.frm H) gG) (teh:=λH=>LE (X.frm H) te) hc S hi (v8 he (λ_ _ _ _=>v9) hN h0 hl) nd hz hzl hsw hs) λD σ H h=>rH (rG _ 0) (λi e=>by subst e;exact hf) (K2 h)
end
theorem aB9:oE X "list.extend" (K4 X.K):=λai s σ H x xs v us Q I rx rs h=>h.elim (ar0 ai s σ H x xs v us Q I rx rs) (au3 ai s σ H x xs v us Q I rx rs)
theorem aC0 (i:Nat){x:Str}{aj am xpos:Pos}(he:QE X e te)(hN:X.N[i]? = some x:=by rfl)(hv:dY X.env.scope x:=by first|exact Or.inl rfl|exact Or.inr (Or.inl rfl)|exact Or.inr (Or.inr rfl))(hd:(x==("__debug__":Str))=false:=by decide)(hcd:(x==("__classdict__":Str))=false:=by decide)(hbase:attributeBase (.Name x xpos) "extend" X.env (eval (.Name x xpos) X.env)=eval (.Name x xpos) X.env:=by rfl)(hfew:((backTo am (starEach [e] X.env)).all (λx=>!x.1)&&(backToKw am (keywordEach [] X.env)).all (λx=>x.1.isSome)&&decide (([e]:List Expr).length+([]:List Keyword).length+(if ([]:List Keyword).isEmpty then 0 else 1)<30))=true:=by rfl)(hline:(aj.endLine==am.line)=true:=by rfl)(hs:starEach [e] X.env=(false,eval e X.env)::starEach [] X.env:=by rfl)(aw:(backTo am (starEach [] X.env)).any (·.1)=false:=by rfl)(hsw:swapsWith (.Call (.Attribute (.Name x xpos) "extend" aj) [e] [] am) none pos.line X.env=pure false:=by rfl) :
  QS X (.Expr (.Call (.Attribute (.Name x xpos) "extend" aj) [e] [] am) pos) (uO i te):=
 eD (pY (aq6 PySem.F.plainAttrs_list PySem.F.slot_list_extend PySem.F.type_list_extend aB9 (iI hN hv hd hcd) (eQ he jL hs) hbase hfew hline hs aw) hsw) λ_ _ _=>ay3
end
end PP
namespace SO
open PySem PyProof.Rows
variable {rk:Keyed→Int}
noncomputable abbrev LS:=Option (Array Keyed)×Array Keyed×Nat×Nat×Nat×Nat×Nat
noncomputable abbrev LO:=Option (Array Keyed)×Array Keyed×Nat×Nat×Nat
section
variable (rk:Keyed→Int)
noncomputable def Sd (l:List Keyed):Prop:=l.Pairwise λa b=>rk a<=rk b
structure MI (xs ys o:List Keyed)(i j:Nat):Prop where
 pm:o.Perm (xs.take i++ys.take j)
 sx:Sd rk (o++xs.drop i)
 sy:Sd rk (o++ys.drop j)
end
variable {rk:Keyed→Int}{xs ys o:List Keyed}{i j:Nat}
structure Gq (st st':SortSt):Prop where
 kd:kindOf st'=kindOf st
 ar:arrOf st'=arrOf st
 pd:pendingOf st'=pendingOf st
 ok:failedOf st'=failedOf st
section
variable {κ:SortKind}{st:SortSt}{prog:ba}{w:bf}{A:bc}{E:ax→ay→Prop}{s:ay}{Ok:Keyed→Prop}
noncomputable def aC1 (rk:Keyed->Int)(x y r:Array Keyed):Prop:=r.toList.Perm (x.toList++y.toList)/\Sd rk r.toList
noncomputable def GI (rk:Keyed->Int)(x y:Array Keyed)(lb:Nat)(st:SortSt)(c:LS)(st':SortSt):Prop:=Gq st st'/\∃o i j mg p q,c=(none,o,i,j,mg,p,q)/\MI rk x.toList y.toList o.toList i j/\i+1<x.size/\j<y.size/\lb<=i+j
noncomputable def GQ (rk:Keyed->Int)(x y:Array Keyed)(lb:Nat)(st:SortSt)(c:LS)(st':SortSt):Prop:=Gq st st'/\((∃r o i j mg p q,c=(some r,o,i,j,mg,p,q)/\aC1 rk x y r)∨∃o i j mg p q,c=(none,o,i,j,mg,p,q)/\MI rk x.toList y.toList o.toList i j/\i+1<x.size/\j<y.size/\lb<=i+j)
noncomputable def GR (rk:Keyed->Int)(x y:Array Keyed)(lb:Nat)(st:SortSt)(r:ForInStep LS)(st':SortSt):Prop:=match r with|.done c=>GQ rk x y lb st c st'|.yield c=>GI rk x y lb st c st'
end
variable {rk:Keyed→Int}{xs ys o:List Keyed}{i j:Nat}
variable {rk:Keyed→Int}
noncomputable def Ch:Nat->List (Nat×Nat)->Nat->Prop
 |a,[],b=>a=b
 |a,(p,n)::r,b=>p=a/\0<n/\Ch (a+n) r b
variable {rk:Keyed→Int}{κ:SortKind}{a0:Array Keyed}{pd:Array (Nat×Nat×Nat)}{st:SortSt}{prog:ba}{w:bf}{A:bc}{E:ax→ay→Prop}{s:ay}{Ok:Keyed→Prop}
noncomputable abbrev RS:=Option Unit×Nat
noncomputable def mrg (sz pw:Nat):StateT SortSt Sem (Option Unit×Unit):=forIn [0:sz] ((none,()):Option Unit×Unit) λ_ _=>do
 let z <- get
 match (if (pendingOf z).size>1 then (pendingOf z)[(pendingOf z).size-2]? else none) with
 |some (_,_,o)=>if o<=pw then pure (.done (none,())) else do
   let q <- mergeAt' ((pendingOf z).size-2)
   if (!q)=true then pure (.done (some (),())) else pure (.yield (none,()))
 |_=>pure (.done (none,()))
noncomputable def jn (sz lo n:Nat):StateT SortSt Sem (ForInStep RS):=do
 let z <- get
 match (pendingOf z).back? with
 |some (s1,n1,_)=>do
  let r <- mrg sz (power' sz (2*s1+n1) (2*s1+n1+n1+n) sz)
  match r.1 with
  |some u=>pure (.done (some u,lo))
  |none=>do
   modify λs=>setPending s ((pendingOf s).modify ((pendingOf s).size-1) λx=>(x.1,x.2.1,power' sz (2*s1+n1) (2*s1+n1+n1+n) sz))
   modify λs=>setPending s ((pendingOf s).push (lo,n,0))
   pure (.yield (none,lo+n))
 |_=>do
  modify λs=>setPending s ((pendingOf s).push (lo,n,0))
  pure (.yield (none,lo+n))
end SO
namespace L2
open PySem PySem.Spec PyProof.Rows
theorem bL.at {P:ba}{w:bf}{H:Hp}{h:Heap}{a:az}{o:HO}(x:bL P w H h a o):∃ob,h.get? a=some ob:=by
 cases o with
 |lst xs=>obtain⟨_,_,_,_,e⟩:=x;exact⟨_,e⟩
 |tup xs=>obtain⟨_,_,_,⟨_,e,_⟩,_⟩:=x;exact⟨_,e⟩
 |dK kvs=>obtain⟨_,_,_,_,_,_,_,e,_⟩:=x;exact⟨_,e⟩
 |dT kvs=>obtain⟨_,_,_,_,_,_,_,e,_⟩:=x;exact⟨_,e⟩
 |set S n=>obtain⟨_,_,_,_,e,_⟩:=x;exact⟨_,e⟩
 |ins C dx fs=>obtain⟨_,_,_,e,_⟩:=x;exact⟨_,e⟩
 |own y=>exact x
 |xd fs=>obtain⟨_,⟨_,_,_,e,_⟩,_⟩:=x;exact⟨_,e⟩
 |rng lo hi=>obtain⟨_,_,_,e⟩:=x;exact⟨_,e⟩
 |frz ob u=>obtain⟨e,_⟩:=x;exact⟨_,e⟩
 |tbl ps=>obtain⟨_,e,_⟩:=x;exact⟨_,e⟩
 |code q=>obtain⟨_,_,_,e,_⟩:=x;exact⟨_,e⟩
 |cd c q=>exact x.1
 |dA kvs=>obtain⟨_,_,_,_,_,_,_,e,_⟩:=x;exact⟨_,e⟩
 |dB kvs=>obtain⟨_,_,_,_,_,_,_,e,_⟩:=x;exact⟨_,e⟩
 |met f y=>exact⟨_,x⟩
 |ext φ=>exact x.2.1
structure vA (P:ba)(w:bf)(outer:List Env)(H:Hp)(s:ay)(H':Hp)(B:Heap)(a C:az)(s':ay):Prop where
 os:s'.os=s.os
 bare:AllBare s'.gens
 un:Un (bY outer) [] H H' s.heap s'.heap
 hok:bS P w H' s'.heap
 fly:∃a0,Heap.FlyingW B outer a (.ref C) a0 s'.heap
 b0:∀b o,s.heap.get? b=some o->b∉bY outer->∃o',B.get? b=some o'
 b1:∀b o,s.heap.get? b=some o->H b=none->b∉bY outer->B.get? b=some o
 b2:∀b u o,H' b=some u->s'.heap.get? b=some o->B.get? b=some o
noncomputable def fU (P:ba)(w:bf):dO:=λouter H s E e s'=>∃(H':Hp) (B:Heap) (a C:az),e = .ref a/\vA P w outer H s H' B a C s'/\E (.ref C) none H'
section
variable {P:ba}{w:bf}{outer:List Env}{H H':Hp}{s s':ay}{B h2:Heap}{a C:az}
theorem vA.hok2 (f:vA P w outer H s H' B a C s')(k:B.StaysIn h2):bS P w H' h2:=λb u e=>
 (f.hok b u e).stay (λc v hc q=>by
  rcases hc with z|z
  ·subst z;exact k _ _ (f.b2 _ _ _ e q)
  ·exact k _ _ (f.b2 _ _ _ z q)) (λ_ q=>q) λ_ _ q=>q
end
section
variable {P:ba}{w:bf}{K:ad}{mg:Str→Option ax}{base:Heap}{N:List Str}{qual:Str}{scope:Scope}{f:az}{cd:ax}{A:bc}{outer:List Env}{s₀:ay}{H₀:Hp}{E₀ E₁:XK}
theorem rW {ai:List (az×Obj)}{σ:St}{H:Hp}{s:ay}(I:aA (cK (fU P w) P w K mg base N qual scope f cd A outer s₀ H₀ E₀) ai σ H s){b:az}{o:Obj}(e:s₀.heap.get? b=some o)(n:b∉bY outer) :
  b∉bY (envOfC qual scope s₀.heap.objs.size f cd::outer):=λz=>by
 rcases bd8.mp (I.stkSub b z) with y|y
 ·have l:=be7 e
  have y:b=s₀.heap.objs.size:=y;exact absurd l (by rw[y];exact bi7 _)
 ·exact n y
theorem aC2 (hE:∀c d H',E₁ c d H'->E₀ c d H'):iV (fU P w) (cK (fU P w) P w K mg base N qual scope f cd A outer s₀ H₀ E₀) E₁:=by
 intro ai σ H s e s' I hx
 obtain⟨H',B,a,C,e1,fl,q⟩:=hx
 subst e1;have I':=I.call' fl.os fl.un fl.hok fl.bare (ch:=[]) (λb z=>absurd z (by simp))
 obtain⟨a0,fly⟩:=fl.fly
 refine wpAny_leaves_onW I.ok.frames rfl fly λh' fly' up=>?_
 have slot:∀b o,s₀.heap.get? b=some o->b∈bY outer->∃sl,h'.get? b=some { o with slots:=sl }:=λb o e hb=>by
  obtain⟨sl,e1⟩:=I'.base.slot b o e (I.ok.frf b hb) hb (λz=>nomatch z)
  obtain⟨_,o2,e2,nf⟩:=I.ok.funs.mem hb
  rw[show (cK (fU P w) P w K mg base N qual scope f cd A outer s₀ H₀ E₀).s₀=s₀ from rfl,e]at e2;cases e2
  obtain⟨sl',e3⟩:=up b _ e1 nf
  exact⟨sl',e3⟩
 have old:∀b o,s₀.heap.get? b=some o->H₀ b=none->b∉bY outer->B.get? b=some o:=λb o e n hb=>
  fl.b1 b o (I.base.keep b o e n hb (λz=>nomatch z)) (I.base.free b o e n (λz=>nomatch z)) (rW I e hb)
 have old0:∀b o,s₀.heap.get? b=some o->b∉bY outer->∃o',B.get? b=some o':=λb o e hb=>by
  obtain⟨o1,e1⟩:=I.base.there b o e (λz=>nomatch z)
  exact fl.b0 b o1 e1 (rW I e hb)
 refine⟨H',B,a,C,rfl,⟨I'.os,I'.bare,⟨λb o e n hb _=>fly'.1 _ _ (old b o e n hb),λb o e n hb _=>slot b o e hb,λb o e n hx=>I'.base.free b o e n hx,λb o e _=>?_,I'.base.tups,I'.base.frzs,I'.base.tbls⟩,fl.hok2 fly'.1,⟨a0,fly'⟩,old0,old,λb u o e h=>?_⟩,hE _ _ _ q⟩
 ·by_cases hb:b∈bY outer
  ·obtain⟨sl,e1⟩:=slot b o e hb
   exact⟨_,e1⟩
  ·obtain⟨o',e1⟩:=old0 b o e hb
   exact⟨o',fly'.1 _ _ e1⟩
 ·obtain⟨ob,e1⟩:=(fl.hok b u e).at
  have e2:=fl.b2 b u ob e e1;have e3:=fly'.1 _ _ e2;have h:h'.get? b=some o:=h;rw[h]at e3;cases e3;exact e2
theorem aC3 {ai:List (az×Obj)}{σ:St}{H:Hp}{s:ay}{h':Heap}{e C:az}{args:List ax}(I:aA (cK (fU P w) P w K mg base N qual scope f cd A outer s₀ H₀ E₀) ai σ H s)(mx:Heap.MadeExcOf s.heap h' e (.ref C) args)(q:E₀ (.ref C) none H) :
  (cK (fU P w) P w K mg base N qual scope f cd A outer s₀ H₀ E₀).xe (.ref e) { s with heap:=h' }:=by
 have tr:∀b u,H b=some u->b∉bY (envOfC qual scope s₀.heap.objs.size f cd::outer):=λb u z n=>by
  rw[I.stkFree b n]at z;cases z
 have inB:∀b o,s.heap.get? b=some o->b∉bY (envOfC qual scope s₀.heap.objs.size f cd::outer)->(PySem.W.hideAll s.heap (bY (envOfC qual scope s₀.heap.objs.size f cd::outer))).get? b=some o:=λb o z n=>PySem.W.hideAll_get _ z n
 refine wpAny_leaves_madeW (base:=PySem.W.hideAll s.heap (bY (envOfC qual scope s₀.heap.objs.size f cd::outer))) I.ok.frames rfl (λb o z=>PySem.W.of_hideAll _ z) (PySem.W.funFrames_hide I.stack λenv he b hb=>List.mem_filterMap.mpr ⟨env,he,hb⟩) mx λh'' t fly _ _ up=>?_
 have slot:∀b o,s₀.heap.get? b=some o->b∈bY outer->∃sl,h''.get? b=some { o with slots:=sl }:=λb o e hb=>by
  obtain⟨sl,e1⟩:=I.base.slot b o e (I.ok.frf b hb) hb (λz=>nomatch z)
  obtain⟨_,o2,e2,nf⟩:=I.ok.funs.mem hb
  rw[show (cK (fU P w) P w K mg base N qual scope f cd A outer s₀ H₀ E₀).s₀=s₀ from rfl,e]at e2;cases e2
  obtain⟨sl',e3⟩:=up b _ (mx.keeps _ _ e1) nf
  exact⟨sl',e3⟩
 have old:∀b o,s₀.heap.get? b=some o->H₀ b=none->b∉bY outer->(PySem.W.hideAll s.heap (bY (envOfC qual scope s₀.heap.objs.size f cd::outer))).get? b=some o:=λb o e n hb=>
  inB b o (I.base.keep b o e n hb (λz=>nomatch z)) (rW I e hb)
 have old0:∀b o,s₀.heap.get? b=some o->b∉bY outer->∃o',(PySem.W.hideAll s.heap (bY (envOfC qual scope s₀.heap.objs.size f cd::outer))).get? b=some o':=λb o e hb=>by
  obtain⟨o1,e1⟩:=I.base.there b o e (λz=>nomatch z)
  exact⟨o1,inB b o1 e1 (rW I e hb)⟩
 refine⟨H,_,e,C,rfl,⟨I.os,I.bare,⟨λb o e n hb _=>fly.1 _ _ (old b o e n hb),λb o e n hb _=>slot b o e hb,λb o e n hx=>I.base.free b o e n hx,λb o e _=>?_,I.base.tups,I.base.frzs,I.base.tbls⟩,λb u z=>?_,⟨_,fly⟩,old0,old,λb u o z h=>?_⟩,q⟩
 ·by_cases hb:b∈bY outer
  ·obtain⟨sl,e1⟩:=slot b o e hb
   exact⟨_,e1⟩
  ·obtain⟨o',e1⟩:=old0 b o e hb
   exact⟨o',fly.1 _ _ e1⟩
 ·refine (I.hok b u z).stay (λc v hc y=>?_) (λ_ y=>y) λ_ _ y=>y
  rcases hc with z'|z'
  ·subst z';exact fly.1 _ _ (inB _ _ y (tr _ _ z))
  ·exact fly.1 _ _ (inB _ _ y (tr _ _ z'))
 ·obtain⟨ob,e1⟩:=(I.hok b u z).at
  have e2:=inB b ob e1 (tr b u z);have e3:=fly.1 _ _ e2;have h:h''.get? b=some o:=h;rw[h]at e3;cases e3;exact e2
end
structure rX (X:Cx)(E:XK):Prop where
 pass:iV (fU X.prog X.w) X E
 made:∀(ai:List (az×Obj)) (σ:St) (H:Hp) (s:ay) (h':Heap) (e C:az) (args:List ax),aA X ai σ H s->Heap.MadeExcOf s.heap h' e (.ref C) args->E (.ref C) none H->X.xe (.ref e) { s with heap:=h' }
 own:PassesOwn (model X.prog X.w) X.A X.env X.xe
theorem aC4 {P:ba}{w:bf}{K:ad}{mg:Str->Option ax}{base:Heap}{N:List Str}{qual:Str}{scope:Scope}{f:az}{cd:ax}{A:bc}{outer:List Env}{s₀:ay}{H₀:Hp}{E₀ E₁:XK}(hE:∀c d H',E₁ c d H'->E₀ c d H') :
  rX (cK (fU P w) P w K mg base N qual scope f cd A outer s₀ H₀ E₀) E₁:=
 ⟨aC2 hE,λ_ _ _ _ _ _ _ _ I mx q=>aC3 I mx (hE _ _ _ q),PassesOwn.leaving⟩
noncomputable def N7 (E:XK)(C:az)(t:TA):TS:=λ_ σ H=>t σ H λvs H1=>vs.length<=sizeLine/\E (.ref C) none H1
theorem aC5 {X:Cx}{E:XK}{x:Str}{C:az}{bm:List ax}{B newId initId:String}{np am pos:Pos}{e:Expr}{es:List Expr}{t:TA}(hX:rX X E)(hc:X.calm=true)(O:OwnCls x C bm newId X.mg X.base)(FB:ExcBaseFacts B newId initId bm)(ha:PA X (e::es) t)(hg:Gl X x)(hd:(x==("__debug__":Str))=false:=by decide)(he:starEach (e::es) X.env=(false,eval e X.env)::starEach es X.env:=by rfl)(hpl:(backTo am (starEach es X.env)).any (·.1)=false:=by rfl) :
  PS X (.Raise (some (.Call (.Name x np) (e::es) [] am)) none pos) (N7 E C t):=by
 intro ai s σ H D I h
 obtain⟨tl,Na,nm,qn,bs,hx,sn,sub,ab,col,dd,k0,k1,k2,k3,k5,mN,hC,hN,hni,T⟩:=O.obj
 refine wpAny_Raise_call_subT (nm:=nm) (q:=qn) (N:=Na) (bs:=bs) (bm:=tl) (hdct:=hx) (sn:=sn) (sub:=sub) (ab:=ab) (col:=col) (dd:=dd) (k0:=k0) (k1:=k1) (k2:=k2) (k3:=k3) (k5:=k5) FB (C:=C) (mN:=mN) (T.hasType FB.hasBase) (I.ok.hd hc) (by rw[he];show (false||(backTo am (starEach es X.env)).any (·.1))=false;rw[hpl];rfl) hni (lU I hg O.bound ⟨rfl,?_⟩ hd);have h1:=ha am ai s σ H _ I h;rw[he]at h1 ⊢;refine Calls.evalArgs_plain (bj6 h1 (λus s2 h2=>?_) λ_ _ y=>y)
 obtain⟨vs,H2,I2,r,hl,q⟩:=h2
 have r:aN vs us:=r
 exact⟨rfl,by show us.length<=sizeLine;rw[<- r.length];exact hl,I2.bk _ _ hC,hN.keeps I2.bk,T.keeps I2.bk,λh' e' mx=>hX.made ai σ H2 s2 h' e' C _ I2 mx q⟩
theorem bM.okX {P:ba}{w:bf}{K:ad}{mg:Str->Option ax}{base:Heap}{x qual:Str}{st:Stmt}{f:az}{fd:FuncData}{N ps:List Str}{k:Nat}{sp:Sp}(F:bM K x qual st f fd)(S:FnScope N ps (aI st))(len:∀vs H Q E,sp vs H Q E->vs.length=ps.length)(hbody:∀(cdv:ax) (A:bc) (outer:List Env) (s:ay) (H:Hp) (vs:List V) (Q:VK) (E:XK),bG k (A.deeper (envOfC qual (aI st) s.heap.objs.size f cdv))->sp vs H Q E->
   ∃t,dE (cK (fU P w) P w K mg base N qual (aI st) f cdv A outer s H E) (bD st) t/\t { nx:=λ_ H'=>Q .non H',rt:=Q } (dZ N vs) H):cX P w K mg base (fU P w) (k+1) f fd ps sp:=by
 obtain⟨oc,od,kV,doc,pm,an,cdv,ct,osl,rfl,lk,hcd⟩:=F.ex
 exact tV lk hcd S len λA outer s H vs Q E hr hsp=>hbody cdv A outer s H vs Q E hr hsp
section
variable {X:Cx}{ai:List (az×Obj)}{σ:St}{H H1 H':Hp}{s s1 s':ay}{B h2:Heap}{a C:az}
noncomputable abbrev Cx.suite (X:Cx)(a:az):Cx:={ X with A:=X.A.mark (some (.ref a)),calm:=false,xe:=λ_ _=>False }
end
noncomputable abbrev TB:=dX->XK->St->Hp->Prop
section
variable {X:Cx}{ai:List (az×Obj)}{σ:St}{H H':Hp}{s:ay}{a:az}
theorem aA.reH (I:aA X ai σ H s)(d:∀b,b≠a->H' b=H b)(ha:∃x,H a=some x)(tup:∀xs,H a≠some (.tup xs))(frz:∀o v,X.H₀ a≠some (.frz o v))(tbl:∀ps,H a≠some (.tbl ps))(hok:bS X.prog X.w H' s.heap):aA X ai σ H' s:=by
 have none:∀b,H b=none->H' b=none:=λb e=>by
  rw[d b λz=>?_];exact e
  obtain⟨x,hx⟩:=ha
  rw[z,hx]at e;cases e
 refine⟨I.ok,I.os,I.bare,⟨I.base.keep,I.base.slot,λb o e n hx=>none b (I.base.free b o e n hx),I.base.there,λb xs q=>?_,λb o u q=>?_,λb ps q=>?_⟩,I.loc,I.cell,none _ I.free,λx c e=>none c (I.freeC x c e),λp hp=>?_,hok,I.len⟩
 ·have e:=I.base.tups b xs q
  rw[d b λz=>tup xs (by rw[<- z];exact e)];exact e
 ·rw[d b λz=>frz o u (by rw[<- z];exact q)];exact I.base.frzs b o u q
 ·obtain⟨more,e⟩:=I.base.tbls b ps q
  exact⟨more,by rw[d b λz=>tbl _ (by rw[<- z];exact e)];exact e⟩
 ·obtain⟨e,n,r⟩:=I.pin p hp
  exact⟨e,none _ n,r⟩
end
noncomputable def N8 (a:az)(o:Obj)(ys:List V):It:=
 ⟨λi H=>(∃u,H a=some (.frz o u))/\i<ys.length,λi H v H'=>H'=H/\ys[i]? = some v,λi H=>(∃u,H a=some (.frz o u))/\i=ys.length⟩
theorem aC6 {P:ba}{w:bf}{K:ad}{tg:Expr}{o:Obj}{es:Array DictEntry}{ep:Nat}{ys:List V}(a it:az)(od:o.ExactDict/\o.data = .dict es ep)(vl:aN ys (es.toList.map (·.key))) :
  i5 P w K tg (N8 a o ys) [it] it (λi h=>h.IsKeyIter it a i es.size ep):=by
 have hs:es.size=ys.length:=by
  have:=vl.length
  rw[be0,Array.length_toList]at this;exact this.symm
 refine⟨by simp,λi h st b hb=>?_,λi h h' st k=>st.at λo e=>k it (by simp) o e,?_,?_,λ_ _ _ _ _ st q=>wpAny_pyIter_keyiter st q⟩
 ·obtain rfl:b=it:=by simpa using hb
  obtain⟨o,e,c,d⟩:=st
  exact⟨o,e,λv z=>by rw[d]at z;cases z⟩
 ·intro X hP hw hK hc i ai s σ H E I hf st hg
  subst hP hw hK
  obtain⟨⟨u,hu⟩,hi⟩:=hg
  obtain⟨f0,f1,f2,f3,f4,f5⟩:=hf it (by simp)
  refine Raw.turn (I.ok.hd hc) st ⟨o,(I.hok a _ hu).1,od.1,od.2⟩ (λlt h' again sb=>?_) (λge=>absurd ge (by omega));have I1:aA X ai σ H { s with heap:=h' }:=I.turned (t':=s.toks) (λb o hb e=>(sb.2 b hb).trans e) f0 f1 f3 f4 f5;have hv:=bf3 hi
  obtain⟨key,hk,rv⟩:=vl.get hv
  obtain rfl:key=es[i].key:=by
   rw[bf4]at hk;simp[lt]at hk;exact hk.symm
  obtain⟨o',e,c,d⟩:=id again
  exact⟨es[i].key,rfl,qF (s:={ s with heap:=h' }) e c d (by decide) ⟨_,H,I1,rv,⟨rfl,hv⟩,again,λb hb=>(hf b hb).1⟩⟩
 ·intro X hP hw hK hc i ai s σ H E I hf st hg
  subst hP hw hK
  obtain⟨⟨u,hu⟩,hi⟩:=hg
  obtain⟨f0,f1,f2,f3,f4,f5⟩:=hf it (by simp)
  exact Raw.turn (I.ok.hd hc) st ⟨o,(I.hok a _ hu).1,od.1,od.2⟩ (λlt=>absurd lt (by omega)) λ_ h' eb=>⟨rfl,I.turned (t':=s.toks) (λb o hb e=>eb b o hb e) f0 f1 f3 f4 f5⟩
end L2
namespace Core
open PySem L2 PP
noncomputable def kin (ws:ag)(ls:aa)(S:ag)(h:Int):Bool:=!decide (h∈S)&&decide (ws.getD h.toNat 0<=(((qP ls h).filter λx=>decide (x∈S)).length:Int))
noncomputable def nextOf (ws:ag)(ls:aa)(S:ag):ag:=((List.range ws.length).map λ(i:Nat)=>(i:Int)).filter (kin ws ls S)
noncomputable def oU (ws:ag)(ls:aa)(S:ag):Nat->ag
 |0=>S
 |k+1=>oU ws ls S k++nextOf ws ls (oU ws ls S k)
noncomputable def after (ws:ag)(ls:aa)(S:ag)(m:Nat):ae:=(List.range m).map λk=>nextOf ws ls (oU ws ls S k)
noncomputable def dX (ws:ag)(ls:aa)(ns:ag)(m:Nat):Prop:=(∀k<m,nextOf ws ls (oU ws ls ns k)≠[])/\nextOf ws ls (oU ws ls ns m) = []
theorem N9 {lo:Int}{n i:Nat}{x:PV}(h:(gW lo n)[i]? = some x):x = .int (lo+i)/\i<n:=by
 have hi:i<n:=by
  have:=(bf7.mp h).1
  rwa [fH]at this
 rw[rD hi]at h
 exact⟨(bf6 h).symm,hi⟩
noncomputable def rng (n:Nat):ag:=(List.range n).map λ(i:Nat)=>(i:Int)
theorem lC (a:ag):(intz a).length=a.length:=be0 _
noncomputable def d9 (x:PV)(ns:ag):Prop:=x = .tup (intz ns)∨x = .lst (intz ns)
noncomputable abbrev vB (t:aY)(N:List Str)(p:b7):Prop:=∀xs Q,p xs Q->t { nx:=λ_=>Q .non,rt:=Q } (bF N xs)
noncomputable def inB (n:Nat)(x:Int):Bool:=decide (0<=x)&&decide (x<(n:Int))
theorem aC7 {ws:ag}{h:Int}(h0:0<=h)(h1:h<(ws.length:Int)):atI (intz ws) h=some (.int (ws.getD h.toNat 0)):=by
 refine at0 h0 ?_
 have:h.toNat<ws.length:=by omega
 rw[bf4,bf5,bf3 this];rfl
noncomputable def tups (rs:ae):List PV:=rs.map λr=>PV.tup (intz r)
end Core
namespace PP
open PySem L2
noncomputable def vC:PV->Tg->PV->Tg->PK->Prop:=λx _ y _ Q=>∃xs n,x = .tup xs/\y = .int n/\flats xs=true/\xs≠[]/\2<=n/\n<=1000000/\xs.length<=10/\Q (.tup (List.replicate n.toNat xs).flatten) .fr
noncomputable abbrev aC8 (ta tb:aF):aF:=q2 vC ta tb
end PP
namespace Core
open PySem L2 PP
theorem aC9 (g:Tg)(n:Int):Nw g (.int n):=by cases g<;>first|exact trivial|rfl
noncomputable def oV (x:PV)(ns:ag):Prop:=x = .scr ns∨x = .lst (intz ns)
theorem oV.seq {x:PV}{ns:ag}(h:oV x ns):kS x=some (intz ns):=by rcases h with rfl|rfl<;>rfl
theorem oV.len {x:PV}{ns:ag}(h:oV x ns):mH x=some ns.length:=by
 rcases h with rfl|rfl
 ·rfl
 ·show some (intz ns).length=_
  rw[lC]
noncomputable def gL:b7:=λxs Q=>∃x ns k,xs = [x,.int k]/\oV x ns/\0<=k/\Q (.int (ns.getD k.toNat 0))
noncomputable def O0:aY:=(bC (dG (bN (mO (aC 1) (aP e9 (aE (aC 0) aM)))) (cL (d4 (aC 0) (aC 1))) dF)
 (cL (qC (.int 0))))
theorem aD0:vB O0 ["script","k"] gL:=by
 rintro xs Q ⟨x,ns,k,rfl,hx,h0,q⟩;refine⟨_,rfl,_,rfl,_,_,rfl,hx.len,_,_,rfl,rfl,_,rfl,?_⟩;by_cases h:k<(ns.length:Int)
 ·rw[bg0 h]
  exact cC ⟨_,rfl,_,rfl,_,_,_,hx.seq,rfl,aC7 h0 h,aC9 _ _,q⟩
 ·rw[be4 h]
  rw[bf5,List.getElem?_eq_none (by omega)]at q;exact bJ ⟨trivial,q⟩
noncomputable def vD (ls:aa):List PV:=ls.map λl=>PV.tup [.int l.1,.int l.2]
noncomputable def ltP (l m:Int×Int):Prop:=l.1<m.1∨(l.1=m.1/\l.2<m.2)
noncomputable abbrev si (n:Int):Option Slot:=some (.sh true (.int n))
noncomputable def mX:b7:=λxs Q=>∃i,xs = [.int i]/\Q (.bl true)
noncomputable def O1 (K:ad):aY:=(cL (qZ (lA K "int" (aC 0)) (uL (lA K "bool" (aC 0)))))
theorem d9.len {x:PV}{ns:ag}(h:d9 x ns):mH x=some ns.length:=by
 rcases h with rfl|rfl<;>(show some (intz ns).length=_;rw[lC])
theorem aD1 {K:ad}(k1:PySem.W.kitOne K (.type "int") (.type "int")=some true)(k2:PySem.W.kitOne K (.type "int") (.type "bool")=some false):vB (O1 K) ["found"] mX:=by
 rintro xs Q ⟨i,rfl,q⟩
 exact⟨_,rfl,_,_,rfl,k1,_,rfl,cC ⟨_,rfl,_,_,rfl,k2,_,rfl,trivial,q⟩⟩
end Core
namespace PySem
theorem aD2:fillsNumberSlot (.type "tuple") "mul" = pure false:=
 fillsNumberSlot_seq (id:="tuple.__mul__") (r:=some (.builtin "tuple.__rmul__")) F.slot_tuple_mul.lookup (by decide +kernel) F.slot_tuple_rmul.lookup (by decide +kernel)
theorem aD3:seqRepeat? (.type "tuple")=pure (some (.builtin "tuple.__mul__")):=by
 unfold seqRepeat?;rw[seqSlot_of (T:="tuple") (name:="__mul__") (id:="tuple.__mul__") F.slot_tuple_mul.lookup (by decide +kernel),seqSlot_of (T:="tuple") (name:="__rmul__") (id:="tuple.__rmul__") F.slot_tuple_rmul.lookup (by decide +kernel)];rfl
theorem aD4 (a:Int)(t:Tok)(l:az)(items:Array ax)(n:Nat)(dd:Option az)(sl:Array (Option ax)) :
  Meets (Builtin.«int.__rmul__» ⟨[.int a t,.ref l],[]⟩) (λ_ R s=>s.heap.get? l=some { cls:=.type "tuple",dict:=dd,data:=.seq items n,slots:=sl }/\R (.ok (.ret Value.notImplemented)) s):=
 .of_wp λprog w A R s h=>by obtain⟨hp,g,d,tk,os⟩:=s;obtain⟨hl,h⟩:=h;wp_walk;exact⟨_,rfl,h⟩
theorem aD5 (l:az)(items:Array ax)(n:Nat)(dd:Option az)(sl:Array (Option ax))(x:Int)(u:Tok)(h0:items.isEmpty=false)(h1:2<=x)(h2:items.size*x.toNat<=sizeLine)(h3:x<=1000000) :
  Meets (Builtin.«tuple.__mul__» ⟨[.ref l,.int x u],[]⟩) (λ_ R s=>s.heap.get? l=some { cls:=.type "tuple",dict:=dd,data:=.seq items n,slots:=sl }/\R (.ok (.ret (Value.ref s.heap.objs.size))) { s with heap:=s.heap.push { cls:=Value.type "tuple",data:=Data.seq (List.foldl (λx1 x2=>x1++x2) #[] (List.replicate x.toNat items)) } }):=
 .of_wp λprog w A R s h=>by
  obtain⟨hp,g,d,tk,os⟩:=s;obtain⟨hl,h⟩:=h
  have c1:(decide (x < -(2^63))||decide (x >= 2^63))=false:=by
   rw[Bool.or_eq_false_iff];exact⟨be4 (by omega),be4 (by omega)⟩
  have c2:(items.isEmpty||x==1)=false:=by rw[h0,Bool.false_or];exact bo8.mpr (by omega)
  have c3:(decide (x<=0)||items.isEmpty)=false:=by rw[h0,Bool.or_false];exact be4 (by omega)
  have hsz:((items.size:Nat):Int)*x=((items.size*x.toNat:Nat):Int):=by rw[Int.natCast_mul];congr 1;omega
  have hl63:(sizeLine:Nat)<=(2^63-1)/8:=by decide
  have c4:decide (((items.size:Nat):Int)*x>(2^63-1)/8)=false:=be4 (by rw[hsz];omega);have c5:Builtin.Tuple.tupleTooMany (((items.size:Nat):Int)*x)=false:=by
   rw[hsz];unfold Builtin.Tuple.tupleTooMany;exact be4 (by omega)
  wp_walk
  refine wpAny_ite_false (by rw[c1];rfl) ?_
  wp_walk
  refine wpAny_ite_false (by rw[c2];rfl) ?_
  wp_walk
  refine wpAny_ite_false (by rw[c3];rfl) ?_
  wp_walk
  refine wpAny_ite_false c4 ?_
  wp_walk
  refine wpAny_ite_false (by rw[c5];rfl) ?_
  wp_walk
  have f0:∀(m:Nat) (acc:Array ax),(List.foldl (λx1 x2=>x1++x2) acc (List.replicate m items)).size=acc.size+m*items.size:=λm=>by
   induction m with
   |zero=>intro acc;simp
   |succ m ih=>intro acc;rw[bj4,bq1,ih,Array.size_append,Nat.succ_mul];omega
  have c6:decide ((List.foldl (λx1 x2=>x1++x2) #[] (List.replicate x.toNat items)).size>sizeLine)=false:=be4 (by
   rw[f0 x.toNat #[]]
   have:x.toNat*items.size=items.size*x.toNat:=Nat.mul_comm _ _
   simp only[Array.size_empty]
   omega)
  refine wpAny_ite_false c6 ?_
  wp_walk
  exact⟨_,rfl,h⟩
end PySem
namespace PP
open PySem L2 PyProof.Rows
noncomputable def O2 (K:ad):R2:=λx y H Q=>∃l k xs,x = .ref l/\y = .int k/\aR K H l xs/\xs≠[]/\2<=k/\k<=1000000/\xs.length*k.toNat<=sizeLine/\∀p,H p=none->Q (.ref p) (upd H p (.tup (List.replicate k.toNat xs).flatten))
theorem aD6 {X:Cx}:cJ X (binaryOp .Mult) (O2 X.K):=by
 intro ai s σ H x y v u Q I rx ry h
 obtain⟨l,k,xs,rfl,rfl,hH,hne,h1,h2,hz,q⟩:=h
 cases rx
 obtain⟨t,rfl⟩:=ry
 obtain⟨its,r,p,_⟩:=I.tuple hH
 obtain⟨⟨cls,dd,data,sl⟩,ho,hc,n,hd⟩:=id p
 simp only at hc hd;subst hc hd;have hl:=r.length;have hemp:its.toArray.isEmpty=false:=by
  cases its with
  |nil=>exact absurd (r.nil_iff.mp rfl) hne
  |cons a b=>rfl
 refine wpAny_binaryOp_repeat_ref (T:="tuple") (U:="int") (by decide) ⟨_,ho,rfl⟩ (λs'=>typeIs_int s' k t) aD2 F.fills_int_mul F.slot_int_rmul aD3 F.slot_int_index.lookup
  (call_meets F.slot_int_rmul (typeIs_int s k t) F.entry_int_rmul (F.args_int_rmul_2 _ _) (aD4 k t l its.toArray n dd sl)
   ⟨ho,rfl,⟨_,ho,rfl⟩,call_meets F.slot_tuple_mul ⟨_,ho,rfl⟩ F.entry_tuple_mul (F.args_tuple_mul_2 _ _) (aD5 l its.toArray n dd sl k t hemp h1 (by rw[bd9,<- hl];exact hz) h2) ⟨ho,?_⟩⟩)
 have f0:List.foldl (λx1 x2=>x1++x2) #[] (List.replicate k.toNat its.toArray)=(List.replicate k.toNat its).flatten.toArray:=by
  have:=u3 its k.toNat []
  rw[List.nil_append]at this;exact this
 rw[f0];refine⟨.ref s.heap.objs.size,_,I.laid (t':=s.toks) (o:=.tup (List.replicate k.toNat xs).flatten) (λb ob q=>bd3 _ q) (be2 _) ?_,rfl,q _ (I.hok.fresh (be2 _))⟩
 exact⟨by rw[C2,Nat.mul_comm];exact hz,_,r.rep k.toNat,IsTup.new _ _,hV.new _ _ rfl⟩
theorem Reps.rep {K:ad}{M:az->Prop}{H:Hp}{us:List V}{xs:List PV}(r:Reps K M H us xs):∀k:Nat,Reps K M H (List.replicate k us).flatten (List.replicate k xs).flatten
 |0=>.nil
 |k+1=>by rw[bj4,bj4,bn6,bn6];exact r.append (Reps.rep r k)
section
variable {X:Cx}{a b e:Expr}{ta tb te:aF}{tr:bX}{pos p2 p3 pos2:Pos}
theorem aD7:fD X vC (O2 X.K):=by
 rintro W Hs H u v x y g g' Q Q' s n r1 r2 ⟨xs,m,rfl,rfl,f,ne,h1,h2,hl,q⟩ k;cases r2
 obtain⟨a,us,rfl,h,r⟩:=r1.sqT
 have lr:=r.length;refine⟨a,m,us,rfl,rfl,aR.of h,λz=>ne (by cases xs with|nil=>rfl|cons _ _=>rw[z]at lr;cases lr),h1,h2,lim ?_,λp hp=>k _ _ _ .fr (bZ hp _) (.tup bH (((r.flat f).rep m.toNat).same (bZ hp _) λ_ z=>z)) q⟩;have h3:us.length<=10:=by omega
 have h4:m.toNat<=1000000:=by omega
 calc us.length*m.toNat<=10*1000000:=Nat.mul_le_mul h3 h4
  _<=16000000:=by decide
theorem vE (ha:QE X a ta)(hb:QE X b tb):QE X (.BinOp a .Mult b pos) (q2 vC ta tb):=fR aD6 aD7 ha hb
end
end PP
namespace Core
open PySem L2 PP
noncomputable def two (l:Int×Int):ag:=[l.1,l.2]
noncomputable def vF:b7:=λxs Q=>∃ns:ag,xs = [.scr ns]/\ns.length<=63/\Q (.bl true)
structure aD8 (K:ad):Prop where
 ii:PySem.W.kitOne K (.type "int") (.type "int")=some true
 ib:PySem.W.kitOne K (.type "int") (.type "bool")=some false
 tt:PySem.W.kitOne K (.type "tuple") (.type "tuple")=some true
 ll:PySem.W.kitOne K (.type "list") (.type "list")=some true
 bb:PySem.W.kitOne K (.type "bool") (.type "bool")=some true
theorem vG (K:ad):aD8 K:=by
 have same:∀n:String,PySem.W.kitMeta n=true->True:=λ_ _=>trivial
 refine⟨?_,?_,?_,?_,?_⟩
 ·unfold PySem.W.kitOne;rw[if_pos (by decide)]
 ·have e:(if PySem.W.kitMeta "bool" = true then (fastBuiltinMro "int").map (·.contains (Value.type "bool")) else none)=some false:=by decide +kernel
  unfold PySem.W.kitOne;rw[if_neg (by decide)];exact e
 ·unfold PySem.W.kitOne;rw[if_pos (by decide)]
 ·unfold PySem.W.kitOne;rw[if_pos (by decide)]
 ·unfold PySem.W.kitOne;rw[if_pos (by decide)]
end Core
namespace PP
open PySem L2 PyProof.Rows
noncomputable def aD9 (K:ad):Sp:=λvs H Q _=>∃(a:az) (ns:ag),vs = [.ref a]/\iY K H a ns/\ns.length<=63/\∀H',Q (.bl true) H'
end PP
namespace PyProof.Rows
open PySem
end PyProof.Rows
namespace PP
open PySem L2 PyProof.Rows
section
variable {X:Cx}{a b e:Expr}{ta tb te:aF}{tr:bX}{pos p2:Pos}
noncomputable def O3:PV->Tg->PV->Tg->PK->Prop:=λx _ y _ Q=>∃xs ys,x = .lst xs/\y = .lst ys/\flats xs=true/\flats ys=true/\xs.length+ys.length<=16000000/\Q (.lst (xs++ys)) .fr
noncomputable abbrev O4 (ta tb:aF):aF:=q2 O3 ta tb
theorem aE0:fD X O3 C0:=by
 rintro W Hs H u v x y g g' Q Q' s n r1 r2 ⟨xs,ys,rfl,rfl,f1,f2,hl,q⟩ k
 obtain⟨a,us,rfl,_,h1,q1⟩:=r1.sqL
 obtain⟨b,ws,rfl,_,h2,q2⟩:=r2.sqL
 have l1:=q1.length;have l2:=q2.length;refine⟨a,b,us,ws,rfl,rfl,h1,h2,lim (by omega),λp hp=>k _ _ _ .fr (bZ hp _) (.lst (s.free hp) bH (((q1.flat f1).append (q2.flat f2)).same (bZ hp _) λ_ z=>z)) q⟩
theorem aE1 (ha:QE X a ta)(hb:QE X b tb):QE X (.BinOp a .Add b pos) (O4 ta tb):=fR ar2 aE0 ha hb
end
end PP
namespace L2
open PySem PySem.Spec PyProof.Rows
noncomputable def vH (K:ad)(a:az):It:=
  ⟨λi H=>∃xs x,aZ K H a xs/\xs[i]? = some x,
   λi H v H'=>∃T x,H T=none/\v = .ref T/\H'=upd H T (.tup [.int i,x])/\∀xs,aZ K H a xs->xs[i]? = some x,
   λi H=>∃xs,aZ K H a xs/\xs.length<=i⟩
structure aE2 (e it a:az)(i:Nat)(h:Heap):Prop where
 ee:∃old,IsEnum h e it i old
 s1:h.IsListIter it a i
theorem aE3 {P:ba}{w:bf}{K:ad}{elts:List Expr}{k:Nat}{pos:Pos}(a e it:az)(d:e≠it) :
  i5 P w K (.Tuple elts k pos) (vH K a) [e,it] e (aE2 e it a):=by
 refine⟨by simp,λi h st c hc=>?_,λi h h' st kp=>?_,?_,?_,λA i s Q E st q=>?_⟩
 ·simp only[bd8,bf2,bi5]at hc
  obtain⟨old,ee⟩:=st.ee
  obtain⟨o1,f1,g1,d1⟩:=st.s1
  rcases hc with rfl|rfl
  ·exact⟨_,ee,λv q=>by cases q⟩
  ·exact⟨_,f1,λv q=>by rw[d1]at q;cases q⟩
 ·obtain⟨old,ee⟩:=st.ee
  exact⟨⟨old,kp e (by simp) _ ee⟩,st.s1.at λo z=>kp it (by simp) o z⟩
 ·intro X hP hw hK hc i ai s σ H E I hf st hg
  subst hP hw hK
  obtain⟨xs,x,ha,hx⟩:=hg
  obtain⟨us,ru,pu,lu⟩:=I.list ha
  obtain⟨ux,eux,rux⟩:=ru.get hx
  obtain⟨old,ee⟩:=st.ee
  refine wpAny_pyNext_enum_item ee st.s1 pu.isList (by simpa using eux) d λh' eo it' pr sz kp=>⟨_,rfl,?_⟩
  refine wpAny_letOwnedTupleGo_enum (s:={ s with heap:=h',toks:=s.toks+1 }) eo λg zz sb=>?_
  have hzl:e<s.heap.objs.size:=be7 ee;have up:∀c o,c≠e->c≠it->s.heap.get? c=some o->g.get? c=some o:=λc o c1 c2 z=>sb.extBut c o c1 (kp c o c1 c2 z)
  have hT:H s.heap.objs.size=none:=I.hok.fresh (be2 _);have prG:g.get? s.heap.objs.size=some { cls:=.type "tuple",data:=.seq #[.int i s.toks,ux] }:=sb.extBut _ _ (bl6 hzl) pr;have fpn:∀c u,H c=some u->c∉[e,it]:=λc u z hm=>by rw[(hf c hm).1]at z;cases z
  have upH:∀c o u,H c=some u->s.heap.get? c=some o->g.get? c=some o:=λc o u q z=>by
   have:=fpn c u q
   simp only[bd8,bf2,bi5,not_or]at this;exact up c o this.1 this.2 z
  have ns:∀m,s.heap.Ns X.env.locals m->g.Ns X.env.locals m:=λm hm=>by
   obtain⟨o,es,ep,e1,e2⟩:=hm
   exact⟨o,es,ep,up _ o (Ne.symm (hf e (by simp)).2.1) (Ne.symm (hf it (by simp)).2.1) e1,e2⟩
  have I2:aA X ai σ (upd H s.heap.objs.size (.tup [.int i,x])) { s with heap:=g,toks:=s.toks+1 }:=by
   refine I.step (g':=s.gens) (d':=s.drawn) (ch:=[e,it]) (λc hc'=>?_) (λc o _ _ hc' z _=>?_) (λc o _ _ hc' z _=>⟨o.slots,?_⟩) (λc o _ z n=>?_) (λc o hc' z=>⟨o,?_⟩)
    (λc zs z=>by rw[aJ (cZ z hT)];exact z) (λc u zs z=>by rw[aJ (cZ z hT)];exact z) (λc ps z=>⟨#[],by rw[aJ (cZ z hT),z];simp⟩) ns (λc u z=>?_) I.bare
   ·exact⟨(hf c hc').2.2.2.1,(hf c hc').2.1,(hf c hc').2.2.2.2.1,(hf c hc').2.2.2.2.2⟩
   ·simp only[bd8,bf2,bi5,not_or]at hc'
    exact up c o hc'.1 hc'.2 z
   ·simp only[bd8,bf2,bi5,not_or]at hc'
    exact up c o hc'.1 hc'.2 z
   ·rw[aJ (bg7 (be7 z))];exact n
   ·simp only[bd8,bf2,bi5,not_or]at hc'
    exact up c o hc'.1 hc'.2 z
   ·by_cases hcT:c=s.heap.objs.size
    ·subst hcT
     rw[bH]at z;cases z
     exact⟨by show 2<=sizeLine;decide,[.int i s.toks,ux],.cons ⟨_,rfl⟩ (.cons rux .nil),⟨_,prG,rfl,_,rfl⟩,λu e=>by rw[prG]at e;cases e;rfl⟩
    ·rw[aJ hcT]at z
     refine (I.hok c u z).stay (λc' o' hc2 q'=>?_) (λc' q'=>by rw[aJ (cZ q' hT)];exact q') λc' zs q'=>by rw[aJ (cZ q' hT)];exact q'
     rcases hc2 with rfl|hc2
     ·exact upH _ _ _ z q'
     ·exact upH _ _ _ hc2 q'
  refine⟨.ref s.heap.objs.size,_,I2,rfl,⟨_,x,hT,rfl,rfl,λxs' ha'=>?_⟩,⟨⟨ux,by push_cast;exact zz⟩,it'.at λo z=>sb.extBut _ o (Ne.symm d) z⟩,λc hc'=>?_⟩
  ·rw[I.list_inj ha' ha];exact hx
  ·obtain⟨o,z⟩:∃o,s.heap.get? c=some o:=by
    simp only[bd8,bf2,bi5]at hc'
    obtain⟨o1,f1,_⟩:=st.s1
    rcases hc' with rfl|rfl
    ·exact⟨_,ee⟩
    ·exact⟨_,f1⟩
   rw[aJ (bg7 (be7 z))];exact (hf c hc').1
 ·intro X hP hw hK hc i ai s σ H E I hf st hg
  subst hP hw hK
  obtain⟨xs,ha,hi⟩:=hg
  obtain⟨us,ru,pu,lu⟩:=I.list ha
  obtain⟨old,ee⟩:=st.ee
  have hh:X.A.handled=none:=I.ok.hd hc;have e1:=ru.length;refine wpAny_pyNext_enum_end hh ee st.s1 pu.isList (by rw[Array.getElem?_eq_none];simp only[bd9];omega) λg kp=>⟨rfl,?_⟩
  have fpn:∀c u,H c=some u->c∉[e,it]:=λc u z hm=>by rw[(hf c hm).1]at z;cases z
  have upH:∀c o u,H c=some u->s.heap.get? c=some o->g.get? c=some o:=λc o u q z=>by
   have:=fpn c u q
   simp only[bd8,bf2,bi5,not_or]at this;exact kp c o this.2 z
  have ns:∀m,s.heap.Ns X.env.locals m->g.Ns X.env.locals m:=λm hm=>by
   obtain⟨o,es,ep,e1,e2⟩:=hm
   exact⟨o,es,ep,kp _ o (Ne.symm (hf it (by simp)).2.1) e1,e2⟩
  refine I.step (g':=s.gens) (d':=s.drawn) (ch:=[it]) (λc hc'=>?_) (λc o _ _ hc' z _=>?_) (λc o _ _ hc' z _=>⟨o.slots,?_⟩) (λc o _ z n=>n) (λc o hc' z=>⟨o,?_⟩)
   (λc zs z=>z) (λc u zs z=>z) (λc ps z=>⟨#[],by rw[z];simp⟩) ns (λc u z=>?_) I.bare
  ·have hm:c∈[e,it]:=bd5 _ hc'
   exact⟨(hf c hm).2.2.2.1,(hf c hm).2.1,(hf c hm).2.2.2.2.1,(hf c hm).2.2.2.2.2⟩
  ·exact kp c o (λy=>hc' (by rw[y];simp)) z
  ·exact kp c o (λy=>hc' (by rw[y];simp)) z
  ·exact kp c o (λy=>hc' (by rw[y];simp)) z
  ·refine (I.hok c u z).stay (λc' o' hc2 q'=>?_) (λ_ q'=>q') λ_ _ q'=>q'
   rcases hc2 with rfl|hc2
   ·exact upH _ _ _ z q'
   ·exact upH _ _ _ hc2 q'
 ·obtain⟨old,ee⟩:=st.ee
  exact wpAny_pyIter_enum ee q
end L2
namespace Zp
open PySem PyProof.Rows
section
variable {prog:ba}{w:bf}{A:bc}{E:ax→ay→Prop}{s:ay}
theorem aE4 {e it t:az}{i:Nat}{items:Array ax}{x old:ax}{Q:Option ax->ay->Prop}(he:IsEnum s.heap e it i old)(hi:s.heap.IsTupleIter it t i)(ht:s.heap.IsTuple t items)(hx:items[i]? = some x)(ne:e≠it)(q:∀h',IsEnumOut h' e it ((i:Int)+1) x s.heap.objs.size->h'.IsTupleIter it t (i+1)->h'.get? s.heap.objs.size=some { cls:=.type "tuple",data:=.seq #[.int i s.toks,x] }->h'.objs.size=s.heap.objs.size+1->
   (∀b o,b≠e->b≠it->s.heap.get? b=some o->h'.get? b=some o)->Q (some (.ref s.heap.objs.size)) { s with heap:=h',toks:=s.toks+1 }):wpAny (model prog w) A (pyNext (.ref e)) Q E s:=by
 have T:s.TypeIs (.ref e) "enumerate":=⟨_,he,rfl⟩;have slot:=PySem.F.slot_enumerate_next;unfold pyNext;apply bd2;apply wpAny_attempt;apply bj3 (name:=Str.ofString "__next__") T slot;apply bl5 slot T PySem.F.entry_enumerate_next _ (PySem.F.args_enumerate_next_1 _)
 change wpAny _ _ (field (.ref e) 2 >>= _) _ _ _
 apply bd2;refine bj2 he rfl (x:=.ref it) rfl ?_;apply bd2;refine E5 hi ht hx λg1 it1 sb1=>?_
 have e1:IsEnum g1 e it i old:=sb1.extBut _ _ ne he
 change wpAny _ _ (field (.ref e) 3 >>= _) _ _ _
 apply bd2;refine bj2 e1 rfl (x:=rawInt i) rfl ?_
 change wpAny _ _ (field (.ref e) 4 >>= _) _ _ _
 apply bd2;refine bj2 e1 rfl (x:=.none) rfl ?_
 change wpAny _ _ (mkInt i >>= _) _ _ _
 apply bd2;refine wpAny_mkInt ?_
 change wpAny _ _ (setField (.ref e) 3 (rawInt ((i:Int)+1)) >>= _) _ _ _
 apply bd2;refine bk4 e1 (by simp) λg2 e2 sb2=>?_
 apply bd2;refine bk4 e2 (by simp) λg3 e3 sb3=>?_
 have e3:IsEnum g3 e it ((i:Int)+1) old:=e3;apply bd2;refine wpAny_newTuple ?_ (by show 2<=sizeLine;decide);have e4:IsEnum (g3.push { cls:=.type "tuple",data:=.seq #[.int i s.toks,x] }) e it ((i:Int)+1) old:=bd3 _ e3;have size:g3.objs.size=s.heap.objs.size:=by rw[sb3.1,sb2.1,sb1.1]
 change wpAny _ _ (Builtin.SmallTypes.ownedTupleIsFree (.ref e) >>= _) _ _ _
 apply bd2;unfold Builtin.SmallTypes.ownedTupleIsFree;apply bd2;refine bj2 e4 rfl (x:=.none) rfl (bd6 ?_);simp only[if_true];apply bd2;apply wpAny_rule;apply bd2;refine bj2 e4 rfl (x:=old) rfl ?_;apply bd2;refine bk4 e4 (by simp) λg5 e5 sb5=>?_
 apply bd2;unfold Builtin.SmallTypes.ownedTupleHandOut;apply bd2;refine bk4 e5 (by simp) λg6 e6 sb6=>?_
 refine bk4 e6 (by simp) λg7 e7 sb7=>?_
 have e7:IsEnumOut g7 e it ((i:Int)+1) x g3.objs.size:=e7;have elt:e<g3.objs.size:=be7 e3;have up:∀c o,c≠e->(g3.push { cls:=.type "tuple",data:=.seq #[.int i s.toks,x] }).get? c=some o->g7.get? c=some o:=λc o c1 z=>sb7.extBut c o c1 (sb6.extBut c o c1 (sb5.extBut c o c1 z))
 have up3:∀c o,c≠e->g1.get? c=some o->g7.get? c=some o:=λc o c1 z=>up c o c1 (bd3 _ (sb3.extBut c o c1 (sb2.extBut c o c1 z)))
 have p7:g7.get? g3.objs.size=some { cls:=.type "tuple",data:=.seq #[.int i s.toks,x] }:=up _ _ (bl6 elt) (bf1 _ rfl);have s7:g7.objs.size=g3.objs.size+1:=by rw[sb7.1,sb6.1,sb5.1,bl4]
 apply bd2;apply wpAny_letGo;apply bd6;rw[size]at e7 p7 s7;refine⟨_,rfl,bd6 ?_⟩
 change Q (some (.ref g3.objs.size)) _
 rw[size];exact q g7 e7 (it1.at λo z=>up3 it o (Ne.symm ne) z) p7 s7 λb o b1 b2 z=>up3 b o b1 (sb1.extBut b o b2 z)
theorem aE5 {e it t:az}{i:Nat}{items:Array ax}{old:ax}{Q:Option ax->ay->Prop}(hh:A.handled=none)(he:IsEnum s.heap e it i old)(hi:s.heap.IsTupleIter it t i)(ht:s.heap.IsTuple t items)(hx:items[i]? = none)(q:∀h',Heap.ExtBut it s.heap h'->Q none { s with heap:=h' }):wpAny (model prog w) A (pyNext (.ref e)) Q E s:=by
 have T:s.TypeIs (.ref e) "enumerate":=⟨_,he,rfl⟩;have slot:=PySem.F.slot_enumerate_next;unfold pyNext;apply bd2;apply wpAny_attempt;apply bj3 (name:=Str.ofString "__next__") T slot;apply bl5 slot T PySem.F.entry_enumerate_next _ (PySem.F.args_enumerate_next_1 _)
 change wpAny _ _ (field (.ref e) 2 >>= _) _ _ _
 apply bd2;refine bj2 he rfl (x:=.ref it) rfl ?_;apply bd2;refine E6 hh hi ht hx λg2 ex eb exo=>?_
 obtain⟨oe,eo,co⟩:=exo
 apply bd2;refine bp3 (T:="StopIteration") (b:=true) ⟨oe,eo,co⟩ isSubtype_stop ?_;exact bd6 (q g2 eb)
theorem aE6 {M:Model}{A:bc}{E:ax->ay->Prop}{s:ay}{α:Type}{c:Prop}[Decidable c]{m n:Sem α}{Q:α->ay->Prop}(h1:wpAny M A m Q E s)(h2:wpAny M A n Q E s):wpAny M A (if c then m else n) Q E s:=by
 split
 ·exact h1
 ·exact h2
theorem aE7 (t:az)(xs:Array ax):Meets (Builtin.«enumerate.__new__» ⟨[.type "enumerate",.ref t],[]⟩) (λ_ R s=>s.heap.IsTuple t xs/\R (.ok (.ret (.ref (s.heap.objs.size+1)))) { s with heap:=(s.heap.push { cls:=.type "tuple_iterator",data:=.fields #[.ref t,.int 0 0] }).push { cls:=.type "enumerate",data:=.fields #[.none,.bool false,.ref s.heap.objs.size,rawInt 0,.none,.none] } }):=
 .of_wp λprog w A R s h=>by
  obtain⟨hp,g,d,tk,os⟩:=s
  obtain⟨ht,h⟩:=h
  have sub:=sub_enumerate;have a1:Heap.IsTuple (Shared.heap ⟨hp,g,d,tk,os⟩) t xs:=ht
  wp_walk using bn2 a1
  refine wpAny_stack_any λst=>bd6 ?_
  refine aE6 ?_ ?_
  all_goals
   apply bd2;refine wpAny_of_eq (a:=(Value.ref t,none)) rfl ?_
   wp_walk using bn2 a1
   have e:∀(o:Obj) (k:Heap),(k.push o).objs.size=k.objs.size+1:=λo k=>bl4 ..
   refine⟨_,rfl,?_⟩;simp only[e]at h ⊢;exact h
theorem aE8 {t:az}{xs:Array ax}{Q:ax->ay->Prop}(ht:s.heap.IsTuple t xs)(q:∀h',IsEnum h' (s.heap.objs.size+1) s.heap.objs.size 0 .none->h'.IsTupleIter s.heap.objs.size t 0->h'.objs.size=s.heap.objs.size+2->(∀c o,s.heap.get? c=some o->h'.get? c=some o)->Q (.ref (s.heap.objs.size+1)) { s with heap:=h' }) :
  wpAny (model prog w) A (call (.type "enumerate") [.ref t]) Q E s:=by
 refine callType_new PySem.F.called_enumerate (by decide) (PySem.F.typeCall_enumerate_1 _) (PySem.F.newCall_enumerate_1 _) (λobj=>PySem.F.args_object_init_2 obj _) PySem.F.entry_enumerate_new (aE7 t xs) ⟨ht,?_⟩;have e:∀(o:Obj) (k:Heap),(k.push o).objs.size=k.objs.size+1:=λo k=>bl4 ..
 have g0:((s.heap.push { cls:=.type "tuple_iterator",data:=.fields #[.ref t,.int 0 0] }).push { cls:=.type "enumerate",data:=.fields #[.none,.bool false,.ref s.heap.objs.size,rawInt 0,.none,.none] }).get? s.heap.objs.size=some { cls:=.type "tuple_iterator",data:=.fields #[.ref t,.int 0 0] }:=bd3 _ (bf1 _ rfl);have g1:((s.heap.push { cls:=.type "tuple_iterator",data:=.fields #[.ref t,.int 0 0] }).push { cls:=.type "enumerate",data:=.fields #[.none,.bool false,.ref s.heap.objs.size,rawInt 0,.none,.none] }).get? (s.heap.objs.size+1)=some { cls:=.type "enumerate",data:=.fields #[.none,.bool false,.ref s.heap.objs.size,rawInt 0,.none,.none] }:=by
  have:=bf1 (h:=s.heap.push { cls:=.type "tuple_iterator",data:=.fields #[.ref t,.int 0 0] }) (o:={ cls:=.type "enumerate",data:=.fields #[.none,.bool false,.ref s.heap.objs.size,rawInt 0,.none,.none] }) rfl
  rw[e]at this;exact this
 exact⟨⟨_,g1,rfl⟩,q _ g1 ⟨_,g0,rfl,rfl⟩ (by rw[e,e]) λc o z=>bd3 _ (bd3 _ z)⟩
end
end Zp
namespace L2
open PySem PySem.Spec PyProof.Rows
noncomputable def vI (K:ad)(a:az):It:=
  ⟨λi H=>∃xs x,aR K H a xs/\xs[i]? = some x,
   λi H v H'=>∃T x,H T=none/\v = .ref T/\H'=upd H T (.tup [.int i,x])/\∀xs,aR K H a xs->xs[i]? = some x,
   λi H=>∃xs,aR K H a xs/\xs.length<=i⟩
structure aE9 (e it a:az)(i:Nat)(h:Heap):Prop where
 ee:∃old,IsEnum h e it i old
 s1:h.IsTupleIter it a i
theorem aF0 {P:ba}{w:bf}{K:ad}{elts:List Expr}{k:Nat}{pos:Pos}(a e it:az)(d:e≠it) :
  i5 P w K (.Tuple elts k pos) (vI K a) [e,it] e (aE9 e it a):=by
 refine⟨by simp,λi h st c hc=>?_,λi h h' st kp=>?_,?_,?_,λA i s Q E st q=>?_⟩
 ·simp only[bd8,bf2,bi5]at hc
  obtain⟨old,ee⟩:=st.ee
  obtain⟨o1,f1,g1,d1⟩:=st.s1
  rcases hc with rfl|rfl
  ·exact⟨_,ee,λv q=>by cases q⟩
  ·exact⟨_,f1,λv q=>by rw[d1]at q;cases q⟩
 ·obtain⟨old,ee⟩:=st.ee
  exact⟨⟨old,kp e (by simp) _ ee⟩,st.s1.at λo z=>kp it (by simp) o z⟩
 ·intro X hP hw hK hc i ai s σ H E I hf st hg
  subst hP hw hK
  obtain⟨xs,x,ha,hx⟩:=hg
  obtain⟨us,ru,pu,lu⟩:=I.tuple ha
  obtain⟨ux,eux,rux⟩:=ru.get hx
  obtain⟨old,ee⟩:=st.ee
  refine Zp.aE4 ee st.s1 pu (by simpa using eux) d λh' eo it' pr sz kp=>⟨_,rfl,?_⟩
  refine wpAny_letOwnedTupleGo_enum (s:={ s with heap:=h',toks:=s.toks+1 }) eo λg zz sb=>?_
  have hzl:e<s.heap.objs.size:=be7 ee;have up:∀c o,c≠e->c≠it->s.heap.get? c=some o->g.get? c=some o:=λc o c1 c2 z=>sb.extBut c o c1 (kp c o c1 c2 z)
  have hT:H s.heap.objs.size=none:=I.hok.fresh (be2 _);have prG:g.get? s.heap.objs.size=some { cls:=.type "tuple",data:=.seq #[.int i s.toks,ux] }:=sb.extBut _ _ (bl6 hzl) pr;have fpn:∀c u,H c=some u->c∉[e,it]:=λc u z hm=>by rw[(hf c hm).1]at z;cases z
  have upH:∀c o u,H c=some u->s.heap.get? c=some o->g.get? c=some o:=λc o u q z=>by
   have:=fpn c u q
   simp only[bd8,bf2,bi5,not_or]at this;exact up c o this.1 this.2 z
  have ns:∀m,s.heap.Ns X.env.locals m->g.Ns X.env.locals m:=λm hm=>by
   obtain⟨o,es,ep,e1,e2⟩:=hm
   exact⟨o,es,ep,up _ o (Ne.symm (hf e (by simp)).2.1) (Ne.symm (hf it (by simp)).2.1) e1,e2⟩
  have I2:aA X ai σ (upd H s.heap.objs.size (.tup [.int i,x])) { s with heap:=g,toks:=s.toks+1 }:=by
   refine I.step (g':=s.gens) (d':=s.drawn) (ch:=[e,it]) (λc hc'=>?_) (λc o _ _ hc' z _=>?_) (λc o _ _ hc' z _=>⟨o.slots,?_⟩) (λc o _ z n=>?_) (λc o hc' z=>⟨o,?_⟩)
    (λc zs z=>by rw[aJ (cZ z hT)];exact z) (λc u zs z=>by rw[aJ (cZ z hT)];exact z) (λc ps z=>⟨#[],by rw[aJ (cZ z hT),z];simp⟩) ns (λc u z=>?_) I.bare
   ·exact⟨(hf c hc').2.2.2.1,(hf c hc').2.1,(hf c hc').2.2.2.2.1,(hf c hc').2.2.2.2.2⟩
   ·simp only[bd8,bf2,bi5,not_or]at hc'
    exact up c o hc'.1 hc'.2 z
   ·simp only[bd8,bf2,bi5,not_or]at hc'
    exact up c o hc'.1 hc'.2 z
   ·rw[aJ (bg7 (be7 z))];exact n
   ·simp only[bd8,bf2,bi5,not_or]at hc'
    exact up c o hc'.1 hc'.2 z
   ·by_cases hcT:c=s.heap.objs.size
    ·subst hcT
     rw[bH]at z;cases z
     exact⟨by show 2<=sizeLine;decide,[.int i s.toks,ux],.cons ⟨_,rfl⟩ (.cons rux .nil),⟨_,prG,rfl,_,rfl⟩,λu e=>by rw[prG]at e;cases e;rfl⟩
    ·rw[aJ hcT]at z
     refine (I.hok c u z).stay (λc' o' hc2 q'=>?_) (λc' q'=>by rw[aJ (cZ q' hT)];exact q') λc' zs q'=>by rw[aJ (cZ q' hT)];exact q'
     rcases hc2 with rfl|hc2
     ·exact upH _ _ _ z q'
     ·exact upH _ _ _ hc2 q'
  refine⟨.ref s.heap.objs.size,_,I2,rfl,⟨_,x,hT,rfl,rfl,λxs' ha'=>?_⟩,⟨⟨ux,by push_cast;exact zz⟩,it'.at λo z=>sb.extBut _ o (Ne.symm d) z⟩,λc hc'=>?_⟩
  ·rw[I.tuple_inj ha' ha];exact hx
  ·obtain⟨o,z⟩:∃o,s.heap.get? c=some o:=by
    simp only[bd8,bf2,bi5]at hc'
    obtain⟨o1,f1,_⟩:=st.s1
    rcases hc' with rfl|rfl
    ·exact⟨_,ee⟩
    ·exact⟨_,f1⟩
   rw[aJ (bg7 (be7 z))];exact (hf c hc').1
 ·intro X hP hw hK hc i ai s σ H E I hf st hg
  subst hP hw hK
  obtain⟨xs,ha,hi⟩:=hg
  obtain⟨us,ru,pu,lu⟩:=I.tuple ha
  obtain⟨old,ee⟩:=st.ee
  have hh:X.A.handled=none:=I.ok.hd hc;have e1:=ru.length;refine Zp.aE5 hh ee st.s1 pu (by rw[Array.getElem?_eq_none];simp only[bd9];omega) λg kp=>⟨rfl,?_⟩
  have fpn:∀c u,H c=some u->c∉[e,it]:=λc u z hm=>by rw[(hf c hm).1]at z;cases z
  have upH:∀c o u,H c=some u->s.heap.get? c=some o->g.get? c=some o:=λc o u q z=>by
   have:=fpn c u q
   simp only[bd8,bf2,bi5,not_or]at this;exact kp c o this.2 z
  have ns:∀m,s.heap.Ns X.env.locals m->g.Ns X.env.locals m:=λm hm=>by
   obtain⟨o,es,ep,e1,e2⟩:=hm
   exact⟨o,es,ep,kp _ o (Ne.symm (hf it (by simp)).2.1) e1,e2⟩
  refine I.step (g':=s.gens) (d':=s.drawn) (ch:=[it]) (λc hc'=>?_) (λc o _ _ hc' z _=>?_) (λc o _ _ hc' z _=>⟨o.slots,?_⟩) (λc o _ z n=>n) (λc o hc' z=>⟨o,?_⟩)
   (λc zs z=>z) (λc u zs z=>z) (λc ps z=>⟨#[],by rw[z];simp⟩) ns (λc u z=>?_) I.bare
  ·have hm:c∈[e,it]:=bd5 _ hc'
   exact⟨(hf c hm).2.2.2.1,(hf c hm).2.1,(hf c hm).2.2.2.2.1,(hf c hm).2.2.2.2.2⟩
  ·exact kp c o (λy=>hc' (by rw[y];simp)) z
  ·exact kp c o (λy=>hc' (by rw[y];simp)) z
  ·exact kp c o (λy=>hc' (by rw[y];simp)) z
  ·refine (I.hok c u z).stay (λc' o' hc2 q'=>?_) (λ_ q'=>q') λ_ _ q'=>q'
   rcases hc2 with rfl|hc2
   ·exact upH _ _ _ z q'
   ·exact upH _ _ _ hc2 q'
 ·obtain⟨old,ee⟩:=st.ee
  exact wpAny_pyIter_enum ee q
section
variable {X:Cx}
noncomputable def O5 (K:ad)(ta:TA):TI:=λσ H R=>ta σ H λvs H1=>∃a,vs = [.ref a]/\((∃xs,aZ K H1 a xs/\R (vH K a) H1)∨(∃xs,aR K H1 a xs/\R (vI K a) H1))
theorem aF1 {elts:List Expr}{kt:Nat}{pt:Pos}{a:Expr}{ta:TA}{p pos:Pos}(hg:Gl X "enumerate")(hm:X.mg "enumerate" = none)(ha:PA X [a] ta)(hs:starEach [a] X.env = [(false,eval a X.env)]:=by rfl) :
  PI X (.Tuple elts kt pt) (.Call (.Name "enumerate" p) [a] [] pos) (O5 X.K ta):=by
 intro ai s σ H R I h;refine Call_ (lV I hg hm PyProof.Rows.boot_enumerate (bp1 (aO (ha pos ai s σ H _ I h) λus s1 ⟨vs,H1,I1,r1,q1⟩=>?_) (by rw[hs];rfl) (by rfl)))
 obtain⟨a',e,q⟩:=q1
 subst e;have fresh:∀k,H1 (s1.heap.objs.size+k)=none:=λk=>I1.hok.fresh (bm3 _ _)
 cases r1 with
 |cons r rr=>
  cases rr;cases r;rcases q with⟨xs,h1,q⟩|⟨xs,h1,q⟩
  ·obtain⟨us,_,p1,_⟩:=I1.list h1
   refine call_enumerate_list p1.isList λh' z s1' sz kp=>wpAny_pyIter_enum z ?_
   refine⟨s1.heap.objs.size+1,[s1.heap.objs.size+1,s1.heap.objs.size],_,_,H1,rfl,I1.kept (t':=s1.toks) kp,
    aE3 a' _ _ (Nat.succ_ne_self _),⟨⟨_,z⟩,s1'⟩,λc hc=>?_,q⟩
   simp only[bd8,bf2,bi5]at hc;rcases hc with rfl|rfl
   ·exact I1.fpOk (bm3 _ _) (fresh 1)
   ·exact I1.fpOk (be2 _) (fresh 0)
  ·obtain⟨us,_,p1,_⟩:=I1.tuple h1
   refine Zp.aE8 p1 λh' z s1' sz kp=>wpAny_pyIter_enum z ?_
   refine⟨s1.heap.objs.size+1,[s1.heap.objs.size+1,s1.heap.objs.size],_,_,H1,rfl,I1.kept (t':=s1.toks) kp,
    aF0 a' _ _ (Nat.succ_ne_self _),⟨⟨_,z⟩,s1'⟩,λc hc=>?_,q⟩
   simp only[bd8,bf2,bi5]at hc;rcases hc with rfl|rfl
   ·exact I1.fpOk (bm3 _ _) (fresh 1)
   ·exact I1.fpOk (be2 _) (fresh 0)
end
end L2
namespace Zp
open PySem PyProof.Rows
theorem aF3 (t b:az)(xs ys:Array ax)(n n2:Nat)(dd dd2:Option az)(sl sl2:Array (Option ax))(hx:xs.isEmpty=true):Meets (Builtin.«tuple.__add__» ⟨[.ref t,.ref b],[]⟩)
  (λ_ R s=>s.heap.get? t=some { cls:=.type "tuple",dict:=dd,data:=.seq xs n,slots:=sl }/\s.heap.get? b=some { cls:=.type "tuple",dict:=dd2,data:=.seq ys n2,slots:=sl2 }/\R (.ok (.ret (.ref b))) s):=
 .of_wp λprog w A R s h=>by
  obtain⟨h1,h2,h⟩:=h
  have sub:isSubtype (Value.type "tuple") (Value.type "tuple")=pure true:=rfl
  wp_walk
  exact⟨_,rfl,h⟩
end Zp
namespace L2
open PySem PySem.Spec PyProof.Rows
section
variable {X:Cx}
noncomputable def O6 (K:ad):R2:=λx y H Q=>∃a b xs ys,x = .ref a/\y = .ref b/\aR K H a xs/\aR K H b ys/\xs.length+ys.length<=sizeLine/\
 (xs = []->Q (.ref b) H)/\(xs≠[]->ys = []->Q (.ref a) H)/\(xs≠[]->ys≠[]->∀p,H p=none->Q (.ref p) (upd H p (.tup (xs++ys))))
theorem aF4:cJ X (binaryOp .Add) (O6 X.K):=by
 intro ai s σ H x y v u Q I rx ry h
 obtain⟨a,b,xs,ys,ex,ey,ha,hb,hz,q0,q1,q2⟩:=h
 by_cases hx:xs = []
 ·subst ex ey
  cases rx;cases ry
  obtain⟨its,r1,p1,_⟩:=I.tuple ha
  obtain⟨av,r2,p2,_⟩:=I.tuple hb
  have hi:its = []:=r1.nil_iff.mpr hx
  obtain⟨⟨cls,dd,data,sl⟩,ho,hc,n,hd⟩:=id p1
  obtain⟨⟨cls2,dd2,data2,sl2⟩,ho2,hc2,n2,hd2⟩:=id p2
  simp only at hc hd hc2 hd2;subst hc hd hc2 hd2;exact concat_meets ⟨_,ho,rfl⟩ ⟨_,ho2,rfl⟩ noFill_tuple_add seq_tuple_add PySem.F.slot_tuple_add PySem.F.entry_tuple_add (PySem.F.args_tuple_add_2 _ _)
   (Zp.aF3 a b its.toArray av.toArray n n2 dd dd2 sl sl2 (by simp[hi])) ⟨ho,ho2,⟨.ref b,H,I,rfl,q0 hx⟩⟩
 ·exact ap2 ai s σ H x y v u Q I rx ry ⟨a,b,xs,ys,ex,ey,ha,hb,hx,hz,q1 hx,q2 hx⟩
end
end L2
namespace PP
open PySem L2 PyProof.Rows
noncomputable def jV (xs:List PV):List PV:=xs.mapIdx λi x=>PV.tup [.int (i:Int),x]
theorem rY (xs:List PV):(jV xs).length=xs.length:=by unfold jV;rw[List.length_mapIdx]
theorem vJ {xs:List PV}{i:Nat}{x:PV}(h:xs[i]? = some x):(jV xs)[i]? = some (.tup [.int (i:Int),x]):=by
 unfold jV;rw[List.getElem?_mapIdx,h];rfl
noncomputable def vK (te:aF):eU:=λρ Q=>te ρ λx g=>∃xs,(x = .lst xs∨x = .tup xs)/\(g = .rd->flat x=true)/\Q (jV xs) (uS g xs)
theorem aF5 {K:ad}{H0:Hp}{W:az->Prop}{g:Bool}{H1:Hp}{a:az}{us:List V}{xs:List PV}(tw:∀a,W a->∃o,H1 a=some o/\dP o=true)(ha:∀W' H',Ev W H1 W' H'->aZ K H' a us)(r:Reps K (Ms H0 W g) H1 us xs):kT K H0 W g H1 (vH K a) (jV xs):=by
 have lr:=r.length;have ll:=rY xs;refine⟨λW' H' i e hi=>⟨us,us[i]'(by omega),ha W' H' e,by simp⟩,λW' H' i v H2 e y hi=>?_,λW' H' e=>⟨us,ha W' H' e,by omega⟩⟩
 obtain⟨T,x,hT,rfl,rfl,y⟩:=y
 obtain⟨z,hz,rz⟩:=r.get (y us (ha W' _ e))
 have sm:=bZ hT (HO.tup [.int (i:Int),x])
 exact⟨sm,_,vJ hz,.tup bH (.cons (.int _) (.cons ((rz.keep (e.keep tw)).same sm λ_ q=>q) .nil))⟩
theorem aF6 {K:ad}{H0:Hp}{W:az->Prop}{g:Bool}{H1:Hp}{a:az}{us:List V}{xs:List PV}(tw:∀a,W a->∃o,H1 a=some o/\dP o=true)(ha:∀W' H',Ev W H1 W' H'->aR K H' a us)(r:Reps K (Ms H0 W g) H1 us xs):kT K H0 W g H1 (vI K a) (jV xs):=by
 have lr:=r.length;have ll:=rY xs;refine⟨λW' H' i e hi=>⟨us,us[i]'(by omega),ha W' H' e,by simp⟩,λW' H' i v H2 e y hi=>?_,λW' H' e=>⟨us,ha W' H' e,by omega⟩⟩
 obtain⟨T,x,hT,rfl,rfl,y⟩:=y
 obtain⟨z,hz,rz⟩:=r.get (y us (ha W' _ e))
 have sm:=bZ hT (HO.tup [.int (i:Int),x])
 exact⟨sm,_,vJ hz,.tup bH (.cons (.int _) (.cons ((rz.keep (e.keep tw)).same sm λ_ q=>q) .nil))⟩
section
variable {X:Cx}{σ:L2.St}{H:Hp}{te:aF}{R:It→Hp→Prop}
theorem aF7 (h:LI X (vK te) σ H R):O5 X.K (eZ (LE X te) iU) σ H R:=by
 obtain⟨W,ρ,Q,px,q,k⟩:=h
 refine⟨W,ρ,_,px,q,?_⟩;rintro v H1 x g s r ⟨xs,hx,hg,q⟩;have px1:=px.mono s;have tw:∀a,W a->∃o,H1 a=some o/\dP o=true:=λa z=>(px1.wm a z).2
 rcases hx with rfl|rfl
 ·obtain⟨a,us,rfl,m,h,r⟩:=r.sqL
  have wa:¬W a:=by
   cases g with
   |fr=>exact (px.new m).1
   |nw=>exact m.1
   |sh=>exact m
   |rd=>have:=hg rfl;unfold flat at this;cases this
  exact⟨a,rfl,.inl ⟨us,aZ.of h,k _ _ _ _ s (aF5 tw (λW' H' e=>aZ.of (e _ _ h wa rfl).1) (kU px (λz=>by have:=hg z;unfold flat at this;cases this) r)) q⟩⟩
 ·obtain⟨a,us,rfl,h,r⟩:=r.sqT
  refine⟨a,rfl,.inr ⟨us,aR.of h,k _ _ _ _ s (aF6 tw (λW' H' e=>aR.of (e _ _ h (λz=>?_) rfl).1) (kU px (λz=>by have:=hg z;unfold flat at this;exact this) r)) q⟩⟩
  obtain⟨o,h',mu⟩:=tw _ z;rw[h]at h';cases h';cases mu
theorem aF8 {elts:List Expr}{kt:Nat}{pt p2 pos:Pos}{a:Expr}{ta:aF}(hg:Gl X "enumerate")(hm:X.mg "enumerate" = none)(ha:QE X a ta)(hs:starEach [a] X.env = [(false,eval a X.env)]:=by rfl):QI X (.Tuple elts kt pt) (.Call (.Name "enumerate" p2) [a] [] pos) (vK ta):=
 oQ (aF1 hg hm (eQ ha jL hs) hs) λ_ _ _=>aF7
end
section
variable {X:Cx}{e:Expr}{te:aF}{pos p2:Pos}{scope:Scope}{N:List Str}{fr:List (Option Nat)}{x y:Str}{tp xp yp:Pos}{kt:Nat}{iter elt:Expr}{ti:eU}
noncomputable abbrev vL (x y:Str)(xp yp:Pos)(kt:Nat)(tp:Pos):Expr:=.Tuple [.Name x xp,.Name y yp] kt tp
theorem aF9 {ifs:List Expr}{tcs:cQ}(hc:X.calm=true)(he:∀(s:ay) (H:Hp) (C:az) (fp:List az),QE (cN X scope N s H C fp d7) elt te)(hi:∀(s:ay) (H:Hp) (C:az) (fp:List az),kM (cN X scope N s H C fp d7) ifs (LT (cN X scope N s H C fp d7) tcs))(hN:N.Nodup)(h0:N[0]? = some x)(h1:N[1]? = some y)(hl:∀(s:ay) (H:Hp) (C:az) (fp:List az),(cN X scope N s H C fp d7).env.scope.names.lookup x=some .local)(hl2:∀(s:ay) (H:Hp) (C:az) (fp:List az),(cN X scope N s H C fp d7).env.scope.names.lookup y=some .local)(s:ay)(H:Hp) :
  oF X scope N (vL x y xp yp kt tp) ifs elt s H (qE X.K 2 (kH (dM 0) (kH (dM 1) qB))) (LT (X.frm H) tcs) (LE (X.frm H) te):=
 ⟨λC fp=>zG (X:=cN X scope N s H C fp d7) hc (qD (lW hN h0 (.inl (hl s H C fp)) (.inr (hl s H C fp))) (qD (lW hN h1 (.inl (hl2 s H C fp)) (.inr (hl2 s H C fp))) zF)),λC fp=>hi s H C fp,λC fp=>he s H C fp⟩
theorem O7 (hi:QI X (vL x y xp yp kt tp) iter ti)(he:∀(s:ay) (H:Hp) (C:az) (fp:List az),QE (cN X scope N s H C fp d7) elt te)(hc:X.calm=true:=by rfl)(S:eS X scope N fr:=by exact eS.of rfl rfl)(hN:N.Nodup:=by decide +kernel)(h0:N[0]? = some x:=by rfl)(h1:N[1]? = some y:=by rfl)(hl:∀(s:ay) (H:Hp) (C:az) (fp:List az),(cN X scope N s H C fp d7).env.scope.names.lookup x=some .local:=by intro _ _ _ _;rfl)(hl2:∀(s:ay) (H:Hp) (C:az) (fp:List az),(cN X scope N s H C fp d7).env.scope.names.lookup y=some .local:=by intro _ _ _ _;rfl)(hf:fr[0]? = some none:=by rfl)(hf2:fr[1]? = some none:=by rfl)(hs:∀x,foldedSetIterable iter X.env x=pure x:=by intro _;rfl):QE X (.ListComp elt [⟨vL x y xp yp kt tp,iter,[],0⟩] scope pos) (iA ti fr (kX 0 1) gG te):=
 bV (uF (gh:=λ_=>qE X.K 2 (kH (dM 0) (kH (dM 1) qB))) (tch:=λH=>LT (X.frm H) gG) (teh:=λH=>LE (X.frm H) te) hc S hi (aF9 hc he (λ_ _ _ _=>v9) hN h0 h1 hl hl2) hs) λ_ _ _=>rH (K9 _ 0 1) (λi e=>by rcases e with e|e<;>(subst e;assumption))
end
section
variable {X:Cx}{a b e o f:Expr}{ta tb te td tk tx:aF}{pos p2 aj am:Pos}{σ:L2.St}{H:Hp}{Q':VK}
noncomputable def O8:PV->Tg->PV->Tg->PK->Prop:=λx _ y _ Q=>∃xs n,x = .lst xs/\y = .int n/\flats xs=true/\-1000000<=n/\n<=1000000/\xs.length<=10/\Q (.lst (List.replicate n.toNat xs).flatten) .fr
noncomputable abbrev vM (ta tb:aF):aF:=q2 O8 ta tb
theorem aG0:fD X O8 C1:=by
 rintro W Hs H u v x y g g' Q Q' s n r1 r2 ⟨xs,m,rfl,rfl,f,h1,h2,hl,q⟩ k;cases r2
 obtain⟨a,us,rfl,mm,h,r⟩:=r1.sqL
 have lr:=r.length;refine⟨a,m,us,rfl,rfl,h,by omega,by omega,lim ?_,λp hp=>k _ _ _ .fr (bZ hp _) (.lst (s.free hp) bH (((r.flat f).rep m.toNat).same (bZ hp _) λ_ z=>z)) q⟩;have h3:us.length<=10:=by omega
 have h4:m.toNat<=1000000:=by omega
 calc us.length*m.toNat<=10*1000000:=Nat.mul_le_mul h3 h4
  _<=16000000:=by decide
theorem O9 (ha:QE X a ta)(hb:QE X b tb):QE X (.BinOp a .Mult b pos) (vM ta tb):=fR ar3 aG0 ha hb
theorem oW {x:Str}{n:Int}{t:Nat}(hg:Gl X x)(hm:X.mg x=some (.int n t))(hd:(x==("__debug__":Str))=false:=by decide):QE X (.Name x pos) (qC (.int n)):=
 bV (ag9 (v:=.int n) hg hm ⟨t,rfl⟩ hd) λ_ _ _=>oK λ_=>.int n
end
section
variable {X:Cx}{a b:Expr}{ta tb:aF}{pos:Pos}
noncomputable def P4:PV->Tg->PV->Tg->PK->Prop:=λx _ y _ Q=>∃xs ys,x = .tup xs/\y = .tup ys/\flats xs=true/\flats ys=true/\xs.length+ys.length<=16000000/\Q (.tup (xs++ys)) .fr
noncomputable abbrev rZ (ta tb:aF):aF:=q2 P4 ta tb
theorem aG1:fD X P4 (O6 X.K):=by
 rintro W Hs H u v x y g g' Q Q' s n r1 r2 ⟨xs,ys,rfl,rfl,f1,f2,hl,q⟩ k
 obtain⟨a,us,rfl,h1,q1⟩:=r1.sqT
 obtain⟨b,ws,rfl,h2,q2⟩:=r2.sqT
 have l1:=q1.length;have l2:=q2.length;refine⟨a,b,us,ws,rfl,rfl,aR.of h1,aR.of h2,lim (by omega),λz=>?_,λ_ z=>?_,λ_ _ p hp=>k _ _ _ .fr (bZ hp _) (.tup bH (((q1.flat f1).append (q2.flat f2)).same (bZ hp _) λ_ z=>z)) q⟩
 ·obtain rfl:xs = []:=by cases xs with
   |nil=>rfl
   |cons _ _=>rw[z]at l1;cases l1
  exact k _ _ _ .fr (aH.refl _) (.tup h2 (q2.flat f2)) q
 ·obtain rfl:ys = []:=by cases ys with
   |nil=>rfl
   |cons _ _=>rw[z]at l2;cases l2
  rw[bm1]at q;exact k _ _ _ .fr (aH.refl _) (.tup h1 (q1.flat f1)) q
theorem vN (ha:QE X a ta)(hb:QE X b tb):QE X (.BinOp a .Add b pos) (rZ ta tb):=fR aF4 aG1 ha hb
end
end PP
namespace Core
open PySem L2 PP
section
variable {ws:ag}{ls:aa}{os ns:ag}
noncomputable def aG2 (ws:ag)(ls:aa)(T:ag):Prop:=∀h∈rng ws.length,kin ws ls T h=false
end
noncomputable def P5:Option Int->PV
 |none=>.non
 |some h=>.int h
noncomputable def aG3 (ns S:ag):Int:=(ns.length:Int)-(((ns.filter λx=>decide (x∈S)).length:Nat):Int)
noncomputable def aG4 (ws:ag)(ls:aa)(S:ag)(h:Int):Bool:=decide (aG3 (qP ls h) S<ws.getD h.toNat 0)
noncomputable def stay (ws:ag)(ls:aa)(S:ag):ag:=S.filter (aG4 ws ls S)
theorem aG5 {xs:List PV}{w:Int}(h:0<=w):gH xs none (some w)=xs.take w.toNat:=by
 unfold gH;rw[HT.am8,List.drop_zero,Nat.sub_zero]
 have:HT.b9 xs.length xs.length (some w)=min w.toNat xs.length:=by
  show (if w<0 then (w+(xs.length:Int)).toNat else min w.toNat xs.length)=_;rw[if_neg (by omega)]
 rw[this,<- List.take_take,bj9]
end Core
namespace L2
open PySem PySem.Spec PyProof.Rows
theorem P6:∀(n:Nat) (ns:ag),n<=ns.length->preSum (λi=>ns.getD i 0) n=(ns.take n).sum
 |0,_,_=>by simp[preSum]
 |n+1,ns,h=>by
  show preSum (λi=>ns.getD i 0) n+ns.getD n 0=_;have h1:ns[n]? = some (ns[n]'(by omega)):=bf3 (by omega);have h2:ns.take (n+1)=ns.take n++[ns[n]'(by omega)]:=by rw[bk3,h1];rfl
  have h3:ns.getD n 0=ns[n]'(by omega):=by rw[bf5,h1];rfl
  rw[P6 n ns (by omega),h2,h3,bq2,bg5,List.sum_nil];omega
section
variable {X:Cx}
theorem aG6 (hc:X.calm=true):dN X (.builtin "sum") (λxs H Q=>∃(a:az) (ns:ag),xs = [.ref a]/\(aZ X.K H a (ns.map V.int)∨aR X.K H a (ns.map V.int))/\Q (.int ns.sum) H):=by
 intro ai s σ H xs us Q I r h
 obtain⟨a,ns,rfl,hq,q⟩:=h
 obtain⟨u,rfl,ru⟩:=jK r
 cases ru;have hh:X.A.in1.handled=none:=I.ok.hd hc;have fin:∀(its:List ax) (o:Obj) (wr:List az) (hw:∀b∈wr,s.heap.objs.size<=b),aN (ns.map V.int) its->∀s' t',Moved wr (λa b=>b=a) { s with heap:=s.heap.push o } s'->
   ∃x H',aA X ai σ H' s'/\aU x (.int (preSum (λi=>ns.getD i 0) its.toArray.size) t')/\Q x H':=λits o wr hw rv s' t' hm=>by
  have hl:=rv.length;rw[be0]at hl;have e:=Moved.eq_with hm;have e2:preSum (λi=>ns.getD i 0) its.toArray.size=ns.sum:=by rw[bd9,<- hl,P6 _ _ (be2 _),bj9]
  rw[e2,e];refine⟨.int ns.sum,H,I.kept (t':=s'.toks) (h':=s'.heap) λb o' eb=>hm.heap b o' (λz=>?_) (bd3 _ eb),⟨t',rfl⟩,q⟩;exact absurd (be7 eb) (Nat.not_lt.mpr (hw b z))
 have val:∀(its:List ax),aN (ns.map V.int) its->∀(i:Nat) (v:ax),its.toArray[i]? = some v->∃t,v = .int (ns.getD i 0) t:=λits rv i v hv=>by
  have hi:its[i]? = some v:=by simpa using hv
  have hl:=rv.length;rw[be0]at hl;have hil:i<ns.length:=by rw[hl];exact (bf7.mp hi).1
  obtain⟨u,e1,e2⟩:=rv.get (i:=i) (x:=.int ns[i]) (by simp[hil])
  rw[hi]at e1;cases e1
  obtain⟨t,rfl⟩:=e2
  exact⟨t,by rw[bf5,bf3 hil];rfl⟩
 rcases hq with hq|hq
 ·obtain⟨its,rv,p,hz⟩:=I.list hq
  have hlt:a<s.heap.objs.size:=by obtain⟨o,e,_⟩:=p.isList;exact be7 e
  refine call_sum_walkAnyS (wpAny_pyIter_list p.isList ?_);refine⟨s.heap.objs.size,_,_,_,_,_,_,λi=>ns.getD i 0,rfl,(Walks.list hh s.heap.objs.size a (bg7 hlt) its.toArray).toS,⟨⟨_,bf1 _ rfl,rfl,rfl⟩,p.isList.push _⟩,?_,val its rv,λs' t' hm=>fin its _ _ ?_ rv s' t' hm⟩
  ·intro b hb
   have hs:(s.heap.push { cls:=.type "list_iterator",data:=.fields #[.ref a,.int 0 0] }).objs.size=s.heap.objs.size+1:=size_push' _ _;show b<(s.heap.push _).objs.size;rw[size_push'];rcases bd8.mp hb with rfl|hb
   ·exact Nat.lt_succ_self _
   ·rw[bd7.mp hb];exact Nat.lt_succ_of_lt hlt
  ·intro b hb
   rw[bd7.mp hb];exact be2 _
 ·obtain⟨its,rv,p,hz⟩:=I.tuple hq
  have hlt:a<s.heap.objs.size:=by obtain⟨o,e,_⟩:=p;exact be7 e
  refine call_sum_walkAnyS (bn2 p ?_);refine⟨s.heap.objs.size,_,_,_,_,_,_,λi=>ns.getD i 0,rfl,(Walks.tuple hh s.heap.objs.size a (bg7 hlt) its.toArray).toS,⟨⟨_,bf1 _ rfl,rfl,rfl⟩,?_⟩,?_,val its rv,λs' t' hm=>fin its _ _ ?_ rv s' t' hm⟩
  ·obtain⟨o,e,h⟩:=p
   exact⟨o,bd3 _ e,h⟩
  ·intro b hb
   show b<(s.heap.push _).objs.size;rw[size_push'];rcases bd8.mp hb with rfl|hb
   ·exact Nat.lt_succ_self _
   ·rw[bd7.mp hb];exact Nat.lt_succ_of_lt hlt
  ·intro b hb
   rw[bd7.mp hb];exact be2 _
end
end L2
namespace PP
open PySem L2 PyProof.Rows
section
variable {X:Cx}{a b e:Expr}{ta tb te:aF}{tr:bX}{pos p2:Pos}
noncomputable def sA:List PV->(PV->Prop)->Prop:=λxs Q=>∃x ns,xs = [x]/\kS x=some (intz ns)/\Q (.int ns.sum)
theorem aG7:fG X sA (λxs H Q=>∃(a:az) (ns:ag),xs = [.ref a]/\(aZ X.K H a (ns.map V.int)∨aR X.K H a (ns.map V.int))/\Q (.int ns.sum) H):=by
 rintro H vs xs Q Q' r ⟨x,ns,rfl,e,q⟩ k
 obtain⟨v,rfl,r1⟩:=r.one
 obtain⟨a,us,rfl,hs,r2⟩:=r1.seq e
 obtain rfl:=r2.ofInts
 exact⟨a,ns,rfl,hs,k _ _ _ (aH.refl _) (.int _) q⟩
theorem P7 (B:Bt X.mg)(hc:X.calm=true)(ha:QA X [e] tr)(hg:Gl X "sum":=by rfl)(he:starEach [e] X.env=(false,eval e X.env)::starEach [] X.env:=by rfl)(hpl:(backTo pos (starEach [] X.env)).any (·.1)=false:=by rfl):QE X (.Call (.Name "sum" p2) [e] [] pos) (aP sA tr):=
 oT (aG6 hc) aG7 hg B.sum PyProof.Rows.boot_sum ha (he:=he) (hpl:=hpl)
end
noncomputable def j5 (xs ys:List PV):List PV:=List.zipWith (λx y=>PV.tup [x,y]) xs ys
theorem vO (xs ys:List PV):(j5 xs ys).length=min xs.length ys.length:=by unfold j5;rw[List.length_zipWith]
theorem aG8 {xs ys:List PV}{i:Nat}{x y:PV}(h:xs[i]? = some x)(h':ys[i]? = some y):(j5 xs ys)[i]? = some (.tup [x,y]):=by
 unfold j5;rw[List.getElem?_zipWith,h,h']
theorem aG9 {xs ys:List PV}{i:Nat}{z:PV}(h:(j5 xs ys)[i]? = some z):∃x y,xs[i]? = some x/\ys[i]? = some y/\z = .tup [x,y]:=by
 unfold j5 at h;rw[List.getElem?_zipWith]at h;cases e:xs[i]? with
 |none=>rw[e]at h;cases h
 |some x=>
  cases e':ys[i]? with
  |none=>rw[e,e']at h;cases h
  |some y=>rw[e,e']at h;exact⟨x,y,rfl,rfl,(bf6 h).symm⟩
end PP
namespace Core
open PySem L2 PP
noncomputable def wnb (zs:List ((Int×Int)×Int))(k:Int):aa:=zs.flatMap λz=>(if z.1.1=k then [(z.1.2,z.2)] else [])++(if z.1.2=k then [(z.1.1,z.2)] else [])
noncomputable def aH0 (want:Int)(hs:ag)(c:PV):Prop:=((hs.length:Int)<want/\c = .non)∨(want<=(hs.length:Int)/\∃zs:ag,zs.Perm hs/\zs.Pairwise (· <= ·)/\c = .int (zs.take want.toNat).sum)
theorem aH1 {ns:ag}{w:Int}(h:0<=w):gH (intz ns) none (some w)=intz (ns.take w.toNat):=by
 rw[aG5 h];exact List.map_take.symm
noncomputable def aH2 (zs:ag)(s:Int):Nat:=((List.range zs.length).filter λi=>decide ((zs.take (i+1)).sum<=s)).length
structure aH3 (ws:ag)(ls:aa)(wts:ag)(os:List (Option Int)):Prop where
 len:os.length=ws.length
 due:∀h:Nat,h<ws.length->∃o,os[h]? = some o/\aH0 (ws.getD h 0) ((wnb (ls.zip wts) h).map (·.2)) (P5 o)
structure aH4 (ws:ag)(ls:aa)(wts zs:ag):Prop where
 ex:∃os,aH3 ws ls wts os/\zs.Perm (os.filterMap id)/\zs.Pairwise (· <= ·)
section
variable {ws:ag}{ls:aa}{ns wts:ag}{m:Nat}
noncomputable def loose (ls:aa)(wts ns:ag):List ((Int×Int)×Int):=(ls.zip wts).filter λz=>!(decide (z.1.1∈ns)&&decide (z.1.2∈ns))
end
end Core
namespace PP
open PySem L2 PyProof.Rows
noncomputable abbrev j6:=(Str->Prop)->b7
noncomputable def EX (K:ad)(H0:Hp)(Ep:Str->Prop):XK:=λc d H'=>d=none/\aH H0 H'/\∃n C,c = .ref C/\PySem.W.nsIn K mainGlobals n=some (some (.ref C))/\Ep n
noncomputable def P8 (K:ad)(p:j6):Sp:=λvs H Q E=>∃xs Qp Ep,Reps K (λ_=>True) H vs xs/\p Ep xs Qp/\(∀v H' x,aH H H'->aG K (λa=>H a=none) H' v x->Qp x->Q v H')/\
 ∀n C H',aH H H'->PySem.W.nsIn K mainGlobals n=some (some (.ref C))->Ep n->E (.ref C) none H'
structure gM (P:ba)(w:bf)(K:ad)(mg:Str->Option ax)(base:Heap)(k:Nat)(x:Str)(ps:List Str)(p:j6):Prop where
 ex:∃f fd,cX P w K mg base (fU P w) k f fd ps (P8 K p)/\fZ K fd ps []/\PySem.W.keepIn K (.ref f)=true/\mg x=some (.ref f)
section
variable {X:Cx}{σ:L2.St}{H:Hp}{D:dX}{tr:bX}{Q':VK}{a b c e:Expr}{es:List Expr}{pos p2 cp np hp:Pos}{t:aY}{te:aF}{tc:cQ}
noncomputable def aH5 (Ep:Str->Prop)(p:j6)(t:bX):aF:=aP (p Ep) t
theorem aH6 {p:j6}{Ep:Str->Prop}(h:LE X (aH5 Ep p tr) σ H Q'):kJ (P8 X.K p) [] (EX X.K X.H₀ Ep) (LA X tr) σ H Q':=by
 obtain⟨W,ρ,Q,px,q,k⟩:=h
 refine⟨W,ρ,_,px,q,λvs H1 xs s1 r1 q1=>⟨_,_,Ep,by rw[bm1];exact r1.any,q1,λv H' x s2 r2 q2=>k v H' x .fr (s1.trans s2) (r2.same (aH.refl _) λ_ z=>s1.free z) q2,λn C H' s2 z1 z2=>⟨rfl,(px.same.trans s1).trans s2,n,C,rfl,z1,z2⟩⟩⟩
theorem mY {k j:Nat}{x:Str}{ps:List Str}{p:j6}(d:gM X.prog X.w X.K X.mg X.base k x ps p)(hr:bG j X.A)(ha:QA X (e::es) tr)(hkj:k<=j:=by decide)(hg:Gl X x:=by rfl)(hdb:(x==("__debug__":Str))=false:=by decide)(he:starEach (e::es) X.env=(false,eval e X.env)::starEach es X.env:=by rfl)(hpl:(backTo pos (starEach es X.env)).any (·.1)=false:=by rfl):QE X (.Call (.Name x p2) (e::es) [] pos) (aP (p λ_=>False) tr):=by
 obtain⟨f,fd,F,b,kp,m⟩:=d.ex
 refine bV (oC F (E:=EX X.K X.H₀ λ_=>False) (hr.mono hkj) hg m kp b .nil (λ_ _ _ _ _ _ _ h=>?_) ha hdb he hpl) λ_ _ _ h=>aH6 (Ep:=λ_=>False) h
 obtain⟨_,_,_,_,_,_,_,_,_,_,_,_,z⟩:=h
 exact z.elim
noncomputable def oX (Ep:Str->Prop)(n:Str)(t:bX):aY:=λ_ ρ=>t ρ λxs=>xs.length<=1000/\Ep n
theorem aH7 {Ep:Str->Prop}{n:Str}{C:az}(hn:PySem.W.nsIn X.K mainGlobals n=some (some (.ref C)))(h:LS X (oX Ep n tr) D σ H):N7 (EX X.K X.H₀ Ep) C (LA X tr) D σ H:=by
 obtain⟨W,ρ,D',px,q,k⟩:=h
 exact⟨W,ρ,_,px,q,λvs H1 xs s1 r z=>⟨by rw[r.length];exact uM z.1,rfl,px.same.trans s1,n,C,rfl,hn,z.2⟩⟩
structure Xc (K:ad)(mg:Str->Option ax)(base:Heap)(n:Str):Prop where
 ex:∃C B newId initId bm,OwnCls n C bm newId mg base/\ExcBaseFacts B newId initId bm/\PySem.W.nsIn K mainGlobals n=some (some (.ref C))
theorem vP {Ep:Str->Prop}{n:Str}(hX:rX X (EX X.K X.H₀ Ep))(x:Xc X.K X.mg X.base n)(ha:QA X (e::es) tr)(hc:X.calm=true:=by rfl)(hg:Gl X n:=by rfl)(hd:(n==("__debug__":Str))=false:=by decide)(he:starEach (e::es) X.env=(false,eval e X.env)::starEach es X.env:=by rfl)(hpl:(backTo cp (starEach es X.env)).any (·.1)=false:=by rfl):QS X (.Raise (some (.Call (.Name n np) (e::es) [] cp)) none pos) (oX Ep n tr):=by
 obtain⟨C,B,newId,initId,bm,O,FB,hn⟩:=x.ex
 exact eD (aC5 hX hc O FB ha hg hd he hpl) λ_ _ _=>aH7 hn
noncomputable def oD:V->ax
 |.ref a=>.ref a
 |.ty n=>.type n
 |_=>.none
end
structure vQ (K:ad)(C:az):Prop where
 cls:PySem.W.isClsIn K C=true
 ty:PySem.W.typeIn K (.ref C)=some (.type "type")
 ga:PySem.W.findIn K (.ref C) "__getattribute__" = some (some (.builtin "BaseException.__getattribute__"))
 gt:PySem.W.findIn K (.ref C) "__getattr__" = some none
 fc:PySem.W.findIn K (.ref C) "__class__" = some (some (.builtin "object.__class__"))
 fg:PySem.W.specialIn K (.builtin "object.__class__") "__get__" = some (some (.builtin "getset_descriptor.__get__"))
 ft:PySem.W.takesIn K (.builtin "object.__class__")=some true
 ob:PySem.W.mroIn K C (.type "object")=some true
 be:PySem.W.mroIn K C (.type "BaseException")=some true
theorem P9 {K:ad}{h₀:Heap}{mg:Str->Option ax}{x:Str}{C:az}{bmB:List ax}{newId:String}(X:K.In h₀)(m:mg x=some (.ref C))(q:PySem.W.excIn K C bmB newId=true):OwnCls x C bmB newId mg h₀:=by
 refine⟨m,?_⟩;unfold PySem.W.excIn at q;split at q
 case h_2=>cases q
 rename_i dd cd sl ho
 split at q
 case h_2=>cases q
 rename_i C' bm k0 k1 k2 k3 n k5 hm hs
 simp only[bg6,beq_iff_eq,Bool.not_eq_true']at q
 obtain⟨⟨⟨⟨⟨rfl,rfl⟩,dl⟩,ht⟩,hok⟩,hni⟩:=q
 obtain⟨nm,bs,mro,ns,qn,hd,sn,sub,ab,col,del⟩:=cd
 dsimp only at hm dl hok hni;subst hm dl;obtain rfl:sl = #[k0,k1,k2,k3,some (.builtin n),k5]:=by
  obtain⟨l⟩:=sl
  exact congrArg Array.mk hs
 exact⟨bm,ns,nm,qn,bs,hd,sn,sub,ab,col,dd,k0,k1,k2,k3,k5,_,X _ _ ho,.of_isNs (PySem.W.isNs_of_in X hok),PySem.W.nsMap_none_of_in X hok hni,PySem.W.tail_of_in X ht⟩
theorem gM.of {P:ba}{w:bf}{K:ad}{mg:Str->Option ax}{base:Heap}{k:Nat}{x:Str}{ps N:List Str}{p:j6}{st:Stmt}{f:az}{fd:FuncData}(F:bM K x x st f fd)(m:mg x=some (.ref f))(S:FnScope N ps (aI st))(hb:∀(kV doc pm:ax) (an:Option az) (cdv ct:ax) (us:List ax),us.length=ps.length->bindArgs (PySem.W.fnOf x x (bI st) (bD st) (aI st) .none kV doc pm an cdv ct) ⟨us,[]⟩=pure (ps.zip us))(t:(Str->Prop)->aY)(len:∀Ep xs Q,p Ep xs Q->xs.length=ps.length)(rd:∀Ep xs Q,p Ep xs Q->t Ep { nx:=λ_=>Q .non,rt:=Q } (bF N xs))(body:∀(cdv:ax) (A:bc) (outer:List Env) (s:ay) (H:Hp) (E:XK) (Ep:Str->Prop),bG k (A.deeper (envOfC x (aI st) s.heap.objs.size f cdv))->rX (cK (fU P w) P w K mg base N x (aI st) f cdv A outer s H E) (EX K H Ep)->
   fM (cK (fU P w) P w K mg base N x (aI st) f cdv A outer s H E) (bD st) (t Ep)):gM P w K mg base (k+1) x ps p:=by
 refine⟨f,fd,F.okX S (λvs H Q E h=>?_) (λcdv A outer s H vs Q E hr h=>?_),F.binds hb,F.kp,m⟩
 ·obtain⟨xs,Qp,Ep,r,q,_⟩:=h
  rw[r.length];exact len Ep xs Qp q
 ·obtain⟨xs,Qp,Ep,r,q,k,ke⟩:=h
  have ht:=body cdv A outer s H E Ep hr (aC4 λc d H' z=>?_)
  ·refine⟨_,ht,λ_=>False,bF N xs,_,j4 r,rd Ep xs Qp q,?_,?_,?_,?_⟩
   ·exact λW' σ' H' ρ' e px q=>k _ _ _ px.same .non q
   ·exact λv H' x s r q=>k _ _ _ s r q
   ·exact λW' σ' H' ρ' e px q=>q
   ·exact λW' σ' H' ρ' e px q=>q
  ·obtain⟨rfl,s1,n,C,rfl,z1,z2⟩:=z
   exact ke n C H' s1 z1 z2
end PP
namespace Core
open PySem L2 PP
noncomputable abbrev Q0 (t:(Str->Prop)->aY)(N:List Str)(p:j6):Prop:=∀Ep xs Q,p Ep xs Q->t Ep { nx:=λ_=>Q .non,rt:=Q } (bF N xs)
end Core
namespace PP
open PySem L2
theorem Q2 {α β:Type}{F:α->β->Prop}:∀{l:List α}{m:List β}{i:Nat}{x:α},Paired F l m->l[i]? = some x->∃y,m[i]? = some y/\F x y
 |_,_,_,_,.nil,e=>by simp at e
 |_,_,0,_,.cons r _,e=>by simp at e;subst e;exact⟨_,rfl,r⟩
 |_,_,i+1,x,.cons _ t,e=>by
  rw[bn4]at e
  obtain⟨y,h1,h2⟩:=Q2 t e
  exact⟨y,by rw[bn4];exact h1,h2⟩
theorem us1 {us:List ax}(h:us.length=1):∃a,us = [a]:=List.length_eq_one_iff.mp h
theorem us2 {us:List ax}(h:us.length=2):∃a b,us = [a,b]:=by
 cases us with
 |nil=>cases h
 |cons a r=>
  obtain⟨b,rfl⟩:=us1 (us:=r) (by simpa using h)
  exact⟨a,b,rfl⟩
theorem vR {us:List ax}(h:us.length=3):∃a b c,us = [a,b,c]:=by
 cases us with
 |nil=>cases h
 |cons a r=>
  obtain⟨b,c,rfl⟩:=us2 (us:=r) (by simpa using h)
  exact⟨a,b,c,rfl⟩
theorem j7 {us:List ax}(h:us.length=4):∃a b c d,us = [a,b,c,d]:=by
 cases us with
 |nil=>cases h
 |cons a r=>
  obtain⟨b,c,d,rfl⟩:=vR (us:=r) (by simpa using h)
  exact⟨a,b,c,d,rfl⟩
theorem vS {us:List ax}(h:us.length=5):∃a b c d e,us = [a,b,c,d,e]:=by
 cases us with
 |nil=>cases h
 |cons a r=>
  obtain⟨b,c,d,e,rfl⟩:=j7 (us:=r) (by simpa using h)
  exact⟨a,b,c,d,e,rfl⟩
section
variable {X:Cx}{a:Expr}{tk:aF}{σ:St}{H:Hp}{Q':VK}{pos p2:Pos}
theorem aH8 (hN:X.N.Nodup)(i j:Nat){x y:Str}{aj am xpos:Pos}(hi:X.N[i]? = some x:=by rfl)(hj:X.N[j]? = some y:=by rfl)(hv:dY X.env.scope x:=by first|exact Or.inl rfl|exact Or.inr (Or.inl rfl)|exact Or.inr (Or.inr rfl))(hd:(x==("__debug__":Str))=false:=by decide)(hcd:(x==("__classdict__":Str))=false:=by decide)(hbase:attributeBase (.Name x xpos) "pop" X.env (eval (.Name x xpos) X.env)=eval (.Name x xpos) X.env:=by rfl)(hline:(aj.endLine==am.line)=true:=by rfl)(hx:gR X.env.scope y:=by first|exact Or.inl rfl|exact Or.inr rfl)(hs:swapsWith (.Call (.Attribute (.Name x xpos) "pop" aj) [] [] am) (some (.Name y p2)) pos.line X.env=pure false:=by rfl)(hf:X.fn y=true∨X.env.scope.names.lookup y=some .local:=by first|exact .inl rfl|exact .inr rfl) :
  QS X (.Assign [.Name y p2] (.Call (.Attribute (.Name x xpos) "pop" aj) [] [] am) pos) (uP i j):=
 eD (o6 hN hj hx (aq5 PySem.F.plainAttrs_list PySem.F.slot_list_pop PySem.F.type_list_pop ar1 (iI hi hv hd hcd) hbase hline) hs hf) λ_ _ _=>ay4
end
end PP
namespace Core
open PySem L2 PP
noncomputable def mZ (ws:ag)(ls:aa)(S:ag):Prop:=S≠[]/\stay ws ls S=S/\∀U,stay ws ls U=U->U≠[]->(∀x∈U,x∈S)->∀x∈S,x∈U
section
variable {ws:ag}{ls:aa}
noncomputable def cne (ws:ag)(ls:aa)(S:ag):Bool:=!decide (S = [])&&decide (stay ws ls S=S)
end
noncomputable def far (ns S:ag):Bool:=decide (((S.filter λx=>decide (x∈ns)).length:Int)=0)
noncomputable def aH9 (ls:aa)(S U:ag):Prop:=∀x∈U,∀y∈qP ls x,y∈S->y∈U
noncomputable def aI0 (ls:aa)(S:ag)(h:Int):ag:=S.filter λx=>@decide (∀U:ag,aH9 ls S U->h∈U->x∈U) (Classical.propDecidable _)
section
variable {ws:ag}{ls:aa}{S:ag}{n:Nat}{h x:Int}
noncomputable def aI1 (ls:aa)(S:ag)(h:Int):Bool:=decide ((aI0 ls S h).head? = some h)
noncomputable def aI2 (ls:aa)(S:ag):ag:=S.filter (aI1 ls S)
end
noncomputable def vT (ws:ag)(ls:aa):ag->ag->Bool
 |_,[]=>true
 |B,h::R=>inB ws.length h&&(kin ws ls B h&&vT ws ls (B++[h]) R)
end Core
namespace PP
open PySem L2
section
variable {X:Cx}{a b:Expr}{ta tb:aF}{pos pos2 p2 p3:Pos}
theorem aI3 (ha:QE X a ta)(hb:QE X b tb):QE X (.BinOp a .BitAnd b pos) (q2 (eT λi j=>.int (Builtin.bitAnd i j)) ta tb):=fR ak2 qW ha hb
end
end PP
namespace L2
open PySem PySem.Spec PyProof.Rows
section
variable {X:Cx}
theorem aI4 (hc:X.calm=true):dN X (.builtin "min") (λxs H Q=>∃(a:az) (ns:ag),xs = [.ref a]/\aZ X.K H a (ns.map V.int)/\ns≠[]/\∀M:Int,M∈ns->(∀x∈ns,M<=x)->Q (.int M) H):=by
 intro ai s σ H xs us Q I r h
 obtain⟨a,ns,rfl,hq,ne,q⟩:=h
 obtain⟨u,rfl,ru⟩:=jK r
 cases ru
 obtain⟨its,rv,p,hz⟩:=I.list hq
 have ia:=lY rv
 obtain⟨ys,ey⟩:=ia.allInts.items
 have en:ns=ys.toList.map (·.1):=by
  have e1:=nums_intItems ys;rw[<- ey]at e1;exact ia.numsOf.symm.trans e1
 have pos:0<ys.size:=Nat.pos_of_ne_zero λz=>ne (by rw[en,bo4 z];rfl)
 have hl:s.heap.IsList a (intItems ys):=ey▸p.isList;refine min_intList (I.ok.hd hc) hl pos λv h' tk ev old=>?_
 obtain⟨t,rfl⟩:=intItems_at ev
 have best:=argBest_lt (numAt ys) (ys.size-1);have mem:∀x:Int,x∈ns↔∃j,j<ys.size/\numAt ys j=x:=λx=>by
  rw[en];constructor
  ·intro z
   obtain⟨j,hj,e⟩:=mem_getD z
   exact⟨j,by simpa using hj,by rw[numAt_eq];exact e⟩
  ·rintro⟨j,hj,rfl⟩
   rw[numAt_eq];exact getD_mem (by simpa using hj)
 refine⟨.int _,H,I.kept (t':=tk) (h':=h') old,⟨t,rfl⟩,q _ ?_ λx hx=>?_⟩
 ·exact (mem _).mpr ⟨_,by have:=best.1;omega,rfl⟩
 ·obtain⟨j,hj,rfl⟩:=(mem x).mp hx
  exact best.2 j (by omega)
end
end L2
namespace PP
open PySem L2
section
variable {X:Cx}{e:Expr}{tr:bX}{pos p2:Pos}
noncomputable def Q3:List PV->(PV->Prop)->Prop:=λxs Q=>∃ns:ag,xs = [.lst (intz ns)]/\ns≠[]/\∀M:Int,M∈ns->(∀x∈ns,M<=x)->Q (.int M)
theorem aI5:fG X Q3 (λxs H Q=>∃(a:az) (ns:ag),xs = [.ref a]/\aZ X.K H a (ns.map V.int)/\ns≠[]/\∀M:Int,M∈ns->(∀x∈ns,M<=x)->Q (.int M) H):=by
 rintro H vs xs Q Q' r ⟨ns,rfl,ne,q⟩ k
 obtain⟨v,rfl,r1⟩:=r.one
 obtain⟨a,us,rfl,_,h,r2⟩:=r1.sqL
 rw[r2.ofInts]at h
 exact⟨a,ns,rfl,aZ.of h,ne,λM m1 m2=>k _ _ _ (aH.refl _) (.int M) (q M m1 m2)⟩
end
end PP
namespace L2
open PySem PySem.Spec PyProof.Rows
section
variable {X:Cx}
theorem aI6 (hc:X.calm=true):dN X (.builtin "max") (λxs H Q=>∃(a:az) (ns:ag),xs = [.ref a]/\aZ X.K H a (ns.map V.int)/\ns≠[]/\∀M:Int,M∈ns->(∀x∈ns,x<=M)->Q (.int M) H):=by
 intro ai s σ H xs us Q I r h
 obtain⟨a,ns,rfl,hq,ne,q⟩:=h
 obtain⟨u,rfl,ru⟩:=jK r
 cases ru
 obtain⟨its,rv,p,hz⟩:=I.list hq
 have ia:=lY rv
 obtain⟨ys,ey⟩:=ia.allInts.items
 have en:ns=ys.toList.map (·.1):=by
  have e1:=nums_intItems ys;rw[<- ey]at e1;exact ia.numsOf.symm.trans e1
 have pos:0<ys.size:=Nat.pos_of_ne_zero λz=>ne (by rw[en,bo4 z];rfl)
 have hl:s.heap.IsList a (intItems ys):=ey▸p.isList;refine max_intList (I.ok.hd hc) hl pos λv h' tk ev old=>?_
 obtain⟨t,rfl⟩:=intItems_at ev
 have best:=argBest_gt (numAt ys) (ys.size-1);have mem:∀x:Int,x∈ns↔∃j,j<ys.size/\numAt ys j=x:=λx=>by
  rw[en];constructor
  ·intro z
   obtain⟨j,hj,e⟩:=mem_getD z
   exact⟨j,by simpa using hj,by rw[numAt_eq];exact e⟩
  ·rintro⟨j,hj,rfl⟩
   rw[numAt_eq];exact getD_mem (by simpa using hj)
 refine⟨.int _,H,I.kept (t':=tk) (h':=h') old,⟨t,rfl⟩,q _ ?_ λx hx=>?_⟩
 ·exact (mem _).mpr ⟨_,by have:=best.1;omega,rfl⟩
 ·obtain⟨j,hj,rfl⟩:=(mem x).mp hx
  exact best.2 j (by omega)
end
end L2
namespace PP
open PySem L2
section
variable {X:Cx}{a b e o:Expr}{ta tb te to:aF}{tr:bX}{pos p2 aj am:Pos}{σ:St}{H:Hp}{Q':VK}
noncomputable def Q4:List PV->(PV->Prop)->Prop:=λxs Q=>∃ns:ag,xs = [.lst (intz ns)]/\ns≠[]/\∀M:Int,M∈ns->(∀x∈ns,x<=M)->Q (.int M)
theorem aI7:fG X Q4 (λxs H Q=>∃(a:az) (ns:ag),xs = [.ref a]/\aZ X.K H a (ns.map V.int)/\ns≠[]/\∀M:Int,M∈ns->(∀x∈ns,x<=M)->Q (.int M) H):=by
 rintro H vs xs Q Q' r ⟨ns,rfl,ne,q⟩ k
 obtain⟨v,rfl,r1⟩:=r.one
 obtain⟨a,us,rfl,_,h,r2⟩:=r1.sqL
 rw[r2.ofInts]at h
 exact⟨a,ns,rfl,aZ.of h,ne,λM m1 m2=>k _ _ _ (aH.refl _) (.int M) (q M m1 m2)⟩
end
section
variable {X:Cx}{σ:St}{H:Hp}{D:dX}{te tix tk tv:aF}{e eix ek ev:Expr}{pos p1 p2 p3 p4:Pos}
theorem tZ {α:Type}(us:List α)(v:α):L2.atI (us++[v]) (-1)=some v:=by
 unfold L2.atI iJ;have h1:(1:Int)<=(us.length:Int)+1:=by omega
 have h2:(-1+((us.length:Int)+1)).toNat=us.length:=by omega
 simp[h1,h2]
end
end PP
namespace Core
open PySem L2 PP
noncomputable def Ord (ws:ag)(ls:aa)(ns R:ag):Prop:=vT ws ls ns R=true/\aG2 ws ls (ns++R)
end Core
namespace HT
open PySem PyProof.Rows
section
open PySem.SeqAt
open PySem.AutoSeq1 (wpAny_loadPart')
open PySem.MeetsSeq PySem.MeetsSeq2 PySem.MeetsSeq3
theorem aI8 (l b:az)(n n2:Nat)(dd dd2:Option az)(sl sl2:Array (Option ax))(a c:Int)(t u:Tok)(v x:ax)(e lt:Bool) :
  Meets (Builtin.«tuple.__lt__» ⟨[.ref l,.ref b],[]⟩)
   (λA R s=>s.heap.get? l=some { cls:=.type "tuple",dict:=dd,data:=.seq #[.int a t,v] n,slots:=sl }/\s.heap.get? b=some { cls:=.type "tuple",dict:=dd2,data:=.seq #[.int c u,x] n2,slots:=sl2 }/\
    SeqAt.EqAt A.in1 s v x e/\(∀(prog:ba) (w:bf) (E Q:ax->ay->Prop),Q (.bool lt) s->wpAny (model prog w) A.in1 (richCompare .Lt v x) Q E s)/\
    R (.ok (.ret (.bool (if a=c then (if e then false else lt) else decide (a<c))))) s):=
 .of_wp λprog w A R s h=>by
  obtain⟨hp,g,d,tk,os⟩:=s;obtain⟨hl,hb,he2,hlt,h⟩:=h
  have f2:=AutoSeq1.sub_tuple_tuple
  wp_walk using wpAny_loadPart' hl,wpAny_loadPart' hb,wpAny_forIn_list _ (λrest z s'=>z.1=none/\s'=⟨hp,g,d,tk,os⟩/\(rest = [(Value.int a t,Value.int c u),(v,x)]∨(rest = [(v,x)]/\a=c)∨(rest = []/\a=c/\e=true))) _
  case turn=>
   rintro⟨p,q⟩ rest z s' ⟨hz,rfl,c1|⟨c1,ac⟩|⟨c1,_⟩⟩
   ·injection c1 with c2 c3
    injection c2 with c4 c5
    subst c4 c5
    obtain⟨e1,he1,hiff⟩:=A3 A.in1 ⟨hp,g,d,tk,os⟩ a t c u
    refine bd2 (he1 prog w _ _ ?_);cases e1 with
    |true=>
     wp_walk
     exact⟨rfl,rfl,.inr (.inl ⟨c3,hiff.mp rfl⟩)⟩
    |false=>
     rw[if_neg (λq=>absurd (hiff.mpr q) be9)]at h;have hri:=A4 A.in1 ⟨hp,g,d,tk,os⟩ a t c u prog w
     wp_walk using hri
     exact⟨_,rfl,by simpa using h⟩
   ·injection c1 with c2 c3
    injection c2 with c4 c5
    subst c4 c5;rw[if_pos ac]at h;refine bd2 (he2 prog w _ _ ?_);cases e with
    |true=>
     wp_walk
     exact⟨rfl,rfl,.inr (.inr ⟨c3,ac,rfl⟩)⟩
    |false=>
     have hri:=hlt prog w
     wp_walk using hri
     exact⟨_,rfl,by simpa using h⟩
   ·cases c1
  case fin=>
   rintro⟨b1,b2⟩ s' ⟨hz,rfl,c1|⟨c1,ac⟩|⟨c1,ac,et⟩⟩
   ·cases c1
   ·cases c1
   ·simp only at hz
    subst hz;subst et;rw[if_pos ac,if_pos rfl]at h
    wp_walk
    exact⟨_,rfl,by simpa[Builtin.Tuple.tupleCompareSizes] using h⟩
  case h=>exact⟨rfl,rfl,.inl rfl⟩
end
end HT
namespace L2
open PySem PySem.Spec PyProof.Rows PP
section
variable {X:Cx}{ai:List (az×Obj)}{s:ay}{σ:St}{H:Hp}{M M':az→Prop}
noncomputable abbrev gY (a:Int)(ns:ag):PV:=.tup [.int a,.tup (intz ns)]
theorem Q5:∀ns:ag,HT.cY ns ns=false
 |[]=>rfl
 |x::xs=>by rw[HT.qJ,if_pos rfl];exact Q5 xs
theorem aI9 {A:bc}(hu:A.units+4<cLine)(I:aA X ai σ H s){x y:V}{v u:ax}{a c:Int}{ns ms:ag}(r1:aG X.K M H x (gY a ns))(r2:aG X.K M' H y (gY c ms))(e1:aU x v)(e2:aU y u){prog:ba}{w:bf}{E Q:ax->ay->Prop}(h:Q (.bool (HT.cY (a::ns) (c::ms))) s):wpAny (model prog w) A (richCompare .Lt v u) Q E s:=by
 obtain⟨l,us,rfl,h1,q1⟩:=r1.sqT
 obtain⟨b,ws,rfl,h2,q2⟩:=r2.sqT
 cases e1;cases e2
 obtain⟨x1,x2,rfl,p1,p2⟩:=q1.two
 obtain⟨y1,y2,rfl,p3,p4⟩:=q2.two
 cases p1;cases p3
 obtain⟨its,v1,t1,_⟩:=I.tuple (aR.of (K:=X.K) h1)
 obtain⟨av,v2,t2,_⟩:=I.tuple (aR.of (K:=X.K) h2)
 obtain⟨_,_,rfl,k1,k2⟩:=v1.two
 obtain⟨_,_,rfl,k3,k4⟩:=v2.two
 obtain⟨t,rfl⟩:=k1
 obtain⟨t',rfl⟩:=k3
 have eq:=aB0 I 2 (A:=A.in1) (by show A.units+1+2<cLine;omega) p2 p4 k2 k4 (by exact aA1 1 ns ms);rw[aA0 1]at eq
 obtain⟨p,us,rfl,h3,q3⟩:=p2.sqT
 obtain⟨q,ws,rfl,h4,q4⟩:=p4.sqT
 obtain rfl:=q3.ofInts;obtain rfl:=q4.ofInts;cases k2;cases k4
 obtain⟨its,v3,t3,_⟩:=I.tuple (aR.of (K:=X.K) h3)
 obtain⟨av,v4,t4,_⟩:=I.tuple (aR.of (K:=X.K) h4)
 have i3:IntsAre its.toArray.toList ns:=lY v3;have i4:IntsAre av.toArray.toList ms:=lY v4
 obtain⟨⟨cls,dd,data,sl⟩,ho,hc,n,hd⟩:=t1
 obtain⟨⟨cls2,dd2,data2,sl2⟩,ho2,hc2,n2,hd2⟩:=t2
 simp only at hc hd hc2 hd2;subst hc hd hc2 hd2;refine richCompare_meets_room (op:=.Lt) ⟨_,ho,rfl⟩ ⟨_,ho2,rfl⟩ PySem.F.slot_tuple_lt PySem.F.entry_tuple_lt (PySem.F.args_tuple_lt_2 _ _) (HT.aI8 l b n n2 dd dd2 sl sl2 a c t t' _ _ (decide (ns=ms)) (HT.cY ns ms))
  ⟨ho,ho2,eq,λprog w E Q hq=>(HT.am6 t3 t4 i3 i4 (by show A.units+1<cLine;omega) hq:wpAny (model prog w) A.in1 (compareOp .Lt _ _) Q E s),?_⟩ (by omega)
 have e:(if a=c then (if (decide (ns=ms))=true then false else HT.cY ns ms) else decide (a<c))=HT.cY (a::ns) (c::ms):=by
  rw[HT.qJ];by_cases ac:a=c
  ·rw[if_pos ac,if_pos ac]
   by_cases nm:ns=ms
   ·rw[if_pos (bg0 nm),nm,Q5]
   ·rw[if_neg (by rw[bh3];exact nm)]
  ·rw[if_neg ac,if_neg ac]
 rw[e]
 exact⟨(λx=>nomatch x),h⟩
end
section
variable {prog:ba}{w:bf}{A:bc}{R:Result→ay→Prop}{I S:az}{n:Nat}{l:az}{its:Array ax}{s0:ay}{bt:Nat→Nat→Bool}
noncomputable abbrev j8 (s:ay)(h:Heap)(k:Nat):ay:={ s with heap:=h,toks:=k }
noncomputable abbrev iN (g h:Heap):Prop:=∀b o,g.get? b=some o->h.get? b=some o
end
section
variable {prog:ba}{w:bf}{A:bc}{s0:ay}{l:az}{its:Array ax}{bt:Nat→Nat→Bool}
theorem Q6 {h:Heap}{a:az}(z:h.objs.size<=a):h.get? a=none:=by
 cases q:h.get? a with
 |none=>rfl
 |some o=>exact absurd (be7 q) (Nat.not_lt.mpr z)
end
end L2
namespace PP
open PySem L2
section
variable {X:Cx}{a b e:Expr}{ta tb:aF}{tr:bX}{pos p2:Pos}
theorem sB (a:Int)(ns:ag):flat (gY a ns)=true:=by
 show (flat (.int a)&&(flat (.tup (intz ns))&&true))=true;rw[show flat (.tup (intz ns))=true from kP ns];rfl
end
end PP
namespace Core
open PySem L2 PP
noncomputable def Bd (ws:ag)(ls:aa)(wts:ag)(b:Int):Prop:=∃zs,aH4 ws ls wts zs/\b=(ws.length:Int)-(aH2 zs wts.sum:Int)
noncomputable def FB (L:ae)(f:ag->Int)(r:ag):Prop:=∃i,L[i]? = some r/\(∀(j:Nat) (s:ag),j<i->L[j]? = some s->f s<f r)/\∀s∈L,f s<=f r
end Core
namespace L2
open PySem PySem.Spec PyProof.Rows
section
variable {prog:ba}{w:bf}{A:bc}{E:ax→ay→Prop}{s:ay}{l:az}{xs:Array (Int×Tok)}
theorem Q7 {Q:ax->ay->Prop}(hl:s.heap.IsTuple l (intItems xs))(h:∀h2:Heap,(h2.IsTupleIter s.heap.objs.size l 0/\h2.IsTuple l (intItems xs))->(∀b∈[s.heap.objs.size,l],b<h2.objs.size)->l≠s.heap.objs.size->(∀b o,s.heap.get? b=some o->b∉[s.heap.objs.size]/\h2.get? b=some o)->Q (.ref s.heap.objs.size) { s with heap:=h2 }):wpAny (model prog w) A (pyIter (.ref l)) Q E s:=by
 have lb:l<s.heap.objs.size:=by obtain⟨_,e,_⟩:=hl;exact be7 e
 refine bn2 hl (h _ ⟨⟨_,bf1 _ rfl,rfl,rfl⟩,hl.push _⟩ (λb hb=>?_) (bg7 lb) λb o e=>⟨λhm=>?_,bd3 _ e⟩)
 ·rw[bl4]
  rcases bd8.mp hb with rfl|hb
  ·exact Nat.lt_succ_self _
  ·rw[bd7.mp hb];exact Nat.lt_succ_of_lt lb
 ·rw[bd7.mp hm]at e
  exact absurd (be7 e) (bi7 _)
theorem aJ0 {Q:ax->ay->Prop}(hh:A.handled=none)(hl:s.heap.IsTuple l (intItems xs))(hne:0<xs.size)(h:∀v h' tk,(intItems xs)[argBest (λi j=>decide (numAt xs i>numAt xs j)) (xs.size-1)]? = some v->(∀b o,s.heap.get? b=some o->h'.get? b=some o)->Q v { s with heap:=h',toks:=tk }):wpAny (model prog w) A (call (.builtin "max") [.ref l]) Q E s:=by
 refine call_max_walk (Q7 hl λh2 st hfp ne old=>?_)
 exact⟨_,_,_,_,_,_,_,rfl,Walks.tuple (A:=A.in1) hh _ l ne (intItems xs),st,hfp,by simpa[intItems] using hne,CmpOf.ints_gt (numAt xs) (λ_ _=>intItems_at),λv h' tk hP hk=>h v h' tk (by simpa[intItems] using hP) λb o e=>hk b o (old b o e).1 (old b o e).2⟩
theorem aJ1 {Q:ax->ay->Prop}(hh:A.handled=none)(hl:s.heap.IsTuple l (intItems xs))(hne:0<xs.size)(h:∀v h' tk,(intItems xs)[argBest (λi j=>decide (numAt xs i<numAt xs j)) (xs.size-1)]? = some v->(∀b o,s.heap.get? b=some o->h'.get? b=some o)->Q v { s with heap:=h',toks:=tk }):wpAny (model prog w) A (call (.builtin "min") [.ref l]) Q E s:=by
 refine call_min_walk (Q7 hl λh2 st hfp ne old=>?_)
 exact⟨_,_,_,_,_,_,_,rfl,Walks.tuple (A:=A.in1) hh _ l ne (intItems xs),st,hfp,by simpa[intItems] using hne,CmpOf.ints_lt (numAt xs) (λ_ _=>intItems_at),λv h' tk hP hk=>h v h' tk (by simpa[intItems] using hP) λb o e=>hk b o (old b o e).1 (old b o e).2⟩
end
section
variable {X:Cx}
theorem aJ2 (hc:X.calm=true):dN X (.builtin "max") (λxs H Q=>∃(a:az) (ns:ag),xs = [.ref a]/\aR X.K H a (ns.map V.int)/\ns≠[]/\∀M:Int,M∈ns->(∀x∈ns,x<=M)->Q (.int M) H):=by
 intro ai s σ H xs us Q I r h
 obtain⟨a,ns,rfl,hq,ne,q⟩:=h
 obtain⟨u,rfl,ru⟩:=jK r
 cases ru
 obtain⟨its,rv,p,hz⟩:=I.tuple hq
 have ia:=lY rv
 obtain⟨ys,ey⟩:=ia.allInts.items
 have en:ns=ys.toList.map (·.1):=by
  have e1:=nums_intItems ys;rw[<- ey]at e1;exact ia.numsOf.symm.trans e1
 have pos:0<ys.size:=Nat.pos_of_ne_zero λz=>ne (by rw[en,bo4 z];rfl)
 have hl:s.heap.IsTuple a (intItems ys):=by rw[<- ey];exact p
 refine aJ0 (I.ok.hd hc) hl pos λv h' tk ev old=>?_
 obtain⟨t,rfl⟩:=intItems_at ev
 have best:=argBest_gt (numAt ys) (ys.size-1);have mem:∀x:Int,x∈ns↔∃j,j<ys.size/\numAt ys j=x:=λx=>by
  rw[en];constructor
  ·intro z
   obtain⟨j,hj,e⟩:=mem_getD z
   exact⟨j,by simpa using hj,by rw[numAt_eq];exact e⟩
  ·rintro⟨j,hj,rfl⟩
   rw[numAt_eq];exact getD_mem (by simpa using hj)
 refine⟨.int _,H,I.kept (t':=tk) (h':=h') old,⟨t,rfl⟩,q _ ?_ λx hx=>?_⟩
 ·exact (mem _).mpr ⟨_,by have:=best.1;omega,rfl⟩
 ·obtain⟨j,hj,rfl⟩:=(mem x).mp hx
  exact best.2 j (by omega)
theorem aJ3 (hc:X.calm=true):dN X (.builtin "min") (λxs H Q=>∃(a:az) (ns:ag),xs = [.ref a]/\aR X.K H a (ns.map V.int)/\ns≠[]/\∀M:Int,M∈ns->(∀x∈ns,M<=x)->Q (.int M) H):=by
 intro ai s σ H xs us Q I r h
 obtain⟨a,ns,rfl,hq,ne,q⟩:=h
 obtain⟨u,rfl,ru⟩:=jK r
 cases ru
 obtain⟨its,rv,p,hz⟩:=I.tuple hq
 have ia:=lY rv
 obtain⟨ys,ey⟩:=ia.allInts.items
 have en:ns=ys.toList.map (·.1):=by
  have e1:=nums_intItems ys;rw[<- ey]at e1;exact ia.numsOf.symm.trans e1
 have pos:0<ys.size:=Nat.pos_of_ne_zero λz=>ne (by rw[en,bo4 z];rfl)
 have hl:s.heap.IsTuple a (intItems ys):=by rw[<- ey];exact p
 refine aJ1 (I.ok.hd hc) hl pos λv h' tk ev old=>?_
 obtain⟨t,rfl⟩:=intItems_at ev
 have best:=argBest_lt (numAt ys) (ys.size-1);have mem:∀x:Int,x∈ns↔∃j,j<ys.size/\numAt ys j=x:=λx=>by
  rw[en];constructor
  ·intro z
   obtain⟨j,hj,e⟩:=mem_getD z
   exact⟨j,by simpa using hj,by rw[numAt_eq];exact e⟩
  ·rintro⟨j,hj,rfl⟩
   rw[numAt_eq];exact getD_mem (by simpa using hj)
 refine⟨.int _,H,I.kept (t':=tk) (h':=h') old,⟨t,rfl⟩,q _ ?_ λx hx=>?_⟩
 ·exact (mem _).mpr ⟨_,by have:=best.1;omega,rfl⟩
 ·obtain⟨j,hj,rfl⟩:=(mem x).mp hx
  exact best.2 j (by omega)
end
end L2
namespace PP
open PySem L2
section
variable {X:Cx}{a b e:Expr}{ta tb:aF}{tr:bX}{pos p2:Pos}
noncomputable def Q8:List PV->(PV->Prop)->Prop:=λxs Q=>∃ns:ag,xs = [.tup (intz ns)]/\ns≠[]/\∀M:Int,M∈ns->(∀x∈ns,x<=M)->Q (.int M)
noncomputable def Q9:List PV->(PV->Prop)->Prop:=λxs Q=>∃ns:ag,xs = [.tup (intz ns)]/\ns≠[]/\∀M:Int,M∈ns->(∀x∈ns,M<=x)->Q (.int M)
theorem aJ4:fG X Q8 (λxs H Q=>∃(a:az) (ns:ag),xs = [.ref a]/\aR X.K H a (ns.map V.int)/\ns≠[]/\∀M:Int,M∈ns->(∀x∈ns,x<=M)->Q (.int M) H):=by
 rintro H vs xs Q Q' r ⟨ns,rfl,ne,q⟩ k
 obtain⟨v,rfl,r1⟩:=r.one
 obtain⟨a,us,rfl,h,r2⟩:=r1.sqT
 rw[r2.ofInts]at h
 exact⟨a,ns,rfl,aR.of h,ne,λM m1 m2=>k _ _ _ (aH.refl _) (.int M) (q M m1 m2)⟩
theorem aJ5:fG X Q9 (λxs H Q=>∃(a:az) (ns:ag),xs = [.ref a]/\aR X.K H a (ns.map V.int)/\ns≠[]/\∀M:Int,M∈ns->(∀x∈ns,M<=x)->Q (.int M) H):=by
 rintro H vs xs Q Q' r ⟨ns,rfl,ne,q⟩ k
 obtain⟨v,rfl,r1⟩:=r.one
 obtain⟨a,us,rfl,h,r2⟩:=r1.sqT
 rw[r2.ofInts]at h
 exact⟨a,ns,rfl,aR.of h,ne,λM m1 m2=>k _ _ _ (aH.refl _) (.int M) (q M m1 m2)⟩
end
end PP
namespace L2
open PySem PySem.Spec PyProof.Rows
section
variable {X:Cx}
noncomputable def R0 (K:ad)(ta:TA):TI:=λσ H R=>ta σ H λvs H1=>∃a b,vs = [.ref a,.ref b]/\((∃xs ys,aR K H1 a xs/\aR K H1 b ys/\R (E7 K a b) H1)∨∃xs ys,aZ K H1 a xs/\aZ K H1 b ys/\R (uI K a b) H1)
theorem aJ6 {elts:List Expr}{kt:Nat}{pt:Pos}{a b:Expr}{ta:TA}{p pos:Pos}(hg:Gl X "zip")(hm:X.mg "zip" = none)(ha:PA X [a,b] ta)(hs:starEach [a,b] X.env = [(false,eval a X.env),(false,eval b X.env)]:=by rfl)(hs2:starEach [b] X.env = [(false,eval b X.env)]:=by rfl) :
  PI X (.Tuple elts kt pt) (.Call (.Name "zip" p) [a,b] [] pos) (R0 X.K ta):=by
 intro ai s σ H R I h;refine Call_ (lV I hg hm PyProof.Rows.boot_zip (bp1 (aO (ha pos ai s σ H _ I h) λus s1 ⟨vs,H1,I1,r1,q1⟩=>?_) (by rw[hs,hs2]) (by rw[hs2];rfl)))
 obtain⟨a',b',e,q1⟩:=q1
 subst e
 obtain⟨u1,u2,rfl,r,r'⟩:=aN.two r1
 cases r;cases r';have fresh:∀k,H1 (s1.heap.objs.size+k)=none:=λk=>I1.hok.fresh (bm3 _ _)
 have fp:∀c∈[s1.heap.objs.size+4,s1.heap.objs.size+2,s1.heap.objs.size+3,s1.heap.objs.size,s1.heap.objs.size+1],fY X ai H1 c:=λc hc=>by
  simp only[bd8,bf2,bi5]at hc;rcases hc with rfl|rfl|rfl|rfl|rfl
  ·exact I1.fpOk (bm3 _ _) (fresh 4)
  ·exact I1.fpOk (bm3 _ _) (fresh 2)
  ·exact I1.fpOk (bm3 _ _) (fresh 3)
  ·exact I1.fpOk (be2 _) (fresh 0)
  ·exact I1.fpOk (bm3 _ _) (fresh 1)
 rcases q1 with⟨xs,ys,h1,h2,q⟩|⟨xs,ys,h1,h2,q⟩
 ·obtain⟨us,_,p1,_⟩:=I1.tuple h1
  obtain⟨ws,_,p2,_⟩:=I1.tuple h2
  refine Zp.at3 p1 p2 λh' z ti to s1' s2' kp=>wpAny_pyIter_zip z ?_
  exact⟨s1.heap.objs.size+4,[s1.heap.objs.size+4,s1.heap.objs.size+2,s1.heap.objs.size+3,s1.heap.objs.size,s1.heap.objs.size+1],_,_,H1,rfl,I1.kept (t':=s1.toks) kp,at6 a' b' _ _ _ _ _ (by simp),⟨z,ti,⟨_,_,to⟩,s1',s2'⟩,fp,q⟩
 ·obtain⟨us,_,p1,_⟩:=I1.list h1
  obtain⟨ws,_,p2,_⟩:=I1.list h2
  refine call_zip_2 p1.isList p2.isList λh' z ti to s1' s2' _ kp=>wpAny_pyIter_zip z ?_
  exact⟨s1.heap.objs.size+4,[s1.heap.objs.size+4,s1.heap.objs.size+2,s1.heap.objs.size+3,s1.heap.objs.size,s1.heap.objs.size+1],_,_,H1,rfl,I1.kept (t':=s1.toks) kp,au1 a' b' _ _ _ _ _ (by simp),⟨z,ti,⟨_,_,to⟩,s1',s2'⟩,fp,q⟩
end
end L2
namespace PP
open PySem L2
theorem aJ7 {K:ad}{H0:Hp}{W:az->Prop}{g:Bool}{H1:Hp}{a b:az}{us vs:List V}{xs ys:List PV}(tw:∀a,W a->∃o,H1 a=some o/\dP o=true)(ha:∀W' H',Ev W H1 W' H'->aZ K H' a us)(hb:∀W' H',Ev W H1 W' H'->aZ K H' b vs)(r:Reps K (Ms H0 W g) H1 us xs)(r':Reps K (Ms H0 W g) H1 vs ys):kT K H0 W g H1 (uI K a b) (j5 xs ys):=by
 have lr:=r.length;have lr':=r'.length;have ll:=vO xs ys;refine⟨λW' H' i e hi=>⟨us,vs,us[i]'(by omega),vs[i]'(by omega),ha W' H' e,hb W' H' e,by simp,by simp⟩,λW' H' i v H2 e y hi=>?_,λW' H' e=>⟨us,vs,ha W' H' e,hb W' H' e,by omega⟩⟩
 obtain⟨T,x,y',hT,rfl,rfl,y⟩:=y
 obtain⟨h1,h2⟩:=y us vs (ha W' _ e) (hb W' _ e)
 obtain⟨z,hz,rz⟩:=r.get h1
 obtain⟨z',hz',rz'⟩:=r'.get h2
 have sm:=bZ hT (HO.tup [x,y'])
 exact⟨sm,_,aG8 hz hz',.tup bH (.cons ((rz.keep (e.keep tw)).same sm λ_ q=>q) (.cons ((rz'.keep (e.keep tw)).same sm λ_ q=>q) .nil))⟩
end PP
namespace Core
open PySem L2 PP
noncomputable def inL (S:ag)(l:Int×Int):Bool:=decide (l.1∈S)&&decide (l.2∈S)
structure Moved (ws os ws':ag):Prop where
 len:ws'.length=ws.length
 j8:∀h:Nat,h<ws.length->ws'[(os.getD h 0).toNat]? = ws[h]?
end Core
namespace L2
open PySem PySem.Spec PyProof.Rows
section
variable {X:Cx}{ai:List (az×Obj)}{σ:St}{H:Hp}{s:ay}{a:az}
noncomputable def vU (H:Hp)(y:V)(k:List (Int×Bool)):Prop:=∃q,y = .ref q/\eY H k q
theorem aJ8 {kvs:List (List (Int×Bool)×V)}(I:aA X ai σ H s)(h:H a=some (.dA kvs)):∃es ep ys,Raw.oG s.heap a es ep/\(a==sysModules)=false/\Paired (vU H) ys (kvs.map (·.1))/\aN ys (es.toList.map (·.key))/\kvs.length<=sizeLine:=by
 obtain⟨z,far,xs,rel,o,es,ep,e1,e2,e3,e4,nd⟩:=(show bL X.prog X.w H s.heap a (.dA kvs) from I.hok a _ h)
 refine⟨es,ep,xs.map λq=>V.ref q.2.1,⟨o,e1,e2,e3⟩,far,?_,?_,z⟩
 ·clear e4 nd h z
  induction rel with
  |nil=>exact .nil
  |cons r rs ih=>exact .cons ⟨_,rfl,r.2.1⟩ ih
 ·rw[e4]
  clear rel e4 nd
  induction xs with
  |nil=>exact .nil
  |cons q qs ih=>exact .cons rfl ih
end
noncomputable def aJ9:HO->Bool
 |.dK _=>true
 |.dT _=>true
 |.dA _=>true
 |_=>false
section
variable {X:Cx}{ai:List (az×Obj)}{σ:St}{H H':Hp}{s:ay}{a:az}
theorem aA.frozeD {o:Obj}{u:HO}(I:aA X ai σ H s)(h:H a=some u)(du:aJ9 u=true)(e:s.heap.get? a=some o):aA X ai σ (upd H a (.frz o u)) s:=by
 have own:∀{c:az}{y:az},H c=some (.own y)->c≠a:=λ{c y} q z=>by rw[z,h]at q;cases q;cases du
 have tp:∀{c:az}{xs:List V},H c=some (.tup xs)->c≠a:=λ{c xs} q z=>by rw[z,h]at q;cases q;cases du
 have cd:∀{c:az}{y:Str},H c=some (.code y)->c≠a:=λ{c y} q z=>by rw[z,h]at q;cases q;cases du
 refine I.reH (a:=a) (λb n=>aJ n) ⟨_,h⟩ (λxs q=>by rw[h]at q;cases q;cases du) (λo' v q=>by have:=I.base.frzs a o' v q;rw[h]at this;cases this;cases du) (λps q=>by rw[h]at q;cases q;cases du) λb v q=>?_
 by_cases hb:b=a
 ·subst hb
  rw[bH]at q;cases q
  exact⟨e,(I.hok b _ h).stay (λ_ _ _ q=>q) (λc q=>by rw[aJ (own q)];exact q) (λc xs q=>by rw[aJ (tp q)];exact q) (λc r q=>by rw[aJ (cd q)];exact q)⟩
 ·rw[aJ hb]at q
  exact (I.hok b v q).stay (λ_ _ _ q=>q) (λc q=>by rw[aJ (own q)];exact q) (λc xs q=>by rw[aJ (tp q)];exact q) (λc r q=>by rw[aJ (cd q)];exact q)
end
end L2
namespace PP
open PySem L2
noncomputable def fz:PV->PV
 |.dK ps=>.fK ps
 |.dT ps=>.fT ps
 |.dA ps=>.fA ps
 |x=>x
theorem R3 {K:ad}{M:az->Prop}{H:Hp}{k:List (Int×Bool)}{b:az}(h:eY H k b):aG K M H (.ref b) (.tup (k.map λq=>.tup [.int q.1,.bl q.2])):=by
 obtain⟨us,e,r⟩:=h
 refine .tup e ?_;clear e
 induction r with
 |nil=>exact .nil
 |@cons p u ps us hd t ih=>
  obtain⟨c,rfl,hc⟩:=hd
  exact .cons (.tup hc (.cons (.int _) (.cons (.bl _) .nil))) ih
end PP
namespace Core
open PySem L2 PP
noncomputable def vV (r c:Int)(l:Int×Int):Bool:=decide (0<=l.1)&&(decide (l.1<r)&&(decide (0<=l.2)&&decide (l.2<c)))
noncomputable def aK0 (l:Int×Int):aa:=[(l.1-1,l.2),(l.1,l.2-1),(l.1,l.2+1),(l.1+1,l.2)]
noncomputable def vW (r c:Int)(l:Int×Int):aa:=(aK0 l).filter (vV r c)
section
variable {ls:aa}{n:Nat}{B:ag}
noncomputable def ins (ls:aa)(S:ag)(h:Int):Nat:=((qP ls h).filter λx=>decide (x∈S)).length
end
section
variable {ls:aa}{B:ag}
structure vX (ls:aa):Prop where
 lt:∀l∈ls,l.1<l.2
 ord:ls.Pairwise ltP
end
end Core
namespace PP
open PySem L2 PyProof.Rows
section
variable {X:Cx}{a b e:Expr}{ta tb te:aF}{tr:bX}{pos p2:Pos}
theorem fG.or {R1 R2:List PV->(PV->Prop)->Prop}{r1 r2:List V->Hp->(V->Hp->Prop)->Prop}(h1:fG X R1 r1)(h2:fG X R2 r2):fG X (λxs Q=>R1 xs Q∨R2 xs Q) (λxs H Q=>r1 xs H Q∨r2 xs H Q):=by
 rintro H vs xs Q Q' r (h|h) k
 ·exact .inl (h1 H vs xs Q Q' r h k)
 ·exact .inr (h2 H vs xs Q Q' r h k)
noncomputable def vY:List PV->(PV->Prop)->Prop:=λxs Q=>Q3 xs Q∨Q9 xs Q
noncomputable def vZ:List PV->(PV->Prop)->Prop:=λxs Q=>Q4 xs Q∨Q8 xs Q
theorem aK1 (B:Bt X.mg)(hc:X.calm=true)(ha:QA X [e] tr)(hg:Gl X "min":=by rfl)(he:starEach [e] X.env=(false,eval e X.env)::starEach [] X.env:=by rfl)(hpl:(backTo pos (starEach [] X.env)).any (·.1)=false:=by rfl):QE X (.Call (.Name "min" p2) [e] [] pos) (aP vY tr):=
 oT ((aI4 hc).or (aJ3 hc)) (aI5.or aJ5) hg B.min PyProof.Rows.boot_min ha (he:=he) (hpl:=hpl)
theorem aK2 (B:Bt X.mg)(hc:X.calm=true)(ha:QA X [e] tr)(hg:Gl X "max":=by rfl)(he:starEach [e] X.env=(false,eval e X.env)::starEach [] X.env:=by rfl)(hpl:(backTo pos (starEach [] X.env)).any (·.1)=false:=by rfl):QE X (.Call (.Name "max" p2) [e] [] pos) (aP vZ tr):=
 oT ((aI6 hc).or (aJ2 hc)) (aI7.or aJ4) hg B.max PyProof.Rows.boot_max ha (he:=he) (hpl:=hpl)
theorem aK3 {x:PV}{ns:ag}(h:Core.d9 x ns)(ne:ns≠[]){Q:PV->Prop}(q:∀M:Int,M∈ns->(∀x∈ns,M<=x)->Q (.int M)):vY [x] Q:=by
 rcases h with rfl|rfl
 ·exact .inr ⟨ns,rfl,ne,q⟩
 ·exact .inl ⟨ns,rfl,ne,q⟩
theorem aK4 {x:PV}{ns:ag}(h:Core.d9 x ns)(ne:ns≠[]){Q:PV->Prop}(q:∀M:Int,M∈ns->(∀x∈ns,x<=M)->Q (.int M)):vZ [x] Q:=by
 rcases h with rfl|rfl
 ·exact .inr ⟨ns,rfl,ne,q⟩
 ·exact .inl ⟨ns,rfl,ne,q⟩
end
end PP
namespace Core
open PySem L2 PP
noncomputable def dQ (ws:ag):Prop:=ws≠[]/\ws.length<=2/\∀x∈ws,0<=x/\x<=6
noncomputable def j9:j6:=λEp xs Q=>∃x ws L,xs = [x,.int L]/\d9 x ws/\(dQ ws->0<=L->Q .non)/\(¬(dQ ws/\0<=L)->Ep "BadBoard")
noncomputable def R4 (Ep:Str->Prop):aY:=(bC (dG (iK (bN (mO (aP e9 (aE (aC 0) aM)) (qC (.int 1)))) (iK (bN (rO (aP e9 (aE (aC 0) aM)) (qC (.int 2)))) (iK (bN (mO (aP vY (aE (aC 0) aM)) (qC (.int 0)))) (bN (rO (aP vZ (aE (aC 0) aM)) (qC (.int 6))))))) (oX Ep "BadBoard" (aE (qC (.str "a slice has one or two wants from 0 to 6")) aM)) dF)
 (dG (bN (mO (aC 1) (qC (.int 0)))) (oX Ep "BadBoard" (aE (qC (.str "no length is below 0")) aM)) dF))
theorem aK5:Q0 R4 ["wants","length"] j9:=by
 rintro Ep xs Q ⟨x,ws,L,rfl,hx,q,ex⟩;refine⟨_,rfl,_,_,rfl,hx.len,_,_,rfl,rfl,_,rfl,?_⟩;show if decide ((ws.length:Int)<1)=true then _ else _
 by_cases h1:(ws.length:Int)<1
 ·rw[bg0 h1]
  exact cC (cC ⟨by decide,ex λz=>z.1.1 (bm7 (by omega))⟩)
 rw[be4 h1];refine bJ ⟨_,rfl,_,_,rfl,hx.len,_,_,rfl,rfl,_,rfl,?_⟩;show if decide ((ws.length:Int)>2)=true then _ else _
 by_cases h2:(ws.length:Int)>2
 ·rw[bg0 h2]
  exact cC (cC ⟨by decide,ex λz=>by have:=z.1.2.1;omega⟩)
 rw[be4 h2];have ne:ws≠[]:=λz=>by rw[z]at h1;exact h1 (by decide)
 refine bJ ⟨_,rfl,aK3 hx ne λm m1 m2=>⟨_,_,rfl,rfl,_,rfl,?_⟩⟩;show if decide (m<0)=true then _ else _
 by_cases h3:m<0
 ·rw[bg0 h3]
  exact cC (cC ⟨by decide,ex λz=>by have:=z.1.2.2 m m1;omega⟩)
 rw[be4 h3];refine bJ ⟨_,rfl,aK4 hx ne λM M1 M2=>⟨_,_,rfl,rfl,_,rfl,?_⟩⟩;show if decide (M>6)=true then _ else _
 by_cases h4:M>6
 ·rw[bg0 h4]
  exact cC ⟨by decide,ex λz=>by have:=z.1.2.2 M M1;omega⟩
 rw[be4 h4];refine bJ ⟨_,rfl,_,_,rfl,rfl,_,rfl,?_⟩;show if decide (L<0)=true then _ else _
 by_cases h5:L<0
 ·rw[bg0 h5]
  exact cC ⟨by decide,ex λz=>by omega⟩
 rw[be4 h5];exact bJ (q ⟨ne,by omega,λy hy=>by have:=m2 y hy;have:=M2 y hy;omega⟩ (by omega))
noncomputable def jC:j6:=λEp xs Q=>∃L m:Int,xs = [.int L,.int m]/\(L<=m->Q .non)/\(m<L->Ep "TooMany")
noncomputable def R5 (Ep:Str->Prop):aY:=(dG (bN (rO (aC 0) (aC 1))) (oX Ep "TooMany" (aE (qC (.str "the strip is too long")) aM)) dF)
theorem aK6:Q0 R5 ["length","most"] jC:=by
 rintro Ep xs Q ⟨L,m,rfl,q,ex⟩;refine⟨_,rfl,_,rfl,_,_,rfl,rfl,_,rfl,?_⟩;show if decide (L>m)=true then _ else _
 by_cases h:L>m
 ·rw[bg0 h];exact cC ⟨by decide,ex h⟩
 ·rw[be4 h];exact bJ (q (by omega))
noncomputable def lD:b7:=λxs Q=>∃c:Int,xs = [.int c]/\∀ws,dQ ws->Q (.tup (intz ws))
noncomputable def R6:aY:=(bC (dG (bN (iM (gI (aC 0) (qC (.int 3))) (qC (.int 0)))) (cL (fE (aE (gI (j0 (aC 0) (qC (.int 3))) (qC (.int 7))) aM))) dF)
 (bC (dG (bN (iM (gI (aC 0) (qC (.int 3))) (qC (.int 1)))) (cL (fE (aE (gI (j0 (aC 0) (qC (.int 3))) (qC (.int 7))) (aE (gI (j0 (aC 0) (qC (.int 21))) (qC (.int 7))) aM)))) dF)
 (cL (fE (aE (iL (qC (.int 1)) (gI (j0 (aC 0) (qC (.int 3))) (qC (.int 3)))) (aE (iL (qC (.int 1)) (gI (j0 (aC 0) (qC (.int 9))) (qC (.int 3)))) aM))))))
theorem w4 {a:Int}(h:0<=a/\a<=6):dQ [a]:=⟨by simp,Nat.le_succ 1,λx hx=>by rw[bd7.mp hx];exact h⟩
theorem nA {a b:Int}(h:0<=a/\a<=6)(k:0<=b/\b<=6):dQ [a,b]:=⟨by simp,be2 2,λx hx=>by
 rcases bd8.mp hx with rfl|hx
 ·exact h
 ·rw[bd7.mp hx];exact k⟩
theorem aK7:vB R6 ["cell"] lD:=by
 rintro xs Q ⟨c,rfl,q⟩;refine⟨_,rfl,_,_,rfl,rfl,(by show (0:Int)<3;decide),.inl ⟨_,_,rfl,rfl,_,rfl,?_⟩⟩;show if decide (c%3=0)=true then _ else _
 by_cases h:c%3=0
 ·rw[bg0 h]
  exact cC ⟨_,rfl,_,_,rfl,rfl,⟨by decide,by decide⟩,_,_,rfl,rfl,(by show (0:Int)<7;decide),by show 1<=1000;decide,rfl,trivial,q [_] (w4 (by omega))⟩
 rw[be4 h];refine bJ ⟨_,rfl,_,_,rfl,rfl,(by show (0:Int)<3;decide),.inl ⟨_,_,rfl,rfl,_,rfl,?_⟩⟩;show if decide (c%3=1)=true then _ else _
 by_cases h:c%3=1
 ·rw[bg0 h]
  exact cC ⟨_,rfl,_,_,rfl,rfl,⟨by decide,by decide⟩,_,_,rfl,rfl,(by show (0:Int)<7;decide),_,rfl,_,_,rfl,rfl,⟨by decide,by decide⟩,_,_,rfl,rfl,(by show (0:Int)<7;decide),by show 2<=1000;decide,rfl,trivial,q [_,_] (nA (by omega) (by omega))⟩
 rw[be4 h];exact bJ ⟨_,rfl,_,_,rfl,rfl,⟨by decide,by decide⟩,_,_,rfl,rfl,(by show (0:Int)<3;decide),_,_,rfl,rfl,_,rfl,_,_,rfl,rfl,⟨by decide,by decide⟩,_,_,rfl,rfl,(by show (0:Int)<3;decide),_,_,rfl,rfl,by show 2<=1000;decide,rfl,trivial,q [_,_] (nA (by omega) (by omega))⟩
end Core
namespace L2
open PySem PySem.Spec PyProof.Rows SO
noncomputable abbrev kk (l:Int×Int):List bW:=[Sum.inl l.1,Sum.inl l.2]
end L2
namespace Core
open PySem L2 PP
inductive oY (r c:Int)(S:aa):Int×Int->Prop
 |seed {x:Int×Int}:x∈S->oY r c S x
 |kin {x a b:Int×Int}:vV r c x=true->a∈vW r c x->b∈vW r c x->a≠b->oY r c S a->oY r c S b->oY r c S x
noncomputable def nbC (r c:Int)(P:aa)(x:Int×Int):Nat:=(P.filter λp=>decide (x∈vW r c p)).length
structure Wk (r c:Int)(S K P:aa):Prop where
 nd:K.Nodup
 ndP:P.Nodup
 sub:∀x∈P,x∈K
 brn:∀x∈K,oY r c S x
 sd:∀x∈S,x∈K
 bd:∀x∈K,vV r c x=true
 low:∀x,x∉K->nbC r c P x<2
end Core
namespace L2
open PySem PySem.Spec PyProof.Rows PP
section
variable {prog:ba}{w:bf}{A:bc}{R:Result→ay→Prop}{I S:az}{n:Nat}{s0:ay}{a b:ax}{lt:Bool}{fp:List az}{P:Nat→ax→Prop}{St:Nat→Heap→Prop}
theorem aK8 (W:Walks prog w A.in1 I fp [I] 2 P St)(p0:∀v,P 0 v->v=a)(p1:∀v,P 1 v->v=b)(sI:S≠I)(sf:S∉fp)(fI:s0.heap.get? I=none)(fS:s0.heap.get? S=none)(ask:∀(h:Heap) (k:Nat) (Q E:ax->ay->Prop),iN s0.heap h->Q (.bool lt) (j8 s0 h k)->wpAny (model prog w) A.in1 (richCompare .Lt b a) Q E (j8 s0 h k))(fin:∀h k,iN s0.heap h->R (.ok (.ret (if lt=true then b else a))) (j8 s0 h k)){h:Heap}{k c:Nat}(old:iN s0.heap h)(st:St 0 h)(hS:h.get? S=some { cls:=.type "list",dict:=none,data:=.seq #[] c,slots:=#[] }):codeAny (model prog w) A (.builtin "min.loop" ⟨[.ref I,.none,.ref S],[]⟩) R (j8 s0 h k):=by
 have nm:(toString "min"++toString ".loop":String)="min.loop":=by decide
 have nS:S∉[I]:=λz=>sI (bd7.mp z)
 have put:∀{h h':Heap},iN s0.heap h->(∀b o,b∉[I]->h.get? b=some o->h'.get? b=some o)->iN s0.heap h':=λ{h h'} o1 o2 b o e=>o2 b o (λz=>by rw[bd7.mp z,fI]at e;cases e) (o1 b o e)
 have put2:∀{h:Heap}{f:Obj->Obj},iN s0.heap h->iN s0.heap (h.update S f):=λ{h f} o1 b o e=>(Heap.get?_update_other _ _ (λz:S=b=>by rw[<- z,fS]at e;cases e)).trans (o1 b o e)
 have last:∀(h:Heap) (k c:Nat),iN s0.heap h->St 2 h->h.get? S=some { cls:=.type "list",dict:=none,data:=.seq #[if lt=true then b else a,if lt=true then b else a] c,slots:=#[] }->codeAny (model prog w) A (.builtin "min.loop" ⟨[.ref I,.none,.ref S],[]⟩) R (j8 s0 h k):=λh k c old st hS=>by
  refine codeAny_builtin PySem.F.entry_min_loop ?_;rw[Around.under_plainId bm4];refine bd2 (bl0 hS rfl ?_);refine bd2 (wpAny_tryCatch (W.done _ _ _ st λh2 k2 o2=>?_));exact bd2 (wpAny_updateSeq (o2 S _ nS hS) rfl (bd2 (wpAny_letGo (bd6 (fin _ k2 (put2 (put old o2)))))))
 have fr:∀{h:Heap}{f:Obj->Obj}{j:Nat},St j h->St j (h.update S f):=λ{h f j} st=>W.frame _ _ _ st λb hb o e=>(Heap.get?_update_other _ _ (λz:S=b=>sf (by rw[z];exact hb))).trans e
 refine codeAny_builtin PySem.F.entry_min_loop ?_;rw[Around.under_plainId bm4];refine bd2 (bl0 hS rfl ?_);refine bd2 (wpAny_tryCatch (W.item 0 _ _ _ (by decide) st λv h2 k2 hv st2 o2=>?_));obtain rfl:=p0 v hv;have hS2:=o2 S _ nS hS;refine bd2 (bd6 ?_);refine bd2 (m:=updateSeq _ (λ_=>#[v,v])) (wpAny_updateSeq hS2 rfl ?_);rw[nm];refine bd6 ⟨plainId_quiet bm4 _,codeAny_builtin PySem.F.entry_min_loop ?_⟩;rw[Around.under_plainId bm4];have hS3:(h2.update S (Obj.mapSeq λ_=>#[v,v])).get? S=some (Obj.mapSeq (λ_=>#[v,v]) { cls:=.type "list",dict:=none,data:=.seq #[] c,slots:=#[] }):=Heap.get?_update_self _ hS2 rfl;refine bd2 (bl0 hS3 rfl ?_);refine bd2 (wpAny_tryCatch (W.item 1 _ _ _ (by decide) (fr st2) λu h4 k4 hu st4 o4=>?_));obtain rfl:=p1 u hu;have hS4:=o4 S _ nS hS3;have old4:=put (put2 (f:=Obj.mapSeq λ_=>#[v,v]) (put old o2)) o4;refine bd2 (bd6 ?_);refine bd2 (m:=tryCatch (holding [u,u] (richCompare .Lt u v >>= _)) _) (wpAny_tryCatch (bq8 (bd2 (ask h4 k4 _ _ old4 ?_))));refine bd2 (bq8 (bn5 (bd2 (wpAny_letGo (bd6 ?_)))));cases lt with
 |false=>
  simp only[bg3,bl9];refine bd2 (wpAny_letGo ?_);rw[nm];exact bd6 ⟨plainId_quiet bm4 _,last h4 k4 _ old4 st4 hS4⟩
 |true=>
  simp only[if_true];refine bd2 (wpAny_updateSeq hS4 rfl (bd2 (wpAny_letGo ?_)));rw[nm];exact bd6 ⟨plainId_quiet bm4 _,last _ k4 _ (put2 old4) (fr st4) (Heap.get?_update_self _ hS4 rfl)⟩
theorem aK9 {Q E:ax->ay->Prop}(hh:A.in1.handled=none)(ask:∀(h:Heap) (k:Nat) (Q E:ax->ay->Prop),iN s0.heap h->Q (.bool lt) (j8 s0 h k)->wpAny (model prog w) A.in1 (richCompare .Lt b a) Q E (j8 s0 h k))(fin:∀h k,iN s0.heap h->Q (if lt=true then b else a) (j8 s0 h k)):wpAny (model prog w) A (call (.builtin "min") [a,b]) Q E s0:=by
 have nm:(toString "min"++toString ".loop":String)="min.loop":=by decide
 refine call_function_tree PySem.F.kind_min PySem.F.plain_min PySem.F.entry_min (PySem.F.args_min2 _ _) ?_;refine bd2 (wpAny_of_eq (show Builtin.Builtins.bindParams "min" ["key","default"] 0 ⟨[],[]⟩=pure [none,none] from rfl) ?_);show wpAny _ A.in1 (newTuple [a,b] >>= _) _ _ _;refine bd2 (bk1 ?_);have hT:(s0.heap.push { cls:=.type "tuple",data:=.seq #[a,b] }).IsTuple s0.heap.objs.size #[a,b]:=⟨_,bf1 _ rfl,rfl,0,rfl⟩;have z1:(s0.heap.push { cls:=.type "tuple",data:=.seq #[a,b] }).objs.size=s0.heap.objs.size+1:=bl4 ..;refine bd2 (bn2 hT ?_);refine bd2 (bk1 ?_);rw[nm];have z2:((s0.heap.push { cls:=.type "tuple",data:=.seq #[a,b] }).push { cls:=.type "tuple_iterator",data:=.fields #[.ref s0.heap.objs.size,.int 0 0] }).objs.size=s0.heap.objs.size+2:=by rw[bl4,z1]
 have ne:s0.heap.objs.size≠(s0.heap.push { cls:=.type "tuple",data:=.seq #[a,b] }).objs.size:=by omega
 refine bd6 ⟨plainId_quiet bm4 _,aK8 (lt:=lt) (Walks.tuple (A:=A.in1) hh _ s0.heap.objs.size ne #[a,b]) (λv hv=>?_) (λv hv=>?_) (λz=>?_) (λz=>?_) (Q6 (bh2 (Nat.le_succ _) (Nat.le_of_eq z1.symm))) (Q6 (bh2 (bm3 _ 2) (Nat.le_of_eq z2.symm))) ask fin (λb o e=>bd3 _ (bd3 _ (bd3 _ e)))
  ⟨⟨_,bd3 _ (bf1 _ rfl),rfl,rfl⟩,(hT.push _).push _⟩ (bf1 _ rfl)⟩
 ·exact (bf6 (show some a=some v from hv)).symm
 ·exact (bf6 (show some b=some v from hv)).symm
 ·have z:=z2.symm.trans (z.trans z1)
  omega
 ·rcases bd8.mp z with z|z
  ·have z:=z2.symm.trans (z.trans z1)
   omega
  ·have z:=z2.symm.trans (bd7.mp z)
   omega
end
end L2
namespace Core
open PySem L2 PP
structure Bx where
 t:Int
 l:Int
 b:Int
 r:Int
deriving DecidableEq
noncomputable def Bx.k (x:Bx):ag:=[x.t,x.l,x.b,x.r]
noncomputable def okX (x:Bx):Prop:=x.t<=x.b/\x.l<=x.r
noncomputable def R7 (x:Bx)(p:Int×Int):Prop:=x.t<=p.1/\p.1<=x.b/\x.l<=p.2/\p.2<=x.r
noncomputable def R8 (x a:Int×Int):Prop:=(a.1=x.1/\(a.2=x.2-1∨a.2=x.2+1))∨(a.2=x.2/\(a.1=x.1-1∨a.1=x.1+1))
noncomputable def Clo (B:Bx)(U:Int×Int->Prop):Prop:=∀x a b,R7 B x->R8 x a->R8 x b->a≠b->U a->U b->U x
section
variable {B:Bx}{U:Int×Int→Prop}
variable {t l b r:Int}
section
variable (cl:Clo B U){p1 p2:Int}(u:U (p1, p2))(ip:R7 B (p1, p2))
include cl u ip
end
end
section
variable {ls:aa}{n:Nat}{U:ag}{v:Int}
noncomputable def mu (ls:aa)(U:ag):Int:=((ls.filter (inL U)).length:Int)-(U.length:Int)+((aI2 ls U).length:Int)
end
noncomputable abbrev Wys:=List (Int×ag)
noncomputable abbrev Prs:=List (Int×Option Int)
noncomputable def dS (p:Int×Option Int):PV:=.tup [.int p.1,P5 p.2]
noncomputable abbrev Bks:=List (Int×ag)
end Core
namespace L2
open PySem PySem.Spec PyProof.Rows
section
variable {X:Cx}{ai:List (az×Obj)}{σ:St}{H H':Hp}{s:ay}{a:az}
theorem aA.frozeL {o:Obj}{us:List V}(I:aA X ai σ H s)(h:H a=some (.lst us))(e:s.heap.get? a=some o):aA X ai σ (upd H a (.frz o (.lst us))) s:=by
 have own:∀{c:az}{y:az},H c=some (.own y)->c≠a:=λ{c y} q z=>by rw[z,h]at q;cases q
 have tp:∀{c:az}{xs:List V},H c=some (.tup xs)->c≠a:=λ{c xs} q z=>by rw[z,h]at q;cases q
 refine I.reH (a:=a) (λb n=>aJ n) ⟨_,h⟩ (λxs q=>by rw[h]at q;cases q) (λo' v q=>by have:=I.base.frzs a o' v q;rw[h]at this;cases this) (λps q=>by rw[h]at q;cases q) λb v q=>?_
 by_cases hb:b=a
 ·subst hb
  rw[bH]at q;cases q
  exact⟨e,(I.hok b _ h).stay (λ_ _ _ q=>q) (λc q=>by rw[aJ (own q)];exact q) λc xs q=>by rw[aJ (tp q)];exact q⟩
 ·rw[aJ hb]at q
  exact (I.hok b v q).stay (λ_ _ _ q=>q) (λc q=>by rw[aJ (own q)];exact q) λc xs q=>by rw[aJ (tp q)];exact q
noncomputable def R9 (t:TE):TE:=λσ H Q=>t σ H λv H1=>∃a us,v = .ref a/\H1 a=some (.lst us)/\∀o,Q v (upd H1 a (.frz o (.lst us)))
theorem aL0 {e:Expr}{t:TE}(h:PE X e t):PE X e (R9 t):=by
 intro ai s σ H Q I hq;refine aO (h ai s σ H _ I hq) λv s1 h1=>?_
 obtain⟨x,H1,I1,r1,a,us,ex,ea,q⟩:=h1
 obtain⟨_,_,_,_,ho⟩:=(show bL X.prog X.w H1 s1.heap a (.lst us) from I1.hok a _ ea)
 exact⟨x,_,I1.frozeL ea ho,r1,q _⟩
end
end L2
namespace PP
open PySem L2
section
variable {X:Cx}{e:Expr}{te:aF}{σ:St}{H:Hp}{Q':VK}
noncomputable def nB (te:aF):aF:=λρ Q=>te ρ λx g=>∃xs,x = .lst xs/\g = .fr/\flats xs=true/\Q (.fL xs) .fr
theorem aL1 (h:LE X (nB te) σ H Q'):R9 (LE X te) σ H Q':=by
 obtain⟨W,ρ,Q,px,q,k⟩:=h
 refine⟨W,ρ,_,px,q,?_⟩;rintro v H1 x g s r ⟨xs,rfl,rfl,f,q⟩;cases r with
 |@lst a us _ m e r=>
  refine⟨a,us,rfl,e,λo=>k _ _ _ .fr (λb u hb=>?_) (.fL bH ((r.flat (M':=λ_=>False) f).keep (.upd e rfl λb z=>z.elim))) q⟩;have nb:b≠a:=λz=>by have m:H a=none:=m;rw[z,m]at hb;cases hb
  rw[aJ nb];exact s b u hb
theorem oZ (h:QE X e te):QE X e (nB te):=bV (aL0 h) λ_ _ _=>aL1
end
mutual
noncomputable def pl:PV->Bool
 |.tup xs=>pls xs
 |.non=>true
 |.bl _=>true
 |.int _=>true
 |.str _=>true
 |_=>false
noncomputable def pls:List PV->Bool
 |[]=>true
 |x::r=>pl x&&pls r
end
mutual
theorem aG.pl {K:ad}{M M':az->Prop}{H H':Hp}(k:∀a us,H a=some (.tup us)->H' a=some (.tup us)){v:V}{x:PV}(f:pl x=true)(r:aG K M H v x):aG K M' H' v x:=by
 cases r with
 |non=>exact .non
 |bl b=>exact .bl b
 |int i=>exact .int i
 |str x=>exact .str x
 |tup h r=>exact .tup (k _ _ h) (Reps.pl k (by unfold PP.pl at f;exact f) r)
 |lst m h r=>unfold PP.pl at f;cases f
 |dK m h e r=>unfold PP.pl at f;cases f
 |dT m h e r=>unfold PP.pl at f;cases f
 |scr h=>unfold PP.pl at f;cases f
 |kt h r=>unfold PP.pl at f;cases f
 |exc h e c=>unfold PP.pl at f;cases f
 |fK h e r=>unfold PP.pl at f;cases f
 |fT h e r=>unfold PP.pl at f;cases f
 |fL h r=>unfold PP.pl at f;cases f
 |fn h=>unfold PP.pl at f;cases f
 |ob=>unfold PP.pl at f;cases f
 |lm h=>unfold PP.pl at f;cases f
 |dA m h e r=>unfold PP.pl at f;cases f
 |dB m h e r=>unfold PP.pl at f;cases f
 |fA h e r=>unfold PP.pl at f;cases f
theorem Reps.pl {K:ad}{M M':az->Prop}{H H':Hp}(k:∀a us,H a=some (.tup us)->H' a=some (.tup us)){vs:List V}{xs:List PV}(f:pls xs=true)(r:Reps K M H vs xs):Reps K M' H' vs xs:=by
 cases r with
 |nil=>exact .nil
 |cons r t=>
  unfold PP.pls at f;rw[bg6]at f;exact .cons (aG.pl k f.1 r) (Reps.pl k f.2 t)
end
noncomputable def eJ (H:Hp):Hp:=λb=>match H b with
 |some (.frz o (.lst _))=>some (.ext λh=>h.get? b=some o)
 |x=>x
theorem w5 {H:Hp}{b:az}{o:Obj}{us:List V}(e:H b=some (.frz o (.lst us))):eJ H b=some (.ext λh=>h.get? b=some o):=by unfold eJ;rw[e]
theorem jD {H:Hp}{b:az}{x:Option HO}(e:H b=x)(n:∀o us,x≠some (.frz o (.lst us))):eJ H b=x:=by
 unfold eJ;rw[e];cases x with
 |none=>rfl
 |some y=>
  cases y with
  |frz o u=>
   cases u with
   |lst us=>exact absurd rfl (n o us)
   |_=>rfl
  |_=>rfl
theorem aL2 {H:Hp}{b:az}{o:Obj}{us:List V}:eJ H b≠some (.frz o (.lst us)):=by
 unfold eJ;split
 ·exact λz=>by cases z
 ·rename_i x h;exact λz=>h _ _ z
theorem S0 (H:Hp)(b:az):(∃o us,H b=some (.frz o (.lst us)))∨eJ H b=H b:=by
 by_cases h:∃o us,H b=some (.frz o (.lst us))
 ·exact .inl h
 ·exact .inr (jD rfl λo us e=>h ⟨o,us,e⟩)
theorem aL3 {P:ba}{w:bf}{H:Hp}{h:Heap}(k:bS P w H h):bS P w (eJ H) h:=by
 intro b o e;rcases S0 H b with⟨ob,us,eb⟩|eb
 ·rw[w5 eb]at e
  cases e
  obtain⟨g,_⟩:=k b _ eb
  exact⟨g,⟨_,g⟩,λh1 h2 φ kk=>kk _ φ⟩
 ·rw[eb]at e
  exact (k b o e).stay (λ_ _ _ q=>q) (λc q=>jD q λ_ _ z=>by cases z) (λc xs q=>jD q λ_ _ z=>by cases z) (λc r q=>jD q λ_ _ z=>by cases z)
structure jW (K:ad)(mg:Str->Option ax)(x:Str):Prop where
 ex:∃f,mg x=some (.ref f)/\PySem.W.nsIn K mainGlobals x=some (some (.ref f))
section
variable {X:Cx}{σ:L2.St}{H:Hp}{tr:bX}{Q':VK}{e:Expr}{es:List Expr}{pos p2 cp np:Pos}
theorem S2 {x:Str}(fv:jW X.K X.mg x)(hg:Gl X x:=by rfl)(hd:(x==("__debug__":Str))=false:=by decide):QE X (.Name x pos) (qC (.fn x)):=by
 obtain⟨f,m,n⟩:=fv.ex
 exact bV (t:=tC (.ref f)) (λai s σ H Q I h=>lU I hg m ⟨.ref f,H,I,rfl,h⟩ hd) λ_ _ _=>oK λ_=>.fn n
end
noncomputable abbrev jE (k:List (Int×Bool)):PV:=.tup (k.map λq=>.tup [.int q.1,.bl q.2])
noncomputable def p5 (k:Int)(y:PV):Prop:=y = .int k∨∃b:Bool,y = .bl b/\k=if b then 1 else 0
theorem sC {K:ad}{M:az->Prop}{H:Hp}{v:V}{k:List (Int×Bool)}(r:aG K M H v (jE k)):∃b,v = .ref b/\eY H k b:=by
 generalize e:jE k=x at r;cases r with
 |tup h r=>
  cases e;refine⟨_,rfl,_,h,?_⟩;clear h
  rename_i us
  induction k generalizing us with
  |nil=>cases r;exact .nil
  |cons p k ih=>
   rw[bf0]at r;cases r with
   |cons r1 t=>
    refine .cons ?_ (ih t);generalize e:PV.tup [PV.int p.1,PV.bl p.2]=z at r1;cases r1 with
    |tup h r2=>
     cases e;cases r2 with
     |cons q1 t1=>
      cases t1 with
      |cons q2 t2=>
       cases t2;cases q1;cases q2
       exact⟨_,rfl,h⟩
    |_=>cases e
 |_=>cases e
theorem p5.rep {K:ad}{M:az->Prop}{H:Hp}{v:V}{y:PV}{k:Int}(n:p5 k y)(r:aG K M H v y):kO k v:=by
 rcases n with rfl|⟨b,rfl,rfl⟩
 ·cases r;exact .inl rfl
 ·cases r;exact .inr ⟨b,rfl,rfl⟩
noncomputable def aL4:PV->PV
 |.fA ps=>.dA ps
 |x=>x
noncomputable def jF (x y:PV)(o:Option PV):Prop:=(∃ps k,aL4 x = .dA ps/\y=jE k/\o=d6 ps k)∨∃ps k,x = .dB ps/\p5 k y/\o=d6 ps k
theorem w6 {K:ad}{M M2:az->Prop}{H:Hp}{v w:V}{x y:PV}{o:Option PV}(h:jF x y o)(rx:aG K M H v x)(ry:aG K M2 H w y):∃a o',v = .ref a/\jP H a w o'/\(o=none->o'=none)/\∀z,o=some z->∃u,o'=some u/\aG K M H u z:=by
 rcases h with⟨ps,k,ex,rfl,rfl⟩|⟨ps,k,rfl,n,rfl⟩
 ·obtain⟨b,rfl,hb⟩:=sC ry
  cases rx with
  |dA m h e r=>cases ex;exact⟨_,_,rfl,.inl ⟨_,k,b,.inl h,rfl,hb,rfl⟩,(kZ k e r).1,(kZ k e r).2⟩
  |fA h e r=>cases ex;exact⟨_,_,rfl,.inl ⟨_,k,b,.inr ⟨_,h⟩,rfl,hb,rfl⟩,(kZ k e r).1,(kZ k e r).2⟩
  |_=>cases ex
 ·cases rx with
  |dB m h e r=>exact⟨_,_,rfl,.inr ⟨_,k,.inl h,n.rep ry,rfl⟩,(kZ k e r).1,(kZ k e r).2⟩
section
variable {X:Cx}{σ:L2.St}{H:Hp}{D:dX}{tk td te tv:aF}{Q':VK}
noncomputable def nC (neg:Bool)(tk td:aF):aF:=λρ Q=>tk ρ λy _=>td ρ λx _=>∃o,jF x y o/\Q (.bl (if neg=true then !o.isSome else o.isSome)) .fr
theorem aL5 (h:LE X (nC false tk td) σ H Q'):G6 (LE X tk) (LE X td) σ H Q':=by
 obtain⟨W,ρ,Q,px,q,k⟩:=h
 refine⟨W,ρ,_,px,q,λw H1 y g s r q=>⟨W,ρ,_,px.mono s,q,?_⟩⟩;rintro v H2 x g' s2 r2 ⟨o,ak,q⟩
 obtain⟨a,o',rfl,dg,h1,h2⟩:=w6 ak r2 (r.same s2 λ_ z=>z)
 refine⟨a,o',rfl,dg,?_⟩;rw[L1 h1 h2];exact k _ _ _ .fr (s.trans s2) (.bl _) q
theorem aL6 (h:LE X (nC true tk td) σ H Q'):G7 (LE X tk) (LE X td) σ H Q':=by
 obtain⟨W,ρ,Q,px,q,k⟩:=h
 refine⟨W,ρ,_,px,q,λw H1 y g s r q=>⟨W,ρ,_,px.mono s,q,?_⟩⟩;rintro v H2 x g' s2 r2 ⟨o,ak,q⟩
 obtain⟨a,o',rfl,dg,h1,h2⟩:=w6 ak r2 (r.same s2 λ_ z=>z)
 refine⟨a,o',rfl,dg,?_⟩;rw[L1 h1 h2];exact k _ _ _ .fr (s.trans s2) (.bl _) q
noncomputable def iD (td tk:aF):aF:=λρ Q=>td ρ λx g=>tk ρ λy _=>∃z,jF x y (some z)/\Q z g
theorem aL7 (h:LE X (iD td tk) σ H Q'):G5 (LE X td) (LE X tk) σ H Q':=by
 obtain⟨W,ρ,Q,px,q,k⟩:=h
 refine⟨W,ρ,_,px,q,λv H1 x g s r q=>⟨W,ρ,_,px.mono s,q,?_⟩⟩;rintro w H2 y g' s2 r2 ⟨z,ak,q⟩
 obtain⟨a,o',rfl,dg,h1,h2⟩:=w6 ak (r.same s2 λ_ z=>z) r2
 obtain⟨u,rfl,ru⟩:=h2 z rfl
 exact⟨a,u,rfl,dg,k _ _ _ g (s.trans s2) ru q⟩
noncomputable def w9 (i:Nat)(tk te:aF):aY:=λD ρ=>te ρ λz g=>∃ps,ρ[i]? = some (some (.own (.dA ps)))/\tk ρ λy _=>∃k,y=jE k/\Nw g z/\ps.length<16000000/\D.nx (ρ.set i (some (.own (.dA (fJ ps k z)))))
theorem aL8 {i:Nat}(h:LS X (w9 i tk te) D σ H):mD (d5 i) (LE X tk) (LE X te) D σ H:=by
 obtain⟨W,ρ,D',px,q,k⟩:=h
 refine⟨W,ρ,_,px,q,?_⟩;rintro w H1 z g s rz ⟨ps,hi,q⟩
 obtain⟨v,ev,a,rfl,wa,kvs,ea,e1,r⟩:=(px.mono s).sl i _ hi
 refine⟨_,ev,W,ρ,_,px.mono s,q,?_⟩;rintro kv H2 y g' s2 ry ⟨kk,rfl,nw,hl,q⟩
 obtain⟨b,rfl,hb⟩:=sC ry
 have ea2:=s2 _ _ ea;refine⟨a,_,rfl,.inl ⟨_,kk,b,ea2,rfl,hb,kN (by rw[mL e1];omega),rfl⟩,?_⟩
 obtain⟨h1,h2⟩:=uU kk ((Nw.rep px nw rz).same s2 λ_ z=>z) e1 (r.same s2 λ_ z=>z)
 exact k.nx W σ _ _ ((Ev.same (s.trans s2)).trans (Ev.upd wa)) ((px.mono (s.trans s2)).updOwn hi ev wa rfl (y:=.dA (fJ ps kk z)) ⟨_,bH,h1,h2.keep (.upd ea2 rfl λb m=>⟨jQ wa m,m⟩)⟩) q
theorem aL9 (h:LE X (qC (.dA [])) σ H Q'):G8 σ H Q':=by
 obtain⟨W,ρ,Q,px,q,k⟩:=h
 exact λp hp=>k _ _ _ .fr (bZ hp _) (.dA hp bH rfl .nil) q
theorem aM0 (h:LE X (qC (.dB [])) σ H Q'):G9 σ H Q':=by
 obtain⟨W,ρ,Q,px,q,k⟩:=h
 exact λp hp=>k _ _ _ .fr (bZ hp _) (.dB hp bH rfl .nil) q
noncomputable def wA (tk tv:aF):aF:=λρ Q=>tk ρ λy _=>tv ρ λz _=>flat z=true/\∃k,y=jE k/\Q (.dA [(k,z)]) .fr
theorem aM1 (h:LE X (wA tk tv) σ H Q'):J0 (LE X tk) (LE X tv) σ H Q':=by
 obtain⟨W,ρ,Q,px,q,k⟩:=h
 intro p hp;have s0:aH H (upd H p (.dA [])):=bZ hp _;refine⟨W,ρ,_,px.mono s0,q,λw H1 y g s r q=>⟨W,ρ,_,(px.mono s0).mono s,q,?_⟩⟩;rintro v H2 z g' s2 rz ⟨fl,kk,rfl,q2⟩;have ep:H2 p=some (.dA []):=s2 _ _ (s _ _ bH)
 obtain⟨b,rfl,nb⟩:=sC r
 have nb2:eY H2 kk b:=nb.keeps λc xs e=>s2 _ _ e
 refine⟨ep,b,kk,rfl,nb2,?_⟩;have tot:aH H (upd H2 p (.dA [(kk,v)])):=λc o e=>by
  rw[aJ (λz=>by rw[z,hp]at e;cases e)];exact s2 _ _ (s _ _ (s0 _ _ e))
 refine k _ _ _ .fr tot (.dA (ps:=[(kk,z)]) hp bH rfl (.cons ?_ .nil)) q2;exact (rz.flat (M':=λ_=>False) fl).keep (.upd ep rfl λ_ z=>z.elim)
end
section
variable {X:Cx}{a b e ke:Expr}{pos:Pos}{ta tb te tk tv:aF}
theorem dU (hu:X.A.units+16<cLine)(ha:QE X a ta)(hb:QE X b tb)(hs:u8 b:=by exact λ_ _=>rfl):QE X (.Subscript a b pos) (iD ta tb):=bV (av5 hu ha hb hs) λ_ _ _=>aL7
theorem nD (hu:X.A.units+16<cLine)(hk:QE X a tk)(hd:QE X b te)(hm:behindInMarks .In b=false:=by rfl):QT X (.Compare a [.In] [b] pos) (bN (nC false tk te)):=mQ (yY (av6 hu hk hd) hm) λ_ _ _ h=>aL5 (qX h)
theorem aM2 (hu:X.A.units+16<cLine)(hk:QE X a tk)(hd:QE X b te)(hm:behindInMarks .NotIn b=false:=by rfl):QT X (.Compare a [.NotIn] [b] pos) (bN (nC true tk te)):=mQ (yY (av7 hu hk hd) hm) λ_ _ _ h=>aL6 (qX h)
theorem sD:QE X (.Dict [] [] pos) (qC (.dA [])):=bV av9 λ_ _ _=>aL9
theorem wB:QE X (.Dict [] [] pos) (qC (.dB [])):=bV aw0 λ_ _ _=>aM0
theorem wC (hu:X.A.units+16<cLine)(hk:QE X ke tk)(hv:QE X e tv):QE X (.Dict [some ke] [e] pos) (wA tk tv):=bV (aw1 hu hk hv) λ_ _ _=>aM1
theorem aM3 {i:Nat}{x:Str}{xpos tpos:Pos}(hu:X.A.units+16<cLine)(hk:QE X a tk)(he:QE X e te)(hN:X.N[i]? = some x:=by rfl)(hv:dY X.env.scope x:=by first|exact Or.inl rfl|exact Or.inr (Or.inl rfl)|exact Or.inr (Or.inr rfl))(hd:(x==("__debug__":Str))=false:=by decide)(hcd:(x==("__classdict__":Str))=false:=by decide)(hs:swapsWith e (some (.Subscript (.Name x xpos) a tpos)) pos.line X.env=pure false:=by rfl):QS X (.Assign [.Subscript (.Name x xpos) a tpos] e pos) (w9 i tk te):=eD (gD hu (iI hN hv hd hcd) hk he hs) λ_ _ _=>aL8
end
end PP
namespace L2
open PySem PySem.Spec PyProof.Rows
section
variable {X:Cx}{CX:dO}{k:Nat}{sp:Sp}{E:XK}{x:Str}{p pos:Pos}{e:Expr}{es:List Expr}{t:TA}{i:Nat}
theorem gT.fnAt {P:ba}{w:bf}{H:Hp}{h:Heap}{f:az}{l:bA}(q:gT H f l)(ok:bS P w H h):PySem.W.FnAt f h:=by
 obtain⟨pm,ctv,c,ho,_⟩:=q.at ok
 exact⟨_,_,_,_,ho⟩
noncomputable def aM4 (i:Nat)(G:bA->Sp->Prop)(E:XK)(t:TA):TE:=λσ H Q=>∃f l sp,σ[i]? = some (some (.ref f))/\gT H f l/\G l sp/\t σ H λvs H1=>gT H1 f l/\sp vs H1 Q E
theorem aM5 {G:bA->Sp->Prop}(F:∀l sp,G l sp->qR X.prog X.w X.K X.mg X.base CX k l sp)(hr:bG k X.A)(hN:X.N[i]? = some x)(hv:dY X.env.scope x)(hx:iV CX X E)(ha:PA X (e::es) t)(hdb:(x==("__debug__":Str))=false:=by decide)(hcd:(x==("__classdict__":Str))=false:=by decide)(he:starEach (e::es) X.env=(false,eval e X.env)::starEach es X.env:=by rfl)(hpl:(backTo pos (starEach es X.env)).any (·.1)=false:=by rfl) :
  PE X (.Call (.Name x p) (e::es) [] pos) (aM4 i G E t):=by
 intro ai s σ H Q I h
 obtain⟨f,l,sp,hσ,la,g,h⟩:=h
 refine bo3 (aO (iI (pos:=p) hN hv hdb hcd ai s σ H (λv H'=>v = .ref f/\H'=H) I ⟨_,hσ,rfl,rfl⟩) λu s0 h0=>?_)
 obtain⟨v,H',I0,r0,rfl,rfl⟩:=h0
 obtain rfl:u = .ref f:=r0;refine PySem.W.callWith_F (la.fnAt I0.hok) (aO (ha pos ai s0 σ H' _ I0 h) λus s1 ⟨vs,H1,I1,r,la1,q⟩=>⟨la1.fnAt I1.hok,?_⟩) he hpl;refine wpAny_call (codeAny_mono ((F l sp g).run X.A X.stack s1 H1 f us vs Q E hr I1.env0 la1 r q) λrs s' hq=>?_);cases rs with
 |error ev=>exact hx ai σ H1 s1 ev s' I1 hq
 |ok fl=>
  cases fl with
  |ret u=>exact I1.after hq
  |next=>exact False.elim hq
  |brk=>exact False.elim hq
  |cont=>exact False.elim hq
end
end L2
namespace PP
open PySem L2 PyProof.Rows PySem.Spec
section
variable {X:Cx}{σ:L2.St}{H:Hp}{tr:bX}{Q':VK}{e:Expr}{es:List Expr}{pos p2 np:Pos}{P0:az}{l:bA}
noncomputable def nE (l:bA):aF:=λ_ Q=>Q (.lm l) .fr
theorem aM6 (hT:∃t:Tok,X.H₀ P0=some (.tbl #[.str l.qual t]))(h:LE X (nE l) σ H Q'):G3 P0 l σ H Q':=by
 obtain⟨W,ρ,Q,px,q,k⟩:=h
 obtain⟨t,hT⟩:=hT
 exact⟨⟨t,px.same _ _ hT⟩,λf H' s hf la=>k (.ref f) H' (.lm l) .fr s (.lm la) q⟩
theorem sE {params:Arguments}{body:Expr}{scope:Scope}{c0:az}{clos:List (Str×az)}(hT:∃t:Tok,X.H₀ P0=some (.tbl #[.str l.qual t]))(hl:l=⟨X.env.qual++"<lambda>",params,body,scope,clos⟩)(hcode:X.env.code = .ref c0)(hK:PySem.W.codeHdIn X.K c0 P0=true)(B:gU X.base X.mg P0)(hgP:mainGlobals≠P0)(hdef:defaultsOf params X.env=([],[]):=by rfl)(hcl:closureFor scope X.env=pure clos:=by rfl):QE X (.Lambda params body scope pos) (nE l):=
 bV (au6 hl hcode hK B hgP hdef hcl) λ_ _ _=>aM6 hT
noncomputable def dW (P:ba)(w:bf)(K:ad)(mg:Str->Option ax)(base:Heap)(k:Nat)(l:bA)(p:b7):Prop:=qR P w K mg base cF k l (iZ K p)
noncomputable def sF (i:Nat)(tab:List (bA×b7))(t:bX):aF:=λρ Q=>∃g l p,ρ[i]? = some (some (.sh g (.lm l)))/\(l,p)∈tab/\aP p t ρ Q
theorem nF (i:Nat){k j:Nat}{x:Str}{tab:List (bA×b7)}(ds:∀z,z∈tab->dW X.prog X.w X.K X.mg X.base k z.1 z.2)(hr:bG j X.A)(ha:QA X (e::es) tr)(hkj:k<=j:=by decide)(hN:X.N[i]? = some x:=by rfl)(hv:dY X.env.scope x:=by first|exact Or.inl rfl|exact Or.inr (Or.inl rfl)|exact Or.inr (Or.inr rfl))(hdb:(x==("__debug__":Str))=false:=by decide)(hcd:(x==("__classdict__":Str))=false:=by decide)(he:starEach (e::es) X.env=(false,eval e X.env)::starEach es X.env:=by rfl)(hpl:(backTo pos (starEach es X.env)).any (·.1)=false:=by rfl):QE X (.Call (.Name x p2) (e::es) [] pos) (sF i tab tr):=by
 refine bV (aM5 (k:=k) (t:=LA X tr) (E:=E0) (CX:=cF) (G:=λl sp=>∃z,z∈tab/\z.1=l/\sp=iZ X.K z.2) (λl sp g=>?_) (hr.mono hkj) hN hv jO ha hdb hcd he hpl) λσ H Q' h=>?_
 ·obtain⟨z,hz,rfl,rfl⟩:=g
  exact ds z hz
 obtain⟨W,ρ,Q,px,⟨g,l,p,hi,hz,q⟩,k⟩:=h
 obtain⟨v,hv,r⟩:=px.sl i _ hi
 have r:aG X.K (Ms X.H₀ W g) H v (.lm l):=r;cases r with
 |lm la=>
  refine⟨_,l,_,hv,la,⟨_,hz,rfl,rfl⟩,W,ρ,_,px,q,λvs H1 xs s1 r1 q1=>⟨la.same s1,_,_,r1.any,q1,λv H' x s2 r2 q2=>k v H' x .fr (s1.trans s2) (r2.same (aH.refl _) λ_ z=>s1.free z) q2⟩⟩
theorem dW.of {P:ba}{w:bf}{K:ad}{mg:Str->Option ax}{base:Heap}{k:Nat}{l:bA}{N ps:List Str}{p:b7}(hc:l.clos = [])(S:FnScope N ps l.scope)(hb:∀(pm cv ctv:ax) (us:List ax),us.length=ps.length->bindArgs (oH l pm cv ctv) ⟨us,[]⟩=pure (ps.zip us))(len:∀xs Q,p xs Q->xs.length=ps.length)(body:∀(f:az) (cv:ax) (A:bc) (outer:List Env) (s:ay) (H:Hp) (E:XK),bG k (A.deeper (envOfC l.qual l.scope s.heap.objs.size f cv))->
   ∃t,QE (cK cF P w K mg base N l.qual l.scope f cv A outer s H E) l.body t/\∀xs Q,p xs Q->t (bF N xs) λx _=>flat x=true/\Q x):dW P w K mg base (k+1) l p:=by
 refine au7 hc S hb (λvs H Q E h=>?_) λA outer s H f cv vs Q E hr h=>?_
 ·obtain⟨xs,Qp,r,q,_⟩:=h
  rw[r.length];exact len xs Qp q
 ·obtain⟨xs,Qp,r,q,k⟩:=h
  obtain⟨t,ht,hq⟩:=body f cv A outer s H E hr
  exact⟨_,ht,λ_=>False,bF N xs,_,j4 r,hq xs Qp q,λv H' x g s rx ⟨fx,qx⟩=>k v H' x s (rx.flat fx) qx⟩
end
noncomputable def jn {κ:Type}[DecidableEq κ](J:PV->PV->PV)(ps:List (κ×PV))(k:κ)(z:PV):PV:=match d6 ps k with
 |none=>z
 |some w=>J w z
noncomputable def S3 (K:ad)(g:PV)(Ok:PV->Prop)(J:PV->PV->PV):Sp:=λvs H Q _=>∃d b y f ks kvs ps z,vs = [.ref d,.ref b,y,f]/\H d=some (.dA kvs)/\eY H ks b/\kvs.map (·.1)=ps.map (·.1)/\Reps K (λ_=>True) H (kvs.map (·.2)) (ps.map (·.2))/\
 (∀w,d6 ps ks=some w->Ok w)/\aG K (λ_=>True) H y z/\flat z=true/\Ok z/\aG K (λ_=>True) H f g/\ps.length<16000000/\∀H' v,aH H H'->aG K (λ_=>False) H' v (jn J ps ks z)->flat (jn J ps ks z)=true->Q .non (upd H' d (.dA (fB kvs ks v)))
noncomputable def S4 (K:ad)(g:PV)(Ok:PV->Prop)(J:PV->PV->PV):Sp:=λvs H Q _=>∃d x y f ks kvs ps z,vs = [.ref d,x,y,f]/\H d=some (.dB kvs)/\kO ks x/\kvs.map (·.1)=ps.map (·.1)/\Reps K (λ_=>True) H (kvs.map (·.2)) (ps.map (·.2))/\
 (∀w,d6 ps ks=some w->Ok w)/\aG K (λ_=>True) H y z/\flat z=true/\Ok z/\aG K (λ_=>True) H f g/\ps.length<16000000/\∀H' v,aH H H'->aG K (λ_=>False) H' v (jn J ps ks z)->flat (jn J ps ks z)=true->Q .non (upd H' d (.dB (fB kvs ks v)))
structure gZ (P:ba)(w:bf)(K:ad)(mg:Str->Option ax)(base:Heap)(k:Nat)(x:Str)(ps:List Str)(g:PV)(Ok:PV->Prop)(J:PV->PV->PV):Prop where
 ex:∃f fd,cX P w K mg base cF k f fd ps (S3 K g Ok J)/\fZ K fd ps []/\PySem.W.keepIn K (.ref f)=true/\mg x=some (.ref f)
structure h8 (P:ba)(w:bf)(K:ad)(mg:Str->Option ax)(base:Heap)(k:Nat)(x:Str)(ps:List Str)(g:PV)(Ok:PV->Prop)(J:PV->PV->PV):Prop where
 ex:∃f fd,cX P w K mg base cF k f fd ps (S4 K g Ok J)/\fZ K fd ps []/\PySem.W.keepIn K (.ref f)=true/\mg x=some (.ref f)
noncomputable def S5:cQ:=bN (nC false (aC 1) (aC 0))
theorem aM7 {k:Int}{x:V}{K:ad}{M:az->Prop}{H:Hp}(n:kO k x):∃y,p5 k y/\aG K M H x y:=by
 rcases n with rfl|⟨b,rfl,e⟩
 ·exact⟨.int k,.inl rfl,.int _⟩
 ·exact⟨.bl b,.inr ⟨b,rfl,e⟩,.bl _⟩
section
variable {P:ba}{w:bf}{K:ad}{mg:Str→Option ax}{base:Heap}{k:Nat}{x:Str}{p1 p2 p3 p4:Str}{st:Stmt}{f:az}{fd:FuncData}{g:PV}{Ok:PV→Prop}{J:PV→PV→PV}
theorem gZ.of (F:bM K x x st f fd)(m:mg x=some (.ref f))(S:FnScope [p1,p2,p3,p4] [p1,p2,p3,p4] (aI st))(hb:∀(kV doc pm:ax) (an:Option az) (cdv ct:ax) (us:List ax),us.length = [p1,p2,p3,p4].length->bindArgs (PySem.W.fnOf x x (bI st) (bD st) (aI st) .none kV doc pm an cdv ct) ⟨us,[]⟩=pure ([p1,p2,p3,p4].zip us))(body:∀(cdv:ax) (A:bc) (outer:List Env) (s:ay) (H:Hp) (E:XK),bG k (A.deeper (envOfC x (aI st) s.heap.objs.size f cdv))->
   ∃te:aF,dE (cK cF P w K mg base [p1,p2,p3,p4] x (aI st) f cdv A outer s H E).nox (bD st) (pZ (LT (cK cF P w K mg base [p1,p2,p3,p4] x (aI st) f cdv A outer s H E).nox S5)
    (mD (d5 0) (d5 1) (LE (cK cF P w K mg base [p1,p2,p3,p4] x (aI st) f cdv A outer s H E).nox te)) (mD (d5 0) (d5 1) (d5 2)))/\
    ∀d y w z,jF d y (some w)->Ok w->Ok z->te (bF [p1,p2,p3,p4] [d,y,z,g]) λv _=>v=J w z/\flat v=true):gZ P w K mg base (k+1) x [p1,p2,p3,p4] g Ok J:=by
 refine⟨f,fd,F.ok S (λvs H Q E h=>?_) (λcdv A outer s H vs Q E hr h=>?_),F.binds hb,F.kp,m⟩
 ·obtain⟨d,b,y,f',ks,kvs,ps,z,rfl,_⟩:=h
  rfl
 ·obtain⟨te,hbd,hte⟩:=body cdv A outer s H E hr
  refine⟨_,hbd,?_⟩
  obtain⟨d,b,y,f',ks,kvs,ps,z,rfl,ed,eb,e1,r,al,ry,fz,oz,rg,hl,q⟩:=h
  have px:=j4 (N:=[p1,p2,p3,p4]) (K:=K) (H:=H) (vs:=[.ref d,.ref b,y,f']) (xs:=[.dA ps,jE ks,z,g]) (.cons (.dA trivial ed e1 r) (.cons (R3 eb) (.cons ry (.cons rg .nil))));refine⟨_,_,λc=>c=(d6 ps ks).isSome,px,⟨_,rfl,_,rfl,d6 ps ks,.inl ⟨ps,ks,rfl,rfl,rfl⟩,_,rfl,rfl⟩,λc H1 s1 ec=>?_⟩;subst ec;cases ev:d6 ps ks with
  |none=>
   rw[if_neg (by simp)];have ej:jn J ps ks z=z:=by unfold jn;rw[ev]
   refine⟨y,rfl,.ref d,rfl,.ref b,rfl,d,_,rfl,.inl ⟨_,ks,b,s1 _ _ ed,rfl,eb.keeps λc xs e=>s1 _ _ e,kN (by rw[mL e1];omega),rfl⟩,q H1 y s1 ?_ ?_⟩
   ·rw[ej];exact (ry.flat fz).same s1 λ_ z=>z
   ·rw[ej];exact fz
  |some w=>
   rw[if_pos (by rfl)];have ej:jn J ps ks z=J w z:=by unfold jn;rw[ev]
   refine⟨_,_,_,px.mono s1,hte (.dA ps) (jE ks) w z (.inl ⟨ps,ks,rfl,rfl,ev.symm⟩) (al w ev) oz,λv H2 v2 g2 s2 rv hv=>?_⟩
   obtain⟨rfl,fv⟩:=hv
   have s12:=s1.trans s2;refine⟨.ref d,rfl,.ref b,rfl,d,_,rfl,.inl ⟨_,ks,b,s12 _ _ ed,rfl,eb.keeps λc xs e=>s12 _ _ e,kN (by rw[mL e1];omega),rfl⟩,q H2 v s12 ?_ ?_⟩
   ·rw[ej];exact rv.flat fv
   ·rw[ej];exact fv
theorem h8.of (F:bM K x x st f fd)(m:mg x=some (.ref f))(S:FnScope [p1,p2,p3,p4] [p1,p2,p3,p4] (aI st))(hb:∀(kV doc pm:ax) (an:Option az) (cdv ct:ax) (us:List ax),us.length = [p1,p2,p3,p4].length->bindArgs (PySem.W.fnOf x x (bI st) (bD st) (aI st) .none kV doc pm an cdv ct) ⟨us,[]⟩=pure ([p1,p2,p3,p4].zip us))(body:∀(cdv:ax) (A:bc) (outer:List Env) (s:ay) (H:Hp) (E:XK),bG k (A.deeper (envOfC x (aI st) s.heap.objs.size f cdv))->
   ∃te:aF,dE (cK cF P w K mg base [p1,p2,p3,p4] x (aI st) f cdv A outer s H E).nox (bD st) (pZ (LT (cK cF P w K mg base [p1,p2,p3,p4] x (aI st) f cdv A outer s H E).nox S5)
    (mD (d5 0) (d5 1) (LE (cK cF P w K mg base [p1,p2,p3,p4] x (aI st) f cdv A outer s H E).nox te)) (mD (d5 0) (d5 1) (d5 2)))/\
    ∀d y w z,jF d y (some w)->Ok w->Ok z->te (bF [p1,p2,p3,p4] [d,y,z,g]) λv _=>v=J w z/\flat v=true):h8 P w K mg base (k+1) x [p1,p2,p3,p4] g Ok J:=by
 refine⟨f,fd,F.ok S (λvs H Q E h=>?_) (λcdv A outer s H vs Q E hr h=>?_),F.binds hb,F.kp,m⟩
 ·obtain⟨d,b,y,f',ks,kvs,ps,z,rfl,_⟩:=h
  rfl
 ·obtain⟨te,hbd,hte⟩:=body cdv A outer s H E hr
  refine⟨_,hbd,?_⟩
  obtain⟨d,xv,y,f',ks,kvs,ps,z,rfl,ed,en,e1,r,al,ry,fz,oz,rg,hl,q⟩:=h
  obtain⟨xp,np,rx⟩:=aM7 (K:=K) (M:=λ_=>True) (H:=H) en
  have px:=j4 (N:=[p1,p2,p3,p4]) (K:=K) (H:=H) (vs:=[.ref d,xv,y,f']) (xs:=[.dB ps,xp,z,g]) (.cons (.dB trivial ed e1 r) (.cons rx (.cons ry (.cons rg .nil))));refine⟨_,_,λc=>c=(d6 ps ks).isSome,px,⟨_,rfl,_,rfl,d6 ps ks,.inr ⟨ps,ks,rfl,np,rfl⟩,_,rfl,rfl⟩,λc H1 s1 ec=>?_⟩;subst ec;cases ev:d6 ps ks with
  |none=>
   rw[if_neg (by simp)];have ej:jn J ps ks z=z:=by unfold jn;rw[ev]
   refine⟨y,rfl,.ref d,rfl,xv,rfl,d,_,rfl,.inr ⟨_,ks,s1 _ _ ed,en,kN (by rw[mL e1];omega),rfl⟩,q H1 y s1 ?_ ?_⟩
   ·rw[ej];exact (ry.flat fz).same s1 λ_ z=>z
   ·rw[ej];exact fz
  |some w=>
   rw[if_pos (by rfl)];have ej:jn J ps ks z=J w z:=by unfold jn;rw[ev]
   refine⟨_,_,_,px.mono s1,hte (.dB ps) xp w z (.inr ⟨ps,ks,rfl,np,ev.symm⟩) (al w ev) oz,λv H2 v2 g2 s2 rv hv=>?_⟩
   obtain⟨rfl,fv⟩:=hv
   have s12:=s1.trans s2;refine⟨.ref d,rfl,xv,rfl,d,_,rfl,.inr ⟨_,ks,s12 _ _ ed,en,kN (by rw[mL e1];omega),rfl⟩,q H2 v s12 ?_ ?_⟩
   ·rw[ej];exact rv.flat fv
   ·rw[ej];exact fv
end
section
variable {X:Cx}{σ:L2.St}{H:Hp}{D:dX}{t1 t2 t3:aF}{g:PV}{Ok:PV→Prop}{J:PV→PV→PV}
noncomputable def wD (i:Nat)(g:PV)(Ok:PV->Prop)(J:PV->PV->PV)(t1 t2 t3:aF):aY:=λD ρ=>∃ps,ρ[i]? = some (some (.own (.dA ps)))/\t1 ρ λy _=>t2 ρ λz _=>t3 ρ λf _=>∃k,y=jE k/\f=g/\flat z=true/\Ok z/\(∀w,d6 ps k=some w->Ok w)/\ps.length<16000000/\D.nx (ρ.set i (some (.own (.dA (fJ ps k (jn J ps k z))))))
noncomputable def wE (i:Nat)(g:PV)(Ok:PV->Prop)(J:PV->PV->PV)(t1 t2 t3:aF):aY:=λD ρ=>∃ps,ρ[i]? = some (some (.own (.dB ps)))/\t1 ρ λy _=>t2 ρ λz _=>t3 ρ λf _=>∃k,p5 k y/\f=g/\flat z=true/\Ok z/\(∀w,d6 ps k=some w->Ok w)/\ps.length<16000000/\D.nx (ρ.set i (some (.own (.dB (fJ ps k (jn J ps k z))))))
theorem aM8 {i:Nat}(h:LS X (wD i g Ok J t1 t2 t3) D σ H):o5 (kJ (S3 X.K g Ok J) [] E0 (eZ (d5 i) (eZ (LE X t1) (eZ (LE X t2) (eZ (LE X t3) iU))))) D σ H:=by
 obtain⟨W,ρ,D',px,⟨ps,hi,q⟩,k⟩:=h
 obtain⟨v,ev,a,rfl,wa,kvs,ea,e1,r⟩:=px.sl i _ hi
 refine⟨_,ev,W,ρ,_,px,q,?_⟩;intro v1 H1 y g1 s1 r1 q1;refine⟨W,ρ,_,px.mono s1,q1,?_⟩;intro v2 H2 z g2 s2 r2 q2;refine⟨W,ρ,_,px.mono (s1.trans s2),q2,?_⟩;rintro v3 H3 f g3 s3 r3 ⟨kk,rfl,rfl,fz,oz,al,hl,q3⟩
 obtain⟨b,rfl,hb⟩:=sC r1
 have s23:=s2.trans s3;have s13:=s1.trans s23;have ea3:=s13 _ _ ea;refine⟨a,b,v2,v3,kk,kvs,ps,z,rfl,ea3,hb.keeps λc xs e=>s23 _ _ e,e1,r.same s13 λ_ _=>trivial,al,((r2.flat (M':=λ_=>True) fz).same s3 λ_ z=>z),fz,oz,r3.same (aH.refl _) λ_ _=>trivial,hl,λH4 v s4 rv fv=>?_⟩;have s14:=s13.trans s4;have ea4:=s4 _ _ ea3
 obtain⟨h1,h2⟩:=uU kk (rv.flat (M':=Ms X.H₀ W true) fv) e1 (r.same s14 λ_ z=>z)
 exact k.nx W σ _ _ ((Ev.same s14).trans (Ev.upd wa)) ((px.mono s14).updOwn hi ev wa rfl (y:=.dA (fJ ps kk (jn J ps kk z))) ⟨_,bH,h1,h2.keep (.upd ea4 rfl λb m=>⟨jQ wa m,m⟩)⟩) q3
theorem aM9 {i:Nat}(h:LS X (wE i g Ok J t1 t2 t3) D σ H):o5 (kJ (S4 X.K g Ok J) [] E0 (eZ (d5 i) (eZ (LE X t1) (eZ (LE X t2) (eZ (LE X t3) iU))))) D σ H:=by
 obtain⟨W,ρ,D',px,⟨ps,hi,q⟩,k⟩:=h
 obtain⟨v,ev,a,rfl,wa,kvs,ea,e1,r⟩:=px.sl i _ hi
 refine⟨_,ev,W,ρ,_,px,q,?_⟩;intro v1 H1 y g1 s1 r1 q1;refine⟨W,ρ,_,px.mono s1,q1,?_⟩;intro v2 H2 z g2 s2 r2 q2;refine⟨W,ρ,_,px.mono (s1.trans s2),q2,?_⟩;rintro v3 H3 f g3 s3 r3 ⟨kk,n,rfl,fz,oz,al,hl,q3⟩;have s23:=s2.trans s3;have s13:=s1.trans s23;have ea3:=s13 _ _ ea;refine⟨a,v1,v2,v3,kk,kvs,ps,z,rfl,ea3,n.rep r1,e1,r.same s13 λ_ _=>trivial,al,((r2.flat (M':=λ_=>True) fz).same s3 λ_ z=>z),fz,oz,r3.same (aH.refl _) λ_ _=>trivial,hl,λH4 v s4 rv fv=>?_⟩;have s14:=s13.trans s4;have ea4:=s4 _ _ ea3
 obtain⟨h1,h2⟩:=uU kk (rv.flat (M':=Ms X.H₀ W true) fv) e1 (r.same s14 λ_ z=>z)
 exact k.nx W σ _ _ ((Ev.same s14).trans (Ev.upd wa)) ((px.mono s14).updOwn hi ev wa rfl (y:=.dB (fJ ps kk (jn J ps kk z))) ⟨_,bH,h1,h2.keep (.upd ea4 rfl λb m=>⟨jQ wa m,m⟩)⟩) q3
theorem wF {k j:Nat}{x y:Str}{ps:List Str}{a b c:Expr}{p2 p3 pos pos2:Pos}(d:gZ X.prog X.w X.K X.mg X.base k x ps g Ok J)(hr:bG j X.A)(i:Nat)(ha:QE X a t1)(hb:QE X b t2)(hc:QE X c t3)(hkj:k<=j:=by decide)(hN:X.N[i]? = some y:=by rfl)(hv:dY X.env.scope y:=by first|exact Or.inl rfl|exact Or.inr (Or.inl rfl)|exact Or.inr (Or.inr rfl))(hd:(y==("__debug__":Str))=false:=by decide)(hcd:(y==("__classdict__":Str))=false:=by decide)(hg:Gl X x:=by rfl)(hdb:(x==("__debug__":Str))=false:=by decide)(he:starEach [.Name y p3,a,b,c] X.env=(false,eval (.Name y p3) X.env)::starEach [a,b,c] X.env:=by rfl)(he2:starEach [a,b,c] X.env=(false,eval a X.env)::starEach [b,c] X.env:=by rfl)(he3:starEach [b,c] X.env=(false,eval b X.env)::starEach [c] X.env:=by rfl)(he4:starEach [c] X.env=(false,eval c X.env)::starEach [] X.env:=by rfl)(hpl:(backTo pos (starEach [a,b,c] X.env)).any (·.1)=false:=by rfl)(hs:swapsWith (.Call (.Name x p2) [.Name y p3,a,b,c] [] pos) none pos2.line X.env=pure false:=by rfl):QS X (.Expr (.Call (.Name x p2) [.Name y p3,a,b,c] [] pos) pos2) (wD i g Ok J t1 t2 t3):=by
 obtain⟨f,fd,F,b,kp,m⟩:=d.ex
 exact eD (pY (oC F (hr.mono hkj) hg m kp b .nil jO (eQ (iI hN hv hd hcd) (eQ ha (eQ hb (eQ hc jL he4) he3) he2) he) hdb he hpl) hs) λ_ _ _=>aM8
theorem wG {k j:Nat}{x y:Str}{ps:List Str}{a b c:Expr}{p2 p3 pos pos2:Pos}(d:h8 X.prog X.w X.K X.mg X.base k x ps g Ok J)(hr:bG j X.A)(i:Nat)(ha:QE X a t1)(hb:QE X b t2)(hc:QE X c t3)(hkj:k<=j:=by decide)(hN:X.N[i]? = some y:=by rfl)(hv:dY X.env.scope y:=by first|exact Or.inl rfl|exact Or.inr (Or.inl rfl)|exact Or.inr (Or.inr rfl))(hd:(y==("__debug__":Str))=false:=by decide)(hcd:(y==("__classdict__":Str))=false:=by decide)(hg:Gl X x:=by rfl)(hdb:(x==("__debug__":Str))=false:=by decide)(he:starEach [.Name y p3,a,b,c] X.env=(false,eval (.Name y p3) X.env)::starEach [a,b,c] X.env:=by rfl)(he2:starEach [a,b,c] X.env=(false,eval a X.env)::starEach [b,c] X.env:=by rfl)(he3:starEach [b,c] X.env=(false,eval b X.env)::starEach [c] X.env:=by rfl)(he4:starEach [c] X.env=(false,eval c X.env)::starEach [] X.env:=by rfl)(hpl:(backTo pos (starEach [a,b,c] X.env)).any (·.1)=false:=by rfl)(hs:swapsWith (.Call (.Name x p2) [.Name y p3,a,b,c] [] pos) none pos2.line X.env=pure false:=by rfl):QS X (.Expr (.Call (.Name x p2) [.Name y p3,a,b,c] [] pos) pos2) (wE i g Ok J t1 t2 t3):=by
 obtain⟨f,fd,F,b,kp,m⟩:=d.ex
 exact eD (pY (oC F (hr.mono hkj) hg m kp b .nil jO (eQ (iI hN hv hd hcd) (eQ ha (eQ hb (eQ hc jL he4) he3) he2) he) hdb he hpl) hs) λ_ _ _=>aM9
end
end PP
namespace L2
open PySem PySem.Spec PyProof.Rows
section
variable {X:Cx}{CX:dO}{k:Nat}{E:XK}{x:Str}{p pos:Pos}{e:Expr}{es:List Expr}{t:TA}{i:Nat}
noncomputable def aN0 (i:Nat)(G:az->Sp->Prop)(E:XK)(t:TA):TE:=λσ H Q=>∃f sp,σ[i]? = some (some (.ref f))/\G f sp/\t σ H λvs H1=>sp vs H1 Q E
theorem aN1 {G:az->Sp->Prop}(F:∀f sp,G f sp->∃fd ps,cX X.prog X.w X.K X.mg X.base CX k f fd ps sp/\PySem.W.keepIn X.K (.ref f)=true/\fZ X.K fd ps [])(hr:bG k X.A)(hN:X.N[i]? = some x)(hv:dY X.env.scope x)(hx:iV CX X E)(ha:PA X (e::es) t)(hdb:(x==("__debug__":Str))=false:=by decide)(hcd:(x==("__classdict__":Str))=false:=by decide)(he:starEach (e::es) X.env=(false,eval e X.env)::starEach es X.env:=by rfl)(hpl:(backTo pos (starEach es X.env)).any (·.1)=false:=by rfl) :
  PE X (.Call (.Name x p) (e::es) [] pos) (aN0 i G E t):=by
 intro ai s σ H Q I h
 obtain⟨f,sp,hσ,g,h⟩:=h
 obtain⟨fd,ps,F,hk,hb⟩:=F f sp g
 refine bo3 (aO (iI (pos:=p) hN hv hdb hcd ai s σ H (λv H'=>v = .ref f/\H'=H) I ⟨_,hσ,rfl,rfl⟩) λu s0 h0=>?_)
 obtain⟨v,H',I0,r0,rfl,rfl⟩:=h0
 obtain rfl:u = .ref f:=r0;refine PySem.W.callWith_K (h₀:=X.base) I0.ok.mod.kin hk (aO (ha pos ai s0 σ H' _ I0 h) λus s1 ⟨vs,H1,I1,r,q⟩=>⟨I1.kIn,?_⟩) he hpl;exact tU F hr hb .nil hx I1 r (by rw[bm1];exact q)
end
end L2
namespace PP
open PySem L2 PyProof.Rows PySem.Spec
section
variable {X:Cx}{σ:L2.St}{H:Hp}{tr:bX}{Q':VK}{e:Expr}{es:List Expr}{pos p2 np:Pos}
noncomputable def wH (i:Nat)(tab:List (Str×b7))(t:bX):aF:=λρ Q=>∃g x p,ρ[i]? = some (some (.sh g (.fn x)))/\(x,p)∈tab/\aP p t ρ Q
theorem wI (i:Nat){k j:Nat}{x:Str}{tab:List (Str×b7)}(ds:∀z,z∈tab->(∃f,X.mg z.1=some (.ref f)/\PySem.W.nsIn X.K mainGlobals z.1=some (some (.ref f)))/\∃ps,Df X.prog X.w X.K X.mg X.base k z.1 ps z.2)(hr:bG j X.A)(ha:QA X (e::es) tr)(hkj:k<=j:=by decide)(hN:X.N[i]? = some x:=by rfl)(hv:dY X.env.scope x:=by first|exact Or.inl rfl|exact Or.inr (Or.inl rfl)|exact Or.inr (Or.inr rfl))(hdb:(x==("__debug__":Str))=false:=by decide)(hcd:(x==("__classdict__":Str))=false:=by decide)(he:starEach (e::es) X.env=(false,eval e X.env)::starEach es X.env:=by rfl)(hpl:(backTo pos (starEach es X.env)).any (·.1)=false:=by rfl):QE X (.Call (.Name x p2) (e::es) [] pos) (wH i tab tr):=by
 refine bV (aN1 (k:=k) (t:=LA X tr) (E:=E0) (CX:=cF) (G:=λf sp=>∃z,z∈tab/\X.mg z.1=some (.ref f)/\sp=iZ X.K z.2) (λf sp g=>?_) (hr.mono hkj) hN hv jO ha hdb hcd he hpl) λσ H Q' h=>?_
 ·obtain⟨z,hz,m,rfl⟩:=g
  obtain⟨_,ps,d⟩:=ds z hz
  obtain⟨f',fd,F,b,kp,m'⟩:=d.ex
  rw[m]at m';cases m'
  exact⟨fd,ps,F,kp,b⟩
 obtain⟨W,ρ,Q,px,⟨g,y,p,hi,hz,q⟩,k⟩:=h
 obtain⟨v,hv,r⟩:=px.sl i _ hi
 have r:aG X.K (Ms X.H₀ W g) H v (.fn y):=r;cases r with
 |fn n=>
  obtain⟨f,m,n'⟩:=(ds _ hz).1
  rw[n']at n;cases n
  exact⟨_,_,hv,⟨_,hz,m,rfl⟩,W,ρ,_,px,q,λvs H1 xs s1 r1 q1=>⟨_,_,r1.any,q1,λv H' x s2 r2 q2=>k v H' x .fr (s1.trans s2) (r2.same (aH.refl _) λ_ z=>s1.free z) q2⟩⟩
end
noncomputable def fN (T:List (az×Str))(H:Hp):Prop:=∀z∈T,∃t:Tok,H z.1=some (.tbl #[.str z.2 t])
theorem fN.same {T:List (az×Str)}{H H':Hp}(h:fN T H)(s:aH H H'):fN T H':=λz hz=>let ⟨t,e⟩:=h z hz;⟨t,s _ _ e⟩
noncomputable def jX (K:ad)(T:List (az×Str))(p:b7):Sp:=λvs H Q E=>fN T H/\iZ K p vs H Q E
structure cV (P:ba)(w:bf)(K:ad)(mg:Str->Option ax)(base:Heap)(T:List (az×Str))(k:Nat)(x:Str)(ps:List Str)(p:b7):Prop where
 ex:∃f fd,cX P w K mg base cF k f fd ps (jX K T p)/\fZ K fd ps []/\PySem.W.keepIn K (.ref f)=true/\mg x=some (.ref f)
section
variable {X:Cx}{σ:L2.St}{H:Hp}{tr:bX}{Q':VK}{e:Expr}{es:List Expr}{pos p2:Pos}{T:List (az×Str)}
theorem S6 {p:b7}{E:XK}(hT:fN T X.H₀)(h:LE X (aP p tr) σ H Q'):kJ (jX X.K T p) [] E (LA X tr) σ H Q':=by
 obtain⟨W,ρ,Q,px,q,k⟩:=h
 exact⟨W,ρ,_,px,q,λvs H1 xs s1 r1 q1=>⟨hT.same (px.same.trans s1),_,_,by rw[bm1];exact r1.any,q1,λv H' x s2 r2 q2=>k v H' x .fr (s1.trans s2) (r2.same (aH.refl _) λ_ z=>s1.free z) q2⟩⟩
theorem nG {k j:Nat}{x:Str}{ps:List Str}{p:b7}(hT:fN T X.H₀)(d:cV X.prog X.w X.K X.mg X.base T k x ps p)(hr:bG j X.A)(ha:QA X (e::es) tr)(hkj:k<=j:=by decide)(hg:Gl X x:=by rfl)(hdb:(x==("__debug__":Str))=false:=by decide)(he:starEach (e::es) X.env=(false,eval e X.env)::starEach es X.env:=by rfl)(hpl:(backTo pos (starEach es X.env)).any (·.1)=false:=by rfl):QE X (.Call (.Name x p2) (e::es) [] pos) (aP p tr):=by
 obtain⟨f,fd,F,b,kp,m⟩:=d.ex
 exact bV (oC F (hr.mono hkj) hg m kp b .nil jO ha hdb he hpl) λ_ _ _=>S6 hT
theorem cV.of {P:ba}{w:bf}{K:ad}{mg:Str->Option ax}{base:Heap}{k:Nat}{x:Str}{ps N:List Str}{p:b7}{st:Stmt}{f:az}{fd:FuncData}(F:bM K x x st f fd)(m:mg x=some (.ref f))(S:FnScope N ps (aI st))(hb:∀(kV doc pm:ax) (an:Option az) (cdv ct:ax) (us:List ax),us.length=ps.length->bindArgs (PySem.W.fnOf x x (bI st) (bD st) (aI st) .none kV doc pm an cdv ct) ⟨us,[]⟩=pure (ps.zip us))(len:∀xs Q,p xs Q->xs.length=ps.length)(body:∀(cdv:ax) (A:bc) (outer:List Env) (s:ay) (H:Hp) (E:XK),bG k (A.deeper (envOfC x (aI st) s.heap.objs.size f cdv))->fN T H->
   ∃t,fM (cK cF P w K mg base N x (aI st) f cdv A outer s H E).nox (bD st) t/\∀xs Q,p xs Q->t { nx:=λ_=>Q .non,rt:=Q } (bF N xs)):cV P w K mg base T (k+1) x ps p:=by
 refine⟨f,fd,F.ok S (λvs H Q E h=>?_) (λcdv A outer s H vs Q E hr h=>?_),F.binds hb,F.kp,m⟩
 ·obtain⟨_,xs,Qp,r,q,_⟩:=h
  rw[r.length];exact len xs Qp q
 ·obtain⟨hT,xs,Qp,r,q,k⟩:=h
  obtain⟨t,ht,hq⟩:=body cdv A outer s H E hr hT
  refine⟨_,ht,λ_=>False,bF N xs,_,j4 r,hq xs Qp q,?_,?_,?_,?_⟩
  ·exact λW' σ' H' ρ' e px q=>k _ _ _ px.same .non q
  ·exact λv H' x s r q=>k _ _ _ s r q
  ·exact λW' σ' H' ρ' e px q=>q
  ·exact λW' σ' H' ρ' e px q=>q
end
end PP
namespace L2
open PySem PySem.Spec PyProof.Rows
noncomputable def iO (T:List (az×Str)):Hp:=λb=>(T.find? λz=>decide (z.1=b)).map λz=>.tbl #[.str z.2 0]
noncomputable def p6 (H:Hp):Prop:=∀b,H b=none∨(∃o xs,H b=some (.frz o (.lst xs)))∨∃ps,H b=some (.tbl ps)
noncomputable def S7 (K:ad)(h:Heap)(T:List (az×Str)):Prop:=(∀z∈T,h.get? z.1=some (PySem.W.tabObj #[])/\K.lookup z.1=none/\isCodeTable h z.1)/\(T.map (·.1)).Nodup
theorem S8 (T:List (az×Str)):p6 (iO T):=λb=>by
 unfold iO;cases T.find? λz=>decide (z.1=b) with
 |none=>exact .inl rfl
 |some z=>exact .inr (.inr ⟨_,rfl⟩)
theorem wJ {T:List (az×Str)}{b:az}(h:iO T b≠none):∃z∈T,b=z.1:=by
 unfold iO at h;cases e:T.find? λz=>decide (z.1=b) with
 |none=>rw[e]at h;exact absurd rfl h
 |some z=>exact⟨z,bm6 e,by have:=List.find?_some e;exact (by simpa using this:z.1=b).symm⟩
theorem S9:∀{T:List (az×Str)}{z:az×Str},(T.map (·.1)).Nodup->z∈T->(T.find? λy=>decide (y.1=z.1))=some z
 |[],_,_,h=>by cases h
 |y::r,z,n,h=>by
  rw[bf0,bh7]at n;rw[bh8];rcases bd8.mp h with rfl|h
  ·simp
  ·have ne:¬y.1=z.1:=λe=>n.1 (e▸bo9 h)
   rw[be4 ne];exact S9 n.2 h
theorem T0 {T:List (az×Str)}(n:(T.map (·.1)).Nodup):PP.fN T (iO T):=λz hz=>⟨0,by unfold iO;rw[S9 n hz];rfl⟩
theorem T1 {P:ba}{w:bf}{H:Hp}{h:Heap}{T:List (az×Str)}{b:az}{u:HO}(t:∀z∈T,h.get? z.1=some (PySem.W.tabObj #[]))(e:iO T b=some u):bL P w H h b u:=by
 unfold iO at e;cases q:T.find? λz=>decide (z.1=b) with
 |none=>rw[q]at e;cases e
 |some z=>
  rw[q]at e;cases e;have hb:z.1=b:=by have:=List.find?_some q;simpa using this
  have g:=t z (bm6 q);rw[hb]at g
  exact⟨#[],g,trivial,λpos cv h=>by cases h⟩
theorem aN2 {P:ba}{w:bf}{K:ad}{mg mb:Str->Option ax}{CX:dO}{k:Nat}{fa a:az}{fd:FuncData}{x:Str}{sp:Sp}{s₁:ay}{vs:List ax}{ns:ag}{T:List (az×Str)}(KX:K.In s₁.heap)(hns:s₁.heap.Ns mainGlobals mg)(hb:s₁.heap.Ns builtinsNs mb)(hbb:∀x:Str,x≠"__name__"->mb x=bootBuiltins x)(hlim:s₁.heap.NoLimit)(hg:s₁.gens = #[])(ha:s₁.heap.get? a=some { cls:=.type "list",data:=.seq vs.toArray })(hi:IntsAre vs ns)(hl:ns.length<=sizeLine)(hr:bG k callerA)(TK:S7 K s₁.heap T)(bmain:∃bm ob,mg "__builtins__" = some (.ref bm)/\bm≠builtinsNs/\s₁.heap.get? bm=some ob/\ob.cls = .type "module"/\ob.dict=some builtinsNs/\ob.data = .plain)(F:∀base:Heap,K.In base->base.Ns mainGlobals mg->(∀z∈T,gU base mg z.1)->cX P w K mg base CX k fa fd [x] sp)(hbind:∀(s:ay) (u:ax),BindsTo s fd ⟨[u],[]⟩ [(x,u)])(hsp:∀H:Hp,p6 H->PP.fN T H->aZ K H a (ns.map V.int)->sp [.ref a] H (λv _=>v = .bl true) λ_ _ _=>False)(hCX:∀H e s',CX [] H s₁ (λ_ _ _=>False) e s'->False) :
  codeAny (model P w) callerA (.call (.ref fa) ⟨[.ref a],[]⟩) (λr s'=>r = .ok (.ret (.bool true))/\OldK s₁.heap s'.heap/\s'.os=s₁.os/\AllBare s'.gens) s₁:=by
 have rv:=C7 hi;have lenV:=hi.length;have core:∀H:Hp,p6 H->PP.fN T H->aZ K H a (ns.map V.int)->bS P w H s₁.heap->(∀b,H b≠none->b=a∨∃z∈T,b=z.1)->(H a≠none->K.lookup a=none)->
   codeAny (model P w) callerA (.call (.ref fa) ⟨[.ref a],[]⟩) (λr s'=>r = .ok (.ret (.bool true))/\OldK s₁.heap s'.heap/\s'.os=s₁.os/\AllBare s'.gens) s₁:=by
  intro H hO hT hS hok hA hK;have base_of:∀{b:az}{o:Obj},s₁.heap.get? b=some o->H b=none->(hZ s₁.heap H).get? b=some o:=λe n=>yT e n
  have noA:∀{b:az}{o:Obj}{es:Array DictEntry}{ep:Nat},s₁.heap.get? b=some o->o.data = .dict es ep->H b=none:=λ{b o es ep} e d=>by
   cases q:H b with
   |none=>rfl
   |some u=>
    rcases hA b (by rw[q];simp) with e'|⟨z,hz,e'⟩
    ·subst e'
     rw[ha]at e;cases e;have d':Data.seq vs.toArray _=Data.dict es ep:=d;cases d'
    ·subst e'
     rw[(TK.1 z hz).1]at e;cases e;have d':Data.fields #[]=Data.dict es ep:=d;cases d'
  have nsK:∀{b:az}{m:Str->Option ax},s₁.heap.Ns b m->(hZ s₁.heap H).Ns b m:=λ{b m} ⟨o,es,ep,e,d,r⟩=>⟨o,es,ep,base_of e (noA e d),d,r⟩
  have hKb:K.In (hZ s₁.heap H):=λb o e=>base_of (KX b o e) (by
   cases q:H b with
   |none=>rfl
   |some u=>
    rcases hA b (by rw[q];simp) with e'|⟨z,hz,e'⟩
    ·subst e'
     rw[hK (by rw[q];simp)]at e;cases e
    ·subst e'
     rw[(TK.1 z hz).2.1]at e;cases e)
  have hbA:∀z∈T,gU (hZ s₁.heap H) mg z.1:=λz hz=>by
   obtain⟨bm,ob,b1,b2,b3,b4,b5,b6⟩:=bmain
   have nP:∀y∈T,bm≠y.1:=λy hy e=>by
    rw[e,(TK.1 y hy).1]at b3;cases b3;have d':Data.fields #[]=Data.plain:=b6;cases d'
   refine⟨bm,ob,b1,b2,λe=>?_,nP z hz,base_of b3 ?_,b4,b5,b6⟩
   ·obtain⟨o,es,ep,e1,e2,_⟩:=hns
    rw[e,e1]at b3;cases b3;rw[b6]at e2;cases e2
   ·cases q:H bm with
    |none=>rfl
    |some u=>
     rcases hA bm (by rw[q];simp) with e'|⟨y,hy,e'⟩
     ·rw[e',ha]at b3;cases b3
      have d':Data.seq vs.toArray _=Data.plain:=b6;cases d'
     ·exact absurd e' (nP y hy)
  have hM:Mod K mg (hZ s₁.heap H):=⟨hKb,nsK hns,⟨mb,nsK hb,hbb⟩,let ⟨mc,h1,h2⟩:=hlim;⟨mc,nsK h1,h2⟩⟩;have e0:jM P w K mg (hZ s₁.heap H) callerA [] s₁ H:=⟨rfl,hM,λb o e=>yU e,Nat.le_of_eq (yS _ _),trivial,λb hb=>absurd (show b∈([]:List az) from hb) (by simp),hok,.of_eq hg⟩;refine codeAny_mono ((F _ hKb (nsK hns) hbA).run callerA [] s₁ H ⟨[.ref a],[]⟩ [.ref a] [.ref a] _ _ hr e0 (hbind s₁ (.ref a)) (.cons rfl .nil) (hsp H hO hT hS)) λr s' h=>?_
  cases r with
  |error e=>exact (hCX H e s' h).elim
  |ok fl=>
   cases fl with
   |next=>exact False.elim h
   |brk=>exact False.elim h
   |cont=>exact False.elim h
   |ret u=>
    obtain⟨v,H',os,bare,un,hok',r',q⟩:=h
    have q':v = .bl true:=q;subst q';obtain rfl:u=Value.bool true:=r';refine⟨rfl,⟨λb o e=>?_,λb o e=>?_⟩,os,bare⟩
    ·cases q:H b with
     |none=>exact .inl (un.keep b o e q (by intro z;exact absurd (show b∈([]:List az) from z) (by simp)) (by simp))
     |some u=>
      rcases hO b with z|⟨ob,xs,z⟩|⟨ps,z⟩
      ·rw[q]at z;cases z
      ·have z2:=un.frzs b ob _ z
       obtain⟨e1,_⟩:=hok b _ z
       obtain⟨e2,_⟩:=hok' b _ z2
       rw[e]at e1;cases e1;exact .inl e2
      ·rcases hA b (by rw[q];simp) with e'|⟨y,hy,e'⟩
       ·subst e'
        obtain⟨qs,e1,_⟩:=(show bL P w H s₁.heap b (.tbl ps) from hok b _ z)
        rw[ha]at e1;cases e1
       ·subst e'
        obtain⟨more,z2⟩:=un.tbls _ ps z
        obtain⟨qs,e2,_⟩:=(show bL P w H' s'.heap y.1 (.tbl (ps++more)) from hok' _ _ z2)
        rw[(TK.1 y hy).1]at e;cases e;exact .inr (.inl ⟨(TK.1 y hy).2.2,rfl,#[],qs,rfl,by simpa using e2⟩)
    ·exact un.there b o e (by simp)
 cases hk:K.lookup a with
 |some o=>
  have e:=KX a o hk;rw[ha]at e;cases e;have aT:∀z∈T,z.1≠a:=λz hz e=>by have:=(TK.1 z hz).1;rw[e,ha]at this;cases this
  refine core (iO T) (S8 T) (T0 TK.2) (.inr ⟨_,vs.toArray,_,hk,rfl,rfl,rfl,by rw[bd9,lenV];exact hl,by simpa using rv⟩) (λb u z=>T1 (λy hy=>(TK.1 y hy).1) z) (λb z=>.inr (wJ z)) λz=>(by
   obtain⟨y,hy,e⟩:=wJ z
   exact absurd e.symm (aT y hy))
 |none=>
  have aT:∀z∈T,z.1≠a:=λz hz e=>by have:=(TK.1 z hz).1;rw[e,ha]at this;cases this
  refine core (λb=>if b=a then some (.frz { cls:=.type "list",data:=.seq vs.toArray } (.lst (ns.map V.int))) else iO T b) (λb=>?_) (λz hz=>?_) (.inl (.inr ⟨{ cls:=.type "list",data:=.seq vs.toArray },if_pos rfl⟩)) (λb u z=>?_) (λb z=>?_) λ_=>hk
  ·by_cases hb:b=a
   ·exact .inr (.inl ⟨_,_,if_pos hb⟩)
   ·rcases S8 T b with e|⟨o,xs,e⟩|⟨ps,e⟩
    ·exact .inl ((if_neg hb).trans e)
    ·exact .inr (.inl ⟨o,xs,(if_neg hb).trans e⟩)
    ·exact .inr (.inr ⟨ps,(if_neg hb).trans e⟩)
  ·obtain⟨t,e⟩:=T0 TK.2 z hz
   exact⟨t,(if_neg (aT z hz)).trans e⟩
  ·by_cases hb:b=a
   ·have z':=(if_pos hb).symm.trans z
    cases z';subst hb
    exact⟨ha,by rw[be0];exact hl,vs,_,rv,ha⟩
   ·have z':=(if_neg hb).symm.trans z
    exact T1 (λy hy=>(TK.1 y hy).1) z'
  ·by_cases hb:b=a
   ·exact .inl hb
   ·exact .inr (wJ λe=>z ((if_neg hb).trans e))
theorem wK {K:ad}{h:Heap}{c P:az}(X:K.In h)(e:PySem.W.codeHdIn K c P=true):isCodeTable h P:=by
 obtain⟨o,vs,_,_,_,_,_,_,_,h1,h2,h3,h4,_⟩:=PySem.W.codeHd_of_K X e
 exact⟨c,o,vs,h1,h2,h3,h4⟩
theorem aN3 {K:ad}{H:Hp}{a:az}{ns:ag}(hO:p6 H)(h:aZ K H a (ns.map V.int)):PP.iY K H a ns:=by
 rcases h with (h|⟨o,h⟩)|h
 ·rcases hO a with e|⟨o,xs,e⟩|⟨ps,e⟩<;>(rw[h]at e;cases e)
 ·exact .inl ⟨o,h⟩
 ·exact .inr h
theorem aN4 {l:PySem.W.OpenLaw}{n k:Nat}{q:ba}{loose:List Str}{XP:(Str->Option ax)->Heap->Prop}{YP:bf->Heap->Prop}{d:DefRec}{K:Params->ad}{CX:bf->dO}{sp:bf->Sp}{x:Str}{T:List (az×Str)}(hn:l.most=some n)(hn2:n<=sizeLine)(hdf:d.params.defaults = [])(hr:bG k callerA)(hY:∀(w:bf) (h:Heap),YP w h->(K w.params).In h)(hT:∀(w:bf) (h:Heap),YP w h->S7 (K w.params) h T)(F:∀(w:bf) (mg:Str->Option ax) (fa:az) (h:Heap),(K w.params).In h->h.Ns mainGlobals mg->mg d.name=some (.ref fa)->
   ∃fd:FuncData,(∀(s:ay) (u:ax),BindsTo s fd ⟨[u],[]⟩ [(x,u)])/\
    ∀base:Heap,(K w.params).In base->base.Ns mainGlobals mg->(∀z∈T,gU base mg z.1)->cX l.prog w (K w.params) mg base (CX w) k fa fd [x] (sp w))(hsp:∀(w:bf) (H:Hp) (a:az) (ns:ag),ns.length<=n->p6 H->PP.fN T H->aZ (K w.params) H a (ns.map V.int)->sp w [.ref a] H (λv _=>v = .bl true) λ_ _ _=>False)(hCX:∀(w:bf) (H:Hp) (s:ay) (e:ax) (s':ay),CX w [] H s (λ_ _ _=>False) e s'->False) :
  PySem.W.WalkO q loose XP YP l.row.toRowW d [] (λf vs=>PySem.call f vs):=by
 refine Att.ar8 hn hdf λw s₀ s₁ mg mb fa o pm cd doc a vs ns G Y ho hd hcd hmg hobj hints ao hg=>?_
 have KX:=hY w _ Y
 obtain⟨fd,hb,hF⟩:=F w mg fa _ KX G.T.g hmg
 exact aN2 KX G.T.g G.T.b G.T.builtins G.T.nolimit hg hobj hints (bh2 ao hn2) hr (hT w _ Y) G.T.bmain hF hb (λH hO hT hS=>hsp w H a ns ao hO hT hS) λH e s'=>hCX w H s₁ e s'
noncomputable def wL (base:Heap)(c:az):Hp:=λb=>if b=c then none else match base.get? b with
 |some _=>none
 |none=>some (.rng 0 0)
noncomputable def p9 (h base:Heap)(c:az):Heap:=hZ h (wL base c)
section
variable {h base:Heap}{c:az}
theorem sG (hb:∀b o,base.get? b=some o->h.get? b=some o){b:az}{o:Obj}:(p9 h base c).get? b=some o↔h.get? b=some o/\(b=c∨base.get? b=some o):=by
 constructor
 ·intro e
  obtain⟨e1,e2⟩:=yU e
  refine⟨e1,?_⟩;unfold wL at e2;by_cases z:b=c
  ·exact .inl z
  ·rw[if_neg z]at e2
   cases q:base.get? b with
   |none=>rw[q]at e2;cases e2
   |some o'=>
    have:=hb b o' q
    rw[e1]at this;cases this;exact .inr rfl
 ·rintro⟨e,z⟩
  refine yT e ?_;unfold wL;by_cases q:b=c
  ·rw[if_pos q]
  ·rw[if_neg q]
   rcases z with z|z
   ·exact absurd z q
   ·rw[z]
theorem T2 {base':Heap}(hb:∀b,base.get? b=none->b≠c->base'.get? b=none):∀{l:List Env},h.FunFrames base l->(∀b∈bY l,b≠c)->h.FunFrames base' l
 |[],_,_=>trivial
 |env::r,hl,hc=>by
  obtain⟨hk,⟨L,o,hf,hn,ho,hd⟩,hr⟩:=hl
  refine⟨hk,⟨L,o,hf,hb L hn (hc L (by unfold bY;rw[List.filterMap_cons,hf];exact bd4)),ho,hd⟩,T2 hb hr λb z=>hc b (by unfold bY;rw[List.filterMap_cons,hf];exact bd5 _ z)⟩
end
section
variable {X:Cx}{ai:List (az×Obj)}{σ:St}{H:Hp}{s:ay}{y:Str}{c:az}
theorem aA.env0c (I:aA X ai σ H s)(hf:X.fn y=true)(hc:X.env.cells.lookup y=some c):jM X.prog X.w X.K X.mg (p9 s.heap X.base c) X.A X.stack s H:=by
 have hb:∀b o,X.base.get? b=some o->s.heap.get? b=some o:=I.bk
 have up:∀b o,X.base.get? b=some o->(p9 s.heap X.base c).get? b=some o:=λb o e=>(sG hb).mpr ⟨hb b o e,.inr e⟩
 have M:=I.ok.mod;refine⟨I.ok.frames,⟨λb o e=>up b o (M.kin b o e),M.glob.keeps up,let ⟨mb,h1,h2⟩:=M.blt;⟨mb,h1.keeps up,h2⟩,M.nolimit.keeps up⟩,λb o e=>?_,Nat.le_of_eq (yS _ _),?_,I.stkFree,I.hok,I.bare⟩
 ·obtain⟨e1,z⟩:=(sG hb).mp e
  rcases z with rfl|z
  ·exact⟨e1,I.freeC y b hc⟩
  ·exact I.bs b o z
 ·refine T2 (c:=c) (λb n z=>?_) I.stack λb hbm e=>?_
  ·cases q:(p9 s.heap X.base c).get? b with
   |none=>rfl
   |some o=>
    obtain⟨_,w⟩:=(sG hb).mp q
    rcases w with w|w
    ·exact absurd w z
    ·rw[n]at w;cases w
  ·subst e
   rcases bd8.mp (I.stkSub b hbm) with e|hbm
   ·exact I.cne y b hc e
   ·obtain⟨_,o,ho,_⟩:=I.ok.funs.mem hbm
    exact absurd (be6 (be7 ho) (I.ok.cab y b hf hc)) (bi7 _)
noncomputable def T3 (i:Nat)(spv:Int->Sp)(E:XK)(t:TA):TE:=λσ H Q=>t σ H λvs H1=>∃v:Int,σ[i]? = some (some (.int v))/\spv v vs H1 Q E
theorem aN5 {CX:dO}{k i:Nat}{f:az}{ps:List Str}{spv:Int->Sp}{x:Str}{p pos:Pos}{e:Expr}{es:List Expr}{t:TA}{E:XK}(hN:X.N[i]? = some y)(hk:X.env.kindOf y=some .cell)(hv:dY X.env.scope y)(hc:X.env.cells.lookup y=some c)(hf:X.fn y=true)(F:∀(base:Heap) (v:Int) (u:ax),X.K.In base->base.Ns mainGlobals X.mg->base.IsCell c (some u)->aU (.int v) u->∃fd,cX X.prog X.w X.K X.mg base CX k f fd ps (spv v)/\fZ X.K fd ps [])(hr:bG k X.A)(hg:Gl X x)(hm:X.mg x=some (.ref f))(hkp:PySem.W.keepIn X.K (.ref f)=true)(hx:iV CX X E)(ha:PA X (e::es) t)(hdb:(x==("__debug__":Str))=false:=by decide)(he:starEach (e::es) X.env=(false,eval e X.env)::starEach es X.env:=by rfl)(hpl:(backTo pos (starEach es X.env)).any (·.1)=false:=by rfl) :
  PE X (.Call (.Name x p) (e::es) [] pos) (T3 i spv E t):=by
 intro ai s σ H Q I h;refine bo3 (lU I hg hm ?_ hdb);refine PySem.W.callWith_K (h₀:=X.base) I.ok.mod.kin hkp (aO (ha pos ai s σ H _ I h) λus s1 ⟨vs,H1,I1,r,v,ev,q⟩=>⟨I1.kIn,?_⟩) he hpl
 obtain⟨m,hn,hl⟩:=I1.loc
 obtain⟨u,rv,lk⟩:=hl i y (.int v) hN ev hv
 rcases lk with⟨z,_⟩|⟨_,c',hc',hcell⟩
 ·rw[hk]at z;cases z
 ·rw[hc]at hc';cases hc'
  have e0:=I1.env0c hf hc;have hcell':(p9 s1.heap X.base c).IsCell c (some u):=let ⟨o,ho,hd⟩:=hcell;⟨o,(sG I1.bk).mpr ⟨ho,.inl rfl⟩,hd⟩
  obtain⟨fd,FF,hb⟩:=F _ v u e0.mod.kin e0.mod.glob hcell' rv
  have ao:us.length=ps.length:=by rw[<- r.length];exact FF.len _ _ _ _ q
  have hb0:=hb s1 us I1.kIn (by rw[bm1];exact ao);rw[bm1]at hb0;refine wpAny_call (codeAny_mono (FF.run X.A X.stack s1 H1 ⟨us,[]⟩ us vs Q E hr e0 hb0 r q) λrs s' hq=>?_);cases rs with
  |error e=>exact hx ai σ H1 s1 e s' I1 hq
  |ok fl=>
   cases fl with
   |ret u=>exact I1.after hq
   |next=>exact False.elim hq
   |brk=>exact False.elim hq
   |cont=>exact False.elim hq
end
structure sH (N P:List Str)(y:Str)(sc:Scope):Prop where
 kind:sc.kind = .function
 co:sc.isCoroutine=false
 gen:sc.isGenerator=false
 nd:N.Nodup
 eq:N=P++[y]
 par:∀x∈P,sc.names.lookup x=some .local
 fr:sc.names.lookup y=some .free
 nocell:∀z∈sc.names,z.2≠.cell
 one:∀z∈sc.names,z.2 = .free->z.1=y
noncomputable def sJ (CX:dO)(P:ba)(w:bf)(K:ad)(mg:Str->Option ax)(base:Heap)(N:List Str)(y:Str)(l:bA)(f:az)(cd:ax)(A:bc)(outer:List Env)(s:ay)(H:Hp)(E:XK):Cx where
 prog:=P
 w:=w
 K:=K
 mg:=mg
 base:=base
 A:=A.deeper (PySem.W.envX l.qual l.scope s.heap.objs.size f cd l.clos)
 N:=N
 s₀:=s
 H₀:=H
 env:=PySem.W.envX l.qual l.scope s.heap.objs.size f cd l.clos
 outer:=outer
 stack:=PySem.W.envX l.qual l.scope s.heap.objs.size f cd l.clos::outer
 ex:=[]
 calm:=true
 fn:=λx=>!decide (x=y)
 pn:=[]
 xe:=λe s'=>wpAny (model P w) (A.deeper (PySem.W.envX l.qual l.scope s.heap.objs.size f cd l.clos)) (leaving (PySem.W.envX l.qual l.scope s.heap.objs.size f cd l.clos) e) (λ_ s''=>CX outer H s E e s'') (λe' s''=>CX outer H s E e' s'') s'
theorem T4 {α:Type}{x:Str}{u:α}:∀{l:List (Str×α)},(l.map (·.1)).Nodup->(x,u)∈l->l.lookup x=some u
 |[],_,h=>by cases h
 |(a,b)::r,n,h=>by
  rw[bf0,bh7]at n;rw[bi1];rcases bd8.mp h with e|h
  ·cases e;rw[bj8]
  ·have ne:¬x=a:=λe=>n.1 (by rw[<- e];exact bo9 (f:=(·.1)) h)
   rw[show (x==a)=false by simpa using ne];exact T4 n.2 h
section
variable {CX:dO}{P:ba}{w:bf}{K:ad}{mg:Str→Option ax}{base:Heap}{k:Nat}{l:bA}{N ps:List Str}{sp:Sp}{y:Str}{c0:az}{v0:V}{u0:ax}
theorem aN6 {f:az}{cd:ax}{A:bc}{outer:List Env}{s:ay}{H:Hp}{E:XK}{us:List ax}{vs:List V}{h1:Heap}{tk:Nat}(hcl:l.clos = [(y,c0)])(hcell:base.IsCell c0 (some u0))(rv:aU v0 u0)(S:sH N ps y l.scope)(hd:A.handled=none)(e0:jM P w K mg base A outer s H)(hl:vs.length=ps.length)(r:aN vs us)(hns:h1.Ns s.heap.objs.size (λx=>(ps.zip us).reverse.lookup x))(hk:∀b o,s.heap.get? b=some o->h1.get? b=some o) :
  aA (sJ CX P w K mg base N y l f cd A outer s H E) [] ((vs++[v0]).map some) H { s with heap:=h1,toks:=tk }:=by
 have noA:∀b:az,b∉(sJ CX P w K mg base N y l f cd A outer s H E).ex:=λb z=>absurd (show b∈([]:List az) from z) (by simp)
 have lk:∀{x:Str}{c:az},l.clos.lookup x=some c->x=y/\c=c0:=λ{x c} e=>by
  rw[hcl,bi1]at e;by_cases z:x=y
  ·subst z;rw[bj8]at e;cases e;exact⟨rfl,rfl⟩
  ·rw[show (x==y)=false by simpa using z]at e;cases e
 have ly:l.clos.lookup y=some c0:=by rw[hcl,bi1,bj8]
 obtain⟨oc,hoc,hdc⟩:=hcell
 obtain⟨hsc,hHc⟩:=e0.bs c0 oc hoc
 have hcell1:h1.IsCell c0 (some u0):=⟨oc,hk _ _ hsc,hdc⟩;have ndP:ps.Nodup:=by have:=S.nd;rw[S.eq]at this;exact this.sublist (List.sublist_append_left _ _)
 refine⟨⟨e0.mod,S.kind,rfl,rfl,be2 _,λa b c h1 h2=>(lk h1).1.trans (lk h2).1.symm,λa ha=>?_,λa c hf h=>?_,λ_=>hd,Around.frames_deeper e0.frames,.inr ⟨rfl,rfl⟩,λb z=>absurd z (noA b),e0.bs,e0.bsz,λb _ _=>noA b,λb z=>absurd z (noA b),e0.funs,e0.frf⟩,
  rfl,e0.bare,Un.kept hk,⟨_,hns,λi x v h2 h3 h4=>?_⟩,λa c h=>?_,e0.hok.fresh (be2 _),λa c h=>?_,λp hp=>absurd (show p∈([]:List (az×Obj)) from hp) (by simp),e0.hok.kept hk,?_⟩
 ·have ha:l.scope.names.lookup a=some .cell∨l.scope.names.lookup a=some .free:=ha
  rcases ha with ha|ha
  ·exact absurd rfl (S.nocell _ (bh4 ha))
  ·have ea:a=y:=S.one _ (bh4 ha) rfl
   rw[ea];exact⟨c0,ly⟩
 ·have hf:(!decide (a=y))=true:=hf
  have:=(lk h).1
  rw[bg0 this]at hf;cases hf
 ·have h3:((vs++[v0]).map some)[i]? = some (some v):=h3
  rw[bf4]at h3;have h2:N[i]? = some x:=h2;rw[S.eq]at h2;by_cases hi:i<vs.length
  ·rw[bo0 hi]at h3
   rw[bo0 (by omega)]at h2;have ha:vs[i]? = some v:=by
    cases e:vs[i]? with
    |none=>rw[e]at h3;cases h3
    |some a=>rw[e]at h3;cases h3;rfl
   obtain⟨u,hu,rv⟩:=r.get ha
   refine⟨u,rv,.inl ⟨S.par x (bi9 h2),?_⟩⟩;refine T4 ?_ ?_
   ·rw[List.map_reverse]
    have e:(ps.zip us).map (·.1)=ps:=List.map_fst_zip (by rw[<- r.length,hl];exact be2 _);rw[e];exact List.pairwise_reverse.mpr (ndP.imp λz e=>z e.symm)
   ·rw[List.mem_reverse]
    refine bi9 (i:=i) ?_;rw[List.getElem?_zip_eq_some]
    exact⟨h2,hu⟩
  ·rw[List.getElem?_append_right (by omega)]at h3 h2
   have z:i=vs.length:=by
    by_cases q:i-vs.length=0
    ·omega
    ·rw[List.getElem?_singleton,if_neg q]at h3;cases h3
   subst z;rw[Nat.sub_self]at h3;rw[show vs.length-ps.length=0 by omega]at h2;cases h3;cases h2
   exact⟨u0,rv,.inr ⟨.inr S.fr,c0,ly,hcell1⟩⟩
 ·obtain⟨rfl,rfl⟩:=lk h
  exact⟨_,hcell1⟩
 ·obtain⟨rfl,rfl⟩:=lk h
  exact hHc
 ·show _=N.length
  rw[S.eq,be0,be3,be3,hl];rfl
theorem aN7 (hcl:l.clos = [(y,c0)])(hcell:base.IsCell c0 (some u0))(rv:aU v0 u0)(S:sH N ps y l.scope)(hb:∀(pm cv ctv:ax) (us:List ax),us.length=ps.length->bindArgs (oH l pm cv ctv) ⟨us,[]⟩=pure (ps.zip us))(len:∀vs H Q E,sp vs H Q E->vs.length=ps.length)(hbody:∀(A:bc) (outer:List Env) (s:ay) (H:Hp) (f:az) (cv:ax) (vs:List V) (Q:VK) (E:XK),bG k (A.deeper (PySem.W.envX l.qual l.scope s.heap.objs.size f cv l.clos))->sp vs H Q E->
   ∃t,PE (sJ CX P w K mg base N y l f cv A outer s H E) l.body t/\t ((vs++[v0]).map some) H Q) :
  qR P w K mg base CX (k+1) l sp:=by
 refine⟨λA outer s H f us vs Q E hr e0 hl r hsp=>?_⟩;have ao:=len _ _ _ _ hsp
 obtain⟨pm,ctv,c,ho,hcd⟩:=hl.at e0.hok
 have lim:s.heap.NoLimit:=e0.mod.nolimit.keeps λb o e=>(e0.bs b o e).1
 refine PySem.W.kla_callFunE hr.depth ho rfl S.co S.gen rfl hcd ?_;rw[hb pm (.ref c) ctv us (by rw[<- r.length];exact ao)];refine bd6 (wpAny_newFunctionEnv S.nocell (λz hz=>S.par z.1 (List.of_mem_zip hz).1) (λh1 hns hsb=>⟨lim.fresh _ hsb,?_⟩) S.kind);have hk:∀b o,s.heap.get? b=some o->h1.get? b=some o:=λb o e=>hsb.extBut b o (bg7 (be7 e)) (bd3 _ e)
 refine PySem.W.kla_codeExpr ?_
 obtain⟨t,ht,hq⟩:=hbody A outer s H f (.ref c) vs Q E (hr.deeper _) hsp
 have I:=aN6 (CX:=CX) (E:=E) (f:=f) (cd:=.ref c) (tk:=s.toks+(ps.zip us).length) hcl hcell rv S hr.hd e0 ao r hns hk;refine bj6 (ht [] _ _ H _ I hq) (λu s' hs=>?_) λe s' hs=>hs
 obtain⟨v,H',J,rv,q⟩:=hs
 exact⟨v,H',J.os,J.bare,J.base,J.hok,rv,q⟩
end
section
variable {X:Cx}
noncomputable def T5:R2:=λx y H Q=>∃l b xs zs,x = .ref l/\y = .ref b/\H l=some (.lst xs)/\Rd H b (.lst zs)/\xs.length+zs.length<=sizeLine/\∀p,H p=none->Q (.ref p) (upd H p (.lst (xs++zs)))
theorem aN8:cJ X (binaryOp .Add) T5:=by
 intro ai s σ H x y v u Q I rx ry h
 obtain⟨l,b,xs,zs,rfl,rfl,hH,hB,hz,q⟩:=h
 cases rx;cases ry
 obtain⟨_,its,n,r,e⟩:=(show bL X.prog X.w H s.heap l (.lst xs) from I.hok l _ hH)
 obtain⟨_,av,n2,r2,e2⟩:=(show bL X.prog X.w H s.heap b (.lst zs) from qK I.hok hB)
 have l1:=aN.length r;have l2:=aN.length r2;refine PySem.P.add_list e e2 ?_ (by rw[bd9,bd9];omega);have ea:its.toArray++av.toArray=(its++av).toArray:=by simp
 rw[ea]
 exact⟨.ref _,_,I.lnew (t':=s.toks) (r.append r2) (by rw[be3];omega),rfl,q _ I.fresh⟩
end
end L2
namespace PP
open PySem L2 PyProof.Rows PySem.Spec
theorem dW.ofC {P:ba}{w:bf}{K:ad}{mg:Str->Option ax}{base:Heap}{k:Nat}{l:bA}{N ps:List Str}{p:b7}{y:Str}{c0:az}{w0:Int}{u0:ax}(hcl:l.clos = [(y,c0)])(hcell:base.IsCell c0 (some u0))(rv:aU (.int w0) u0)(S:sH N ps y l.scope)(hb:∀(pm cv ctv:ax) (us:List ax),us.length=ps.length->bindArgs (oH l pm cv ctv) ⟨us,[]⟩=pure (ps.zip us))(len:∀xs Q,p xs Q->xs.length=ps.length)(body:∀(f:az) (cv:ax) (A:bc) (outer:List Env) (s:ay) (H:Hp) (E:XK),bG k (A.deeper (PySem.W.envX l.qual l.scope s.heap.objs.size f cv l.clos))->
   ∃t,QE (sJ cF P w K mg base N y l f cv A outer s H E) l.body t/\∀xs Q,p xs Q->t (bF N (xs++[.int w0])) λx _=>flat x=true/\Q x):dW P w K mg base (k+1) l p:=by
 refine aN7 (sp:=iZ K p) hcl hcell rv S hb (λvs H Q E h=>?_) λA outer s H f cv vs Q E hr h=>?_
 ·obtain⟨xs,Qp,r,q,_⟩:=h
  rw[r.length];exact len xs Qp q
 ·obtain⟨xs,Qp,r,q,k⟩:=h
  obtain⟨t,ht,hq⟩:=body f cv A outer s H E hr
  have lv:vs.length=ps.length:=by rw[r.length];exact len xs Qp q
  have e:L2.dZ N (vs++[V.int w0])=(vs++[V.int w0]).map some:=by
   unfold L2.dZ;rw[S.eq,be3,be3,lv,show ps.length+[y].length-(ps.length+[V.int w0].length)=0 from Nat.sub_self _,List.replicate_zero,bm1]
  have px:=j4 (N:=N) (vs:=vs++[V.int w0]) (xs:=xs++[PV.int w0]) (r.append (.cons (.int w0) .nil));rw[e]at px
  exact⟨_,ht,λ_=>False,bF N (xs++[PV.int w0]),_,px,hq xs Qp q,λv H' x g s rx ⟨fx,qx⟩=>k v H' x s (rx.flat fx) qx⟩
section
variable {X:Cx}{σ:L2.St}{H:Hp}{tr:bX}{Q':VK}{e a b:Expr}{es:List Expr}{pos p2 np:Pos}{ta tb:aF}{R:It→Hp→Prop}
noncomputable def wM (i:Nat)(pv:Int->b7)(tr:bX):aF:=λρ Q=>tr ρ λxs=>∃g w,ρ[i]? = some (some (.sh g (.int w)))/\pv w (xs.map (·.1)) λz=>Q z .fr
theorem aN9 {i:Nat}{pv:Int->b7}{E:XK}(h:LE X (wM i pv tr) σ H Q'):T3 i (λw=>iZ X.K (pv w)) E (LA X tr) σ H Q':=by
 obtain⟨W,ρ,Q,px,q,k⟩:=h
 refine⟨W,ρ,_,px,q,λvs H1 xs s1 r1 ⟨g,w,hi,q1⟩=>?_⟩
 obtain⟨v,hv,r⟩:=px.sl i _ hi
 have r:aG X.K (Ms X.H₀ W g) H v (.int w):=r;cases r with
 |int w=>exact⟨w,hv,_,_,r1.any,q1,λv H' x s2 r2 q2=>k v H' x .fr (s1.trans s2) (r2.same (aH.refl _) λ_ z=>s1.free z) q2⟩
theorem aO0 (i:Nat){y x:Str}{c f:az}{k j:Nat}{ps:List Str}{pv:Int->b7}(hc:X.env.cells.lookup y=some c)(d:∀(base:Heap) (w:Int) (u:ax),X.K.In base->base.Ns mainGlobals X.mg->base.IsCell c (some u)->aU (.int w) u->Df X.prog X.w X.K X.mg base k x ps (pv w))(m:X.mg x=some (.ref f))(kp:PySem.W.keepIn X.K (.ref f)=true)(hr:bG j X.A)(ha:QA X (e::es) tr)(hkj:k<=j:=by decide)(hN:X.N[i]? = some y:=by rfl)(hk:X.env.kindOf y=some .cell:=by rfl)(hv:dY X.env.scope y:=by first|exact Or.inl rfl|exact Or.inr (Or.inl rfl)|exact Or.inr (Or.inr rfl))(hf:X.fn y=true:=by rfl)(hg:Gl X x:=by rfl)(hdb:(x==("__debug__":Str))=false:=by decide)(he:starEach (e::es) X.env=(false,eval e X.env)::starEach es X.env:=by rfl)(hpl:(backTo pos (starEach es X.env)).any (·.1)=false:=by rfl):QE X (.Call (.Name x p2) (e::es) [] pos) (wM i pv tr):=by
 refine bV (aN5 (f:=f) (ps:=ps) (spv:=λw=>iZ X.K (pv w)) (E:=E0) (CX:=cF) hN hk hv hc hf (λbase v u h1 h2 h3 h4=>?_) (hr.mono hkj) hg m kp jO ha hdb he hpl) λ_ _ _=>aN9
 obtain⟨f',fd,F,b,_,m'⟩:=(d base v u h1 h2 h3 h4).ex
 rw[m]at m';cases m'
 exact⟨fd,F,b⟩
noncomputable def T6:PV->Tg->PV->Tg->PK->Prop:=λx _ y _ Q=>∃xs ys,x = .lst xs/\y = .fL ys/\flats xs=true/\flats ys=true/\xs.length+ys.length<=16000000/\Q (.lst (xs++ys)) .fr
noncomputable abbrev T7 (ta tb:aF):aF:=q2 T6 ta tb
theorem aO1:fD X T6 T5:=by
 rintro W Hs H u v x y g g' Q Q' s n r1 r2 ⟨xs,ys,rfl,rfl,f1,f2,hl,q⟩ k
 obtain⟨a,us,rfl,_,h1,q1⟩:=r1.sqL
 cases r2 with
 |@fL b o ws _ h2 q2=>
  have l1:=q1.length;have l2:=q2.length
  exact⟨a,b,us,ws,rfl,rfl,h1,.inr ⟨_,h2⟩,lim (by omega),λp hp=>k _ _ _ .fr (bZ hp _) (.lst (s.free hp) bH (((q1.flat f1).append (q2.flat f2)).same (bZ hp _) λ_ z=>z)) q⟩
theorem aO2 (ha:QE X a ta)(hb:QE X b tb):QE X (.BinOp a .Add b pos) (T7 ta tb):=fR aN8 aO1 ha hb
noncomputable def wN (ta tb:aF):eU:=λρ Q=>ta ρ λx _=>tb ρ λy _=>∃xs ys,x = .fL xs/\y = .fL ys/\flats xs=true/\flats ys=true/\Q (j5 xs ys) true
theorem aO3 (h:LI X (wN ta tb) σ H R):R0 X.K (eZ (LE X ta) (eZ (LE X tb) iU)) σ H R:=by
 obtain⟨W,ρ,Q,px,q,k⟩:=h
 refine⟨W,ρ,_,px,q,λv0 H0 x0 g0 s0 r0 q0=>⟨W,ρ,_,px.mono s0,q0,?_⟩⟩;rintro v H1 x g s r ⟨xs,ys,rfl,rfl,fx,fy,q⟩;have S:=s0.trans s;have px1:=px.mono S;have tw:∀a,W a->∃o,H1 a=some o/\dP o=true:=λa z=>(px1.wm a z).2
 have noW:∀{c:az}{u:HO},H1 c=some u->dP u=false->¬W c:=λ{c u} e m z=>by
  obtain⟨w,e2,m2⟩:=tw c z
  rw[e]at e2;cases e2;rw[m]at m2;cases m2
 have r0':=r0.same (M':=λ_=>True) s λ_ _=>trivial
 cases r0' with
 |@fL a o us _ h1 ra=>
  cases r with
  |@fL b o2 vs _ h2 rb=>
   have stay:∀{c:az}{o:Obj}{us:List V},H1 c=some (.frz o (.lst us))->∀W' H',Ev W H1 W' H'->aZ X.K H' c us:=λ{c o us} e W' H' ev=>.inl (.inr ⟨_,(ev _ _ e (noW e rfl) rfl).1⟩)
   exact⟨a,b,rfl,.inr ⟨us,vs,.inl (.inr ⟨_,h1⟩),.inl (.inr ⟨_,h2⟩),k _ _ _ _ S (aJ7 tw (stay h1) (stay h2) (ra.flat fx) (rb.flat fy)) q⟩⟩
theorem aO4 {elts:List Expr}{kt:Nat}{pt:Pos}(B:Bt X.mg)(ha:QE X a ta)(hb:QE X b tb)(hg:Gl X "zip":=by rfl)(hs:starEach [a,b] X.env = [(false,eval a X.env),(false,eval b X.env)]:=by rfl)(hs2:starEach [b] X.env = [(false,eval b X.env)]:=by rfl):QI X (.Tuple elts kt pt) (.Call (.Name "zip" p2) [a,b] [] pos) (wN ta tb):=
 oQ (aJ6 hg B.zip (eQ ha (eQ hb jL hs2) (by rw[hs,hs2])) hs hs2) λ_ _ _=>aO3
end
end PP
namespace Strip
noncomputable abbrev aB:=List (Nat×Bool)
noncomputable def has (m p:Nat):Nat:=(m >>> p) &&& 1
noncomputable def jY (w:ag)(behind burning ahead:Nat):Nat->ag->Nat->Nat
 |_,[],lit=>lit
 |p,want::r,lit=>jY w behind burning ahead (p+1) r (if ((has behind p+has ahead p+(if p<=1 then has burning (1-p) else 0):Nat):Int) >= want then lit ||| (1 <<< p) else lit)
noncomputable def bO (w:ag)(behind burning ahead:Nat):Nat:=jY w behind burning ahead 0 w burning
noncomputable def fV (w:ag)(a:aB)(ahead:Nat):Nat->Nat->Nat
 |0,b=>b
 |n+1,b=>let m:=bO w (a.getD b (0,false)).1 b ahead;if m=b then b else fV w a ahead n m
noncomputable def jZ (w:ag)(a:aB)(seeds ahead:Nat):Nat×Bool:=
 let b:=fV w a ahead (w.length+1) seeds
 (b,b==a.length-1&&(a.getD (a.length-1) (0,false)).2)
noncomputable def next (w:ag)(a:aB)(seeds:Nat):aB:=(List.range a.length).map (jZ w a seeds)
noncomputable def aQ (w:ag):aB:=List.replicate (2^w.length) (0,true)
noncomputable def kept (a:aB):Bool:=(a.getD (a.length-1) (0,false)).2
noncomputable def lit (a:aB):Bool:=(a.getD 0 (0,false)).2
noncomputable def after (w:ag)(a:aB):List (Nat×aB):=((List.range a.length).map λs=>(s,next w a s)).filter λp=>kept p.2
noncomputable def vD (w:ag):Nat->List (aB×aB)->List (aB×aB)->List (aB×aB)
 |0,_,seen=>seen
 |_,[],seen=>seen
 |n+1,p::todo,seen=>if seen.contains p then vD w n todo seen else vD w n ((after w p.2).map (λq=>(next w p.1 q.1,q.2))++todo) (seen++[p])
noncomputable def vT (w:ag)(R:List (aB×aB)):Bool:=
 R.all λp=>p.1.length==p.2.length&&(lit p.1||!lit p.2)&&(List.range p.2.length).all λs=>!kept (next w p.2 s)||(kept (next w p.1 s)&&R.contains (next w p.1 s,next w p.2 s))
noncomputable def cG (w:ag):Nat->aB->Nat
 |0,a=>if lit a then 1 else 0
 |n+1,a=>((List.range a.length).map λs=>if kept (next w a s) then cG w n (next w a s) else 0).sum
theorem wO (w:ag)(n:Nat)(a:aB):cG w (n+1) a=((List.range a.length).map λs=>if kept (next w a s) then cG w n (next w a s) else 0).sum:=rfl
noncomputable def one (m:Nat):Nat:=has m 0+has m 1
noncomputable def row (w:ag):List Nat->aB->Bool
 |[],a=>lit a
 |s::r,a=>decide (s<a.length)&&kept (next w a s)&&row w r (next w a s)
noncomputable def cH (l:List Nat):Nat:=(l.map one).sum
theorem T8 {α:Type}{f:α->Nat}(c:Nat):∀{l:List α},(l.map f).sum*c=(l.map λx=>f x*c).sum
 |[]=>by simp
 |x::r=>by rw[bf0,bf0,bg5,bg5,Nat.add_mul,T8 c]
section
variable {w:ag}{S:List aB}{R:List (aB×aB)}
theorem T9 (l l':List Nat):cH (l++l')=cH l+cH l':=by unfold cH;rw[bg4,bq2]
end
section
variable {β:Type}
noncomputable def bQ (ps:List (aB×β))(k:aB):Option β:=(ps.find? λp=>decide (p.1=k)).map (·.2)
noncomputable def dJ (ps:List (aB×β))(k:aB)(x:β):List (aB×β):=if (ps.any λp=>decide (p.1=k))=true then ps.map (λp=>if p.1=k then (p.1,x) else p) else ps++[(k,x)]
noncomputable def cD (J:β->β->β)(ps:List (aB×β))(k:aB)(z:β):List (aB×β):=dJ ps k (match bQ ps k with|none=>z|some w=>J w z)
noncomputable def cW (w:ag)(passed:β->Nat->β)(J:β->β->β)(later:List (aB×β))(p:aB×β):List (aB×β):=(after w p.1).foldl (λl q=>cD J l q.2 (passed p.2 q.1)) later
noncomputable def wP (w:ag)(passed:β->Nat->β)(J:β->β->β)(ps:List (aB×β)):List (aB×β):=ps.foldl (cW w passed J) []
noncomputable def bK (w:ag)(passed:β->Nat->β)(J:β->β->β)(first:β):Nat->List (aB×β)
 |0=>[(aQ w,first)]
 |n+1=>wP w passed J (bK w passed J first n)
theorem aO5 {ps:List (aB×β)}{k:aB}{x:β}:(dJ ps k x).map (·.1)=if (ps.any λp=>decide (p.1=k))=true then ps.map (·.1) else ps.map (·.1)++[k]:=by
 unfold dJ;split
 ·rw[bi6]
  refine bi2 λp _=>?_
  show (if p.1=k then (p.1,x) else p).1=p.1;split<;>rfl
 ·rw[bg4];rfl
theorem U0 {ps:List (aB×β)}{k:aB}{x:β}(h:(ps.map (·.1)).Nodup):((dJ ps k x).map (·.1)).Nodup:=by
 rw[aO5];split
 ·exact h
 ·rename_i n
  rw[List.nodup_append];refine⟨h,by simp,λa ha b hb=>?_⟩;obtain rfl:=bd7.mp hb;rintro rfl
  obtain⟨p,hp,e⟩:=bi3.mp ha
  exact n (bp5.mpr ⟨p,hp,by simpa using e⟩)
theorem wQ {J:β->β->β}{ps:List (aB×β)}{k:aB}{z:β}(h:(ps.map (·.1)).Nodup):((cD J ps k z).map (·.1)).Nodup:=U0 h
end
noncomputable def wt (f:aB->Nat)(ps:List (aB×Nat)):Nat:=(ps.map λp=>p.2*f p.1).sum
theorem wR (f:aB->Nat)(p:aB×Nat)(r:List (aB×Nat)):wt f (p::r)=p.2*f p.1+wt f r:=rfl
theorem aO6 (f:aB->Nat)(l r:List (aB×Nat)):wt f (l++r)=wt f l+wt f r:=by unfold wt;rw[bg4,bq2]
theorem aO7 {ps:List (aB×Nat)}{k:aB}{x:Nat}(h:k∉ps.map (·.1)):(ps.map λp=>if p.1=k then (p.1,x) else p)=ps:=by
 conv=>rhs;rw[<- List.map_id ps]
 refine bi2 λp hp=>?_
 have ne:¬p.1=k:=λe=>h (by rw[<- e];exact bo9 hp)
 rw[if_neg ne];rfl
theorem U1 (f:aB->Nat){k:aB}{z:Nat}:∀{ps:List (aB×Nat)}{v:Nat},(ps.map (·.1)).Nodup->bQ ps k=some v->wt f (ps.map λp=>if p.1=k then (p.1,v+z) else p)=wt f ps+z*f k
 |[],v,_,e=>by simp[bQ]at e
 |p::r,v,n,e=>by
  rw[bf0,bh7]at n;rw[bf0,wR,wR];by_cases h:p.1=k
  ·have ev:p.2=v:=by simpa[bQ,bh8,h] using e
   rw[if_pos h,aO7 (by rw[<- h];exact n.1),ev,<- h];show (v+z)*f p.1+wt f r=v*f p.1+wt f r+z*f p.1;rw[Nat.add_mul];omega
  ·have ev:bQ r k=some v:=by simpa[bQ,bh8,h] using e
   rw[if_neg h,U1 f n.2 ev];omega
theorem aO8 (f:aB->Nat){k:aB}{z:Nat}{ps:List (aB×Nat)}(n:(ps.map (·.1)).Nodup):wt f (cD (·+·) ps k z)=wt f ps+z*f k:=by
 unfold cD dJ;cases e:bQ ps k with
 |none=>
  have no:¬(ps.any λp=>decide (p.1=k))=true:=λh=>by
   obtain⟨p,hp,q⟩:=bp5.mp h
   have:(ps.find? λp=>decide (p.1=k))=none:=by simpa[bQ] using e
   rw[List.find?_eq_none]at this;exact this p hp q
  rw[if_neg no,aO6];show wt f ps+(z*f k+0)=_;omega
 |some v=>
  have yes:(ps.any λp=>decide (p.1=k))=true:=by
   obtain⟨p,hp,_⟩:=Option.map_eq_some_iff.mp e
   exact bp5.mpr ⟨p,bm6 hp,by have:=List.find?_some hp;simpa using this⟩
  rw[if_pos yes];exact U1 f n e
theorem U2 (w:ag)(f:aB->Nat)(v:Nat):∀(qs:List (Nat×aB)) {l:List (aB×Nat)},(l.map (·.1)).Nodup->(((qs.foldl (λl q=>cD (·+·) l q.2 v) l).map (·.1)).Nodup/\wt f (qs.foldl (λl q=>cD (·+·) l q.2 v) l)=wt f l+v*(qs.map λq=>f q.2).sum)
 |[],l,n=>⟨n,by simp⟩
 |q::r,l,n=>by
  obtain⟨h1,h2⟩:=U2 w f v r (wQ (J:=(·+·)) (k:=q.2) (z:=v) n)
  refine⟨h1,?_⟩;rw[bq1,h2,aO8 f n,bf0,bg5,Nat.mul_add];omega
theorem U3 (w:ag)(f:aB->Nat):∀(ps:List (aB×Nat)) {l:List (aB×Nat)},(l.map (·.1)).Nodup->(((ps.foldl (cW w (λv _=>v) (·+·)) l).map (·.1)).Nodup/\wt f (ps.foldl (cW w (λv _=>v) (·+·)) l)=wt f l+wt (λa=>((after w a).map λq=>f q.2).sum) ps)
 |[],l,n=>⟨n,by show _=_+0;simp⟩
 |p::r,l,n=>by
  obtain⟨g1,g2⟩:=U2 w f p.2 (after w p.1) n
  obtain⟨h1,h2⟩:=U3 w f r g1
  refine⟨h1,?_⟩;rw[bq1,wR];have e:cW w (λv _=>v) (·+·) l p=(after w p.1).foldl (λl q=>cD (·+·) l q.2 p.2) l:=rfl;rw[e,h2,g2];omega
theorem wS {α:Type}(p:α->Bool)(f:α->Nat):∀l:List α,((l.filter p).map f).sum=(l.map λx=>if p x then f x else 0).sum
 |[]=>rfl
 |x::r=>by
  rw[List.filter_cons,bf0,bg5,<- wS p f r];split
  ·rw[bf0,bg5]
  ·omega
theorem aO9 (w:ag)(n:Nat)(a:aB):((after w a).map λq=>cG w n q.2).sum=cG w (n+1) a:=by
 unfold after;rw[wS,wO,bi6];rfl
theorem U4 (w:ag):∀(n m:Nat),(((bK w (λv _=>v) (·+·) 1 n).map (·.1)).Nodup/\wt (cG w m) (bK w (λv _=>v) (·+·) 1 n)=cG w (n+m) (aQ w))
 |0,m=>⟨by simp[bK],by show 1*cG w m (aQ w)+0=_;rw[bl8];omega⟩
 |n+1,m=>by
  obtain⟨h1,h2⟩:=U3 w (cG w m) (bK w (λv _=>v) (·+·) 1 n) (l:=[]) (by simp)
  refine⟨h1,?_⟩;show wt (cG w m) (wP w _ _ _)=_;unfold wP;rw[h2];have e:(λa=>((after w a).map λq=>cG w m q.2).sum)=cG w (m+1):=funext λa=>aO9 w m a
  rw[e,(U4 w n (m+1)).2];show 0+_=_;rw[bl8,show n+(m+1)=n+1+m by omega]
theorem aP0 (w:ag)(n:Nat):(((bK w (λv _=>v) (·+·) 1 n).filter λp=>lit p.1).map (·.2)).sum=cG w n (aQ w):=by
 have h:=(U4 w n 0).2;rw[Nat.add_zero]at h;rw[<- h,wS];unfold wt;refine congrArg List.sum (bi2 λp _=>?_);show (if lit p.1 then p.2 else 0)=p.2*(if lit p.1 then 1 else 0);split<;>omega
noncomputable def iP (w:ag):List Nat->aB->Option aB
 |[],a=>some a
 |s::r,a=>if s<a.length/\kept (next w a s)=true then iP w r (next w a s) else none
theorem wT (w:ag)(l':List Nat):∀(l:List Nat) (a:aB),iP w (l++l') a=(iP w l a).bind (iP w l')
 |[],a=>rfl
 |s::r,a=>by
  show (if _ then _ else _)=(if _ then _ else _:Option aB).bind _;split
  ·exact wT w l' r _
  ·rfl
theorem U5 (w:ag)(s:Nat)(a b:aB):iP w [s] a=some b↔(s,b)∈after w a:=by
 show (if _ then some (next w a s) else none)=some b↔_;unfold after;rw[bn0,bi3];constructor
 ·intro h
  split at h
  ·rename_i c
   cases h
   exact⟨⟨s,bl1.mpr c.1,rfl⟩,c.2⟩
  ·cases h
 ·rintro⟨⟨t,ht,e⟩,k⟩
  cases e;rw[if_pos ⟨bl1.mp ht,k⟩]
theorem wU (w:ag):∀(l:List Nat) (a:aB),row w l a=true↔∃b,iP w l a=some b/\lit b=true
 |[],a=>⟨λh=>⟨a,rfl,h⟩,λ⟨b,e,h⟩=>by cases e;exact h⟩
 |s::r,a=>by
  unfold row iP;rw[bg6,bg6,bh3,wU w r];constructor
  ·rintro⟨c,b,e,h⟩
   exact⟨b,by rw[if_pos c];exact e,h⟩
  ·rintro⟨b,e,h⟩
   split at e
   ·rename_i c;exact⟨c,b,e,h⟩
   ·cases e
noncomputable abbrev PR:=Nat×List Nat
structure jG (J:PR->PR->PR):Prop where
 or:∀x y,J x y=x∨J x y=y
 l:∀x y,(J x y).1<=x.1
 r:∀x y,(J x y).1<=y.1
noncomputable def pass (p:PR)(s:Nat):PR:=(p.1+one s,p.2++[s])
noncomputable def lE (C:aB->PR->Prop)(ps:List (aB×PR)):Prop:=∀b v,(b,v)∈ps->C b v
noncomputable def lG (C:aB->PR->Prop)(ps:List (aB×PR)):Prop:=∀b v,C b v->∃u,(b,u)∈ps/\u.1<=v.1
section
variable {J:PR→PR→PR}{C D:aB→PR→Prop}{k b:aB}{z u:PR}{ps:List (aB×PR)}
theorem U6 {x:PR}(h:(b,u)∈dJ ps k x):(b=k/\u=x)∨(b,u)∈ps:=by
 unfold dJ at h;split at h
 ·obtain⟨p,hp,e⟩:=bi3.mp h
  split at e
  ·rename_i c;cases e;exact .inl ⟨c,rfl⟩
  ·subst e;exact .inr hp
 ·rcases bi4.mp h with h|h
  ·exact .inr h
  ·have:=bd7.mp h;cases this;exact .inl ⟨rfl,rfl⟩
theorem wV (ps:List (aB×PR))(k:aB)(x:PR):(k,x)∈dJ ps k x:=by
 unfold dJ;split
 ·rename_i h
  obtain⟨p,hp,e⟩:=bp5.mp h
  have e:p.1=k:=by simpa using e
  exact bi3.mpr ⟨p,hp,by rw[if_pos e,e]⟩
 ·exact bf8 _ (by simp)
theorem U7 {x:PR}(n:b≠k)(h:(b,u)∈ps):(b,u)∈dJ ps k x:=by
 unfold dJ;split
 ·exact bi3.mpr ⟨(b,u),h,by rw[if_neg n]⟩
 ·exact bi8 _ h
theorem aP1 {w:PR}(h:bQ ps k=some w):(k,w)∈ps:=by
 unfold bQ at h
 obtain⟨p,hp,e⟩:=Option.map_eq_some_iff.mp h
 have h1:=bm6 hp;have h2:p.1=k:=by have:=List.find?_some hp;simpa using this
 subst e h2;exact h1
theorem U8 (n:(ps.map (·.1)).Nodup)(h:(k,u)∈ps):bQ ps k=some u:=by
 induction ps with
 |nil=>cases h
 |cons p r ih=>
  rw[bf0,bh7]at n;unfold bQ;rw[bh8];rcases bd8.mp h with h|h
  ·subst h;simp
  ·have ne:¬p.1=k:=λe=>n.1 (by rw[e];exact bo9 (f:=(·.1)) h)
   rw[be4 ne];exact ih n.2 h
theorem aP2 (P:jG J)(n:(ps.map (·.1)).Nodup)(s:lE C ps)(c:lG C ps):lE (λb v=>C b v∨(b=k/\v=z)) (cD J ps k z)/\lG (λb v=>C b v∨(b=k/\v=z)) (cD J ps k z):=by
 unfold cD;cases e:bQ ps k with
 |none=>
  refine⟨λb v h=>?_,λb v h=>?_⟩
  ·rcases U6 h with⟨rfl,rfl⟩|h
   ·exact .inr ⟨rfl,rfl⟩
   ·exact .inl (s b v h)
  ·rcases h with h|⟨rfl,rfl⟩
   ·obtain⟨u,hu,l⟩:=c b v h
    have nb:b≠k:=λq=>by subst q;rw[U8 n hu]at e;cases e
    exact⟨u,U7 nb hu,l⟩
   ·exact⟨_,wV ps _ _,be2 _⟩
 |some w=>
  have hw:=aP1 e;refine⟨λb v h=>?_,λb v h=>?_⟩
  ·rcases U6 h with⟨rfl,rfl⟩|h
   ·rcases P.or w z with q|q
    ·show C b (J w z)∨_
     rw[q];exact .inl (s _ _ hw)
    ·exact .inr ⟨rfl,q⟩
   ·exact .inl (s b v h)
  ·rcases h with h|⟨rfl,rfl⟩
   ·obtain⟨u,hu,l⟩:=c b v h
    by_cases q:b=k
    ·subst q
     rw[U8 n hu]at e;cases e
     exact⟨_,wV ps _ _,bh2 (P.l _ _) l⟩
    ·exact⟨u,U7 q hu,l⟩
   ·exact⟨_,wV ps _ _,P.r w v⟩
theorem U9 (P:jG J)(v:PR):∀(qs:List (Nat×aB)) {ps:List (aB×PR)}{C:aB->PR->Prop},(ps.map (·.1)).Nodup->lE C ps->lG C ps->
  ((qs.foldl (λl q=>cD J l q.2 (pass v q.1)) ps).map (·.1)).Nodup/\lE (λb u=>C b u∨∃s,(s,b)∈qs/\u=pass v s) (qs.foldl (λl q=>cD J l q.2 (pass v q.1)) ps)/\lG (λb u=>C b u∨∃s,(s,b)∈qs/\u=pass v s) (qs.foldl (λl q=>cD J l q.2 (pass v q.1)) ps)
 |[],ps,C,n,s,c=>⟨n,λb u h=>.inl (s b u h),λb u h=>c b u (h.elim id λ⟨_,z,_⟩=>by cases z)⟩
 |q::r,ps,C,n,s,c=>by
  obtain⟨s1,c1⟩:=aP2 (k:=q.2) (z:=pass v q.1) P n s c
  obtain⟨h1,h2,h3⟩:=U9 P v r (wQ (J:=J) (k:=q.2) (z:=pass v q.1) n) s1 c1
  refine⟨h1,λb u h=>?_,λb u h=>?_⟩
  ·rcases h2 b u h with (h|⟨rfl,e⟩)|⟨t,ht,e⟩
   ·exact .inl h
   ·exact .inr ⟨q.1,bd4,e⟩
   ·exact .inr ⟨t,bd5 _ ht,e⟩
  ·refine h3 b u ?_
   rcases h with h|⟨t,ht,e⟩
   ·exact .inl (.inl h)
   ·rcases bd8.mp ht with z|z
    ·subst z;exact .inl (.inr ⟨rfl,e⟩)
    ·exact .inr ⟨t,z,e⟩
theorem V0 (P:jG J)(w:ag):∀(vs:List (aB×PR)) {ps:List (aB×PR)}{C:aB->PR->Prop},(ps.map (·.1)).Nodup->lE C ps->lG C ps->
  ((vs.foldl (cW w pass J) ps).map (·.1)).Nodup/\lE (λb u=>C b u∨∃a v s,(a,v)∈vs/\(s,b)∈after w a/\u=pass v s) (vs.foldl (cW w pass J) ps)/\lG (λb u=>C b u∨∃a v s,(a,v)∈vs/\(s,b)∈after w a/\u=pass v s) (vs.foldl (cW w pass J) ps)
 |[],ps,C,n,s,c=>⟨n,λb u h=>.inl (s b u h),λb u h=>c b u (h.elim id λ⟨_,_,_,z,_⟩=>by cases z)⟩
 |p::r,ps,C,n,s,c=>by
  obtain⟨n1,s1,c1⟩:=U9 P p.2 (after w p.1) n s c
  obtain⟨h1,h2,h3⟩:=V0 P w r n1 s1 c1
  refine⟨h1,λb u h=>?_,λb u h=>?_⟩
  ·rcases h2 b u h with (h|⟨t,ht,e⟩)|⟨a,v,t,hv,ht,e⟩
   ·exact .inl h
   ·exact .inr ⟨p.1,p.2,t,bd4,ht,e⟩
   ·exact .inr ⟨a,v,t,bd5 _ hv,ht,e⟩
  ·refine h3 b u ?_
   rcases h with h|⟨a,v,t,hv,ht,e⟩
   ·exact .inl (.inl h)
   ·rcases bd8.mp hv with z|z
    ·subst z;exact .inl (.inr ⟨t,ht,e⟩)
    ·exact .inr ⟨a,v,t,z,ht,e⟩
theorem aP3 {l:List Nat}(h:l≠[]):cH l=cH l.dropLast+one (l.getLast h):=by
 have e:cH (l.dropLast++[l.getLast h])=cH l.dropLast+one (l.getLast h):=by
  rw[T9];show _+(one (l.getLast h)+0)=_;rw[Nat.add_zero]
 rwa [List.dropLast_concat_getLast h]at e
noncomputable def vX (w:ag)(n:Nat)(b:aB)(v:PR):Prop:=v.2.length=n/\iP w v.2 (aQ w)=some b/\v.1=cH v.2
theorem V1 (P:jG J)(w:ag):∀n,((bK w pass J (0,[]) n).map (·.1)).Nodup/\lE (vX w n) (bK w pass J (0,[]) n)/\lG (vX w n) (bK w pass J (0,[]) n)
 |0=>⟨by simp[bK],λb v h=>(by
   have e:(b,v)=(aQ w,(0,[])):=bd7.mp h
   cases e;exact⟨rfl,rfl,rfl⟩),λb v ⟨h1,h2,h3⟩=>(by
   have e:v.2 = []:=bm7 h1;rw[e]at h2;cases h2
   exact⟨(0,[]),bd7.mpr rfl,bp2 _⟩)⟩
 |n+1=>by
  obtain⟨_,s0,c0⟩:=V1 P w n
  obtain⟨h1,h2,h3⟩:=V0 P w (bK w pass J (0,[]) n) (ps:=[]) (C:=λ_ _=>False) (by simp) (λ_ _ h=>by cases h) (λ_ _ h=>h.elim)
  refine⟨h1,λb u h=>?_,λb u ⟨g1,g2,g3⟩=>?_⟩
  ·rcases h2 b u h with z|⟨a,v,t,hv,ht,rfl⟩
   ·exact z.elim
   ·obtain⟨e1,e2,e3⟩:=s0 a v hv
    refine⟨by show (v.2++[t]).length=_;rw[be3,e1];rfl,?_,?_⟩
    ·show iP w (v.2++[t]) (aQ w)=_
     rw[wT,e2];exact (U5 w t a b).mpr ht
    ·show v.1+one t=cH (v.2++[t])
     rw[T9,e3];unfold cH;simp
  ·have nz:u.2≠[]:=λz=>by rw[z]at g1;cases g1
   have sp:u.2=u.2.dropLast++[u.2.getLast nz]:=(List.dropLast_concat_getLast nz).symm;rw[sp,wT]at g2;cases e:iP w u.2.dropLast (aQ w) with
   |none=>rw[e]at g2;cases g2
   |some a=>
    rw[e]at g2;have ht:=(U5 w _ a b).mp g2
    obtain⟨v,hv,lv⟩:=c0 a (cH u.2.dropLast,u.2.dropLast) ⟨by rw[List.length_dropLast,g1];rfl,e,rfl⟩
    obtain⟨x,hx,lx⟩:=h3 b (pass v (u.2.getLast nz)) (.inr ⟨a,v,_,hv,ht,rfl⟩)
    refine⟨x,hx,bh2 lx ?_⟩
    have:u.1=cH u.2.dropLast+one (u.2.getLast nz):=by rw[g3,aP3 nz]
    show v.1+_<=_;rw[this];exact Nat.add_le_add_right lv _
end
noncomputable def dC {β:Type}(J:β->β->β):Option β->β->Option β
 |none,z=>some z
 |some w,z=>some (J w z)
noncomputable def fW {β:Type}(J:β->β->β)(ps:List (aB×β)):Option β:=(ps.filter λp=>lit p.1).foldl (λacc p=>dC J acc p.2) none
section
variable {J:PR→PR→PR}
theorem V2 (P:jG J):∀(l:List (aB×PR)) (acc:Option PR),(∀v,l.foldl (λacc p=>dC J acc p.2) acc=some v->acc=some v∨∃b,(b,v)∈l)/\
  (∀u,(acc=some u∨∃b,(b,u)∈l)->∃v,l.foldl (λacc p=>dC J acc p.2) acc=some v/\v.1<=u.1)
 |[],acc=>⟨λv h=>.inl h,λu h=>h.elim (λe=>⟨u,e,be2 _⟩) λ⟨_,z⟩=>by cases z⟩
 |p::r,acc=>by
  obtain⟨h1,h2⟩:=V2 P r (dC J acc p.2)
  refine⟨λv h=>?_,λu h=>?_⟩
  ·rcases h1 v h with e|⟨b,hb⟩
   ·cases acc with
    |none=>
     have e:p.2=v:=bf6 e;exact .inr ⟨p.1,by rw[<- e];exact bd4⟩
    |some w=>
     have e:J w p.2=v:=bf6 e;rcases P.or w p.2 with q|q
     ·exact .inl (by rw[<- e,q])
     ·exact .inr ⟨p.1,by rw[<- e,q];exact bd4⟩
   ·exact .inr ⟨b,bd5 _ hb⟩
  ·rcases h with e|⟨b,hb⟩
   ·subst e
    obtain⟨v,hv,lv⟩:=h2 (J u p.2) (.inl rfl)
    exact⟨v,hv,bh2 lv (P.l u p.2)⟩
   ·rcases bd8.mp hb with z|z
    ·subst z
     cases acc with
     |none=>exact h2 u (.inl rfl)
     |some w=>
      obtain⟨v,hv,lv⟩:=h2 (J w u) (.inl rfl)
      exact⟨v,hv,bh2 lv (P.r w u)⟩
    ·exact h2 u (.inr ⟨b,z⟩)
theorem wW (P:jG J)(w:ag)(n:Nat):(∀v,fW J (bK w pass J (0,[]) n)=some v->v.2.length=n/\row w v.2 (aQ w)=true/\v.1=cH v.2)/\
  ∀l,l.length=n->row w l (aQ w)=true->∃v,fW J (bK w pass J (0,[]) n)=some v/\v.1<=cH l:=by
 obtain⟨_,s,c⟩:=V1 P w n
 obtain⟨h1,h2⟩:=V2 P ((bK w pass J (0,[]) n).filter λp=>lit p.1) none
 refine⟨λv h=>?_,λl hl hr=>?_⟩
 ·rcases h1 v h with z|⟨b,hb⟩
  ·cases z
  ·obtain⟨hb,lb⟩:=bn0.mp hb
   obtain⟨e1,e2,e3⟩:=s b v hb
   exact⟨e1,(wU w v.2 _).mpr ⟨b,e2,lb⟩,e3⟩
 ·obtain⟨b,e,lb⟩:=(wU w l _).mp hr
  obtain⟨u,hu,lu⟩:=c b (cH l,l) ⟨hl,e,rfl⟩
  obtain⟨v,hv,lv⟩:=h2 u (.inr ⟨b,bn0.mpr ⟨hu,lb⟩⟩)
  exact⟨v,hv,bh2 lv lu⟩
end
noncomputable def h9 (w:ag)(n:Nat):List Nat:=List.replicate n (2^w.length-1)
theorem V3 {x:Nat}:∀{l:List Nat},x∈l->x<=l.sum
 |[],h=>by cases h
 |y::r,h=>by
  rw[bg5];rcases bd8.mp h with rfl|h
  ·omega
  ·have:=V3 h;omega
theorem V4 (w:ag):∀(l:List Nat) (a:aB),row w l a=true->1<=cG w l.length a
 |[],a,h=>by show 1<=if lit a then 1 else 0;rw[if_pos (show lit a=true from h)];omega
 |s::r,a,h=>by
  unfold row at h;rw[bg6,bg6,bh3]at h;show 1<=cG w (r.length+1) a;rw[wO];have q:=V4 w r _ h.2;have m:(if kept (next w a s) then cG w r.length (next w a s) else 0)∈(List.range a.length).map λs=>if kept (next w a s) then cG w r.length (next w a s) else 0:=bi3.mpr ⟨s,bl1.mpr h.1.1,rfl⟩
  rw[if_pos h.1.2]at m;exact bh2 q (V3 m)
theorem V5:∀(l:List (aB×Nat)) (acc:Option Nat),l.foldl (λacc p=>dC (·+·) acc p.2) acc=if acc=none/\l = [] then none else some (acc.getD 0+(l.map (·.2)).sum)
 |[],none=>rfl
 |[],some v=>by rw[if_neg (by simp)];rfl
 |p::r,acc=>by
  rw[bq1,V5 r];cases acc with
  |none=>
   rw[if_neg (by simp[dC]),if_neg (by simp)];rw[bf0,bg5];show some (p.2+_)=some (0+(p.2+_));rw[bl8]
  |some v=>
   rw[if_neg (by simp[dC]),if_neg (by simp)];rw[bf0,bg5];show some ((v+p.2)+_)=some (v+(p.2+_));rw[Nat.add_assoc]
noncomputable def b8 (w:ag):Prop:=1<=w.length/\w.length<=2
theorem b8.two {w:ag}(o:b8 w):(∃a,w = [a])∨∃a b,w = [a,b]:=by
 obtain⟨h1,h2⟩:=o
 match w,h1,h2 with
 |[a],_,_=>exact .inl ⟨a,rfl⟩
 |[a,b],_,_=>exact .inr ⟨a,b,rfl⟩
 |[],h1,_=>exact absurd h1 (by decide)
 |_::_::_::_,_,h2=>exact absurd h2 (by simp)
noncomputable def d2 (w:ag)(a:aB):Prop:=a.length=2^w.length/\∀q∈a,q.1<2^w.length
theorem aP4 {w:ag}(o:b8 w)(bh bu ah:Nat):(w.length=1/\∃c:Bool,bO w bh bu ah=if c then bu ||| 1 else bu) ∨
  (w.length=2/\∃c d:Bool,bO w bh bu ah=if d then (if c then bu ||| 1 else bu) ||| 2 else if c then bu ||| 1 else bu):=by
 rcases o.two with⟨a,rfl⟩|⟨a,b,rfl⟩
 ·refine .inl ⟨rfl,decide (((has bh 0+has ah 0+(if 0<=1 then has bu (1-0) else 0):Nat):Int) >= a),?_⟩
  unfold bO jY;simp only[bh3];rfl
 ·refine .inr ⟨rfl,decide (((has bh 0+has ah 0+(if 0<=1 then has bu (1-0) else 0):Nat):Int) >= a),decide (((has bh 1+has ah 1+(if 1<=1 then has bu (1-1) else 0):Nat):Int) >= b),?_⟩
  unfold bO;simp only[jY,bh3];rfl
theorem pA {n:Nat}(h:n<2^2):n=0∨n=1∨n=2∨n=3:=by have:n<4:=h;omega
theorem pB {n:Nat}(h:n<2^1):n=0∨n=1:=by have:n<2:=h;omega
theorem nH {w:ag}(o:b8 w)(bh ah:Nat){bu:Nat}(h:bu<2^w.length):bO w bh bu ah<2^w.length/\(bO w bh bu ah=bu∨one bu+1<=one (bO w bh bu ah))/\one bu<=w.length:=by
 rcases aP4 o bh bu ah with⟨e,c,z⟩|⟨e,c,d,z⟩
 ·rw[e]at h ⊢
  rw[z];rcases pB h with rfl|rfl<;>cases c<;>decide
 ·rw[e]at h ⊢
  rw[z];rcases pA h with rfl|rfl|rfl|rfl<;>cases c<;>cases d<;>decide
theorem wX {w:ag}{a:aB}{ah n b:Nat}(hn:0<n)(e:bO w (a.getD b (0,false)).1 b ah=b):fV w a ah n b=b:=by
 obtain⟨m,rfl⟩:=Nat.exists_eq_succ_of_ne_zero (bl6 hn)
 show (if bO w (a.getD b (0,false)).1 b ah=b then b else _)=b;rw[if_pos e]
theorem wY {w:ag}{a:aB}{ah n b:Nat}(e:bO w (a.getD b (0,false)).1 b ah≠b):fV w a ah (n+1) b=fV w a ah n (bO w (a.getD b (0,false)).1 b ah):=by
 show (if bO w (a.getD b (0,false)).1 b ah=b then b else _)=_;rw[if_neg e]
theorem wZ {w:ag}(o:b8 w)(a:aB)(ah:Nat):∀(n:Nat) {b:Nat},b<2^w.length->fV w a ah n b<2^w.length
 |0,_,h=>h
 |n+1,b,h=>by
  by_cases e:bO w (a.getD b (0,false)).1 b ah=b
  ·rw[wX (Nat.succ_pos _) e];exact h
  ·rw[wY e];exact wZ o a ah n (nH o _ _ h).1
theorem lH {w:ag}(o:b8 w):d2 w (aQ w):=⟨bk6,λq h=>by rw[List.eq_of_mem_replicate h];exact bk8 _⟩
theorem sK {w:ag}(o:b8 w){a:aB}(h:d2 w a){s:Nat}(hs:s<2^w.length):d2 w (next w a s):=by
 refine⟨by unfold next;rw[be0,List.length_range];exact h.1,λq hq=>?_⟩;unfold next at hq
 obtain⟨ah,_,rfl⟩:=bi3.mp hq
 exact wZ o a ah _ hs
theorem nI {w:ag}{a:aB}{q:Nat×aB}(h:q∈after w a):q.1<a.length/\q.2=next w a q.1/\kept q.2=true:=by
 unfold after at h
 obtain⟨h1,h2⟩:=bn0.mp h
 obtain⟨s,hs,rfl⟩:=bi3.mp h1
 exact⟨bl1.mp hs,rfl,h2⟩
theorem x3 {w:ag}(o:b8 w){a:aB}(h:d2 w a){q:Nat×aB}(hq:q∈after w a):d2 w q.2:=by
 obtain⟨h1,h2,_⟩:=nI hq
 rw[h2];exact sK o h (by rw[<- h.1];exact h1)
theorem aP5 (w:ag)(a:aB):(after w a).length<=a.length:=by
 unfold after;refine bh2 (List.length_filter_le ..) ?_;rw[be0,List.length_range];exact be2 _
theorem lI {w:ag}(o:b8 w):2^w.length=2∨2^w.length=4:=by
 rcases o.two with⟨a,rfl⟩|⟨a,b,rfl⟩
 ·exact .inl rfl
 ·exact .inr rfl
theorem pC {α:Type}[DecidableEq α]:∀{l m:List α},l.Nodup->(∀x∈l,x∈m)->l.length<=m.length
 |[],_,_,_=>bp2 _
 |x::r,m,n,h=>by
  rw[bh7]at n
  have:=pC (m:=m.erase x) n.2 λy hy=>(List.mem_erase_of_ne (λe:y=x=>n.1 (by rw[<- e];exact hy))).mpr (h y (bd5 _ hy))
  rw[List.length_erase_of_mem (h x bd4)]at this
  have:0<m.length:=List.length_pos_of_mem (h x bd4)
  rw[bg2];omega
structure Closed (w:ag)(S:List aB):Prop where
 b:aQ w∈S
 go:∀a∈S,∀q∈after w a,q.2∈S
 len:S.length<=5000
structure lJ (w:ag)(Ks:List aB):Prop extends Closed w Ks where
 nd:Ks.Nodup
 wf:∀a∈Ks,d2 w a
noncomputable abbrev sub (x y:Nat):Prop:=x ||| y=y
theorem nJ {w:ag}(o:b8 w){n:Nat}(h:n<2^w.length):n<4:=by rcases lI o with e|e<;>omega
theorem jH {n:Nat}(h:n<4):n=0∨n=1∨n=2∨n=3:=by omega
theorem jI (x:Nat):sub x x:=Nat.or_self x
theorem aP6 {x y z:Nat}(h1:sub x y)(h2:sub y z):sub x z:=by
 show x ||| z=z
 rw[<- h2,<- Nat.or_assoc,h1]
theorem x4 {x y:Nat}(h1:sub x y)(h2:sub y x):x=y:=by
 have h2:y ||| x=x:=h2
 have h1:x ||| y=y:=h1
 rw[<- h1,Nat.or_comm,h2]
theorem sub_zero (x:Nat):sub 0 x:=Nat.zero_or x
theorem x5 {x y p:Nat}(hx:x<4)(hy:y<4)(hp:p<2)(h:sub x y):has x p<=has y p:=by
 have hp2:p=0∨p=1:=by omega
 rcases hp2 with rfl|rfl
 ·rcases jH hx with rfl|rfl|rfl|rfl<;>rcases jH hy with rfl|rfl|rfl|rfl<;>first|exact absurd h (by decide)|decide
 ·rcases jH hx with rfl|rfl|rfl|rfl<;>rcases jH hy with rfl|rfl|rfl|rfl<;>first|exact absurd h (by decide)|decide
theorem x6 {w:ag}(o:b8 w){x:Nat}(h:x<2^w.length):sub x (2^w.length-1):=by
 rcases o.two with⟨a,rfl⟩|⟨a,b,rfl⟩
 ·rcases pB h with rfl|rfl
  ·show sub 0 1;decide
  ·show sub 1 1;decide
 ·rcases pA h with rfl|rfl|rfl|rfl
  ·show sub 0 3;decide
  ·show sub 1 3;decide
  ·show sub 2 3;decide
  ·show sub 3 3;decide
theorem nK (w:ag):2^w.length-1<2^w.length:=Nat.sub_lt (bk8 _) (by decide)
theorem sL {w:ag}(o:b8 w){x:Nat}(h:x<2^w.length)(s:sub (2^w.length-1) x):x=2^w.length-1:=x4 (x6 o h) s
theorem V6 {c c':Bool}{x y:Nat}(hx:x<4)(hy:y<4)(h:sub x y)(hc:c=true->c'=true):sub (if c then x ||| 1 else x) (if c' then y ||| 1 else y):=by
 rcases jH hx with rfl|rfl|rfl|rfl<;>rcases jH hy with rfl|rfl|rfl|rfl<;>first|exact absurd h (by decide)|(cases c<;>cases c'<;>first|exact absurd (hc rfl) (by decide)|decide)
theorem aP7 {c c':Bool}{x y:Nat}(hx:x<4)(hy:y<4)(h:sub x y)(hc:c=true->c'=true):sub (if c then x ||| 2 else x) (if c' then y ||| 2 else y):=by
 rcases jH hx with rfl|rfl|rfl|rfl<;>rcases jH hy with rfl|rfl|rfl|rfl<;>first|exact absurd h (by decide)|(cases c<;>cases c'<;>first|exact absurd (hc rfl) (by decide)|decide)
theorem V7 {c:Bool}{x:Nat}(hx:x<4):(if c then x ||| 1 else x)<4:=by rcases jH hx with rfl|rfl|rfl|rfl<;>cases c<;>decide
noncomputable def cA (a:Int)(p bh bu ah:Nat):Bool:=decide (((has bh p+has ah p+has bu (1-p):Nat):Int) >= a)
theorem sM (a:Int)(bh bu ah:Nat):bO [a] bh bu ah=if cA a 0 bh bu ah then bu ||| 1 else bu:=by
 unfold bO jY cA;simp only[bh3];rfl
theorem sN (a b:Int)(bh bu ah:Nat):bO [a,b] bh bu ah=if cA b 1 bh bu ah then (if cA a 0 bh bu ah then bu ||| 1 else bu) ||| 2 else if cA a 0 bh bu ah then bu ||| 1 else bu:=by
 unfold bO cA;simp only[jY,bh3];rfl
theorem x8 {a:Int}{p bh bh' bu bu' ah ah':Nat}(hp:p<2)(h1:bh<4)(h1':bh'<4)(h2:bu<4)(h2':bu'<4)(h3:ah<4)(h3':ah'<4)(s1:sub bh bh')(s2:sub bu bu')(s3:sub ah ah')(h:cA a p bh bu ah=true):cA a p bh' bu' ah'=true:=by
 unfold cA at h ⊢;have h:=of_decide_eq_true h;have m1:=x5 h1 h1' hp s1;have m2:=x5 h3 h3' hp s3;have m3:=x5 (p:=1-p) h2 h2' (by omega) s2;exact bg0 (by omega)
theorem x9 {w:ag}(o:b8 w){bh bh' bu bu' ah ah':Nat}(h1:bh<2^w.length)(h1':bh'<2^w.length)(h2:bu<2^w.length)(h2':bu'<2^w.length)(h3:ah<2^w.length)(h3':ah'<2^w.length)(s1:sub bh bh')(s2:sub bu bu')(s3:sub ah ah'):sub (bO w bh bu ah) (bO w bh' bu' ah'):=by
 have g1:=nJ o h1;have g1':=nJ o h1';have g2:=nJ o h2;have g2':=nJ o h2';have g3:=nJ o h3;have g3':=nJ o h3';rcases o.two with⟨a,rfl⟩|⟨a,b,rfl⟩
 ·rw[sM,sM]
  exact V6 g2 g2' s2 (x8 (by decide) g1 g1' g2 g2' g3 g3' s1 s2 s3)
 ·rw[sN,sN]
  exact aP7 (V7 g2) (V7 g2') (V6 g2 g2' s2 (x8 (by decide) g1 g1' g2 g2' g3 g3' s1 s2 s3)) (x8 (by decide) g1 g1' g2 g2' g3 g3' s1 s2 s3)
theorem sO {w:ag}(o:b8 w)(bh ah:Nat){bu:Nat}(h:bu<2^w.length):sub bu (bO w bh bu ah):=by
 rcases o.two with⟨a,rfl⟩|⟨a,b,rfl⟩
 ·rw[sM]
  rcases pB h with rfl|rfl<;>cases cA a 0 bh _ ah<;>decide
 ·rw[sN]
  rcases pA h with rfl|rfl|rfl|rfl<;>cases cA a 0 bh _ ah<;>cases cA b 1 bh _ ah<;>decide
theorem V8 {w:ag}(o:b8 w)(a:aB)(ah:Nat):∀(n:Nat) {b:Nat},b<2^w.length->w.length+1<=n+one b->
  bO w (a.getD (fV w a ah n b) (0,false)).1 (fV w a ah n b) ah=fV w a ah n b/\sub b (fV w a ah n b)/\
  ∀g,(∀x,x<2^w.length->sub x g->sub (bO w (a.getD x (0,false)).1 x ah) g)->sub b g->sub (fV w a ah n b) g
 |0,b,hb,hm=>by
  have:=(nH o 0 0 hb).2.2
  omega
 |n+1,b,hb,hm=>by
  by_cases e:bO w (a.getD b (0,false)).1 b ah=b
  ·rw[wX (Nat.succ_pos _) e]
   exact⟨e,jI _,λg _ h=>h⟩
  ·rw[wY e]
   obtain⟨k1,k2,_⟩:=nH o (a.getD b (0,false)).1 ah hb
   have k2:=k2.resolve_left e
   obtain⟨h1,h2,h3⟩:=V8 o a ah n k1 (by omega)
   exact⟨h1,aP6 (sO o _ _ hb) h2,λg hg h=>h3 g hg (hg b hb h)⟩
noncomputable def eL (B:Nat->Nat)(k:Nat):Nat:=if k=0 then 0 else B (k-1)
noncomputable def eV (n ah:Nat)(B:Nat->Nat)(k:Nat):Nat:=if k+1<n then B (k+1) else ah
structure iQ (w:ag)(l:List Nat)(ah:Nat)(B:Nat->Nat):Prop where
 lt:∀k,k<l.length->B k<2^w.length
 sd:∀k (h:k<l.length),sub l[k] (B k)
 st:∀k,k<l.length->bO w (eL B k) (B k) (eV l.length ah B k)=B k
noncomputable def eM (w:ag)(l:List Nat):Prop:=∀s∈l,s<2^w.length
noncomputable def cU (w:ag)(l:List Nat):aB:=l.foldl (next w) (aQ w)
theorem xA (w:ag)(l:List Nat)(s:Nat):cU w (l++[s])=next w (cU w l) s:=by unfold cU;rw[bh9];rfl
theorem xB {w:ag}(o:b8 w){l:List Nat}(h:eM w l):d2 w (cU w l):=by
 have go:∀(n:Nat) {l:List Nat},l.length=n->eM w l->d2 w (cU w l):=by
  intro n
  induction n with
  |zero=>
   intro l e _;rw[bm7 e];exact lH o
  |succ n ih=>
   intro l e h;rcases List.eq_nil_or_concat l with rfl|⟨l',s,rfl⟩
   ·cases e
   ·rw[List.concat_eq_append]at h e ⊢
    rw[xA];rw[be3]at e;exact sK o (ih (by simpa using e) λx hx=>h x (bi8 _ hx)) (h s (bf8 _ bd4))
 exact go _ rfl h
theorem aP8 {w:ag}{a:aB}{s ah:Nat}(h:ah<a.length):(next w a s).getD ah (0,false)=jZ w a s ah:=by
 unfold next
 rw[bf5,bf4,List.getElem?_range h];rfl
structure mZ (w:ag)(l:List Nat)(ah:Nat)(q:Nat×Bool)(F:Nat->Nat):Prop where
 shut:iQ w l ah F
 le:∀G,iQ w l ah G->∀k,k<l.length->sub (F k) (G k)
 last:q.1=if l.length=0 then 0 else F (l.length-1)
 full:q.2=true↔∀k,k<l.length->F k=2^w.length-1
theorem iQ.less {w:ag}(o:b8 w){l:List Nat}{ah ah':Nat}{B:Nat->Nat}(h:iQ w l ah B)(h1:ah<2^w.length)(h2:ah'<2^w.length)(s:sub ah' ah):iQ w l ah' B:=by
 refine⟨h.lt,h.sd,λk hk=>?_⟩;have b0:eL B k<2^w.length:=by
  unfold eL;split
  ·exact bk8 _
  ·exact h.lt _ (by omega)
 have e:=h.st k hk;refine x4 ?_ (sO o _ _ (h.lt k hk));by_cases g:k+1<l.length
 ·unfold eV at e ⊢
  rw[if_pos g]at e ⊢;rw[e];exact jI _
 ·unfold eV at e ⊢
  rw[if_neg g]at e ⊢
  have:=x9 o b0 b0 (h.lt k hk) (h.lt k hk) h2 h1 (jI _) (jI _) s
  rwa [e]at this
theorem aP9 {w:ag}(o:b8 w){n:Nat}(rec':∀{l:List Nat}{ah:Nat},l.length<n->eM w l->ah<2^w.length->∃F,mZ w l ah ((cU w l).getD ah (0,false)) F){l:List Nat}(ao:l.length=n)(hm:eM w l){ah:Nat}(h:ah<2^w.length):∃F,mZ w l ah ((cU w l).getD ah (0,false)) F:=by
 rcases List.eq_nil_or_concat l with rfl|⟨l',s,rfl⟩
 ·refine⟨λ_=>0,⟨λk hk=>absurd hk (bq3 _),λk hk=>absurd hk (bq3 _),λk hk=>absurd hk (bq3 _)⟩,λG _ k hk=>absurd hk (bq3 _),?_,?_⟩
  ·show ((aQ w).getD ah (0,false)).1=0
   unfold aQ;rw[bf5,List.getElem?_replicate,if_pos h];rfl
  ·show ((aQ w).getD ah (0,false)).2=true↔_
   unfold aQ;rw[bf5,List.getElem?_replicate,if_pos h]
   exact⟨λ_ k hk=>absurd hk (bq3 _),λ_=>rfl⟩
 ·rw[List.concat_eq_append]at hm ⊢
  have hm':eM w l':=λx hx=>hm x (bi8 _ hx)
  have hs:s<2^w.length:=hm s (bf8 _ bd4);have ih:∀{b:Nat},b<2^w.length->∃F,mZ w l' b ((cU w l').getD b (0,false)) F:=λ{b} hb=>rec' (by rw[List.concat_eq_append,be3]at ao;have q:l'.length+1=n:=ao;omega) hm' hb
  have wf:=xB o hm';rw[xA,aP8 (by rw[wf.1];exact h)]
  obtain⟨p1,p2,p3⟩:=V8 o (cU w l') ah (w.length+1) hs (bm3 _ _)
  have bl:=wZ o (cU w l') ah (w.length+1) hs;generalize eb:fV w (cU w l') ah (w.length+1) s=b at p1 p2 p3 bl;have es:jZ w (cU w l') s ah=(b,b==(cU w l').length-1&&((cU w l').getD ((cU w l').length-1) (0,false)).2):=by unfold jZ;rw[eb]
  rw[es,wf.1]
  obtain⟨F,hF⟩:=ih bl
  have ln:(l'++[s]).length=l'.length+1:=by rw[be3];rfl
  have cut:∀{G x},iQ w (l'++[s]) ah G->x<2^w.length->sub x (G l'.length)->iQ w l' x G:=by
   intro G x hG hx sx;have gl:G l'.length<2^w.length:=hG.lt _ (by omega);have sh:iQ w l' (G l'.length) G:=by
    refine⟨λk hk=>hG.lt k (by omega),λk hk=>?_,λk hk=>?_⟩
    ·have:=hG.sd k (by omega)
     rwa [List.getElem_append_left hk]at this
    ·have e:=hG.st k (by omega)
     unfold eV at e ⊢;rw[if_pos (by omega)]at e;by_cases g:k+1<l'.length
     ·rw[if_pos g];exact e
     ·rw[if_neg g,show l'.length=k+1 by omega];exact e
   exact sh.less o gl hx sx
  let F':Nat->Nat:=λk=>if k<l'.length then F k else b
  have f1:∀{k},k<l'.length->F' k=F k:=λhk=>if_pos hk
  have f2:F' l'.length=b:=if_neg (bi7 _);have bh1:∀{k},k<=l'.length->eL F' k=eL F k:=λ{k} hk=>by
   unfold eL;by_cases g:k=0
   ·rw[if_pos g,if_pos g]
   ·rw[if_neg g,if_neg g];exact f1 (by omega)
  have bhl:eL F' l'.length=((cU w l').getD b (0,false)).1:=by
   rw[bh1 (be2 _),hF.last];rfl
  refine⟨F',⟨λk hk=>?_,λk hk=>?_,λk hk=>?_⟩,λG hG k hk=>?_,?_,?_⟩
  ·by_cases g:k<l'.length
   ·rw[f1 g];exact hF.shut.lt k g
   ·rw[show k=l'.length by omega,f2];exact bl
  ·by_cases g:k<l'.length
   ·rw[f1 g,List.getElem_append_left g];exact hF.shut.sd k g
   ·have:k=l'.length:=by omega
    subst this;rw[f2];simpa using p2
  ·by_cases g:k<l'.length
   ·rw[bh1 (by omega),f1 g]
    have e:=hF.shut.st k g;unfold eV at e ⊢;rw[if_pos (by omega)];by_cases g2:k+1<l'.length
    ·rw[f1 g2];rw[if_pos g2]at e;exact e
    ·rw[if_neg g2]at e
     rw[show k+1=l'.length by omega,f2];exact e
   ·have:k=l'.length:=by omega
    subst this;unfold eV;rw[if_neg (by omega),f2,bhl];exact p1
  ·have gl:G l'.length<2^w.length:=hG.lt _ (by omega)
   have bg:sub b (G l'.length):=p3 _ (λx hx sx=>by
    obtain⟨Fx,hx2⟩:=ih hx
    have cx:=cut hG hx sx;have el:=hx2.last;rw[el];have e:=hG.st l'.length (by omega);unfold eV at e;rw[if_neg (by omega)]at e;have m:sub (bO w (if l'.length=0 then 0 else Fx (l'.length-1)) x ah) (bO w (eL G l'.length) (G l'.length) ah):=by
     refine x9 o ?_ ?_ hx gl h h ?_ sx (jI _)
     ·split
      ·exact bk8 _
      ·exact hx2.shut.lt _ (by omega)
     ·unfold eL;split
      ·exact bk8 _
      ·exact hG.lt _ (by omega)
     ·unfold eL
      by_cases z:l'.length=0
      ·rw[if_pos z,if_pos z];exact jI _
      ·rw[if_neg z,if_neg z];exact hx2.le G cx _ (by omega)
    rwa [e]at m) (by
     have:=hG.sd l'.length (by omega)
     simpa using this)
   by_cases g:k<l'.length
   ·rw[f1 g];exact hF.le G (cut hG bl bg) k g
   ·rw[show k=l'.length by omega,f2];exact bg
  ·rw[ln,if_neg (by omega)]
   show b=F' (l'.length+1-1);rw[Nat.add_sub_cancel,f2]
  ·show (b==2^w.length-1&&((cU w l').getD (2^w.length-1) (0,false)).2)=true↔_
   rw[bg6];constructor
   ·rintro⟨h1,h2⟩
    have h1:b=2^w.length-1:=by simpa using h1
    rw[<- h1]at h2;intro k hk;by_cases g:k<l'.length
    ·rw[f1 g];exact hF.full.mp h2 k g
    ·rw[show k=l'.length by omega,f2];exact h1
   ·intro a
    have h1:b=2^w.length-1:=by have:=a l'.length (by omega);rwa [f2]at this
    refine⟨by simpa using h1,?_⟩;rw[<- h1];exact hF.full.mpr λk hk=>by have:=a k (by omega);rwa [f1 hk]at this
theorem V9 {w:ag}(o:b8 w){l:List Nat}(hm:eM w l){ah:Nat}(h:ah<2^w.length):∃F,mZ w l ah ((cU w l).getD ah (0,false)) F:=by
 have go:∀(n:Nat) {l:List Nat}{ah:Nat},l.length<n->eM w l->ah<2^w.length->∃F,mZ w l ah ((cU w l).getD ah (0,false)) F:=by
  intro n
  induction n with
  |zero=>exact λhl=>absurd hl (bq3 _)
  |succ n ih=>
   intro l ah hl hm h;exact aP9 o (n:=l.length) (λhl2=>ih (be6 hl2 (Nat.le_of_lt_succ hl))) rfl hm h
 exact go _ (Nat.lt_succ_self _) hm h
theorem xC {w:ag}(o:b8 w):∀(r:List Nat) {l:List Nat},eM w l->(row w r (cU w l)=true↔eM w r/\(∀m,m<r.length->kept (cU w (l++r.take (m+1)))=true)/\lit (cU w (l++r))=true)
 |[],l,_=>by
  rw[bm1]
  exact⟨λh=>⟨(λ_ z=>nomatch z),λm z=>absurd z (bq3 _),h⟩,λh=>h.2.2⟩
 |s::r,l,hl=>by
  have wl:=(xB o hl).1;show (decide (s<(cU w l).length)&&kept (next w (cU w l) s)&&row w r (next w (cU w l) s))=true↔_;rw[<- xA,bg6,bg6,bh3,wl];constructor
  ·rintro⟨⟨h1,h2⟩,h3⟩
   have hl2:eM w (l++[s]):=λx hx=>(bi4.mp hx).elim (hl x) λz=>by rw[bd7.mp z];exact h1
   obtain⟨q1,q2,q3⟩:=(xC o r hl2).mp h3
   refine⟨λx hx=>(bd8.mp hx).elim (λe=>by rw[e];exact h1) (q1 x),λm hm=>?_,by rw[List.append_assoc]at q3;exact q3⟩;cases m with
   |zero=>exact h2
   |succ m=>
    have:=q2 m (by rw[bg2]at hm;omega)
    rw[List.append_assoc]at this;exact this
  ·rintro⟨q1,q2,q3⟩
   have h1:=q1 s bd4;have hl2:eM w (l++[s]):=λx hx=>(bi4.mp hx).elim (hl x) λz=>by rw[bd7.mp z];exact h1
   refine⟨⟨h1,q2 0 (by rw[bg2];omega)⟩,(xC o r hl2).mpr ⟨λx hx=>q1 x (bd5 _ hx),λm hm=>?_,by rw[List.append_assoc];exact q3⟩⟩
   have:=q2 (m+1) (by rw[bg2];omega)
   rw[List.append_assoc];exact this
theorem aQ0 {w:ag}{a:aB}(h:a.length=2^w.length):kept a=(a.getD (2^w.length-1) (0,false)).2:=by unfold kept;rw[h]
theorem xD {w:ag}(o:b8 w){l:List Nat}(hm:eM w l):row w l (aQ w)=true↔∀B,iQ w l 0 B->∀k,k<l.length->B k=2^w.length-1:=by
 have z:=xC o l (l:=[]) (λ_ z=>nomatch z);rw[List.nil_append]at z;refine Iff.trans z ?_
 obtain⟨F,hF⟩:=V9 o hm (bk8 w.length)
 have litF:lit (cU w l)=true↔∀k,k<l.length->F k=2^w.length-1:=hF.full
 constructor
 ·rintro⟨_,_,h⟩ B hB k hk
  have:=hF.le B hB k hk
  rw[litF.mp h k hk]at this;exact sL o (hB.lt k hk) this
 ·intro h
  have all:=h F hF.shut;refine⟨hm,λm hm2=>?_,litF.mpr all⟩;rw[List.nil_append];have hm1:eM w (l.take (m+1)):=λx hx=>hm x (List.mem_of_mem_take hx)
  obtain⟨G1,h1⟩:=V9 o hm1 (nK w)
  rw[aQ0 (xB o hm1).1];refine h1.full.mpr λk hk=>?_
  have tl:(l.take (m+1)).length=m+1:=by rw[List.length_take];omega
  rw[tl]at hk
  let G:Nat->Nat:=λk=>if k<m+1 then G1 k else 2^w.length-1
  have g1:∀{k},k<m+1->G k=G1 k:=λhk=>if_pos hk
  have g2:∀{k},¬k<m+1->G k=2^w.length-1:=λhk=>if_neg hk
  have gl:∀k,k<l.length->G k<2^w.length:=λk hk=>by
   by_cases g:k<m+1
   ·rw[g1 g];exact h1.shut.lt k (by rw[tl];exact g)
   ·rw[g2 g];exact nK w
  have bl:∀{k},k<=l.length->eL G k<2^w.length:=λ{k} hk=>by
   unfold eL;split
   ·exact bk8 _
   ·exact gl _ (by omega)
  have hG:iQ w l 0 G:=by
   refine⟨gl,λk hk=>?_,λk hk=>?_⟩
   ·by_cases g:k<m+1
    ·rw[g1 g]
     have:=h1.shut.sd k (by rw[tl];exact g)
     rwa [List.getElem_take]at this
    ·rw[g2 g];exact x6 o (hm _ (List.getElem_mem hk))
   ·by_cases g:k<m+1
    ·have e:=h1.shut.st k (by rw[tl];exact g)
     have eb:eL G k=eL G1 k:=by
      unfold eL;by_cases z:k=0
      ·rw[if_pos z,if_pos z]
      ·rw[if_neg z,if_neg z];exact g1 (by omega)
     rw[tl]at e;refine x4 ?_ (sO o _ _ (gl k hk));have e1:bO w (eL G k) (G k) (eV (m+1) (2^w.length-1) G1 k)=G k:=by rw[eb,g1 g];exact e
     have a1:eV (m+1) (2^w.length-1) G1 k<2^w.length:=by
      unfold eV;by_cases y:k+1<m+1
      ·rw[if_pos y];exact h1.shut.lt _ (by rw[tl];exact y)
      ·rw[if_neg y];exact nK w
     have a2:eV l.length 0 G k<2^w.length:=by
      unfold eV;by_cases y:k+1<l.length
      ·rw[if_pos y];exact gl _ y
      ·rw[if_neg y];exact bk8 _
     have sa:sub (eV l.length 0 G k) (eV (m+1) (2^w.length-1) G1 k):=by
      unfold eV;by_cases y1:k+1<m+1
      ·rw[if_pos y1,if_pos (by omega),g1 y1];exact jI _
      ·rw[if_neg y1]
       split
       ·exact x6 o (gl _ (by assumption))
       ·exact sub_zero _
     have bk:=bl (bp0 hk)
     have:=x9 o bk bk (gl k hk) (gl k hk) a2 a1 (jI _) (jI _) sa
     rwa [e1]at this
    ·rw[g2 g]
     have:=sO o (eL G k) (eV l.length 0 G k) (nK w)
     exact sL o (nH o _ _ (nK w)).1 this
  have:=hF.le G hG k (by omega)
  rw[all k (by omega)]at this
  have:=sL o (gl k (by omega)) this
  rwa [g1 hk]at this
theorem W0 {w:ag}(o:b8 w){bh bu ah:Nat}(hb:bu<2^w.length):bO w bh bu ah=bu↔∀p,p<w.length->cA (w.getD p 0) p bh bu ah=true->has bu p=1:=by
 rcases o.two with⟨a,rfl⟩|⟨a,b,rfl⟩
 ·rw[sM]
  have e:∀Q:Nat->Prop,(∀p,p<[a].length->Q p)↔Q 0:=λQ=>⟨λh=>h 0 (by show 0<1;decide),λh p hp=>by have:p<1:=hp;rw[show p=0 by omega];exact h⟩
  rw[e];show _↔(cA a 0 bh bu ah=true->_);rcases pB hb with rfl|rfl<;>cases cA a 0 bh _ ah<;>decide
 ·rw[sN]
  have e:∀Q:Nat->Prop,(∀p,p<[a,b].length->Q p)↔Q 0/\Q 1:=λQ=>⟨λh=>⟨h 0 (by show 0<2;decide),h 1 (by show 1<2;decide)⟩,λh p hp=>by
   have:p<2:=hp
   have:p=0∨p=1:=by omega
   rcases this with rfl|rfl
   ·exact h.1
   ·exact h.2⟩
  rw[e];show _↔(cA a 0 bh bu ah=true->_)/\(cA b 1 bh bu ah=true->_);rcases pA hb with rfl|rfl|rfl|rfl<;>cases cA a 0 bh _ ah<;>cases cA b 1 bh _ ah<;>decide
noncomputable def mk2 (a b:Bool):Nat:=(if a then 1 else 0)+if b then 2 else 0
end Strip
namespace PP
open PySem L2
noncomputable def iR:b7:=λxs Q=>∃m p:Nat,xs = [.int m,.int p]/\m<4/\p<2/\Q (.int (Strip.has m p))
noncomputable def W5:aY:=cL (q2 (eT λi j=>.int (Builtin.bitAnd i j)) (q2 (RI (λ_ j=>0<=j) λi j=>.int (i/2^j.toNat)) (aC 0) (aC 1)) (qC (.int 1)))
theorem aQ1 {m p:Nat}(hm:m<4)(hp:p<2):Builtin.bitAnd ((m:Int)/2^((p:Int).toNat)) 1=(Strip.has m p:Int):=by
 have h1:m=0∨m=1∨m=2∨m=3:=by omega
 have h2:p=0∨p=1:=by omega
 rcases h1 with rfl|rfl|rfl|rfl<;>rcases h2 with rfl|rfl<;>decide +kernel
theorem aQ2:∀xs Q,iR xs Q->W5 { nx:=λ_=>Q .non,rt:=Q } (bF ["mask","place"] xs):=by
 rintro _ Q ⟨m,p,rfl,hm,hp,q⟩;refine⟨_,rfl,_,rfl,_,_,rfl,rfl,by show (0:Int)<=(p:Int);omega,_,_,rfl,rfl,?_⟩;have e:PV.int (Builtin.bitAnd ((m:Int)/2^((p:Int).toNat)) 1) = .int (Strip.has m p):=by rw[aQ1 hm hp]
 refine⟨trivial,?_⟩;show Q _;exact (congrArg Q e).mpr q
noncomputable def lK:b7:=λxs Q=>∃m:Nat,xs = [.int m]/\m<4/\Q (.int (Strip.one m))
noncomputable def W6:aY:=cL (q2 (eT λi j=>.int (i+j)) (aP iR (aE (aC 0) (aE (qC (.int 0)) aM))) (aP iR (aE (aC 0) (aE (qC (.int 1)) aM))))
theorem aQ3:∀xs Q,lK xs Q->W6 { nx:=λ_=>Q .non,rt:=Q } (bF ["mask"] xs):=by
 rintro _ Q ⟨m,rfl,hm,q⟩;refine⟨_,rfl,m,0,rfl,hm,by decide,_,rfl,m,1,rfl,hm,by decide,_,_,rfl,rfl,?_⟩;have e:PV.int ((Strip.has m 0:Int)+(Strip.has m 1:Int)) = .int (Strip.one m):=by unfold Strip.one;rw[Int.natCast_add]
 refine⟨trivial,?_⟩;show Q _;exact (congrArg Q e).mpr q
end PP
namespace L2
open PySem PySem.Spec PyProof.Rows
section
variable {X:Cx}{ai:List (az×Obj)}{σ:St}{H:Hp}{s:ay}{a:az}{tg l e:Expr}{tl t:TE}
noncomputable def xE (t:TE):TE:=λσ H Q=>t σ H λv H1=>∃a kvs,v = .ref a/\H1 a=some (.dA kvs)/\∀o,Q v (upd H1 a (.frz o (.dA kvs)))
theorem W7 (h:PE X e t):PE X e (xE t):=by
 intro ai s σ H Q I hq;refine aO (h ai s σ H _ I hq) λv s1 h1=>?_
 obtain⟨x,H1,I1,r1,a,kvs,ex,ea,q⟩:=h1
 obtain⟨es,ep,ys,⟨o,e1,e2,e3⟩,_⟩:=aJ8 I1 ea
 exact⟨x,_,I1.frozeD ea rfl e1,r1,q _⟩
theorem aQ4 {o:Obj}{kvs:List (List (Int×Bool)×V)}(I:aA X ai σ H s)(h:H a=some (.frz o (.dA kvs))):∃es ep ys,o.ExactDict/\o.data = .dict es ep/\s.heap.get? a=some o/\(a==sysModules)=false/\Paired (vU H) ys (kvs.map (·.1))/\aN ys (es.toList.map (·.key)):=by
 obtain⟨e0,z,far,xs,rel,o',es,ep,e1,e2,e3,e4,nd⟩:=(show bL X.prog X.w H s.heap a (.frz o (.dA kvs)) from I.hok a _ h)
 rw[e0]at e1;cases e1;refine⟨es,ep,xs.map λq=>V.ref q.2.1,e2,e3,e0,far,?_,?_⟩
 ·clear e4 nd h z
  induction rel with
  |nil=>exact .nil
  |cons r rs ih=>exact .cons ⟨_,rfl,r.2.1⟩ ih
 ·rw[e4]
  clear rel e4 nd
  induction xs with
  |nil=>exact .nil
  |cons q qs ih=>exact .cons rfl ih
noncomputable def W8 (tl:TE):TI:=λσ H R=>tl σ H λx H1=>∃a o kvs,x = .ref a/\H1 a=some (.frz o (.dA kvs))/\∀ys,Paired (vU H1) ys (kvs.map (·.1))->R (N8 a o ys) H1
theorem aQ5 (hl:PE X l tl):PI X tg l (W8 tl):=by
 intro ai s σ H R I h;refine aO (hl ai s σ H _ I h) λv s1 h1=>?_
 obtain⟨x,H1,I1,r1,a,o,kvs,e,ha,q⟩:=h1
 subst e;cases r1
 obtain⟨es,ep,ys,e2,e3,e1,far,pk,vl⟩:=aQ4 I1 ha
 have hf:H1 s1.heap.objs.size=none:=I1.hok.fresh (be2 _);refine Raw.made far ⟨o,e1,e2,e3⟩ ?_;refine⟨s1.heap.objs.size,[s1.heap.objs.size],_,_,H1,rfl,I1.kept (t':=s1.toks) λb o e=>bd3 _ e,aC6 a _ ⟨e2,e3⟩ vl,⟨_,bf1 _ rfl,rfl,rfl⟩,λb hb=>?_,q ys pk⟩;obtain rfl:b=s1.heap.objs.size:=by simpa using hb
 exact I1.fpOk (be2 _) hf
theorem aQ6 (hc:X.calm=true)(hu:X.A.units+6<cLine):dN X (.builtin "min") (λxs H Q=>∃x y a c ns ms,xs = [x,y]/\PP.aG X.K (λ_=>True) H x (gY a ns)/\PP.aG X.K (λ_=>True) H y (gY c ms)/\Q (if HT.cY (c::ms) (a::ns)=true then y else x) H):=by
 intro ai s σ H xs us Q I r h
 obtain⟨x,y,a,c,ns,ms,rfl,q1,q2,q⟩:=h
 obtain⟨u,w',rfl,r1,r2⟩:=tR r
 refine aK9 (lt:=HT.cY (c::ms) (a::ns)) (I.ok.hd hc) (λh k Q E old hq=>?_) λh k old=>⟨_,H,I.kept (t':=k) old,?_,q⟩
 ·exact aI9 (A:=X.A.in1) (by show X.A.units+1+4<cLine;omega) (I.kept (t':=k) old) q2 q1 r2 r1 hq
 ·split
  ·exact r2
  ·exact r1
end
end L2
namespace PP
open PySem L2
section
variable {X:Cx}{σ:St}{H:Hp}{D:dX}{Q':VK}{te:aF}{e a b:Expr}{ta tb:aF}{tr:bX}{pos p2 p3:Pos}{R:It→Hp→Prop}
noncomputable def sP (te:aF):aF:=λρ Q=>te ρ λx g=>∃ps,x = .dA ps/\g = .fr/\flats (ps.map (·.2))=true/\Q (.fA ps) .fr
theorem aQ7 (h:LE X (sP te) σ H Q'):xE (LE X te) σ H Q':=by
 obtain⟨W,ρ,Q,px,q,k⟩:=h
 refine⟨W,ρ,_,px,q,?_⟩;rintro v H1 x g s r ⟨ps,rfl,rfl,f,q⟩;cases r with
 |@dA a kvs _ m e ek r=>
  refine⟨a,kvs,rfl,e,λo=>k _ _ _ .fr (λb u hb=>?_) (.fA bH ek ((r.flat (M':=λ_=>False) f).keep (.upd e rfl λb z=>z.elim))) q⟩;have nb:b≠a:=λz=>by have m:H a=none:=m;rw[z,m]at hb;cases hb
  rw[aJ nb];exact s b u hb
theorem nL (h:QE X e te):QE X e (sP te):=bV (W7 h) λ_ _ _=>aQ7
noncomputable def pD (i:Nat)(te:aF):aY:=λD ρ=>te ρ λx g=>g = .fr/\((∃ps,x = .dA ps/\flats (ps.map (·.2))=true)∨∃ps,x = .dB ps/\flats (ps.map (·.2))=true)/\D.nx (ρ.set i (some (.own x)))
theorem aQ8 {i:Nat}(h:LS X (pD i te) D σ H):kI (LE X te) (dM i) D σ H:=by
 obtain⟨W,ρ,D',px,q,k⟩:=h
 refine⟨W,ρ,_,px,q,?_⟩;rintro v H1 x g s r ⟨rfl,o,q⟩
 obtain⟨a,rfl,m,w⟩:∃a,v = .ref a/\H a=none/\∀M',gV X.K M' H1 a x:=by
  rcases o with⟨ps,rfl,f⟩|⟨ps,rfl,f⟩
  ·cases r with
   |dA m e q r=>exact⟨_,rfl,m,λ_=>⟨_,e,q,r.flat f⟩⟩
  ·cases r with
   |dB m e q r=>exact⟨_,rfl,m,λ_=>⟨_,e,q,r.flat f⟩⟩
 exact k.nx _ _ H1 _ (Ev.own s m) (px.setOwn s m (w _)) q
theorem lL {i:Nat}{x:Str}(hN:X.N.Nodup)(he:QE X e te)(hi:X.N[i]? = some x:=by rfl)(hx:gR X.env.scope x:=by first|exact Or.inl rfl|exact Or.inr rfl)(hs:swapsWith e (some (.Name x p2)) pos.line X.env=pure false:=by rfl)(hf:X.fn x=true∨X.env.scope.names.lookup x=some .local:=by first|exact .inl rfl|exact .inr rfl) :
  QS X (.Assign [.Name x p2] e pos) (pD i te):=eD (o6 hN hi hx he hs hf) λ_ _ _=>aQ8
noncomputable def xF (j i:Nat):aY:=λD ρ=>∃ps,ρ[j]? = some (some (.own (.dA ps)))/\D.nx ((ρ.set j (some (.sh true (.fA ps)))).set i (some (.sh true (.fA ps))))
theorem aQ9 {K:ad}{H0:Hp}{W:az->Prop}{ρ:bT}{i:Nat}{a:az}{o:Obj}{ps:List (List (Int×Bool)×PV)}{kvs:List (List (Int×Bool)×V)}(p:PX K H0 W σ ρ H)(hi:ρ[i]? = some (some (.own (.dA ps))))(ha:σ[i]? = some (some (.ref a)))(wa:W a)(e0:H a=some (.dA kvs))(r:aG K (Ms H0 (mG W a) true) (upd H a (.frz o (.dA kvs))) (.ref a) (.fA ps)):PX K H0 (mG W a) σ (ρ.set i (some (.sh true (.fA ps)))) (upd H a (.frz o (.dA kvs))):=by
 obtain⟨w0,_⟩:=p.wm a wa
 have kp:∀g,fC (Ms H0 W g) (Ms H0 (mG W a) g) H (upd H a (.frz o (.dA kvs))):=λg=>.upd e0 rfl λb m=>⟨jQ wa m,J9 m⟩
 refine⟨by rw[bn1];exact p.len,λb u e=>by rw[aJ (λz=>by rw[z,w0]at e;cases e)];exact p.same _ _ e,λb z=>?_,λj m h=>?_,λj k y' z b h1 h2 h3 h4=>?_⟩
 ·obtain⟨h1,o2,h2,h3⟩:=p.wm b z.1
  exact⟨h1,o2,by rw[aJ z.2];exact h2,h3⟩
 ·rcases gF h with⟨rfl,hl,e⟩|⟨hne,h⟩
  ·cases e
   exact⟨_,ha,r⟩
  ·obtain⟨u,e,q⟩:=p.sl j m h
   refine⟨u,e,?_⟩;cases m with
   |sh g y=>exact aG.keep (kp g) q
   |own y=>
    obtain⟨b,e1,e2,q⟩:=q
    have hb:b≠a:=λz=>by
     subst e1;rw[z]at e;exact hne (p.dis j i _ _ a h hi e ha)
    exact⟨b,e1,⟨e2,hb⟩,q.keep (kp true) λo z=>by rw[aJ hb];exact z⟩
   |kp g c ks=>exact⟨⟨q.1.1.keep (.upd e0 rfl λb m=>m.elim),q.1.2⟩,q.2.upd e0 rfl⟩
 ·rcases gF h1 with⟨_,_,e⟩|⟨_,h1⟩
  ·cases e
  ·rcases gF h2 with⟨_,_,e⟩|⟨_,h2⟩
   ·cases e
   ·exact p.dis j k _ _ b h1 h2 h3 h4
theorem aR0 {i j:Nat}(h:LS X (xF j i) D σ H):kI (xE (d5 j)) (dM i) D σ H:=by
 obtain⟨W,ρ,D',px,⟨ps,hj,q⟩,k⟩:=h
 obtain⟨v,ev,a,rfl,wa,kvs,e0,ek,r⟩:=px.sl j _ hj
 refine⟨_,ev,a,kvs,rfl,e0,λo=>?_⟩;have r1:aG X.K (Ms X.H₀ (mG W a) true) (upd H a (.frz o (.dA kvs))) (.ref a) (.fA ps):=.fA bH ek (r.keep (.upd e0 rfl λb m=>⟨jQ (g:=true) wa m,J9 (g:=true) m⟩));exact k.nx (mG W a) _ _ _ (λb u e n _=>⟨by rw[aJ (λz=>n (by rw[z];exact wa))];exact e,λz=>n z.1⟩) ((aQ9 px hj ev wa e0 r1).setSh r1) q
theorem xG (j:Nat){i:Nat}{x y:Str}(hN:X.N.Nodup)(he:PE X (.Name y p3) (d5 j):=by exact pv _)(hi:X.N[i]? = some x:=by rfl)(hx:gR X.env.scope x:=by first|exact Or.inl rfl|exact Or.inr rfl)(hs:swapsWith (.Name y p3) (some (.Name x p2)) pos.line X.env=pure false:=by rfl)(hf:X.fn x=true∨X.env.scope.names.lookup x=some .local:=by first|exact .inl rfl|exact .inr rfl) :
  QS X (.Assign [.Name x p2] (.Name y p3) pos) (xF j i):=eD (o6 hN hi hx (W7 he) hs hf) λ_ _ _=>aR0
noncomputable def sQ (te:aF):eU:=λρ Q=>te ρ λx _=>∃ps:List (List (Int×Bool)×PV),x = .fA ps/\Q (ps.map λp=>.tup (p.1.map λq=>.tup [.int q.1,.bl q.2])) true
theorem aR1 (h:LI X (sQ te) σ H R):W8 (LE X te) σ H R:=by
 obtain⟨W,ρ,Q,px,q,k⟩:=h
 refine⟨W,ρ,_,px,q,?_⟩;rintro v H1 x g s r ⟨ps,rfl,q⟩;cases r with
 |@fA a o kvs _ e ek r=>
  have px1:=px.mono s;have noW:∀{b:az}{u:HO},H1 b=some u->dP u=false->¬W b:=λ{b u} e m z=>by
   obtain⟨_,w,e2,m2⟩:=px1.wm b z
   rw[e]at e2;cases e2;rw[m]at m2;cases m2
  refine⟨a,o,kvs,rfl,e,λys pk=>k _ _ _ _ s ?_ q⟩;have ll:=pk.length;have lk:=mL ek;rw[be0]at ll;refine⟨λW' H' i ev hi=>⟨⟨_,(ev _ _ e (noW e rfl) rfl).1⟩,by rw[be0]at hi;omega⟩,λW' H' i v H2 ev y hi=>?_,λW' H' ev=>⟨⟨_,(ev _ _ e (noW e rfl) rfl).1⟩,by rw[be0];omega⟩⟩
  obtain⟨rfl,y⟩:=y
  refine⟨aH.refl _,?_⟩
  obtain⟨key,hkey,q2,rfl,hq2⟩:=Q2 pk y
  rw[ek,bf4]at hkey;cases e2:ps[i]? with
  |none=>rw[e2]at hkey;cases hkey
  |some pp=>
   rw[e2]at hkey;have e3:pp.1=key:=bf6 hkey;refine⟨.tup (pp.1.map λq=>.tup [.int q.1,.bl q.2]),by rw[bf4,e2];rfl,?_⟩;rw[e3];exact R3 (hq2.keeps λb xs e=>(ev _ _ e (noW e rfl) rfl).1)
theorem nM {tg l:Expr}(hl:QE X l te):QI X tg l (sQ te):=oQ (aQ5 hl) λ_ _ _=>aR1
noncomputable abbrev W9 (ta tb:aF):aF:=q2 (eT λi j=>.int (Builtin.bitOr i j)) ta tb
theorem aR2 (ha:QE X a ta)(hb:QE X b tb):QE X (.BinOp a .BitOr b pos) (W9 ta tb):=fR ak3 qW ha hb
noncomputable def sR:List PV->(PV->Prop)->Prop:=λxs Q=>∃(a c:Int) (ns ms:ag),xs = [gY a ns,gY c ms]/\Q (if HT.cY (c::ms) (a::ns)=true then gY c ms else gY a ns)
theorem aR3:fG X sR (λxs H Q=>∃x y a c ns ms,xs = [x,y]/\aG X.K (λ_=>True) H x (gY a ns)/\aG X.K (λ_=>True) H y (gY c ms)/\Q (if HT.cY (c::ms) (a::ns)=true then y else x) H):=by
 rintro H vs xs Q Q' r ⟨a,c,ns,ms,rfl,q⟩ k
 obtain⟨v,w,rfl,r1,r2⟩:=r.two
 refine⟨v,w,a,c,ns,ms,rfl,r1,r2,k _ _ _ (aH.refl _) ?_ q⟩;split
 ·exact r2.flat (sB _ _)
 ·exact r1.flat (sB _ _)
theorem aR4 (B:Bt X.mg)(hc:X.calm=true)(hu:X.A.units+6<cLine)(ha:QA X [a,b] tr)(hg:Gl X "min":=by rfl)(he:starEach [a,b] X.env=(false,eval a X.env)::starEach [b] X.env:=by rfl)(hpl:(backTo pos (starEach [b] X.env)).any (·.1)=false:=by rfl):QE X (.Call (.Name "min" p2) [a,b] [] pos) (aP sR tr):=
 oT (aQ6 hc hu) aR3 hg B.min PyProof.Rows.boot_min ha (he:=he) (hpl:=hpl)
end
open Strip (aB b8 d2)
open Core (d9 si)
theorem aR5 {b:Bool}{x:PV}{P:Prop}(h:(Slot.sh b x).tag = .rd):P:=by cases b<;>cases h
noncomputable def ki (a:aB):List (Int×Bool):=a.map λq=>((q.1:Int),q.2)
theorem xH:∀{a b:aB},ki a=ki b->a=b
 |[],[],_=>rfl
 |[],_::_,h=>by cases h
 |_::_,[],h=>by cases h
 |x::r,y::t,h=>by
  injection h with h1 h2
  injection h1 with h3 h4
  rw[xH h2,show x=y from Prod.ext (Int.ofNat.inj h3) h4]
noncomputable abbrev bE (a:aB):PV:=jE (ki a)
noncomputable def dS (p:Nat×aB):PV:=.tup [.int p.1,bE p.2]
noncomputable def fX (q:Nat×Bool):PV:=.tup [.int q.1,.bl q.2]
theorem nN (a:aB):kS (bE a)=some (a.map fX):=by
 show some ((ki a).map _)=_;unfold ki;rw[bi6];rfl
theorem xI (a:aB):mH (bE a)=some a.length:=by
 show some ((ki a).map _).length=_;unfold ki;rw[be0,be0]
theorem pE {a:aB}{b:Nat}(h:b<a.length):L2.atI (a.map fX) (b:Int)=some (fX (a.getD b (0,false))):=by
 refine tY ?_;rw[bf4,bf3 h,bf5,bf3 h];rfl
theorem aR6 {a:aB}(h:0<a.length):L2.atI (a.map fX) (-1)=some (fX (a.getD (a.length-1) (0,false))):=by
 have ne:a≠[]:=λz=>by rw[z]at h;cases h
 obtain⟨l,x,rfl⟩:∃l x,a=l++[x]:=⟨a.dropLast,a.getLast ne,(List.dropLast_concat_getLast ne).symm⟩
 rw[bg4];refine (L2.tZ (l.map fX) (fX x)).trans ?_;rw[be3];simp
theorem X0 (a:aB):flats (a.map fX)=true:=by
 induction a with
 |nil=>rfl
 |cons x r ih=>show (flat (fX x)&&flats (r.map fX))=true;rw[ih];rfl
theorem pF (a:aB):flat (bE a)=true:=by
 show flats ((ki a).map _)=true;have e:((ki a).map λq=>PV.tup [.int q.1,.bl q.2])=a.map fX:=by unfold ki;rw[bi6];rfl
 rw[e];exact X0 a
theorem X1 (p:Nat×aB):flat (dS p)=true:=by
 show (flat (.int p.1)&&(flat (bE p.2)&&true))=true;rw[pF];rfl
theorem sS (l:List (Nat×aB)):flats (l.map dS)=true:=by
 induction l with
 |nil=>rfl
 |cons x r ih=>show (flat (dS x)&&flats (r.map dS))=true;rw[ih,X1];rfl
noncomputable def nO:b7:=λxs Q=>∃x ws,∃bh bu ah:Nat,xs = [x,.int bh,.int bu,.int ah]/\d9 x ws/\b8 ws/\bh<2^ws.length/\bu<2^ws.length/\ah<2^ws.length/\Q (.int (Strip.bO ws bh bu ah:Nat))
noncomputable def X2:aY:=(bC (cR 4 (aC 2))
 (bC (i9 (vK (aC 0)) (kX 5 6)
  (dG (bN (qGe (iL (iL (aP iR (aE (aC 1) (aE (aC 5) aM))) (aP iR (aE (aC 3) (aE (aC 5) aM)))) (aP iR (aE (aC 2) (aE (oP (qC (.int 1)) (aC 5)) aM)))) (aC 6)))
   (cR 4 (W9 (aC 4) (L7 (qC (.int 1)) (aC 5)))) dF))
 (rB 4)))
theorem xJ {w:ag}(o:b8 w){n:Nat}(h:n<2^w.length):n<4:=by rcases Strip.lI o with e|e<;>omega
theorem aR7 {l p:Nat}(hl:l<4)(hp:p<2):Builtin.bitOr (l:Int) (1*2^((p:Int)).toNat)=((l ||| (1 <<< p):Nat):Int):=by
 have h1:l=0∨l=1∨l=2∨l=3:=by omega
 have h2:p=0∨p=1:=by omega
 rcases h1 with rfl|rfl|rfl|rfl<;>rcases h2 with rfl|rfl<;>decide +kernel
theorem aR8 {l p:Nat}(hl:l<4)(hp:p<2):l ||| (1 <<< p)<4:=by
 have h1:l=0∨l=1∨l=2∨l=3:=by omega
 have h2:p=0∨p=1:=by omega
 rcases h1 with rfl|rfl|rfl|rfl<;>rcases h2 with rfl|rfl<;>decide +kernel
theorem aR9:∀xs Q,nO xs Q->X2 { nx:=λ_=>Q .non,rt:=Q } (bF ["wants","behind","burning","ahead","lit","place","want"] xs):=by
 rintro _ Q ⟨x,ws,bh,bu,ah,rfl,hx,ow,h1,h2,h3,q⟩;have h1:=xJ ow h1;have h2:=xJ ow h2;have h3:=xJ ow h3;refine⟨_,rfl,trivial,_,rfl,intz ws,hx.symm,aR5,λi ρ=>∃lit:Nat,∃y5 y6,ρ = [some (.sh (flat x) x),si bh,si bu,si ah,si lit,y5,y6]/\lit<4/\Strip.jY ws bh bu ah i (ws.drop i) lit=Strip.bO ws bh bu ah,⟨bu,none,none,rfl,h2,rfl⟩,?_,?_⟩
 ·rintro i z ρ hz ⟨lit,y5,y6,rfl,hl,e⟩
  have hi:i<(intz ws).length:=by
   have:=(bf7.mp hz).1
   rwa [rY]at this
  have hi2:i<ws.length:=by rwa [be0]at hi
  have hw:(intz ws)[i]? = some (.int ws[i]):=by rw[bf4,bf3 hi2];rfl
  rw[vJ hw]at hz;cases hz;have p2:i<2:=by have:=ow.2;omega
  refine⟨_,_,rfl,?_⟩;have c1:((1:Int)-(i:Int))=((1-i:Nat):Int):=by omega
  refine⟨_,rfl,_,rfl,bh,i,rfl,h1,p2,_,rfl,_,rfl,ah,i,rfl,h3,p2,_,_,rfl,rfl,_,rfl,_,rfl,_,_,rfl,rfl,bu,1-i,by rw[<- c1];rfl,h2,by omega,_,_,rfl,rfl,_,rfl,_,_,rfl,rfl,_,rfl,?_⟩;have dr:ws.drop i=ws[i]::ws.drop (i+1):=List.drop_eq_getElem_cons hi2;rw[dr]at e;unfold Strip.jY at e;rw[if_pos (show i<=1 by omega)]at e;have ce:((Strip.has bh i:Int)+(Strip.has ah i:Int)+(Strip.has bu (1-i):Int))=((Strip.has bh i+Strip.has ah i+Strip.has bu (1-i):Nat):Int):=by omega
  show if decide ((Strip.has bh i:Int)+(Strip.has ah i:Int)+(Strip.has bu (1-i):Int) >= ws[i])=true then _ else _
  rw[ce];by_cases g:((Strip.has bh i+Strip.has ah i+Strip.has bu (1-i):Nat):Int) >= ws[i]
  ·rw[if_pos g]at e
   rw[bg0 g];refine cC ⟨_,rfl,_,rfl,_,_,rfl,rfl,⟨by omega,by omega,by decide⟩,_,_,rfl,rfl,trivial,?_⟩
   exact⟨lit ||| (1 <<< i),_,_,by rw[<- aR7 hl p2];rfl,aR8 hl p2,e⟩
  ·rw[if_neg g]at e
   rw[be4 g];exact bJ ⟨lit,_,_,rfl,hl,e⟩
 ·rintro ρ ⟨lit,y5,y6,rfl,hl,e⟩
  have e0:ws.drop (jV (intz ws)).length = []:=List.drop_eq_nil_of_le (by rw[rY,be0];exact be2 _);rw[e0]at e;have e:lit=_:=e;refine⟨_,rfl,trivial,?_⟩;show Q (.int (lit:Int));rw[e];exact q
noncomputable def pG:b7:=λxs Q=>∃x ws a,∃s ah:Nat,xs = [x,bE a,.int s,.int ah]/\d9 x ws/\b8 ws/\d2 ws a/\s<2^ws.length/\ah<2^ws.length/\Q (fX (Strip.jZ ws a s ah))
noncomputable def X3:aY:=(bC (cR 4 (aC 2))
 (bC (cR 5 (aP nO (aE (aC 0) (aE (d4 (d4 (aC 1) (aC 4)) (qC (.int 0))) (aE (aC 4) (aE (aC 3) aM))))))
 (bC (rC (bN (mP (aC 5) (aC 4)))
  (bC (cR 4 (aC 5))
  (cR 5 (aP nO (aE (aC 0) (aE (d4 (d4 (aC 1) (aC 4)) (qC (.int 0))) (aE (aC 4) (aE (aC 3) aM))))))))
 (bC (cR 6 (oP (aP e9 (aE (aC 1) aM)) (qC (.int 1))))
 (cL (fE (aE (aC 4) (aE (qZ (iM (aC 4) (aC 6)) (d4 (d4 (aC 1) (aC 6)) (qC (.int 1)))) aM))))))))
theorem X4 {w:ag}{a:aB}(h:d2 w a){b:Nat}(hb:b<2^w.length):(a.getD b (0,false)).1<2^w.length:=by
 rw[<- h.1]at hb;rw[bf5,bf3 hb];exact h.2 _ (List.getElem_mem hb)
theorem aS0:∀xs Q,pG xs Q->X3 { nx:=λ_=>Q .non,rt:=Q } (bF ["wants","answer","seeds","ahead","burning","more","whole"] xs):=by
 rintro _ Q ⟨x,ws,a,s,ah,rfl,hx,ow,wf,h1,h2,q⟩;have wl:=wf.1;refine⟨_,rfl,trivial,?_⟩;refine⟨_,rfl,_,rfl,_,rfl,_,_,_,nN a,rfl,pE (by rw[wl];exact h1),_,_,_,rfl,rfl,rfl,_,rfl,_,rfl,x,ws,(a.getD s (0,false)).1,s,ah,rfl,hx,ow,X4 wf h1,h1,h2,trivial,?_⟩;have fa:flat (bE a)=true:=pF a;refine⟨λm ρ=>∃b:Nat,ρ = [some (.sh (flat x) x),some (.sh (flat (bE a)) (bE a)),si s,si ah,si b,si (Strip.bO ws (a.getD b (0,false)).1 b ah),none]/\b<2^ws.length/\ws.length+1<=m+Strip.one b/\Strip.fV ws a ah m b=Strip.fV ws a ah (ws.length+1) s,⟨ws.length+1,s,rfl,h1,by omega,rfl⟩,?_⟩;rintro m ρ ⟨b,rfl,hb,hm,e⟩
 obtain⟨k1,k2,k3⟩:=Strip.nH ow (a.getD b (0,false)).1 ah hb
 have mp:0<m:=by omega
 refine⟨_,rfl,_,rfl,.inl ⟨_,_,rfl,rfl,_,rfl,?_⟩⟩;by_cases g:Strip.bO ws (a.getD b (0,false)).1 b ah=b
 ·rw[show (if true=true then !decide (((Strip.bO ws (a.getD b (0,false)).1 b ah:Nat):Int)=(b:Int)) else decide (((Strip.bO ws (a.getD b (0,false)).1 b ah:Nat):Int)=(b:Int)))=false by rw[if_pos rfl,g,bg0 rfl];rfl]
  rw[Strip.wX mp g]at e;refine bJ ?_;have w0:0<a.length:=by rw[wl];exact bk8 _
  have c1:((a.length:Int)-1)=((a.length-1:Nat):Int):=by omega
  refine⟨_,rfl,_,_,rfl,xI a,_,_,rfl,rfl,trivial,?_⟩;have es:Strip.jZ ws a s ah=(b,b==a.length-1&&(a.getD (a.length-1) (0,false)).2):=by unfold Strip.jZ;rw[<- e]
  rw[es]at q;refine⟨_,rfl,_,rfl,_,rfl,.inl ⟨_,_,rfl,rfl,_,rfl,?_⟩⟩;show if (if false=true then !decide ((b:Int)=(a.length:Int)-1) else decide ((b:Int)=(a.length:Int)-1))=true then _ else _
  rw[if_neg be9,c1];by_cases d:b=a.length-1
  ·rw[bg0 (show ((b:Nat):Int)=((a.length-1:Nat):Int) by rw[d])]
   refine cC ⟨_,rfl,_,rfl,_,_,_,nN a,by show PV.int ((a.length:Int)-1)=_;rw[c1],pE (by omega),_,_,_,rfl,rfl,rfl,by show 2<=1000;decide,rfl,trivial,?_⟩;rw[show (b==a.length-1&&(a.getD (a.length-1) (0,false)).2)=(a.getD (a.length-1) (0,false)).2 by rw[d];simp]at q;exact q
  ·rw[be4 (show ¬((b:Nat):Int)=((a.length-1:Nat):Int) by omega)]
   refine bJ ⟨by show 2<=1000;decide,rfl,trivial,?_⟩;rw[show (b==a.length-1&&(a.getD (a.length-1) (0,false)).2)=false by rw[show (b==a.length-1)=false by simpa using d];rfl]at q;exact q
 ·rw[show (if true=true then !decide (((Strip.bO ws (a.getD b (0,false)).1 b ah:Nat):Int)=(b:Int)) else decide (((Strip.bO ws (a.getD b (0,false)).1 b ah:Nat):Int)=(b:Int)))=true by rw[if_pos rfl,be4 (λz=>g (Int.natCast_inj.mp z))];rfl]
  obtain⟨m',rfl⟩:=Nat.exists_eq_succ_of_ne_zero (bl6 mp)
  rw[show m'.succ=m'+1 from rfl,Strip.wY g]at e;have k2:=k2.resolve_left g;refine cC ⟨_,rfl,trivial,?_⟩;refine⟨_,rfl,_,rfl,_,rfl,_,_,_,nN a,rfl,pE (by rw[wl];exact k1),_,_,_,rfl,rfl,rfl,_,rfl,_,rfl,x,ws,(a.getD (Strip.bO ws (a.getD b (0,false)).1 b ah) (0,false)).1,_,ah,rfl,hx,ow,X4 wf k1,k1,h2,trivial,?_⟩
  exact⟨m',Nat.lt_succ_self _,_,rfl,k1,by omega,e⟩
noncomputable def pH:b7:=λxs Q=>∃x ws a,∃s:Nat,xs = [x,bE a,.int s]/\d9 x ws/\b8 ws/\d2 ws a/\s<2^ws.length/\Q (bE (Strip.next ws a s))
noncomputable def X5:aY:=(cL (aP L8 (aE (iA (kW (aP e9 (aE (aC 1) aM))) [none,some 0,some 1,some 2] (fQ 0) gG (aP pG (aE (aC 1) (aE (aC 2) (aE (aC 3) (aE (aC 0) aM)))))) aM)))
theorem aS1 (a:aB):bE a = .tup (a.map fX):=by
 show PV.tup ((ki a).map _)=_;unfold ki;rw[bi6];rfl
theorem aS2:∀xs Q,pH xs Q->X5 { nx:=λ_=>Q .non,rt:=Q } (bF ["wants","answer","seeds"] xs):=by
 rintro _ Q ⟨x,ws,a,s,rfl,hx,ow,wf,h1,q⟩;have wl:=wf.1;have al:a.length<=4:=by rcases Strip.lI ow with e|e<;>omega
 refine⟨_,rfl,_,_,rfl,xI a,_,rfl,by omega,by omega,by rw[fH];omega,λi acc=>acc=((List.range i).map (Strip.jZ ws a s)).map fX,rfl,?_,?_⟩
 ·rintro i z acc hz rfl
  have hi:i<a.length:=by
   have:=(bf7.mp hz).1
   rw[fH]at this;omega
  rw[rD (by omega)]at hz;cases hz;refine⟨_,rfl,_,rfl,_,rfl,_,rfl,x,ws,a,s,i,by rw[Int.zero_add];rfl,hx,ow,wf,h1,by omega,trivial,?_⟩;dsimp only;rw[List.range_succ,bg4,bg4];rfl
 rintro acc rfl;have e:(gW 0 ((a.length:Int)).toNat).length=a.length:=by rw[fH];exact bk2 _
 rw[e];refine⟨⟨_,_,rfl,rfl,X0 _,?_⟩,λns z=>by cases z⟩;refine⟨trivial,?_⟩
 have:=aS1 (Strip.next ws a s)
 rw[this]at q;exact q
open Strip (aB b8 d2 Closed lJ)
open Core (d9 si)
section
variable {β:Type}
noncomputable def dR (r:β->PV)(ps:List (aB×β)):List (List (Int×Bool)×PV):=ps.map λp=>(ki p.1,r p.2)
theorem X6 (a k:aB):decide (ki a=ki k)=decide (a=k):=decide_eq_decide.mpr ⟨xH,λe=>by rw[e]⟩
theorem gN (r:β->PV)(k:aB):∀ps:List (aB×β),d6 (dR r ps) (ki k)=(Strip.bQ ps k).map r
 |[]=>rfl
 |p::ps=>by
  have ih:=gN r k ps;unfold d6 dR Strip.bQ at ih ⊢;rw[bf0,bh8,bh8,X6];cases decide (p.1=k) with
  |true=>rfl
  |false=>exact ih
theorem aS3 (r:β->PV)(k:aB)(ps:List (aB×β)):((dR r ps).any λp=>decide (p.1=ki k))=ps.any λp=>decide (p.1=k):=by
 unfold dR;rw[List.any_map];congr 1
 funext p
 exact X6 p.1 k
theorem xK (r:β->PV)(k:aB)(x:β)(ps:List (aB×β)):fJ (dR r ps) (ki k) (r x)=dR r (Strip.dJ ps k x):=by
 unfold fJ Strip.dJ;rw[aS3];cases ps.any λp=>decide (p.1=k) with
 |true=>
  rw[if_pos rfl,if_pos rfl];unfold dR;rw[bi6,bi6];refine bi2 λp _=>?_
  show (if ki p.1=ki k then (ki p.1,r x) else (ki p.1,r p.2))=_;by_cases e:p.1=k
  ·rw[if_pos (by rw[e])]
   show _=(ki (if p.1=k then (p.1,x) else p).1,r (if p.1=k then (p.1,x) else p).2);rw[if_pos e]
  ·rw[if_neg (λz=>e (xH z))]
   show _=(ki (if p.1=k then (p.1,x) else p).1,r (if p.1=k then (p.1,x) else p).2);rw[if_neg e]
 |false=>
  rw[if_neg be9,if_neg be9];unfold dR;rw[bg4];rfl
theorem lM (r:β->PV)(ps:List (aB×β)):(dR r ps).length=ps.length:=be0 _
end
noncomputable def rF (l:List (Nat×aB)):PV:=.fL (l.map dS)
noncomputable def cI (ws:ag)(Ks:List aB):List (aB×List (Nat×aB)):=Ks.map λa=>(a,Strip.after ws a)
theorem pI {ws:ag}{k:aB}:∀{Ks:List aB},Strip.bQ (cI ws Ks) k=if k∈Ks then some (Strip.after ws k) else none
 |[]=>rfl
 |a::r=>by
  have ih:=pI (ws:=ws) (k:=k) (Ks:=r);unfold Strip.bQ cI at ih ⊢;rw[bf0,bh8];by_cases e:a=k
  ·subst e
   rw[show decide (a=a)=true from bg0 rfl,if_pos bd4];rfl
  ·rw[show decide ((a,Strip.after ws a).1=k)=false from be4 e]
   refine ih.trans ?_;by_cases m:k∈r
   ·rw[if_pos m,if_pos (bd5 _ m)]
   ·rw[if_neg m,if_neg (λz=>(bd8.mp z).elim (λz=>e z.symm) m)]
theorem aS4 {ws:ag}{k:aB}{Ks:List aB}(h:k∉Ks):Strip.dJ (cI ws Ks) k (Strip.after ws k)=cI ws (Ks++[k]):=by
 have e:((cI ws Ks).any λp=>decide (p.1=k))=false:=by
  rw[bq5];intro z
  obtain⟨p,hp,z⟩:=bp5.mp z
  obtain⟨a,ha,rfl⟩:=bi3.mp hp
  exact h ((of_decide_eq_true z:a=k)▸ha)
 unfold Strip.dJ;rw[e,if_neg be9];unfold cI;rw[bg4];rfl
noncomputable def lN:b7:=λxs Q=>∃x ws,xs = [x,bE (Strip.aQ ws)]/\d9 x ws/\b8 ws/\(∃S,Closed ws S)/\∀Ks,lJ ws Ks->Q (.dA (dR rF (cI ws Ks)))
noncomputable def X7:aY:=(bC (pD 2 (qC (.dA [])))
 (bC (uN 3 (mE (aE (aC 1) aM)))
 (bC (rC (mI (aC 3))
  (bC (uP 3 4)
  (dG (bN (nC true (aC 4) (aC 2))) (bC (cR 5 (iA (kW (aP e9 (aE (aC 4) aM))) [none,some 0,some 4] (fQ 0) gG (fE (aE (aC 0) (aE (aP pH (aE (aC 1) (aE (aC 2) (aE (aC 0) aM)))) aM)))))
   (bC (w9 2 (aC 4) (nB (iA (mJ (aC 5)) [none] (fQ 0) (mI (d4 (d4 (d4 (aC 0) (qC (.int 1))) (uV (qC (.int 1)))) (qC (.int 1)))) (aC 0))))
   (uO 3 (iA (mJ (iD (aC 2) (aC 4))) [none,none] (kX 0 1) gG (aC 1))))) dF)))
 (rB 2))))
noncomputable def iE (ws:ag)(a:aB):List (Nat×aB):=(List.range a.length).map λs=>(s,Strip.next ws a s)
theorem aS5:∀xs Q,lN xs Q->X7 { nx:=λ_=>Q .non,rt:=Q } (bF ["wants","begin","following","waiting","answer","pairs"] xs):=by
 rintro _ Q ⟨x,ws,rfl,hx,ow,⟨S,cl⟩,q⟩;have fb:flat (bE (Strip.aQ ws))=true:=pF _;refine⟨rfl,.inl ⟨[],rfl,rfl⟩,?_⟩;have f1:flats [bE (Strip.aQ ws)]=true:=by show (flat (bE (Strip.aQ ws))&&true)=true;rw[fb];rfl
 refine⟨_,rfl,by show 1<=1000;decide,f1,rfl,f1,?_⟩
 refine⟨λm ρ=>∃Ks wl y4 y5,ρ = [some (.sh (flat x) x),some (.sh (flat (bE (Strip.aQ ws))) (bE (Strip.aQ ws))),some (.own (.dA (dR rF (cI ws Ks)))),some (.own (.lst (wl.map bE))),y4,y5]/\Ks.Nodup/\(∀a∈Ks,a∈S/\d2 ws a)/\(∀a∈wl,a∈S/\d2 ws a)/\
  (Strip.aQ ws∈Ks∨Strip.aQ ws∈wl)/\(∀a∈Ks,∀p∈Strip.after ws a,p.2∈Ks∨p.2∈wl)/\m=5*(S.length-Ks.length)+wl.length/\wl.length<=4*Ks.length+1,⟨_,[],[Strip.aQ ws],none,none,rfl,bk9,λ_ h=>(nomatch h),λa h=>by rw[bd7.mp h];exact⟨cl.b,Strip.lH ow⟩,.inr bd4,λ_ h=>(nomatch h),rfl,by show 1<=1;decide⟩,?_⟩
 rintro m ρ ⟨Ks,wl,y4,y5,rfl,nd,k1,k2,k3,k4,rfl,wl5⟩;have kl:=Strip.pC nd λa h=>(k1 a h).1
 have sl:=cl.len;refine⟨_,rfl,_,rfl,?_⟩;dsimp only;rcases List.eq_nil_or_concat wl with rfl|⟨wl',a,rfl⟩
 ·refine bJ ?_
  have g:lJ ws Ks:=⟨⟨k3.resolve_right (λz=>by cases z),λa ha p hp=>(k4 a ha p hp).resolve_right (λz=>by cases z),by omega⟩,nd,λa ha=>(k1 a ha).2⟩
  exact⟨_,rfl,trivial,q Ks g⟩
 rw[List.concat_eq_append]at k2 k3 k4 wl5 ⊢
 obtain⟨aS,aW⟩:=k2 a (bf8 _ bd4)
 have al:a.length<=4:=by have:=aW.1;rcases Strip.lI ow with e|e<;>omega
 have a0:0<a.length:=by rw[aW.1];exact bk8 _
 have ne:(!((wl'++[a]).map bE).isEmpty)=true:=by
  cases wl'<;>rfl
 show if (!((wl'++[a]).map bE).isEmpty)=true then _ else _
 rw[ne];have k2':∀b∈wl',b∈S/\d2 ws b:=λb hb=>k2 b (bi8 _ hb)
 have len1:(wl'++[a]).length=wl'.length+1:=by rw[be3];rfl
 rw[len1]at wl5;refine cC ⟨wl'.map bE,bE a,by rw[bg4];rfl,?_⟩;refine⟨_,rfl,_,rfl,(Strip.bQ (cI ws Ks) a).map rF,.inl ⟨dR rF (cI ws Ks),ki a,rfl,rfl,(gN rF a _).symm⟩,_,rfl,?_⟩;dsimp only;rw[if_pos rfl,pI];by_cases hk:a∈Ks
 ·rw[if_pos hk]
  refine bJ ⟨_,by rw[len1];omega,Ks,wl',_,_,rfl,nd,k1,k2',?_,λb hb p hp=>?_,rfl,by omega⟩
  ·rcases k3 with z|z
   ·exact .inl z
   ·rcases bi4.mp z with z|z
    ·exact .inr z
    ·rw[bd7.mp z];exact .inl hk
  ·rcases k4 b hb p hp with z|z
   ·exact .inl z
   ·rcases bi4.mp z with z|z
    ·exact .inr z
    ·rw[bd7.mp z];exact .inl hk
 rw[if_neg hk];have nd2:(Ks++[a]).Nodup:=List.nodup_append.mpr ⟨nd,bh7.mpr ⟨(λz=>by cases z),bk9⟩,λb hb c hc e=>hk (by rw[<- bd7.mp hc,<- e];exact hb)⟩;have kl2:(Ks++[a]).length<=S.length:=Strip.pC nd2 λb hb=>by
  rcases bi4.mp hb with z|z
  ·exact (k1 b z).1
  ·rw[bd7.mp z];exact aS
 have len2:(Ks++[a]).length=Ks.length+1:=by rw[be3];rfl
 refine cC ⟨_,rfl,_,_,rfl,xI a,_,rfl,by omega,by omega,by rw[fH];omega,λi acc=>acc=((List.range i).map λs=>(s,Strip.next ws a s)).map dS,rfl,?_,?_⟩
 ·rintro i z acc hz rfl
  have hi:i<a.length:=by
   have:=(bf7.mp hz).1
   rw[fH]at this;omega
  rw[rD (by omega)]at hz;cases hz;refine⟨_,rfl,_,rfl,_,rfl,_,rfl,x,ws,a,i,by rw[Int.zero_add];rfl,hx,ow,aW,by rw[<- aW.1];exact hi,by show 2<=1000;decide,?_,trivial,?_⟩
  ·show (flat (.int _)&&(flat (bE (Strip.next ws a i))&&true))=true
   rw[pF];rfl
  ·dsimp only
   rw[List.range_succ,bg4,bg4];congr 1;show [PV.tup [PV.int (0+(i:Int)),bE (Strip.next ws a i)]] = [PV.tup [PV.int (i:Int),bE (Strip.next ws a i)]];rw[Int.zero_add]
 rintro acc rfl;have e:(gW 0 ((a.length:Int)).toNat).length=a.length:=by rw[fH];exact bk2 _
 rw[e];refine⟨trivial,?_⟩;have pl:(iE ws a).length<=4:=by unfold iE;rw[be0,List.length_range];exact al
 refine⟨_,rfl,_,rfl,(λz=>by cases z),by show ((iE ws a).map dS).length<=_;rw[be0];omega,λi acc=>acc=(((iE ws a).take i).filter λp=>Strip.kept p.2).map dS,rfl,?_,?_⟩
 ·rintro i z acc hz rfl
  have hz:((iE ws a).map dS)[i]? = some z:=hz;rw[bf4]at hz;cases hp:(iE ws a)[i]? with
  |none=>rw[hp]at hz;cases hz
  |some p=>
   rw[hp]at hz;cases hz;have tk:(iE ws a).take (i+1)=(iE ws a).take i++[p]:=by rw[bk3,hp];rfl
   obtain⟨s,hs,rfl⟩:=bi3.mp (bi9 hp)
   have hs:=bl1.mp hs;have nw:d2 ws (Strip.next ws a s):=Strip.sK ow aW (by rw[<- aW.1];exact hs);have n0:0<(Strip.next ws a s).length:=by rw[nw.1];exact bk8 _
   refine⟨_,rfl,_,_,_,rfl,rfl,rfl,_,rfl,_,_,_,nN _,rfl,aR6 n0,_,_,_,rfl,rfl,rfl,_,rfl,?_⟩;dsimp only;have ek:(Strip.next ws a s).getD ((Strip.next ws a s).length-1) (0,false)=(Strip.next ws a s).getD ((Strip.next ws a s).length-1) (0,false):=rfl;show if Strip.kept (Strip.next ws a s)=true then _ else _
   rw[tk,bn3];cases hk2:Strip.kept (Strip.next ws a s) with
   |true=>
    refine cC ⟨_,rfl,?_,?_⟩
    ·show Nw (Slot.sh (false||flat (dS (s,Strip.next ws a s))) _).tag _
     rw[X1];trivial
    ·have fc:[(s,Strip.next ws a s)].filter (λp=>Strip.kept p.2) = [(s,Strip.next ws a s)]:=by
      show (match Strip.kept (Strip.next ws a s) with|true=>_|false=>_)=_;rw[hk2];rfl
     rw[bg4,fc];rfl
   |false=>
    refine bJ ?_;have fc:[(s,Strip.next ws a s)].filter (λp=>Strip.kept p.2) = []:=by
     show (match Strip.kept (Strip.next ws a s) with|true=>_|false=>_)=_;rw[hk2];rfl
    rw[fc,bm1]
 rintro acc rfl;have ea:((iE ws a).take ((iE ws a).map dS).length).filter (λp=>Strip.kept p.2)=Strip.after ws a:=by
  rw[be0,bj9];rfl
 have ea:((iE ws a).take (((List.range a.length).map λs=>(s,Strip.next ws a s)).map dS).length).filter (λp=>Strip.kept p.2)=Strip.after ws a:=ea;rw[ea];refine⟨_,rfl,rfl,sS _,_,rfl,_,rfl,ki a,rfl,trivial,by rw[lM];unfold cI;rw[be0];omega,?_⟩;have ep:fJ (dR rF (cI ws Ks)) (ki a) (.fL ((Strip.after ws a).map dS))=dR rF (cI ws (Ks++[a])):=(xK rF a (Strip.after ws a) _).trans (by rw[aS4 hk]);rw[ep];have af:=Strip.aP5 ws a;have hg:d6 (dR rF (cI ws (Ks++[a]))) (ki a)=some (rF (Strip.after ws a)):=by rw[gN,pI,if_pos (bf8 _ bd4)];rfl
 refine⟨_,rfl,_,rfl,_,rfl,rF (Strip.after ws a),.inl ⟨_,ki a,rfl,rfl,hg.symm⟩,_,rfl,(λz=>sS _),by rw[be0];omega,λi acc=>acc=((Strip.after ws a).take i).map λp=>bE p.2,rfl,?_,?_⟩
 ·rintro i z acc hz rfl
  rw[bf4]at hz;cases hp:(Strip.after ws a)[i]? with
  |none=>rw[hp]at hz;cases hz
  |some p=>
   rw[hp]at hz;cases hz;refine⟨_,_,rfl,_,rfl,?_,?_⟩
   ·show Nw (Slot.sh (false||flat (bE p.2)) _).tag _
    rw[pF];trivial
   ·dsimp only
    rw[bk3,hp,bg4];rfl
 rintro acc rfl;have et:(Strip.after ws a).take ((Strip.after ws a).map dS).length=Strip.after ws a:=by rw[be0,bj9]
 rw[et];refine⟨_,.inr rfl,.inl trivial,by rw[be0,be0];omega,?_⟩;have ew:wl'.map bE++((Strip.after ws a).map λp=>bE p.2)=(wl'++(Strip.after ws a).map λp=>p.2).map bE:=by rw[bg4,bi6];rfl
 rw[ew];refine⟨_,?_,Ks++[a],wl'++(Strip.after ws a).map λp=>p.2,_,_,rfl,nd2,λb hb=>?_,λb hb=>?_,?_,λb hb p hp=>?_,rfl,?_⟩
 ·rw[len1,len2,be3,be0];omega
 ·rcases bi4.mp hb with z|z
  ·exact k1 b z
  ·rw[bd7.mp z];exact⟨aS,aW⟩
 ·rcases bi4.mp hb with z|z
  ·exact k2' b z
  ·obtain⟨p,hp,rfl⟩:=bi3.mp z
   exact⟨cl.go a aS p hp,Strip.x3 ow aW hp⟩
 ·rcases k3 with z|z
  ·exact .inl (bi8 _ z)
  ·rcases bi4.mp z with z|z
   ·exact .inr (bi8 _ z)
   ·rw[bd7.mp z];exact .inl (bf8 _ bd4)
 ·rcases bi4.mp hb with z|z
  ·rcases k4 b z p hp with z|z
   ·exact .inl (bi8 _ z)
   ·rcases bi4.mp z with z|z
    ·exact .inr (bi8 _ z)
    ·rw[bd7.mp z];exact .inl (bf8 _ bd4)
  ·rw[bd7.mp z]at hp
   exact .inr (bf8 _ (bi3.mpr ⟨p,hp,rfl⟩))
 ·rw[len2,be3,be0];omega
open Strip (aB b8 d2 Closed lJ)
open Core (d9 si)
section
variable {β:Type}
structure Kd (Ks:List aB)(Bd:β->Prop)(ps:List (aB×β)):Prop where
 nd:(ps.map (·.1)).Nodup
 mem:∀p∈ps,p.1∈Ks/\Bd p.2
theorem X8 {ps:List (aB×β)}{k:aB}{b:β}(h:Strip.bQ ps k=some b):(k,b)∈ps:=by
 unfold Strip.bQ at h;cases e:ps.find? λp=>decide (p.1=k) with
 |none=>rw[e]at h;cases h
 |some p=>
  rw[e]at h;have h1:p.2=b:=bf6 h;have h2:=List.find?_some e;have h2:p.1=k:=by simpa using h2
  have:=bm6 e
  rw[<- h1,<- h2];exact this
theorem sT {ps:List (aB×β)}{p:aB×β}(n:(ps.map (·.1)).Nodup)(h:p∈ps):Strip.bQ ps p.1=some p.2:=by
 induction ps with
 |nil=>cases h
 |cons q r ih=>
  rw[bf0,bh7]at n;unfold Strip.bQ at ih ⊢;rw[bh8];rcases bd8.mp h with rfl|h
  ·rw[bg0 rfl];rfl
  ·rw[be4 (λe:q.1=p.1=>n.1 (by rw[e];exact bo9 h))]
   exact ih n.2 h
variable {Ks:List aB}{Bd:β→Prop}{ps:List (aB×β)}{J:β→β→β}{k:aB}{z:β}
theorem Kd.put (h:Kd Ks Bd ps)(hk:k∈Ks)(hz:Bd z):Kd Ks Bd (Strip.dJ ps k z):=by
 refine⟨Strip.U0 h.nd,λp hp=>?_⟩;unfold Strip.dJ at hp;split at hp
 ·obtain⟨q,hq,rfl⟩:=bi3.mp hp
  by_cases e:q.1=k
  ·rw[if_pos e];exact⟨(h.mem q hq).1,hz⟩
  ·rw[if_neg e];exact h.mem q hq
 ·rcases bi4.mp hp with hp|hp
  ·exact h.mem p hp
  ·rw[bd7.mp hp];exact⟨hk,hz⟩
theorem Kd.join (hJ:∀a b,Bd a->Bd b->Bd (J a b))(h:Kd Ks Bd ps)(hk:k∈Ks)(hz:Bd z):Kd Ks Bd (Strip.cD J ps k z):=by
 unfold Strip.cD;refine h.put hk ?_;cases e:Strip.bQ ps k with
 |none=>exact hz
 |some w=>exact hJ _ _ (h.mem _ (X8 e)).2 hz
theorem Kd.len (h:Kd Ks Bd ps):ps.length<=Ks.length:=by
 rw[<- be0 (·.1)];exact Strip.pC h.nd λx hx=>by obtain⟨p,hp,rfl⟩:=bi3.mp hx;exact (h.mem p hp).1
theorem Kd.folds {ws:ag}{pass:β->Nat->β}{Bd':β->Prop}(hJ:∀a b,Bd' a->Bd' b->Bd' (J a b)){v:β}(hp:∀s,s<4->Bd' (pass v s)){a:aB}(al:a.length<=4)(go:∀q∈Strip.after ws a,q.2∈Ks):∀(m:Nat) {l:List (aB×β)},Kd Ks Bd' l->Kd Ks Bd' (((Strip.after ws a).take m).foldl (λl q=>Strip.cD J l q.2 (pass v q.1)) l):=by
 intro m l h
 have:∀q∈(Strip.after ws a).take m,q∈Strip.after ws a:=λq hq=>List.mem_of_mem_take hq
 generalize (Strip.after ws a).take m=qs at this
 induction qs generalizing l with
 |nil=>exact h
 |cons q r ih=>
  have hq:=this q bd4;exact ih (h.join hJ (go q hq) (hp _ (by have:=(Strip.nI hq).1;omega))) λx hx=>this x (bd5 _ hx)
open Classical in
noncomputable def gO (r:β->PV)(J:β->β->β)(w z:PV):PV:=if h:(∃a,r a=w)/\∃b,r b=z then r (J h.1.choose h.2.choose) else .non
theorem sU {r:β->PV}(inj:∀{a b},r a=r b->a=b)(a b:β):gO r J (r a) (r b)=r (J a b):=by
 have h:(∃x,r x=r a)/\∃y,r y=r b:=⟨⟨a,rfl⟩,b,rfl⟩
 unfold gO;rw[dif_pos h,inj h.1.choose_spec,inj h.2.choose_spec]
noncomputable def eN (r:β->PV)(x:PV):Prop:=∃b,r b=x
theorem X9 {r:β->PV}(inj:∀{a b},r a=r b->a=b):fJ (dR r ps) (ki k) (jn (gO r J) (dR r ps) (ki k) (r z))=dR r (Strip.cD J ps k z):=by
 unfold jn Strip.cD;rw[gN];cases Strip.bQ ps k with
 |none=>exact xK r k z ps
 |some w=>
  show fJ (dR r ps) (ki k) (gO r J (r w) (r z))=_;rw[sU inj];exact xK r k _ ps
noncomputable def eB (r:β->PV):Option β->List (Int×PV)
 |none=>[]
 |some v=>[(1,r v)]
theorem Y0 {r:β->PV}(inj:∀{a b},r a=r b->a=b)(o:Option β):fJ (eB r o) 1 (jn (gO r J) (eB r o) 1 (r z))=eB r (Strip.dC J o z):=by
 cases o with
 |none=>rfl
 |some w=>
  have e:jn (gO r J) (eB r (some w)) 1 (r z)=gO r J (r w) (r z):=rfl;rw[e,sU inj];rfl
end
noncomputable abbrev lO (tab:List (bA×b7)):aF:=sF 3 tab (aE (iD (aC 0) (aC 1)) (aE (aC 2) aM))
theorem Y1 {β:Type}{r:β->PV}{J:β->β->β}{l:bA}{p:b7}{tab:List (bA×b7)}(inj:∀{a b},r a=r b->a=b)(fl:∀b,flat (r b)=true)(hm:(l,p)∈tab)(hp:∀a b (Q:PV->Prop),Q (r (J a b))->p [r a,r b] Q) :
  ∀d y w z,jF d y (some w)->eN r w->eN r z->lO tab (bF ["values","key","value","joined"] [d,y,z,.lm l]) λv _=>v=gO r J w z/\flat v=true:=by
 rintro d y _ _ ak ⟨a,rfl⟩ ⟨b,rfl⟩;refine⟨_,l,p,rfl,hm,?_⟩;refine⟨_,rfl,_,rfl,r a,ak,_,rfl,?_⟩;refine hp a b _ ⟨(sU inj a b).symm,fl _⟩
noncomputable def sV {β:Type}(r:β->PV)(first:β)(pass:β->Nat->β)(J:β->β->β)(gP gJ:PV):b7:=λxs Q=>∃x ws,∃n:Nat,∃v,xs = [x,.int n,r first,gP,gJ]/\d9 x ws/\b8 ws/\(∃S,Closed ws S)/\n<=300/\Strip.fW J (Strip.bK ws pass J first n)=some v/\Q (r v)
noncomputable def pJ (tc:aF)(gJ:PV)(Ok:PV->Prop)(JV:PV->PV->PV):aY:=bC (cR 5 (aC8 (fE (aE (fE (aE (qC (.int 0)) (aE (qC (.bl true)) aM))) aM)) (L7 (qC (.int 1)) (aP e9 (aE (aC 0) aM)))))
 (bC (cR 6 (sP (aP lN (aE (aC 0) (aE (aC 5) aM)))))
 (bC (cR 7 (sP (wA (aC 5) (aC 2))))
 (bC (i9 (kW (aC 1)) (fQ 8)
  (bC (pD 9 (qC (.dA [])))
  (bC (i9 (sQ (aC 7)) (fQ 10)
   (i9 (mJ (iD (aC 6) (aC 10))) (kX 11 12)
    (wD 9 gJ Ok JV (aC 12) tc (aC 4))))
  (xF 9 7))))
 (bC (pD 13 (qC (.dB [])))
 (bC (i9 (sQ (aC 7)) (fQ 10)
  (dG (mI (d4 (d4 (aC 10) (qC (.int 0))) (qC (.int 1)))) (wE 13 gJ Ok JV (qC (.bl true)) (iD (aC 7) (aC 10)) (aC 4)) dF))
 (cL (iD (aC 13) (qC (.bl true)))))))))
theorem Y2 {ws:ag}(o:b8 ws):PV.tup (List.replicate ((1:Int)*2^((ws.length:Int)).toNat).toNat [PV.tup [PV.int 0,PV.bl true]]).flatten=bE (Strip.aQ ws):=by
 rcases o.two with⟨a,rfl⟩|⟨a,b,rfl⟩<;>rfl
theorem Y3 {β:Type}{r:β->PV}{first:β}{pass:β->Nat->β}{J:β->β->β}{gP gJ:PV}{tc:aF}(Bd:Nat->β->Prop)(inj:∀{a b},r a=r b->a=b)(fl:∀b,flat (r b)=true)(h0:Bd 0 first)(hJ:∀i a b,Bd i a->Bd i b->Bd i (J a b))(hP:∀i v s,Bd i v->s<4->Bd (i+1) (pass v s))(htc:∀(ρ:bT) (Q:PK) ps k b (s i:Nat),(∃g,ρ[3]? = some (some (.sh g gP)))->(∃g,ρ[7]? = some (some (.sh g (.fA (dR r ps)))))->(∃g,ρ[10]? = some (some (.sh g (bE k))))->(∃g,ρ[11]? = some (some (.sh g (.int s))))->
   Strip.bQ ps k=some b->Bd i b->i<=300->s<4->Q (r (pass b s)) .fr->tc ρ Q) :
  ∀xs Q,sV r first pass J gP gJ xs Q->pJ tc gJ (eN r) (gO r J) { nx:=λ_=>Q .non,rt:=Q } (bF ["wants","length","first","passed","joined","begin","following","values","turn","later","answer","seeds","behind","ends"] xs):=by
 rintro _ Q ⟨x,ws,n,v,rfl,hx,ow,cl,hn,hv,q⟩;have wl:ws.length=1∨ws.length=2:=by have:=ow.1;have:=ow.2;omega
 have hl:mH x=some ws.length:=hx.len;refine⟨by decide,rfl,by decide,rfl,_,rfl,x,ws.length,rfl,hl,_,_,rfl,rfl,⟨by omega,by omega,by decide⟩,[.tup [.int 0,.bl true]],_,rfl,rfl,rfl,by simp,?_,?_,by decide,trivial,?_⟩
 ·rcases wl with e|e<;>rw[e]<;>decide
 ·rcases wl with e|e<;>rw[e]<;>decide
 rw[Y2 ow];refine⟨_,rfl,_,rfl,x,ws,rfl,hx,ow,cl,λKs gd=>?_⟩;have fF:flats ((dR rF (cI ws Ks)).map (·.2))=true:=by
  unfold dR cI;rw[bi6,bi6];generalize Ks=L
  induction L with
  |nil=>rfl
  |cons a t ih=>show (flat (rF (Strip.after ws a))&&_)=true;rw[show flat (rF (Strip.after ws a))=true from sS _];exact ih
 refine⟨dR rF (cI ws Ks),rfl,rfl,fF,trivial,?_⟩;refine⟨_,rfl,_,rfl,fl first,ki (Strip.aQ ws),rfl,[(ki (Strip.aQ ws),r first)],rfl,rfl,?_,trivial,?_⟩
 ·show (flat (r first)&&true)=true
  rw[fl];rfl
 have kl:Ks.length<=5000:=gd.len
 let vw:Nat->List (aB×β):=λi=>Strip.bK ws pass J first i
 have al:∀a∈Ks,a.length<=4:=λa ha=>by have:=(gd.wf a ha).1;rcases Strip.lI ow with e|e<;>omega
 have kd:∀i,Kd Ks (Bd i) (vw i):=λi=>by
  induction i with
  |zero=>exact⟨bh7.mpr ⟨(λz=>by cases z),bk9⟩,λp hp=>by rw[bd7.mp hp];exact⟨gd.b,h0⟩⟩
  |succ i ih=>
   show Kd Ks (Bd (i+1)) ((vw i).foldl (Strip.cW ws pass J) [])
   have:∀p∈vw i,p.1∈Ks/\Bd i p.2:=ih.mem
   have go:∀{qs:List (aB×β)}{l:List (aB×β)},(∀p∈qs,p.1∈Ks/\Bd i p.2)->Kd Ks (Bd (i+1)) l->Kd Ks (Bd (i+1)) (qs.foldl (Strip.cW ws pass J) l):=by
    intro qs
    induction qs with
    |nil=>exact λ_ h=>h
    |cons p t ih2=>
     intro l hq h
     obtain⟨hk,hb⟩:=hq p bd4
     refine ih2 (λx hx=>hq x (bd5 _ hx)) ?_
     have:=Kd.folds (ws:=ws) (pass:=pass) (v:=p.2) (hJ (i+1)) (λs hs=>hP i p.2 s hb hs) (al p.1 hk) (gd.go p.1 hk) (Strip.after ws p.1).length h
     rwa [bj9]at this
   exact go this ⟨bk9,λ_ z=>by cases z⟩
 refine⟨_,rfl,(n:Int),rfl,by omega,by omega,λi ρ=>∃y8 y9 y10 y11 y12,ρ = [some (.sh (flat x) x),si n,some (.sh (flat (r first)) (r first)),some (.sh (flat gP) gP),some (.sh (flat gJ) gJ),some (.sh true (bE (Strip.aQ ws))),some (.sh true (.fA (dR rF (cI ws Ks)))),some (.sh true (.fA (dR r (vw i)))),y8,y9,y10,y11,y12,none],⟨_,_,_,_,_,rfl⟩,?_,?_⟩
 ·rintro i z ρ hz ⟨y8,y9,y10,y11,y12,rfl⟩
  have hi:i<n:=by
   have:=(bf7.mp hz).1
   rw[fH]at this;omega
  refine⟨rfl,.inl ⟨[],rfl,rfl⟩,?_⟩;refine⟨_,rfl,dR r (vw i),rfl,λj ρ=>∃y8 y10 y11 y12,ρ = [some (.sh (flat x) x),si n,some (.sh (flat (r first)) (r first)),some (.sh (flat gP) gP),some (.sh (flat gJ) gJ),some (.sh true (bE (Strip.aQ ws))),some (.sh true (.fA (dR rF (cI ws Ks)))),some (.sh true (.fA (dR r (vw i)))),y8,some (.own (.dA (dR r (((vw i).take j).foldl (Strip.cW ws pass J) [])))),y10,y11,y12,none]/\Kd Ks (Bd (i+1)) (((vw i).take j).foldl (Strip.cW ws pass J) []),⟨_,_,_,_,rfl,⟨bk9,λ_ z=>by cases z⟩⟩,?_,?_⟩
  ·rintro j z2 ρ hz2 ⟨y8,y10,y11,y12,rfl,hk⟩
   unfold dR at hz2;rw[bi6,bf4]at hz2;cases hp:(vw i)[j]? with
   |none=>rw[hp]at hz2;cases hz2
   |some p=>
    rw[hp]at hz2;cases hz2;have pm:p∈vw i:=bi9 hp
    obtain⟨pk,pb⟩:=(kd i).mem p pm
    have tk:(vw i).take (j+1)=(vw i).take j++[p]:=by rw[bk3,hp];rfl
    have pv2:=sT (kd i).nd pm;have fv:d6 (dR rF (cI ws Ks)) (ki p.1)=some (rF (Strip.after ws p.1)):=by rw[gN,pI,if_pos pk];rfl
    refine⟨_,rfl,_,rfl,rF (Strip.after ws p.1),.inl ⟨_,ki p.1,rfl,rfl,fv.symm⟩,_,rfl,(λz=>by cases z),λm ρ=>∃y11 y12,ρ = [some (.sh (flat x) x),si n,some (.sh (flat (r first)) (r first)),some (.sh (flat gP) gP),some (.sh (flat gJ) gJ),some (.sh true (bE (Strip.aQ ws))),some (.sh true (.fA (dR rF (cI ws Ks)))),some (.sh true (.fA (dR r (vw i)))),y8,some (.own (.dA (dR r (((Strip.after ws p.1).take m).foldl (λl q=>Strip.cD J l q.2 (pass p.2 q.1)) (((vw i).take j).foldl (Strip.cW ws pass J) []))))),some (.sh true (bE p.1)),y11,y12,none]/\Kd Ks (Bd (i+1)) (((Strip.after ws p.1).take m).foldl (λl q=>Strip.cD J l q.2 (pass p.2 q.1)) (((vw i).take j).foldl (Strip.cW ws pass J) [])),⟨_,_,rfl,hk⟩,?_,?_⟩
    ·rintro m z3 ρ hz3 ⟨y11,y12,rfl,hk3⟩
     have hz3:((Strip.after ws p.1).map dS)[m]? = some z3:=hz3;rw[bf4]at hz3;cases hq:(Strip.after ws p.1)[m]? with
     |none=>rw[hq]at hz3;cases hz3
     |some u=>
      rw[hq]at hz3;cases hz3;have um:=bi9 hq;have us:=(Strip.nI um).1;have ul:=al p.1 pk;have tk3:(Strip.after ws p.1).take (m+1)=(Strip.after ws p.1).take m++[u]:=by rw[bk3,hq];rfl
      refine⟨_,_,rfl,_,rfl,_,rfl,?_⟩;refine htc _ _ (vw i) p.1 p.2 u.1 i ⟨_,rfl⟩ ⟨_,rfl⟩ ⟨_,rfl⟩ ⟨_,rfl⟩ pv2 pb (by omega) (by omega) ?_;refine⟨_,rfl,ki u.2,rfl,rfl,fl _,⟨_,rfl⟩,λw hw=>?_,by rw[lM];have:=hk3.len;omega,?_⟩
      ·rw[gN]at hw
       cases e:Strip.bQ _ u.2 with
       |none=>rw[e]at hw;cases hw
       |some b=>rw[e]at hw;cases hw;exact⟨b,rfl⟩
      ·refine⟨some (.sh true (.int u.1)),some (.sh true (bE u.2)),?_,?_⟩
       rotate_left
       ·rw[tk3,bh9]
        exact hk3.join (hJ (i+1)) (gd.go p.1 pk u um) (hP i p.2 u.1 pb (by omega))
       ·rw[X9 inj,tk3,bh9];rfl
    ·rintro ρ ⟨y11,y12,rfl,hk3⟩
     have e:((Strip.after ws p.1).take ((Strip.after ws p.1).map dS).length)=Strip.after ws p.1:=by rw[be0,bj9]
     rw[e]at hk3 ⊢;refine⟨y8,some (.sh true (bE p.1)),y11,y12,?_,?_⟩
     rotate_left
     ·rw[tk,bh9];exact hk3
     ·rw[tk,bh9];rfl
  ·rintro ρ ⟨y8,y10,y11,y12,rfl,hk⟩
   have e:(vw i).take ((dR r (vw i)).map λp=>PV.tup (p.1.map λq=>.tup [.int q.1,.bl q.2])).length=vw i:=by rw[be0,lM,bj9]
   rw[e]
   exact⟨_,rfl,y8,_,y10,y11,y12,rfl⟩
 rintro ρ ⟨y8,y9,y10,y11,y12,rfl⟩;have e:(gW 0 ((n:Int)).toNat).length=n:=by rw[fH];exact bk2 _
 rw[e];refine⟨rfl,.inr ⟨[],rfl,rfl⟩,?_⟩;refine⟨_,rfl,dR r (vw n),rfl,λj ρ=>∃y10,ρ = [some (.sh (flat x) x),si n,some (.sh (flat (r first)) (r first)),some (.sh (flat gP) gP),some (.sh (flat gJ) gJ),some (.sh true (bE (Strip.aQ ws))),some (.sh true (.fA (dR rF (cI ws Ks)))),some (.sh true (.fA (dR r (vw n)))),y8,y9,y10,y11,y12,some (.own (.dB (eB r ((((vw n).take j).filter λp=>Strip.lit p.1).foldl (λacc p=>Strip.dC J acc p.2) none))))],⟨_,rfl⟩,?_,?_⟩
 ·rintro j z2 ρ hz2 ⟨y10,rfl⟩
  unfold dR at hz2;rw[bi6,bf4]at hz2;cases hp:(vw n)[j]? with
  |none=>rw[hp]at hz2;cases hz2
  |some p=>
   rw[hp]at hz2;cases hz2;have pm:p∈vw n:=bi9 hp
   obtain⟨pk,pb⟩:=(kd n).mem p pm
   have tk:(vw n).take (j+1)=(vw n).take j++[p]:=by rw[bk3,hp];rfl
   have pv2:=sT (kd n).nd pm;have a0:0<p.1.length:=by rw[(gd.wf _ pk).1];exact bk8 _
   refine⟨_,rfl,_,_,_,nN _,rfl,pE (b:=0) a0,_,_,_,rfl,rfl,rfl,_,rfl,?_⟩;show if Strip.lit p.1=true then _ else _
   cases hl2:Strip.lit p.1 with
   |true=>
    refine cC ⟨_,rfl,_,rfl,_,rfl,r p.2,.inl ⟨_,ki p.1,rfl,rfl,by rw[gN,pv2];rfl⟩,_,rfl,1,.inr ⟨true,rfl,rfl⟩,rfl,fl _,⟨_,rfl⟩,λw hw=>?_,?_,some (.sh true (bE p.1)),?_⟩
    ·generalize ((((vw n).take j).filter λp=>Strip.lit p.1).foldl (λacc p=>Strip.dC J acc p.2) none)=o at hw
     cases o with
     |none=>cases hw
     |some b=>cases hw;exact⟨b,rfl⟩
    ·generalize ((((vw n).take j).filter λp=>Strip.lit p.1).foldl (λacc p=>Strip.dC J acc p.2) none)=o
     cases o with
     |none=>show 0<16000000;decide
     |some b=>show 1<16000000;decide
    ·have fc:[p].filter (λp=>Strip.lit p.1) = [p]:=by
      show (match Strip.lit p.1 with|true=>_|false=>_)=_;rw[hl2];rfl
     rw[tk,bn3,bh9,fc,Y0 inj];rfl
   |false=>
    refine bJ ⟨some (.sh true (bE p.1)),?_⟩;have fc:[p].filter (λp=>Strip.lit p.1) = []:=by
     show (match Strip.lit p.1 with|true=>_|false=>_)=_;rw[hl2];rfl
    rw[tk,bn3,bh9,fc];rfl
 rintro ρ ⟨y10,rfl⟩;have e:(vw n).take ((dR r (vw n)).map λp=>PV.tup (p.1.map λq=>.tup [.int q.1,.bl q.2])).length=vw n:=by rw[be0,lM,bj9]
 rw[e];have ee:((vw n).filter λp=>Strip.lit p.1).foldl (λacc p=>Strip.dC J acc p.2) none=some v:=hv;rw[ee]
 exact⟨_,rfl,r v,.inr ⟨_,1,rfl,.inr ⟨true,rfl,rfl⟩,rfl⟩,fl v,q⟩
end PP
namespace L2
open PySem PyProof.Rows
theorem Y4 {a c:Int}{ns ms:ag}:(HT.cY (c::ms) (a::ns)=true->c<=a)/\(HT.cY (c::ms) (a::ns)=false->a<=c):=by
 rw[HT.qJ];by_cases e:c=a
 ·rw[if_pos e,e];exact⟨λ_=>Int.le_refl _,λ_=>Int.le_refl _⟩
 ·rw[if_neg e]
  exact⟨λh=>Int.le_of_lt (of_decide_eq_true h),λh=>Int.not_lt.mp (of_decide_eq_false h)⟩
end L2
namespace PP
open PySem L2 PyProof.Rows PySem.Spec
section
variable {P:ba}{w:bf}{K:ad}{mg:Str→Option ax}{base:Heap}{T:List (az×Str)}
theorem aS6 {k:Nat}{x:Str}{ps N:List Str}{p:b7}{st:Stmt}{f:az}{fd:FuncData}(F:bM K x x st f fd)(S:FnScope N ps (aI st))(len:∀xs Q,p xs Q->xs.length=ps.length)(body:∀(cdv:ax) (A:bc) (outer:List Env) (s:ay) (H:Hp) (E:XK),bG k (A.deeper (envOfC x (aI st) s.heap.objs.size f cdv))->fN T H->
   ∃t,fM (cK cF P w K mg base N x (aI st) f cdv A outer s H E).nox (bD st) t/\∀xs Q,p xs Q->t { nx:=λ_=>Q .non,rt:=Q } (bF N xs)):cX P w K mg base cF (k+1) f fd ps (jX K T p):=by
 refine F.ok S (λvs H Q E h=>?_) (λcdv A outer s H vs Q E hr h=>?_)
 ·obtain⟨_,xs,Qp,r,q,_⟩:=h
  rw[r.length];exact len xs Qp q
 ·obtain⟨hT,xs,Qp,r,q,k⟩:=h
  obtain⟨t,ht,hq⟩:=body cdv A outer s H E hr hT
  refine⟨_,ht,λ_=>False,bF N xs,_,j4 r,hq xs Qp q,?_,?_,?_,?_⟩
  ·exact λW' σ' H' ρ' e px q=>k _ _ _ px.same .non q
  ·exact λv H' x s r q=>k _ _ _ s r q
  ·exact λW' σ' H' ρ' e px q=>q
  ·exact λW' σ' H' ρ' e px q=>q
theorem cV.ofC {k:Nat}{x:Str}{ps N:List Str}{p:b7}{st:Stmt}{f c0:az}{oc:ax}{od an:Option az}{osl:Array (Option ax)}{kV doc pm ct:ax}(l:K.lookup f=some ⟨oc,od,.func (PySem.W.fnOf x x (bI st) (bD st) (aI st) .none kV doc pm an (.ref c0) ct),osl⟩)(c:PySem.W.codeIn K (.ref c0) x=true)(kp:PySem.W.keepIn K (.ref f)=true)(m:mg x=some (.ref f))(S:FnScope N ps (aI st))(hb:∀(kV doc pm:ax) (an:Option az) (cdv ct:ax) (us:List ax),us.length=ps.length->bindArgs (PySem.W.fnOf x x (bI st) (bD st) (aI st) .none kV doc pm an cdv ct) ⟨us,[]⟩=pure (ps.zip us))(len:∀xs Q,p xs Q->xs.length=ps.length)(body:∀(A:bc) (outer:List Env) (s:ay) (H:Hp) (E:XK),bG k (A.deeper (envOfC x (aI st) s.heap.objs.size f (.ref c0)))->fN T H->
   ∃t,fM (cK cF P w K mg base N x (aI st) f (.ref c0) A outer s H E).nox (bD st) t/\∀xs Q,p xs Q->t { nx:=λ_=>Q .non,rt:=Q } (bF N xs)):cV P w K mg base T (k+1) x ps p:=by
 refine⟨f,_,tV l c S (λvs H Q E h=>?_) (λA outer s H vs Q E hr h=>?_),(d0 l c kp).binds hb,kp,m⟩
 ·obtain⟨_,xs,Qp,r,q,_⟩:=h
  rw[r.length];exact len xs Qp q
 ·obtain⟨hT,xs,Qp,r,q,k⟩:=h
  obtain⟨t,ht,hq⟩:=body A outer s H E hr hT
  refine⟨_,dE.nox ht,λ_=>False,bF N xs,_,j4 r,hq xs Qp q,?_,?_,?_,?_⟩
  ·exact λW' σ' H' ρ' e px q=>k _ _ _ px.same .non q
  ·exact λv H' x s r q=>k _ _ _ s r q
  ·exact λW' σ' H' ρ' e px q=>q
  ·exact λW' σ' H' ρ' e px q=>q
noncomputable def sW (K:ad)(T:List (az×Str)):Sp:=λvs H Q E=>fN T H/\aD9 K vs H Q E
theorem aS7 {k:Nat}{f:az}{fd:FuncData}(F:cX P w K mg base cF k f fd ["script"] (jX K T Core.vF)):cX P w K mg base cF k f fd ["script"] (sW K T):=
 F.imp λvs H Q E h=>by
  obtain⟨hT,a,ns,rfl,hs,hl,q⟩:=h
  refine⟨hT,[.scr ns],λz=>z = .bl true,.cons (.scr hs) .nil,⟨ns,rfl,hl,rfl⟩,?_⟩;rintro v H' x _ r rfl;cases r;exact q H'
theorem xL {f c:az}{x:Str}{st:Stmt}{oc kV doc pm ct:ax}{od an:Option az}{osl:Array (Option ax)}(l:K.lookup f=some ⟨oc,od,.func (PySem.W.fnOf x x (bI st) (bD st) (aI st) .none kV doc pm an (.ref c) ct),osl⟩) :
  ∃oc od kV doc pm an ct osl,K.lookup f=some ⟨oc,od,.func (PySem.W.fnOf x x (bI st) (bD st) (aI st) .none kV doc pm an (.ref c) ct),osl⟩:=⟨_,_,_,_,_,_,_,_,l⟩
theorem xM {a b:az}(h:(a==b)=false):a≠b:=λe=>by rw[e]at h;simp at h
end
noncomputable def aS8:Expr->Arguments
 |.Lambda a _ _ _=>a
 |_=>{ posonlyargs:=[],args:=[],vararg:=none,kwonlyargs:=[],kw_defaults:=[],kwarg:=none,defaults:=[] }
noncomputable def aS9:Expr->Expr
 |.Lambda _ b _ _=>b
 |e=>e
noncomputable def Y5:Expr->Scope
 |.Lambda _ _ s _=>s
 |_=>{ kind:=.function,names:=[],isGenerator:=false,isCoroutine:=false }
noncomputable def Y6 (q:Str)(e:Expr)(cl:List (Str×az)):bA:=⟨q,aS8 e,aS9 e,Y5 e,cl⟩
noncomputable abbrev xN (q:Str)(e:Expr):bA:=Y6 q e []
noncomputable def pK (st:Stmt)(j:Nat):Expr:=match (bD st).getLast? with
 |some (.Return (some (.Call _ es _ _)) _)=>es.getD j (.Name "" ⟨0,0,0,0⟩)
 |_=>.Name "" ⟨0,0,0,0⟩
open Strip (aB b8 d2 Closed lJ)
open Core (d9 si dQ)
noncomputable def pL:b7:=λxs Q=>∃x y,xs = [x,y]/\flat x=true/\Q x
noncomputable def nQ:b7:=λxs Q=>∃a b:Int,xs = [.int a,.int b]/\Q (.int (a+b))
noncomputable def nR:b7:=sR
theorem aT0:∀xs Q,pL xs Q->aC 0 (bF ["many","seeds"] xs) λx _=>flat x=true/\Q x:=by
 rintro _ Q ⟨x,y,rfl,f,q⟩
 exact⟨_,rfl,f,q⟩
theorem aT1:∀xs Q,nQ xs Q->iL (aC 0) (aC 1) (bF ["one","other"] xs) λx _=>flat x=true/\Q x:=by
 rintro _ Q ⟨a,b,rfl,q⟩
 exact⟨_,rfl,_,rfl,_,_,rfl,rfl,rfl,q⟩
theorem aT2:∀xs Q,nR xs Q->aP sR (aE (aC 0) (aE (aC 1) aM)) (bF ["one","other"] xs) λx _=>flat x=true/\Q x:=by
 rintro _ Q ⟨a,c,ns,ms,rfl,q⟩;refine⟨_,rfl,_,rfl,a,c,ns,ms,rfl,?_,q⟩;split<;>exact sB _ _
theorem Y7 {β:Type}{r:β->PV}{first:β}{pass:β->Nat->β}{J:β->β->β}{gP gJ:PV}:∀xs Q,sV r first pass J gP gJ xs Q->xs.length=5:=by rintro _ Q ⟨_,_,_,_,rfl,_⟩;rfl
theorem aT3:∀xs Q,pL xs Q->xs.length=2:=by rintro _ Q ⟨x,y,rfl,_⟩;rfl
theorem aT4:∀xs Q,nQ xs Q->xs.length=2:=by rintro _ Q ⟨x,y,rfl,_⟩;rfl
theorem aT5:∀xs Q,nR xs Q->xs.length=2:=by rintro _ Q ⟨a,c,ns,ms,rfl,_⟩;rfl
noncomputable abbrev rN (v:Nat):PV:=.int v
theorem Y8:∀{a b:Nat},rN a=rN b->a=b:=λh=>Int.ofNat.inj (PV.int.inj h)
noncomputable abbrev sX (l1 l2:bA):b7:=sV rN 1 (λv _=>v) (λa b=>a+b) (.lm l1) (.lm l2)
noncomputable abbrev aT6 (l1:bA):List (bA×b7):=[(l1,pL)]
noncomputable abbrev xO (l2:bA):List (bA×b7):=[(l2,nQ)]
noncomputable abbrev tcN (l1:bA):aF:=sF 3 (aT6 l1) (aE (iD (aC 7) (aC 10)) (aE (aC 11) aM))
noncomputable abbrev JN:PV->PV->PV:=gO rN λa b=>a+b
noncomputable abbrev Y9 (l1 l2:bA):aY:=pJ (tcN l1) (.lm l2) (eN rN) JN
theorem Z0 (l2:bA):∀d y w z,jF d y (some w)->eN rN w->eN rN z->lO (xO l2) (bF ["values","key","value","joined"] [d,y,z,.lm l2]) λv _=>v=JN w z/\flat v=true:=
 Y1 Y8 (λ_=>rfl) bd4 λa b Q q=>⟨a,b,rfl,by rw[<- Int.natCast_add];exact q⟩
theorem aT7 (l1 l2:bA):∀xs Q,sX l1 l2 xs Q->Y9 l1 l2 { nx:=λ_=>Q .non,rt:=Q } (bF ["wants","length","first","passed","joined","begin","following","values","turn","later","answer","seeds","behind","ends"] xs):=
 Y3 (λ_ _=>True) Y8 (λ_=>rfl) trivial (λ_ _ _ _ _=>trivial) (λ_ _ _ _ _=>trivial) λρ Q ps k b s i ⟨_,e3⟩ ⟨_,e7⟩ ⟨_,e10⟩ ⟨_,e11⟩ hv _ _ _ q=>
  ⟨_,l1,_,e3,bd4,_,e7,_,e10,rN b,.inl ⟨_,ki k,rfl,rfl,by rw[gN,hv];rfl⟩,_,e11,_,_,rfl,rfl,q⟩
noncomputable def pM:b7:=λxs Q=>∃x ws,∃n v:Nat,xs = [x,.int n]/\d9 x ws/\dQ ws/\(∃S,Closed ws S)/\n<=300/\Strip.fW (λa b=>a+b) (Strip.bK ws (λv _=>v) (λa b=>a+b) 1 n)=some v/\Q (.int v)
noncomputable def Z1 (l1 l2:bA):aY:=(bC (jR (aP (Core.j9 λ_=>False) (aE (aC 0) (aE (aC 1) aM))))
 (bC (jR (aP (Core.jC λ_=>False) (aE (aC 1) (aE (qC (.int 300)) aM))))
 (cL (aP (sX l1 l2) (aE (aC 0) (aE (aC 1) (aE (qC (.int 1)) (aE (nE l1) (aE (nE l2) aM)))))))))
theorem lP {ws:ag}(h:dQ ws):b8 ws:=⟨List.length_pos_iff.mpr h.1,h.2.1⟩
theorem aT8 (l1 l2:bA):∀xs Q,pM xs Q->Z1 l1 l2 { nx:=λ_=>Q .non,rt:=Q } (bF ["wants","length"] xs):=by
 rintro _ Q ⟨x,ws,n,v,rfl,hx,ok,cl,hn,hv,q⟩;refine⟨_,rfl,_,rfl,x,ws,n,rfl,hx,λ_ _=>?_,λz=>z ⟨ok,by omega⟩⟩;refine⟨_,rfl,n,300,rfl,λ_=>?_,λz=>by omega⟩
 exact⟨_,rfl,_,rfl,x,ws,n,v,rfl,hx,lP ok,cl,hn,hv,trivial,q⟩
noncomputable def rP (v:Strip.PR):PV:=gY v.1 (v.2.map Int.ofNat)
theorem Z2:∀{a b:Strip.PR},rP a=rP b->a=b:=by
 rintro⟨a,l⟩ ⟨b,m⟩ h
 injection h with h
 injection h with h1 h2
 injection h2 with h2 _
 injection h2 with h2
 have e1:a=b:=Int.ofNat.inj (PV.int.inj h1);subst e1;have e2:∀{l m:List Nat},intz (l.map Int.ofNat)=intz (m.map Int.ofNat)->l=m:=by
  intro l
  induction l with
  |nil=>intro m h;cases m with
   |nil=>rfl
   |cons=>cases h
  |cons x r ih=>intro m h;cases m with
   |nil=>cases h
   |cons y t=>
    injection h with h1 h2
    rw[ih h2,show x=y from Int.ofNat.inj (PV.int.inj h1)]
 have h3:l=m:=e2 h2;rw[h3]
theorem xP (v:Strip.PR):flat (rP v)=true:=sB _ _
noncomputable def JP (x y:Strip.PR):Strip.PR:=if HT.cY ((y.1:Int)::y.2.map Int.ofNat) ((x.1:Int)::x.2.map Int.ofNat)=true then y else x
theorem xQ:Strip.jG JP:=by
 refine⟨λx y=>?_,λx y=>?_,λx y=>?_⟩
 ·unfold JP;split
  ·exact .inr rfl
  ·exact .inl rfl
 ·unfold JP;split
  ·rename_i h;have:=Y4.1 h;omega
  ·exact be2 _
 ·unfold JP;split
  ·exact be2 _
  ·rename_i h;have:=Y4.2 (bq5.mpr h);omega
noncomputable abbrev sY (l:bA):b7:=sV rP (0,[]) Strip.pass JP (.fn "with_slice") (.lm l)
noncomputable def pN:b7:=λxs Q=>∃v:Strip.PR,∃s:Nat,xs = [rP v,.int s]/\v.2.length<=300/\s<4/\Q (rP (Strip.pass v s))
noncomputable def Z3:aY:=(cL (fE (aE (iL (d4 (aC 0) (qC (.int 0))) (aP lK (aE (aC 1) aM))) (aE (rZ (d4 (aC 0) (qC (.int 1))) (fE (aE (aC 1) aM))) aM))))
theorem aT9:∀xs Q,pN xs Q->Z3 { nx:=λ_=>Q .non,rt:=Q } (bF ["pair","seeds"] xs):=by
 rintro _ Q ⟨v,s,rfl,hl,hs,q⟩;have fi:flats (intz (v.2.map Int.ofNat))=true:=kP _;have e:PV.tup [.int ((v.1:Int)+(Strip.one s:Int)),.tup (intz (v.2.map Int.ofNat)++[.int (s:Int)])]=rP (Strip.pass v s):=by
  show _=PV.tup [.int ((v.1+Strip.one s:Nat):Int),.tup (intz ((v.2++[s]).map Int.ofNat))];rw[Int.natCast_add,bg4,show intz (v.2.map Int.ofNat++[s].map Int.ofNat)=intz (v.2.map Int.ofNat)++intz ([s].map Int.ofNat) from bg4 ..];rfl
 have ll:(intz (v.2.map Int.ofNat)).length=v.2.length:=by rw[Core.lC,be0]
 refine⟨_,rfl,_,_,_,rfl,rfl,rfl,_,rfl,s,rfl,hs,_,_,rfl,rfl,_,rfl,_,_,_,rfl,rfl,rfl,_,rfl,by show 1<=1000;decide,rfl,_,_,rfl,rfl,fi,rfl,by rw[ll];show v.2.length+1<=16000000;omega,by show 2<=1000;decide,?_,trivial,?_⟩
 ·have:=xP (Strip.pass v s)
  rw[<- e]at this;exact this
 ·exact (congrArg Q e).mpr q
noncomputable abbrev aU0:List (Str×b7):=[("with_slice",pN)]
noncomputable abbrev xR (l:bA):List (bA×b7):=[(l,nR)]
noncomputable abbrev tcP:aF:=wH 3 aU0 (aE (iD (aC 7) (aC 10)) (aE (aC 11) aM))
noncomputable abbrev nT:PV->PV->PV:=gO rP JP
noncomputable abbrev Z4 (l:bA):aY:=pJ tcP (.lm l) (eN rP) nT
theorem Z5 (l:bA):∀d y w z,jF d y (some w)->eN rP w->eN rP z->lO (xR l) (bF ["values","key","value","joined"] [d,y,z,.lm l]) λv _=>v=nT w z/\flat v=true:=
 Y1 Z2 xP bd4 λa b Q q=>⟨a.1,b.1,a.2.map Int.ofNat,b.2.map Int.ofNat,rfl,by
  unfold JP at q;split
  ·rename_i h;rw[if_pos h]at q;exact q
  ·rename_i h;rw[if_neg h]at q;exact q⟩
theorem aU1 (l:bA):∀xs Q,sY l xs Q->Z4 l { nx:=λ_=>Q .non,rt:=Q } (bF ["wants","length","first","passed","joined","begin","following","values","turn","later","answer","seeds","behind","ends"] xs):=
 Y3 (λi v=>v.2.length=i) Z2 xP rfl (λi a b ha hb=>by rcases xQ.or a b with e|e<;>rw[e]<;>assumption) (λi v s h _=>by show (v.2++[s]).length=_;rw[be3,h];rfl) λρ Q ps k b s i ⟨_,e3⟩ ⟨_,e7⟩ ⟨_,e10⟩ ⟨_,e11⟩ hv hb hi hs q=>
  ⟨_,_,_,e3,bd4,_,e7,_,e10,rP b,.inl ⟨_,ki k,rfl,rfl,by rw[gN,hv];rfl⟩,_,e11,b,s,rfl,by omega,hs,q⟩
noncomputable def pO:b7:=λxs Q=>∃x ws,∃n:Nat,∃v,xs = [x,.int n]/\d9 x ws/\b8 ws/\(∃S,Closed ws S)/\n<=300/\Strip.fW JP (Strip.bK ws Strip.pass JP (0,[]) n)=some v/\Q (rP v)
noncomputable def Z6 (l:bA):aY:=(cL (aP (sY l) (aE (aC 0) (aE (aC 1) (aE (fE (aE (qC (.int 0)) (aE (fE aM) aM))) (aE (qC (.fn "with_slice")) (aE (nE l) aM)))))))
theorem aU2 (l:bA):∀xs Q,pO xs Q->Z6 l { nx:=λ_=>Q .non,rt:=Q } (bF ["wants","length"] xs):=by
 rintro _ Q ⟨x,ws,n,v,rfl,hx,ok,cl,hn,hv,q⟩
 exact⟨_,rfl,_,rfl,bp2 _,rfl,by show 2<=1000;decide,rfl,x,ws,n,v,rfl,hx,ok,cl,hn,hv,trivial,q⟩
noncomputable def pP:b7:=λxs Q=>∃x ws,∃n:Nat,∃v:Strip.PR,xs = [x,.int n]/\d9 x ws/\dQ ws/\(∃S,Closed ws S)/\n<=300/\Strip.fW JP (Strip.bK ws Strip.pass JP (0,[]) n)=some v/\Q (.int v.1)
noncomputable def Z7:aY:=(bC (jR (aP (Core.j9 λ_=>False) (aE (aC 0) (aE (aC 1) aM))))
 (bC (jR (aP (Core.jC λ_=>False) (aE (aC 1) (aE (qC (.int 300)) aM))))
 (cL (d4 (aP pO (aE (aC 0) (aE (aC 1) aM))) (qC (.int 0))))))
theorem aU3:∀xs Q,pP xs Q->Z7 { nx:=λ_=>Q .non,rt:=Q } (bF ["wants","length"] xs):=by
 rintro _ Q ⟨x,ws,n,v,rfl,hx,ok,cl,hn,hv,q⟩;refine⟨_,rfl,_,rfl,x,ws,n,rfl,hx,λ_ _=>?_,λz=>z ⟨ok,by omega⟩⟩;refine⟨_,rfl,n,300,rfl,λ_=>?_,λz=>by omega⟩
 exact⟨_,rfl,_,rfl,x,ws,n,v,rfl,hx,lP ok,cl,hn,hv,_,_,_,rfl,rfl,rfl,trivial,q⟩
end PP
namespace Strip
noncomputable def lQ (M:Nat):List (Nat×Bool):=(List.range M).flatMap λb=>[(b,false),(b,true)]
theorem aU4 (M:Nat):(lQ M).length=2*M:=by
 unfold lQ
 induction M with
 |zero=>rfl
 |succ M ih=>rw[List.range_succ,List.flatMap_append,be3,ih];show 2*M+2=_;omega
theorem aU5 {M:Nat}{q:Nat×Bool}(h:q.1<M):q∈lQ M:=by
 unfold lQ;refine List.mem_flatMap.mpr ⟨q.1,bl1.mpr h,?_⟩
 obtain⟨b,t⟩:=q
 cases t
 ·exact bd4
 ·exact bd5 _ bd4
noncomputable def lS (M:Nat):Nat->List aB
 |0=>[[]]
 |m+1=>(lQ M).flatMap λq=>(lS M m).map λr=>q::r
theorem Z8 (M:Nat):∀m,(lS M m).length=(2*M)^m
 |0=>rfl
 |m+1=>by
  have ih:=Z8 M m;show ((lQ M).flatMap λq=>(lS M m).map λr=>q::r).length=_;have go:∀l:List (Nat×Bool),(l.flatMap λq=>(lS M m).map λr=>q::r).length=l.length*(2*M)^m:=λl=>by
   induction l with
   |nil=>rw[List.length_nil,Nat.zero_mul];rfl
   |cons x r ihl=>rw[List.flatMap_cons,be3,ihl,be0,ih,bg2,Nat.add_mul,Nat.one_mul,Nat.add_comm]
  rw[go,aU4,Nat.pow_succ,Nat.mul_comm]
theorem xS {M:Nat}:∀{m:Nat}{a:aB},a.length=m->(∀q∈a,q.1<M)->a∈lS M m
 |0,a,h,_=>by rw[bm7 h];exact bd4
 |m+1,[],h,_=>by cases h
 |m+1,q::r,h,g=>List.mem_flatMap.mpr ⟨q,aU5 (g q bd4),bi3.mpr ⟨r,xS (by simpa using h) λx hx=>g x (bd5 _ hx),rfl⟩⟩
theorem Z9 {M:Nat}:∀{m:Nat}{a:aB},a∈lS M m->a.length=m/\∀q∈a,q.1<M
 |0,a,h=>by rw[bd7.mp h];exact⟨rfl,λq z=>nomatch z⟩
 |m+1,a,h=>by
  obtain⟨q,hq,h⟩:=List.mem_flatMap.mp h
  obtain⟨r,hr,rfl⟩:=bi3.mp h
  obtain⟨h1,h2⟩:=Z9 hr
  refine⟨by rw[bg2,h1],λx hx=>(bd8.mp hx).elim (λe=>?_) (h2 x)⟩;subst e;unfold lQ at hq
  obtain⟨b,hb,hq⟩:=List.mem_flatMap.mp hq
  have hb:=bl1.mp hb;rcases bd8.mp hq with rfl|hq
  ·exact hb
  ·rw[bd7.mp hq];exact hb
theorem aa0 {w:ag}(o:b8 w):∃S,Closed w S:=by
 refine⟨lS (2^w.length) (2^w.length),xS (lH o).1 (lH o).2,λa ha q hq=>?_,?_⟩
 ·obtain⟨h1,h2⟩:=Z9 ha
  have:=x3 o (a:=a) ⟨h1,h2⟩ hq
  exact xS this.1 this.2
 ·rw[Z8]
  rcases lI o with e|e<;>rw[e]<;>decide
theorem aU6 (w:ag)(n:Nat):eM w (h9 w n):=λs hs=>by rw[List.eq_of_mem_replicate hs];exact nK w
theorem sZ (w:ag)(n:Nat):(h9 w n).length=n:=bk6
theorem t5 {w:ag}(o:b8 w)(n:Nat):row w (h9 w n) (aQ w)=true:=
 (xD o (aU6 w n)).mpr λB hB k hk=>by
  have:=hB.sd k hk
  rw[show (h9 w n)[k]=2^w.length-1 from List.getElem_replicate ..]at this;exact sL o (hB.lt k hk) this
theorem aU7 {w:ag}(o:b8 w)(n:Nat):fW (·+·) (bK w (λv _=>v) (·+·) 1 n)=some (cG w n (aQ w)):=by
 have c:=aP0 w n;have p:1<=cG w n (aQ w):=by
  have q:=V4 w _ _ (t5 o n);rw[sZ]at q;exact q
 unfold fW;rw[V5,if_neg]
 ·rw[c];show some (0+_)=_;rw[bl8]
 ·rintro⟨_,e⟩
  rw[e]at c;rw[<- c]at p;exact absurd p (by decide)
theorem aU8 {J:PR->PR->PR}(P:jG J){w:ag}(o:b8 w)(n:Nat):∃v,fW J (bK w pass J (0,[]) n)=some v:=by
 obtain⟨v,hv,_⟩:=(wW P w n).2 (h9 w n) (sZ w n) (t5 o n)
 exact⟨v,hv⟩
end Strip
namespace Core
open PySem L2 PP
open Strip (b8 mk2 one cH cG row aQ)
theorem xT {ws:ag}(o:b8 ws):ws.length=1∨ws.length=2:=by have:=o.1;have:=o.2;omega
end Core
namespace Strip
noncomputable def cB (w:ag):Nat->aB->Nat->Nat
 |0,a,J=>if lit a=true/\J=0 then 1 else 0
 |n+1,a,J=>((List.range a.length).map λs=>if kept (next w a s)=true/\one s<=J then cB w n (next w a s) (J-one s) else 0).sum
noncomputable def conv:List Nat->(Nat->Nat)->Nat->Nat
 |[],_,_=>0
 |x::_,g,0=>x*g 0
 |x::r,g,J+1=>x*g (J+1)+conv r g J
noncomputable def aX (u v:List Nat):List Nat:=List.zipWith (λa b=>a+b) u v
noncomputable def kA (p:Nat)(g:Nat->Nat)(t:Nat):Nat:=if p<=t then g (t-p) else 0
theorem xU:∀{u v:List Nat} (g:Nat->Nat) (J:Nat),u.length=v.length->conv (aX u v) g J=conv u g J+conv v g J
 |[],[],_,_,_=>rfl
 |[],_::_,_,_,h=>by cases h
 |_::_,[],_,_,h=>by cases h
 |x::u,y::v,g,0,_=>by
  show (x+y)*g 0=x*g 0+y*g 0;rw[Nat.add_mul]
 |x::u,y::v,g,J+1,h=>by
  have ih:=xU (u:=u) (v:=v) g J (by simpa using h);show (x+y)*g (J+1)+conv (aX u v) g J=x*g (J+1)+conv u g J+(y*g (J+1)+conv v g J);rw[ih,Nat.add_mul];omega
theorem aa1 (g:Nat->Nat):∀(p J:Nat),conv (List.replicate p 0) g J=0
 |0,_=>rfl
 |p+1,0=>by show 0*g 0=0;rw[Nat.zero_mul]
 |p+1,J+1=>by show 0*g (J+1)+conv (List.replicate p 0) g J=0;rw[aa1 g p J,Nat.zero_mul]
theorem t6 (g:Nat->Nat)(p:Nat):∀(v:List Nat) (J:Nat),conv (v++List.replicate p 0) g J=conv v g J
 |[],J=>aa1 g p J
 |x::r,0=>rfl
 |x::r,J+1=>by show x*g (J+1)+conv (r++List.replicate p 0) g J=_;rw[t6 g p r J];rfl
theorem xV (g:Nat->Nat)(v:List Nat):∀(p J:Nat),conv (List.replicate p 0++v) g J=if p<=J then conv v g (J-p) else 0
 |0,J=>by rw[if_pos (bp2 _)];rfl
 |p+1,0=>by rw[if_neg (by omega)];show 0*g 0=0;rw[Nat.zero_mul]
 |p+1,J+1=>by
  show 0*g (J+1)+conv (List.replicate p 0++v) g J=_;rw[xV g v p J,Nat.zero_mul,bl8];by_cases h:p<=J
  ·rw[if_pos h,if_pos (by omega),show J+1-(p+1)=J-p by omega]
  ·rw[if_neg h,if_neg (by omega)]
theorem aa2 (g:Nat->Nat)(p:Nat):∀(v:List Nat) (J:Nat),conv v (kA p g) J=if p<=J then conv v g (J-p) else 0
 |[],J=>by split<;>rfl
 |x::r,0=>by
  show x*kA p g 0=_;unfold kA;by_cases h:p<=0
  ·rw[if_pos h,if_pos h,show 0-p=0 by omega];rfl
  ·rw[if_neg h,if_neg h,Nat.mul_zero]
 |x::r,J+1=>by
  show x*kA p g (J+1)+conv r (kA p g) J=_;rw[aa2 g p r J];unfold kA;by_cases h:p<=J
  ·rw[if_pos h,if_pos (by omega),if_pos (by omega),show J+1-p=J-p+1 by omega];rfl
  ·rw[if_neg h]
   by_cases h2:p<=J+1
   ·rw[if_pos h2,if_pos h2,show J+1-p=0 by omega];rfl
   ·rw[if_neg h2,if_neg h2,Nat.mul_zero]
theorem t7:∀(v:List Nat) (J:Nat),conv v (λ_=>0) J=0
 |[],_=>rfl
 |x::r,0=>by show x*0=0;rw[Nat.mul_zero]
 |x::r,J+1=>by show x*0+conv r _ J=0;rw[t7 r J,Nat.mul_zero]
theorem aa3 (f g:Nat->Nat):∀(v:List Nat) (J:Nat),conv v (λt=>f t+g t) J=conv v f J+conv v g J
 |[],_=>rfl
 |x::r,0=>by show x*(f 0+g 0)=x*f 0+x*g 0;rw[Nat.mul_add]
 |x::r,J+1=>by
  show x*(f (J+1)+g (J+1))+conv r _ J=x*f (J+1)+conv r f J+(x*g (J+1)+conv r g J);rw[aa3 f g r J,Nat.mul_add];omega
theorem aa4 (f:Nat->Nat->Nat)(v:List Nat)(J:Nat):∀l:List Nat,conv v (λt=>(l.map λs=>f s t).sum) J=(l.map λs=>conv v (f s) J).sum
 |[]=>t7 v J
 |s::r=>by
  rw[bf0,bg5,<- aa4 f v J r,<- aa3];congr 1
theorem iF:∀(v:List Nat) (J:Nat),conv v (λt=>if t=0 then 1 else 0) J=v.getD J 0
 |[],_=>rfl
 |x::r,0=>by show x*1=x;rw[Nat.mul_one]
 |x::r,J+1=>by show x*0+conv r _ J=r.getD J 0;rw[iF r J,Nat.mul_zero,bl8]
theorem aU9 (g:Nat->Nat)(J:Nat):conv [1] g J=g J:=by
 cases J with
 |zero=>show 1*g 0=g 0;rw[Nat.one_mul]
 |succ J=>show 1*g (J+1)+0=_;rw[Nat.one_mul];rfl
section
variable {β:Type}
noncomputable def d3 (φ:aB->β->Nat)(ps:List (aB×β)):Nat:=(ps.map λp=>φ p.1 p.2).sum
theorem aa5 (φ:aB->β->Nat){k:aB}{x:β}:∀{ps:List (aB×β)}{v:β},(ps.map (·.1)).Nodup->bQ ps k=some v->d3 φ (ps.map λp=>if p.1=k then (p.1,x) else p)+φ k v=d3 φ ps+φ k x
 |[],v,_,e=>by simp[bQ]at e
 |p::r,v,n,e=>by
  rw[bf0,bh7]at n;unfold d3;rw[bf0,bf0,bg5,bf0,bg5];by_cases h:p.1=k
  ·have ev:p.2=v:=by simpa[bQ,bh8,h] using e
   have rest:(r.map λq=>if q.1=k then (q.1,x) else q)=r:=by
    refine (bi2 λq hq=>?_).trans (List.map_id' r);rw[if_neg (λz=>n.1 (by rw[h,<- z];exact bo9 hq))]
   rw[if_pos h,rest,<- ev,h];show φ k x+_+φ k p.2=φ k p.2+_+φ k x;omega
  ·have ev:bQ r k=some v:=by simpa[bQ,bh8,h] using e
   have ih:=aa5 φ (x:=x) n.2 ev;unfold d3 at ih;rw[if_neg h];omega
theorem aV0 {ps:List (aB×β)}{k:aB}{x:β}{p:aB×β}(h:p∈dJ ps k x):p=(k,x)∨p∈ps:=by
 unfold dJ at h;split at h
 ·obtain⟨q,hq,rfl⟩:=bi3.mp h
  by_cases e:q.1=k
  ·rw[if_pos e,e];exact .inl rfl
  ·rw[if_neg e];exact .inr hq
 ·rcases bi4.mp h with h|h
  ·exact .inr h
  ·rw[bd7.mp h];exact .inl rfl
variable {φ:aB→β→Nat}{G:aB×β→Prop}{J:β→β→β}
theorem xW {ps:List (aB×β)}{k:aB}{v:β}(h:bQ ps k=some v):(k,v)∈ps:=by
 unfold bQ at h;cases e:ps.find? λp=>decide (p.1=k) with
 |none=>rw[e]at h;cases h
 |some p=>
  rw[e]at h;have h1:p.2=v:=bf6 h;have h2:=List.find?_some e;have h2:p.1=k:=by simpa using h2
  have:=bm6 e
  rw[<- h1,<- h2];exact this
theorem aV1 (hJ:∀k a b,G (k,a)->G (k,b)->G (k,J a b)){ps:List (aB×β)}{k:aB}{z:β}(hb:∀p∈ps,G p)(hz:G (k,z)):∀p∈cD J ps k z,G p:=λp hp=>by
 unfold cD at hp;rcases aV0 hp with e|h
 ·rw[e]
  cases q:bQ ps k with
  |none=>exact hz
  |some v=>exact hJ _ _ _ (hb _ (xW q)) hz
 ·exact hb p h
theorem aV2 (add:∀k a b,G (k,a)->G (k,b)->φ k (J a b)=φ k a+φ k b){ps:List (aB×β)}{k:aB}{z:β}(n:(ps.map (·.1)).Nodup)(hb:∀p∈ps,G p)(hz:G (k,z)):d3 φ (cD J ps k z)=d3 φ ps+φ k z:=by
 unfold cD dJ;cases e:bQ ps k with
 |none=>
  have fn:(ps.find? λp=>decide (p.1=k))=none:=by simpa[bQ] using e
  have:(ps.any λp=>decide (p.1=k))=false:=by
   rw[bq5];intro h
   obtain⟨p,hp,q⟩:=bp5.mp h
   exact List.find?_eq_none.mp fn p hp q
  rw[this,if_neg be9];unfold d3;rw[bg4,bq2];show _+(φ k z+0)=_;rw[Nat.add_zero]
 |some v=>
  have h:(ps.any λp=>decide (p.1=k))=true:=bp5.mpr ⟨(k,v),xW e,by simp⟩;rw[h,if_pos rfl]
  have:=aa5 φ (x:=J v z) n e
  rw[add k v z (hb _ (xW e)) hz]at this;show d3 φ (ps.map λp=>if p.1=k then (p.1,J v z) else p)=_;omega
theorem aa6 (add:∀k a b,G (k,a)->G (k,b)->φ k (J a b)=φ k a+φ k b)(hJ:∀k a b,G (k,a)->G (k,b)->G (k,J a b))(g:Nat->β):∀(qs:List (Nat×aB)) {l:List (aB×β)},(∀q∈qs,G (q.2,g q.1))->(l.map (·.1)).Nodup->(∀p∈l,G p)->
  (((qs.foldl (λl q=>cD J l q.2 (g q.1)) l).map (·.1)).Nodup/\(∀p∈qs.foldl (λl q=>cD J l q.2 (g q.1)) l,G p)/\d3 φ (qs.foldl (λl q=>cD J l q.2 (g q.1)) l)=d3 φ l+(qs.map λq=>φ q.2 (g q.1)).sum)
 |[],l,_,n,hb=>⟨n,hb,by simp⟩
 |q::r,l,hg,n,hb=>by
  have h0:=hg q bd4
  obtain⟨h1,h2,h3⟩:=aa6 add hJ g r (λx hx=>hg x (bd5 _ hx)) (wQ (J:=J) (k:=q.2) (z:=g q.1) n) (aV1 hJ hb h0)
  refine⟨h1,h2,?_⟩;rw[bq1,h3,aV2 add n hb h0,bf0,bg5];omega
theorem xX (w:ag){pass:β->Nat->β}(add:∀k a b,G (k,a)->G (k,b)->φ k (J a b)=φ k a+φ k b)(hJ:∀k a b,G (k,a)->G (k,b)->G (k,J a b)):∀(ps:List (aB×β)) {l:List (aB×β)},(∀p∈ps,∀q∈after w p.1,G (q.2,pass p.2 q.1))->(l.map (·.1)).Nodup->(∀p∈l,G p)->
  (((ps.foldl (cW w pass J) l).map (·.1)).Nodup/\(∀p∈ps.foldl (cW w pass J) l,G p)/\d3 φ (ps.foldl (cW w pass J) l)=d3 φ l+(ps.map λp=>((after w p.1).map λq=>φ q.2 (pass p.2 q.1)).sum).sum)
 |[],l,_,n,hb=>⟨n,hb,by simp⟩
 |p::r,l,h0,n,hb=>by
  obtain⟨h1,h2,h3⟩:=aa6 add hJ (λs=>pass p.2 s) (after w p.1) (h0 p bd4) n hb
  obtain⟨g1,g2,g3⟩:=xX w add hJ r (l:=cW w pass J l p) (λx hx=>h0 x (bd5 _ hx)) h1 h2
  refine⟨g1,g2,?_⟩;rw[bq1,g3,bf0,bg5];show d3 φ ((after w p.1).foldl (λl q=>cD J l q.2 (pass p.2 q.1)) l)+_=_;rw[h3];omega
end
theorem t8 {α:Type}(p:α->Bool)(f:α->Nat):∀l:List α,((l.filter p).map f).sum=(l.map λx=>if p x=true then f x else 0).sum
 |[]=>rfl
 |x::r=>by
  have ih:=t8 p f r;rw[bf0,bg5,<- ih];cases h:p x with
  |true=>rw[List.filter_cons_of_pos h,bf0,bg5,if_pos rfl]
  |false=>rw[List.filter_cons_of_neg (by rw[h];exact be9),if_neg be9,bl8]
theorem aa7 (w:ag)(a:aB)(f:Nat->aB->Nat):((after w a).map λq=>f q.1 q.2).sum=((List.range a.length).map λs=>if kept (next w a s)=true then f s (next w a s) else 0).sum:=by
 unfold after;rw[t8,bi6];rfl
noncomputable def bR (c:Nat)(v:List Nat)(s:Nat):List Nat:=List.replicate (one s) 0++v++List.replicate (c-one s) 0
theorem aV3 (c:Nat)(v:List Nat)(s:Nat)(g:Nat->Nat)(J:Nat):conv (bR c v s) g J=if one s<=J then conv v g (J-one s) else 0:=by
 unfold bR;rw[t6,xV]
theorem aV4 (w:ag)(c m:Nat)(a:aB)(v:List Nat)(J:Nat):((after w a).map λq=>conv (bR c v q.1) (cB w m q.2) J).sum=conv v (cB w (m+1) a) J:=by
 rw[aa7 w a λs b=>conv (bR c v s) (cB w m b) J];have e:cB w (m+1) a=λt=>((List.range a.length).map λs=>(if kept (next w a s)=true then kA (one s) (cB w m (next w a s)) else λ_=>0) t).sum:=by
  funext t
  show ((List.range a.length).map λs=>if kept (next w a s)=true/\one s<=t then cB w m (next w a s) (t-one s) else 0).sum=_;congr 1;refine bi2 λs _=>?_
  by_cases h:kept (next w a s)=true
  ·rw[if_pos h]
   unfold kA;by_cases g:one s<=t
   ·rw[if_pos ⟨h,g⟩,if_pos g]
   ·rw[if_neg (λz=>g z.2),if_neg g]
  ·rw[if_neg (λz=>h z.1),if_neg h]
 rw[e,aa4];congr 1;refine bi2 λs _=>?_
 by_cases h:kept (next w a s)=true
 ·rw[if_pos h,if_pos h,aV3,aa2]
 ·rw[if_neg h,if_neg h,t7]
theorem kB {u v:List Nat}(h:u.length=v.length):(aX u v).length=u.length:=by unfold aX;rw[List.length_zipWith,h,Nat.min_self]
theorem xY {w:ag}(o:b8 w){s:Nat}(h:s<2^w.length):one s<=w.length:=(nH o 0 0 h).2.2
theorem aa8 {w:ag}(o:b8 w){v:List Nat}{s:Nat}(h:s<2^w.length):(bR w.length v s).length=v.length+w.length:=by
 have:=xY o h
 unfold bR;rw[be3,be3,bk6,bk6];omega
noncomputable def GR (w:ag)(n:Nat)(p:aB×List Nat):Prop:=d2 w p.1/\p.2.length=w.length*n+1
theorem aa9 {w:ag}{n:Nat}(k:aB)(a b:List Nat)(ha:GR w n (k,a))(hb:GR w n (k,b)):GR w n (k,aX a b):=⟨ha.1,by
 have h1:a.length=_:=ha.2;have h2:b.length=_:=hb.2;show (aX a b).length=_
 rw[kB (h1.trans h2.symm),h1]⟩
theorem ab0 {w:ag}(o:b8 w){n:Nat}{ps:List (aB×List Nat)}(h:∀p∈ps,GR w n p):∀p∈ps,∀q∈after w p.1,GR w (n+1) (q.2,bR w.length p.2 q.1):=λp hp q hq=>by
 obtain⟨h1,h2⟩:=h p hp
 refine⟨x3 o h1 hq,?_⟩
 have:=(nI hq).1
 rw[h1.1]at this;show (bR w.length p.2 q.1).length=_;rw[aa8 o this,h2,Nat.mul_succ];omega
theorem xZ {w:ag}(o:b8 w):∀n,((bK w (bR w.length) aX [1] n).map (·.1)).Nodup/\(∀p∈bK w (bR w.length) aX [1] n,GR w n p)/\∀m J,d3 (λa v=>conv v (cB w m a) J) (bK w (bR w.length) aX [1] n)=cB w (n+m) (aQ w) J
 |0=>by
  refine⟨by simp[bK],λp hp=>?_,λm J=>?_⟩
  ·have e:p=(aQ w,[1]):=bd7.mp hp
   rw[e];exact⟨lH o,rfl⟩
  ·show conv [1] (cB w m (aQ w)) J+0=_
   rw[aU9,bl8];rfl
 |n+1=>by
  obtain⟨h1,h2,h3⟩:=xZ o n
  have t:∀m J,_:=λm J=>xX (φ:=λa v=>conv v (cB w m a) J) w (pass:=bR w.length) (J:=aX) (G:=GR w (n+1)) (λk a b ha hb=>xU _ _ (by have x1:a.length=_:=ha.2;have x2:b.length=_:=hb.2;rw[x1,x2])) aa9 (bK w (bR w.length) aX [1] n) (l:=[]) (ab0 o h2) bk9 (λ_ z=>nomatch z)
  refine⟨(t 0 0).1,(t 0 0).2.1,λm J=>?_⟩
  have:=(t m J).2.2
  show d3 _ ((bK w (bR w.length) aX [1] n).foldl (cW w (bR w.length) aX) [])=_;rw[this];have e:((bK w (bR w.length) aX [1] n).map λp=>((after w p.1).map λq=>conv (bR w.length p.2 q.1) (cB w m q.2) J).sum).sum=d3 (λa v=>conv v (cB w (m+1) a) J) (bK w (bR w.length) aX [1] n):=by
   unfold d3;congr 1;refine bi2 λp _=>?_
   exact aV4 w w.length m p.1 p.2 J
  show 0+_=_;rw[bl8,e,h3,show n+(m+1)=n+1+m by omega]
section
variable {a b:Int}{x:aB}
theorem y0 {w:ag}(o:b8 w):∀(l:List Nat) {x:aB},d2 w x->row w l x=true->eM w l
 |[],_,_,_=>λs h=>nomatch h
 |s::r,x,wf,h=>by
  unfold row at h;simp only[bg6,bh3]at h;have hs:s<2^w.length:=by rw[<- wf.1];exact h.1.1
  exact λy hy=>(bd8.mp hy).elim (λe=>by rw[e];exact hs) (y0 o r (sK o wf hs) h.2 y)
end
theorem t9 {u v:List Nat}(h:u.length=v.length)(J:Nat):(aX u v).getD J 0=u.getD J 0+v.getD J 0:=by
 rw[<- iF,<- iF,<- iF,xU _ _ h]
theorem y3:∀{u v:List Nat},u.length=v.length->(aX u v).sum=u.sum+v.sum
 |[],[],_=>rfl
 |[],_::_,h=>by cases h
 |_::_,[],h=>by cases h
 |x::u,y::v,h=>by
  have ih:=y3 (u:=u) (v:=v) (by simpa using h);show (x+y)+(aX u v).sum=(x::u).sum+(y::v).sum;rw[ih,bg5,bg5];omega
theorem y7:∀p,(List.replicate p 0).sum=0
 |0=>rfl
 |p+1=>by rw[bj4,bg5,y7 p]
theorem aV5 (c:Nat)(v:List Nat)(s:Nat):(bR c v s).sum=v.sum:=by
 unfold bR;rw[bq2,bq2,y7,y7];omega
theorem ab1 {w:ag}(o:b8 w):∀n m,d3 (λa (v:List Nat)=>v.sum*cG w m a) (bK w (bR w.length) aX [1] n)=cG w (n+m) (aQ w)
 |0,m=>by
  show 1*cG w m (aQ w)+0=_;rw[bl8];omega
 |n+1,m=>by
  obtain⟨h1,h2,_⟩:=xZ o n
  have t:=xX (φ:=λa (v:List Nat)=>v.sum*cG w m a) w (pass:=bR w.length) (J:=aX) (G:=GR w (n+1)) (λk a b ha hb=>by
   have x1:a.length=_:=ha.2;have x2:b.length=_:=hb.2;show (aX a b).sum*_=_
   rw[y3 (x1.trans x2.symm),Nat.add_mul]) aa9 (bK w (bR w.length) aX [1] n) (l:=[]) (ab0 o h2) bk9 (λ_ z=>nomatch z)
  show d3 _ ((bK w (bR w.length) aX [1] n).foldl (cW w (bR w.length) aX) [])=_;rw[t.2.2];have e:((bK w (bR w.length) aX [1] n).map λp=>((after w p.1).map λq=>(bR w.length p.2 q.1).sum*cG w m q.2).sum).sum=d3 (λa (v:List Nat)=>v.sum*cG w (m+1) a) (bK w (bR w.length) aX [1] n):=by
   unfold d3;congr 1;refine bi2 λp _=>?_
   dsimp only;rw[aa7 w p.1 λs b=>(bR w.length p.2 s).sum*cG w m b,wO,Nat.mul_comm,T8];congr 1;refine bi2 λs _=>?_
   rw[aV5];by_cases h:kept (next w p.1 s)=true
   ·rw[if_pos h,if_pos h,Nat.mul_comm]
   ·rw[if_neg h,if_neg h,Nat.zero_mul]
  show 0+_=_;rw[bl8,e,ab1 o n (m+1),show n+(m+1)=n+1+m by omega]
theorem yA {m:Nat}:∀(l:List (aB×List Nat)) (acc:Option (List Nat)),(∀p∈l,p.2.length=m)->(∀v,acc=some v->v.length=m)->∀v,l.foldl (λacc p=>dC aX acc p.2) acc=some v->
  v.length=m/\(∀J,v.getD J 0=((acc.map λu=>u.getD J 0).getD 0)+(l.map λp=>p.2.getD J 0).sum)/\v.sum=((acc.map λu=>u.sum).getD 0)+(l.map λp=>p.2.sum).sum
 |[],acc,_,ha,v,h=>by
  have h:acc=some v:=h;subst h
  exact⟨ha v rfl,λJ=>rfl,rfl⟩
 |p::r,acc,hl,ha,v,h=>by
  have hp:=hl p bd4;cases acc with
  |none=>
   obtain⟨h1,h2,h3⟩:=yA r (some p.2) (λx hx=>hl x (bd5 _ hx)) (λv e=>by cases e;exact hp) v h
   refine⟨h1,λJ=>?_,?_⟩
   ·rw[h2 J,bf0,bg5];show _=0+_;rw[bl8];rfl
   ·rw[h3,bf0,bg5];show _=0+_;rw[bl8];rfl
  |some u=>
   have hu:=ha u rfl
   obtain⟨h1,h2,h3⟩:=yA r (some (aX u p.2)) (λx hx=>hl x (bd5 _ hx)) (λv e=>by cases e;rw[kB (hu.trans hp.symm)];exact hu) v h
   refine⟨h1,λJ=>?_,?_⟩
   ·rw[h2 J,bf0,bg5]
    show (aX u p.2).getD J 0+_=u.getD J 0+_;rw[t9 (hu.trans hp.symm)];omega
   ·rw[h3,bf0,bg5]
    show (aX u p.2).sum+_=u.sum+_;rw[y3 (hu.trans hp.symm)];omega
noncomputable def iS (M:Nat):Nat->List (List Nat)
 |0=>[[]]
 |n+1=>(List.range M).flatMap λs=>(iS M n).map λr=>s::r
theorem pQ {M:Nat}:∀{n:Nat}{l:List Nat},l∈iS M n↔l.length=n/\∀s∈l,s<M
 |0,l=>by
  constructor
  ·intro h;rw[bd7.mp h];exact⟨rfl,λs z=>nomatch z⟩
  ·rintro⟨h,_⟩;rw[bm7 h];exact bd4
 |n+1,l=>by
  unfold iS;rw[List.mem_flatMap];constructor
  ·rintro⟨s,hs,h⟩
   obtain⟨r,hr,rfl⟩:=bi3.mp h
   obtain⟨h1,h2⟩:=pQ.mp hr
   exact⟨by rw[bg2,h1],λx hx=>(bd8.mp hx).elim (λe=>by rw[e];exact bl1.mp hs) (h2 x)⟩
  ·rintro⟨h1,h2⟩
   cases l with
   |nil=>cases h1
   |cons s r=>exact⟨s,bl1.mpr (h2 s bd4),bi3.mpr ⟨r,pQ.mpr ⟨by simpa using h1,λx hx=>h2 x (bd5 _ hx)⟩,rfl⟩⟩
theorem ab2 {α β:Type}(p:β->Bool)(f:α->List β):∀l:List α,((l.flatMap f).filter p).length=(l.map λx=>((f x).filter p).length).sum
 |[]=>rfl
 |x::r=>by rw[List.flatMap_cons,bn3,be3,ab2 p f r,bf0,bg5]
theorem aV6 {α β:Type}(p:β->Bool)(f:α->β)(l:List α):((l.map f).filter p).length=(l.filter λx=>p (f x)).length:=by
 rw[List.filter_map,be0];rfl
theorem aV7 (w:ag)(a:aB)(s:Nat):(next w a s).length=a.length:=by unfold next;rw[be0,List.length_range]
theorem nU (w:ag){M:Nat}:∀(n:Nat) {a:aB} (J:Nat),a.length=M->cB w n a J=((iS M n).filter λl=>row w l a&&decide (cH l=J)).length
 |0,a,J,_=>by
  show (if lit a=true/\J=0 then 1 else 0)=(match lit a&&decide (0=J) with|true=>[[]]|false=>([]:List (List Nat))).length;by_cases h:lit a=true
  ·by_cases g:J=0
   ·rw[if_pos ⟨h,g⟩,h,g];rfl
   ·rw[if_neg (λz=>g z.2),be4 (λe:0=J=>g e.symm),Bool.and_false];rfl
  ·rw[if_neg (λz=>h z.1),bq5.mpr h];rfl
 |n+1,a,J,hM=>by
  show ((List.range a.length).map λs=>if kept (next w a s)=true/\one s<=J then cB w n (next w a s) (J-one s) else 0).sum=(((List.range M).flatMap λs=>(iS M n).map λr=>s::r).filter _).length;rw[ab2,hM];congr 1;refine bi2 λs hs=>?_
  have hs:=bl1.mp hs;rw[aV6];by_cases h:kept (next w a s)=true/\one s<=J
  ·rw[if_pos h,nU w n (J-one s) (by rw[aV7,hM])]
   congr 1;refine List.filter_congr λr _=>?_
   show _=(decide (s<a.length)&&kept (next w a s)&&row w r (next w a s)&&decide (one s+cH r=J));rw[bg0 (show s<a.length by rw[hM];exact hs),h.1,Bool.true_and,Bool.true_and];congr 1;exact decide_eq_decide.mpr ⟨λe=>by omega,λe=>by omega⟩
  ·rw[if_neg h]
   have:((iS M n).filter λr=>row w (s::r) a&&decide (cH (s::r)=J)) = []:=by
    refine List.filter_eq_nil_iff.mpr λr _=>?_
    show ¬(decide (s<a.length)&&kept (next w a s)&&row w r (next w a s)&&decide (one s+cH r=J))=true;intro z;simp only[bg6,bh3]at z;exact h ⟨z.1.1.2,by omega⟩
   rw[this];rfl
theorem ab3 {M:Nat}:∀n,(iS M n).Nodup
 |0=>bh7.mpr ⟨(λz=>nomatch z),bk9⟩
 |n+1=>by
  unfold iS;have ih:=ab3 (M:=M) n;rw[List.flatMap_def];have go:∀l:List Nat,l.Nodup->(l.map λs=>(iS M n).map λr=>s::r).flatten.Nodup:=λl=>by
   induction l with
   |nil=>exact λ_=>bk9
   |cons s t ihl=>
    intro nd;rw[bh7]at nd;rw[bf0,bn6];refine List.nodup_append.mpr ⟨?_,ihl nd.2,λx hx y hy e=>?_⟩
    ·exact List.pairwise_map.mpr (ih.imp λh e=>h (by injection e))
    ·subst e
     obtain⟨r,_,rfl⟩:=bi3.mp hx
     obtain⟨L,hL,hy⟩:=List.mem_flatten.mp hy
     obtain⟨s',hs',rfl⟩:=bi3.mp hL
     obtain⟨r',_,e⟩:=bi3.mp hy
     injection e with e1 _
     exact nd.1 (by rw[<- e1];exact hs')
  exact go _ List.nodup_range
theorem pR (w:ag):(aQ w).length=2^w.length:=bk6
theorem yB {w:ag}(o:b8 w){l:List Nat}(h:row w l (aQ w)=true):1<=cB w l.length (aQ w) (cH l):=by
 rw[nU w _ _ (pR w)];refine List.length_pos_of_mem (a:=l) (bn0.mpr ⟨pQ.mpr ⟨rfl,y0 o l (lH o) h⟩,?_⟩);rw[h,bg0 rfl];rfl
theorem ab4 {β:Type}{J:β->β->β}:∀(l:List (aB×β)) (acc:Option β),(l≠[]∨acc≠none)->∃v,l.foldl (λacc p=>dC J acc p.2) acc=some v
 |[],none,h=>by rcases h with h|h<;>exact absurd rfl h
 |[],some v,_=>⟨v,rfl⟩
 |p::r,acc,_=>ab4 r (dC J acc p.2) (.inr (by cases acc<;>exact λz=>nomatch z))
theorem aV8 {α:Type}{f:α->Nat}:∀{l:List α},l = []->(l.map f).sum=0:=λe=>by rw[e];rfl
theorem yC {w:ag}(o:b8 w)(n:Nat):∃v,fW aX (bK w (bR w.length) aX [1] n)=some v/\v.length=w.length*n+1/\(∀J,v.getD J 0=cB w n (aQ w) J)/\v.sum=cG w n (aQ w):=by
 obtain⟨h1,h2,h3⟩:=xZ o n
 generalize eR:bK w (bR w.length) aX [1] n=R at h1 h2 h3;have lw:∀J,((R.filter λp=>lit p.1).map λp=>p.2.getD J 0).sum=cB w n (aQ w) J:=λJ=>by
  have:=h3 0 J
  rw[Nat.add_zero]at this;rw[<- this,t8];unfold d3;congr 1;refine bi2 λp _=>?_
  dsimp only;by_cases g:lit p.1=true
  ·rw[if_pos g,show cB w 0 p.1=λt=>if t=0 then 1 else 0 from funext λt=>by show (if lit p.1=true/\t=0 then 1 else 0)=_;by_cases z:t=0<;>simp[g,z],iF]
  ·rw[if_neg g,show cB w 0 p.1=λ_=>0 from funext λt=>by show (if lit p.1=true/\t=0 then 1 else 0)=_;rw[if_neg (λz=>g z.1)],t7]
 have ls:((R.filter λp=>lit p.1).map λp=>p.2.sum).sum=cG w n (aQ w):=by
  have:=ab1 o n 0
  rw[Nat.add_zero,eR]at this;rw[<- this,t8];unfold d3;congr 1;refine bi2 λp _=>?_
  show _=p.2.sum*(if lit p.1 then 1 else 0);by_cases g:lit p.1=true
  ·rw[if_pos g,if_pos g,Nat.mul_one]
  ·rw[if_neg g,if_neg g,Nat.mul_zero]
 have ne:(R.filter λp=>lit p.1)≠[]:=λe=>by
  have q:=yB o (t5 o n);rw[sZ,<- lw,aV8 e]at q;exact absurd q (by decide)
 obtain⟨v,hv⟩:=ab4 (J:=aX) (R.filter λp=>lit p.1) none (.inl ne)
 obtain⟨g1,g2,g3⟩:=yA (m:=w.length*n+1) (R.filter λp=>lit p.1) none (λp hp=>(h2 p (bn0.mp hp).1).2) (λ_ z=>nomatch z) v hv
 refine⟨v,hv,g1,λJ=>?_,?_⟩
 ·rw[g2 J,lw J];exact bl8 _
 ·rw[g3,ls];exact bl8 _
theorem aV9 {w:ag}{n J:Nat}(h:1<=cB w n (aQ w) J):∃l,l.length=n/\row w l (aQ w)=true/\cH l=J:=by
 rw[nU w _ _ (pR w)]at h
 obtain⟨l,hl⟩:=List.exists_mem_of_length_pos h
 obtain⟨h1,h2⟩:=bn0.mp hl
 rw[bg6,bh3]at h2
 exact⟨l,(pQ.mp h1).1,h2.1,h2.2⟩
theorem ab5 {α:Type}{p q:α->Bool}:∀{l:List α},(∀x∈l,p x=true->q x=true)->(l.filter p).length<=(l.filter q).length
 |[],_=>be2 _
 |x::r,h=>by
  have ih:=ab5 (p:=p) (q:=q) (l:=r) λy hy=>h y (bd5 _ hy)
  cases hp:p x with
  |true=>rw[List.filter_cons_of_pos hp,List.filter_cons_of_pos (h x bd4 hp),bg2,bg2];omega
  |false=>
   rw[List.filter_cons_of_neg (by rw[hp];exact be9)];cases hq:q x with
   |true=>rw[List.filter_cons_of_pos hq,bg2];omega
   |false=>rw[List.filter_cons_of_neg (by rw[hq];exact be9)];exact ih
theorem aW0 {w w':ag}(o:b8 w)(o':b8 w')(hl:w'.length=w.length)(le:∀p,p<w.length->w'.getD p 0<=w.getD p 0){l:List Nat}(h:row w l (aQ w)=true):row w' l (aQ w')=true:=by
 have m:=y0 o l (lH o) h;have m':eM w' l:=λs hs=>by rw[hl];exact m s hs
 refine (xD o' m').mpr λB hB k hk=>?_
 rw[hl];refine (xD o m).mp h B ⟨λk hk=>?_,hB.sd,λk hk=>?_⟩ k hk
 ·have:=hB.lt k hk;rwa [hl]at this
 ·have b:=hB.lt k hk
  have e:=(W0 o' b).mp (hB.st k hk);rw[hl]at b e;refine (W0 o b).mpr λp hp q=>e p hp ?_
  unfold cA at q ⊢;have q:=of_decide_eq_true q
  have:=le p hp
  exact bg0 (by omega)
theorem aW1 {w w':ag}(o:b8 w)(o':b8 w')(hl:w'.length=w.length)(le:∀p,p<w.length->w'.getD p 0<=w.getD p 0)(n J:Nat):cB w n (aQ w) J<=cB w' n (aQ w') J:=by
 rw[nU w _ _ (pR w),nU w' _ _ (pR w'),hl];refine ab5 λl _ h=>?_
 rw[bg6]at h ⊢
 exact⟨aW0 o o' hl le h.1,h.2⟩
theorem ab6 {w:ag}(o:b8 w):∀{l:List Nat},eM w l->cH l<=w.length*l.length/\(cH l=w.length*l.length->l=h9 w l.length)
 |[],_=>⟨bp2 _,λ_=>rfl⟩
 |s::r,h=>by
  have hs:=h s bd4
  obtain⟨h1,h2⟩:=ab6 o (l:=r) λx hx=>h x (bd5 _ hx)
  have os:=xY o hs;have of:one s=w.length->s=2^w.length-1:=by
   rcases o.two with⟨a,rfl⟩|⟨a,b,rfl⟩
   ·rcases pB hs with rfl|rfl
    ·intro e;exact absurd e (by show ¬one 0=1;decide)
    ·intro _;rfl
   ·rcases pA hs with rfl|rfl|rfl|rfl
    ·intro e;exact absurd e (by show ¬one 0=2;decide)
    ·intro e;exact absurd e (by show ¬one 1=2;decide)
    ·intro e;exact absurd e (by show ¬one 2=2;decide)
    ·intro _;rfl
  have ec:cH (s::r)=one s+cH r:=rfl;rw[ec,bg2,Nat.mul_succ];refine⟨by omega,λe=>?_⟩;have e1:=of (by omega);have e2:=h2 (by omega);show s::r=h9 w (r.length+1);rw[e1,show h9 w (r.length+1)=(2^w.length-1)::h9 w r.length from rfl,<- e2]
theorem ab7 {w:ag}(o:b8 w):∀n,cH (h9 w n)=w.length*n
 |0=>rfl
 |n+1=>by
  show one (2^w.length-1)+cH (h9 w n)=_;rw[ab7 o n,Nat.mul_succ]
  have:one (2^w.length-1)=w.length:=by
   rcases o.two with⟨a,rfl⟩|⟨a,b,rfl⟩
   ·show one 1=1;decide
   ·show one 3=2;decide
  omega
theorem aW2 {w:ag}(o:b8 w)(n:Nat):cB w n (aQ w) (w.length*n)=1:=by
 refine Nat.le_antisymm ?_ ?_
 ·rw[nU w _ _ (pR w)]
  have sub:∀l∈((iS (2^w.length) n).filter λl=>row w l (aQ w)&&decide (cH l=w.length*n)),l∈[h9 w n]:=λl hl=>by
   obtain⟨h1,h2⟩:=bn0.mp hl
   obtain⟨g1,g2⟩:=pQ.mp h1
   rw[bg6,bh3]at h2
   have:=(ab6 o g2).2 (by rw[h2.2,g1])
   rw[g1]at this;rw[this];exact bd4
  exact pC ((ab3 n).filter _) sub
 ·have:=yB o (t5 o n)
  rwa [sZ,ab7 o n]at this
theorem aW3 {J:PR->PR->PR}(P:jG J){w:ag}(o:b8 w){n:Nat}{u:PR}(hu:fW J (bK w pass J (0,[]) n)=some u):1<=cB w n (aQ w) u.1/\∀j,j<u.1->cB w n (aQ w) j=0:=by
 obtain⟨h1,h2,h3⟩:=(wW P w n).1 u hu
 constructor
 ·have:=yB o h2
  rwa [h1,<- h3]at this
 ·intro j hj
  refine Nat.eq_zero_of_not_pos λz=>?_
  obtain⟨l,e1,e2,e3⟩:=aV9 z
  obtain⟨u',hu',le⟩:=(wW P w n).2 l e1 e2
  rw[hu]at hu';cases hu';omega
noncomputable def bU:Nat->List Nat
 |0=>[1]
 |n+1=>aX (bU n++[0,0]) (aX (0::bU n++[0]) (aX (0::bU n++[0]) (0::0::bU n)))
theorem ab8:∀n,(bU n).length=2*n+1
 |0=>rfl
 |n+1=>by
  have ih:=ab8 n;have l1:(bU n++[0,0]).length=2*n+3:=by rw[be3,ih];rfl
  have l2:(0::bU n++[0]).length=2*n+3:=by rw[be3,bg2,ih];rfl
  have l3:(0::0::bU n).length=2*n+3:=by rw[bg2,bg2,ih]
  have a1:(aX (0::bU n++[0]) (0::0::bU n)).length=2*n+3:=by rw[kB (l2.trans l3.symm),l2]
  have a2:(aX (0::bU n++[0]) (aX (0::bU n++[0]) (0::0::bU n))).length=2*n+3:=by rw[kB (l2.trans a1.symm),l2]
  show (aX (bU n++[0,0]) (aX (0::bU n++[0]) (aX (0::bU n++[0]) (0::0::bU n)))).length=_;rw[kB (l1.trans a2.symm),l1];omega
noncomputable def pS:aB:=List.replicate 4 (3,true)
theorem aW4:∀a∈[aQ [0,0],pS],∀s,s<4->next [0,0] a s=pS:=by
 intro a ha s hs
 have:s=0∨s=1∨s=2∨s=3:=by omega
 rcases bd8.mp ha with rfl|ha
 ·rcases this with rfl|rfl|rfl|rfl<;>decide +kernel
 ·rw[bd7.mp ha]
  rcases this with rfl|rfl|rfl|rfl<;>decide +kernel
theorem aW5 (l:List Nat)(J:Nat):(l++[0]).getD J 0=l.getD J 0:=by
 rw[<- iF,<- iF,show l++[0]=l++List.replicate 1 0 from rfl,t6]
theorem aW6 (l:List Nat)(J:Nat):(l++[0,0]).getD J 0=l.getD J 0:=by
 rw[<- iF,<- iF,show l++[0,0]=l++List.replicate 2 0 from rfl,t6]
theorem ab9 (l:List Nat)(p J:Nat):(List.replicate p 0++l).getD J 0=if p<=J then l.getD (J-p) 0 else 0:=by
 rw[<- iF,xV];by_cases h:p<=J
 ·rw[if_pos h,if_pos h,iF]
 ·rw[if_neg h,if_neg h]
theorem ac0:∀n (a:aB),a∈[aQ [0,0],pS]->∀J,cB [0,0] n a J=(bU n).getD J 0
 |0,a,ha,J=>by
  have l1:lit a=true:=by
   rcases bd8.mp ha with rfl|ha
   ·decide
   ·rw[bd7.mp ha];decide
  show (if lit a=true/\J=0 then 1 else 0)=([1]:List Nat).getD J 0;cases J with
  |zero=>rw[if_pos ⟨l1,rfl⟩];rfl
  |succ J=>rw[if_neg (λz=>nomatch z.2)];rfl
 |n+1,a,ha,J=>by
  have l4:a.length=4:=by
   rcases bd8.mp ha with rfl|ha
   ·rfl
   ·rw[bd7.mp ha];rfl
  have fn:=aW4 a ha;have kF:kept pS=true:=by decide
  have ih:=ac0 n pS (bd5 _ bd4);have t:∀s,s<4->(if kept (next [0,0] a s)=true/\one s<=J then cB [0,0] n (next [0,0] a s) (J-one s) else 0)=if one s<=J then (bU n).getD (J-one s) 0 else 0:=λs hs=>by
   rw[fn s hs,ih];by_cases g:one s<=J
   ·rw[if_pos ⟨kF,g⟩,if_pos g]
   ·rw[if_neg (λz=>g z.2),if_neg g]
  have pl:=ab8 n;show ((List.range a.length).map λs=>if kept (next [0,0] a s)=true/\one s<=J then cB [0,0] n (next [0,0] a s) (J-one s) else 0).sum=_;rw[l4];have t0:=t 0 (by decide);have t1:=t 1 (by decide);have t2:=t 2 (by decide);have t3:=t 3 (by decide);show _+(_+(_+(_+0)))=_;dsimp only;rw[t0,t1,t2,t3];have l1:(bU n++[0,0]).length=2*n+3:=by rw[be3,pl];rfl
  have l2:(0::bU n++[0]).length=2*n+3:=by rw[be3,bg2,pl];rfl
  have l3:(0::0::bU n).length=2*n+3:=by rw[bg2,bg2,pl]
  have a1:(aX (0::bU n++[0]) (0::0::bU n)).length=2*n+3:=by rw[kB (l2.trans l3.symm),l2]
  have a2:(aX (0::bU n++[0]) (aX (0::bU n++[0]) (0::0::bU n))).length=2*n+3:=by rw[kB (l2.trans a1.symm),l2]
  show _=(aX (bU n++[0,0]) (aX (0::bU n++[0]) (aX (0::bU n++[0]) (0::0::bU n)))).getD J 0;rw[t9 (l1.trans a2.symm),t9 (l2.trans a1.symm),t9 (l2.trans l3.symm),aW6,aW5,show 0::bU n=List.replicate 1 0++bU n from rfl,show 0::(List.replicate 1 0++bU n)=List.replicate 2 0++bU n from rfl,ab9,ab9,show one 0=0 by decide,show one 1=1 by decide,show one 2=1 by decide,show one 3=2 by decide,if_pos (bp2 J),Nat.sub_zero];omega
noncomputable def gQ:Nat->Nat
 |0=>1
 |k+1=>gQ k*(120-k)/(k+1)
theorem aW7:((List.range 121).all λk=>(bU 60).getD k 0==gQ k)=true:=by decide +kernel
theorem aW8 {k:Nat}(h:k<121):cB [0,0] 60 (aQ [0,0]) k=gQ k:=by
 rw[ac0 60 (aQ [0,0]) bd4]
 have:=bp4.mp aW7 k (bl1.mpr h)
 simpa using this
end Strip
namespace PP
open PySem L2
open Strip (aB b8 d2 Closed lJ)
open Core (d9 si dQ)
noncomputable def ac1 {β:Type}(r:β->PV)(first:β)(pass:β->Nat->β)(J:β->β->β)(gP gJ:PV)(c:Nat):b7:=λxs Q=>∃x ws,∃n:Nat,∃v,xs = [x,.int n,r first,gP,gJ]/\d9 x ws/\b8 ws/\(∃S,Closed ws S)/\ws.length=c/\n<=300/\Strip.fW J (Strip.bK ws pass J first n)=some v/\Q (r v)
theorem Kd.foldsC {β:Type}{Ks:List aB}{J:β->β->β}{ws:ag}{pass:β->Nat->β}{Bd':β->Prop}(hJ:∀a b,Bd' a->Bd' b->Bd' (J a b)){v:β}{a:aB}(hp:∀s,s<a.length->Bd' (pass v s))(go:∀q∈Strip.after ws a,q.2∈Ks):∀(m:Nat) {l:List (aB×β)},Kd Ks Bd' l->Kd Ks Bd' (((Strip.after ws a).take m).foldl (λl q=>Strip.cD J l q.2 (pass v q.1)) l):=by
 intro m l h
 have:∀q∈(Strip.after ws a).take m,q∈Strip.after ws a:=λq hq=>List.mem_of_mem_take hq
 generalize (Strip.after ws a).take m=qs at this
 induction qs generalizing l with
 |nil=>exact h
 |cons q r ih=>
  have hq:=this q bd4;exact ih (h.join hJ (go q hq) (hp _ (Strip.nI hq).1)) λx hx=>this x (bd5 _ hx)
theorem aW9 {β:Type}{r:β->PV}{first:β}{pass:β->Nat->β}{J:β->β->β}{gP gJ:PV}{tc:aF}{c:Nat}{Ok:PV->Prop}(Bd:Nat->β->Prop)(hO:∀i v,i<=300->Bd i v->Ok (r v))(inj:∀{a b},r a=r b->a=b)(fl:∀b,flat (r b)=true)(h0:Bd 0 first)(hJ:∀i a b,Bd i a->Bd i b->Bd i (J a b))(hP:∀i v s,Bd i v->s<2^c->Bd (i+1) (pass v s))(htc:∀(ρ:bT) (Q:PK) ps k b (s i:Nat),(∃g,ρ[3]? = some (some (.sh g gP)))->(∃g,ρ[7]? = some (some (.sh g (.fA (dR r ps)))))->(∃g,ρ[10]? = some (some (.sh g (bE k))))->(∃g,ρ[11]? = some (some (.sh g (.int s))))->
   Strip.bQ ps k=some b->Bd i b->i<=300->s<2^c->Q (r (pass b s)) .fr->tc ρ Q) :
  ∀xs Q,ac1 r first pass J gP gJ c xs Q->pJ tc gJ Ok (gO r J) { nx:=λ_=>Q .non,rt:=Q } (bF ["wants","length","first","passed","joined","begin","following","values","turn","later","answer","seeds","behind","ends"] xs):=by
 rintro _ Q ⟨x,ws,n,v,rfl,hx,ow,cl,hcw,hn,hv,q⟩;have wl:ws.length=1∨ws.length=2:=by have:=ow.1;have:=ow.2;omega
 have hl:mH x=some ws.length:=hx.len;refine⟨by decide,rfl,by decide,rfl,_,rfl,x,ws.length,rfl,hl,_,_,rfl,rfl,⟨by omega,by omega,by decide⟩,[.tup [.int 0,.bl true]],_,rfl,rfl,rfl,by simp,?_,?_,by decide,trivial,?_⟩
 ·rcases wl with e|e<;>rw[e]<;>decide
 ·rcases wl with e|e<;>rw[e]<;>decide
 rw[Y2 ow];refine⟨_,rfl,_,rfl,x,ws,rfl,hx,ow,cl,λKs gd=>?_⟩;have fF:flats ((dR rF (cI ws Ks)).map (·.2))=true:=by
  unfold dR cI;rw[bi6,bi6];generalize Ks=L
  induction L with
  |nil=>rfl
  |cons a t ih=>show (flat (rF (Strip.after ws a))&&_)=true;rw[show flat (rF (Strip.after ws a))=true from sS _];exact ih
 refine⟨dR rF (cI ws Ks),rfl,rfl,fF,trivial,?_⟩;refine⟨_,rfl,_,rfl,fl first,ki (Strip.aQ ws),rfl,[(ki (Strip.aQ ws),r first)],rfl,rfl,?_,trivial,?_⟩
 ·show (flat (r first)&&true)=true
  rw[fl];rfl
 have kl:Ks.length<=5000:=gd.len
 let vw:Nat->List (aB×β):=λi=>Strip.bK ws pass J first i
 have al:∀a∈Ks,a.length<=4:=λa ha=>by have:=(gd.wf a ha).1;rcases Strip.lI ow with e|e<;>omega
 have kd:∀i,Kd Ks (Bd i) (vw i):=λi=>by
  induction i with
  |zero=>exact⟨bh7.mpr ⟨(λz=>by cases z),bk9⟩,λp hp=>by rw[bd7.mp hp];exact⟨gd.b,h0⟩⟩
  |succ i ih=>
   show Kd Ks (Bd (i+1)) ((vw i).foldl (Strip.cW ws pass J) [])
   have:∀p∈vw i,p.1∈Ks/\Bd i p.2:=ih.mem
   have go:∀{qs:List (aB×β)}{l:List (aB×β)},(∀p∈qs,p.1∈Ks/\Bd i p.2)->Kd Ks (Bd (i+1)) l->Kd Ks (Bd (i+1)) (qs.foldl (Strip.cW ws pass J) l):=by
    intro qs
    induction qs with
    |nil=>exact λ_ h=>h
    |cons p t ih2=>
     intro l hq h
     obtain⟨hk,hb⟩:=hq p bd4
     refine ih2 (λx hx=>hq x (bd5 _ hx)) ?_
     have:=Kd.foldsC (ws:=ws) (pass:=pass) (v:=p.2) (hJ (i+1)) (λs hs=>hP i p.2 s hb (by rw[<- hcw,<- (gd.wf _ hk).1];exact hs)) (gd.go p.1 hk) (Strip.after ws p.1).length h
     rwa [bj9]at this
   exact go this ⟨bk9,λ_ z=>by cases z⟩
 refine⟨_,rfl,(n:Int),rfl,by omega,by omega,λi ρ=>∃y8 y9 y10 y11 y12,ρ = [some (.sh (flat x) x),si n,some (.sh (flat (r first)) (r first)),some (.sh (flat gP) gP),some (.sh (flat gJ) gJ),some (.sh true (bE (Strip.aQ ws))),some (.sh true (.fA (dR rF (cI ws Ks)))),some (.sh true (.fA (dR r (vw i)))),y8,y9,y10,y11,y12,none],⟨_,_,_,_,_,rfl⟩,?_,?_⟩
 ·rintro i z ρ hz ⟨y8,y9,y10,y11,y12,rfl⟩
  have hi:i<n:=by
   have:=(bf7.mp hz).1
   rw[fH]at this;omega
  refine⟨rfl,.inl ⟨[],rfl,rfl⟩,?_⟩;refine⟨_,rfl,dR r (vw i),rfl,λj ρ=>∃y8 y10 y11 y12,ρ = [some (.sh (flat x) x),si n,some (.sh (flat (r first)) (r first)),some (.sh (flat gP) gP),some (.sh (flat gJ) gJ),some (.sh true (bE (Strip.aQ ws))),some (.sh true (.fA (dR rF (cI ws Ks)))),some (.sh true (.fA (dR r (vw i)))),y8,some (.own (.dA (dR r (((vw i).take j).foldl (Strip.cW ws pass J) [])))),y10,y11,y12,none]/\Kd Ks (Bd (i+1)) (((vw i).take j).foldl (Strip.cW ws pass J) []),⟨_,_,_,_,rfl,⟨bk9,λ_ z=>by cases z⟩⟩,?_,?_⟩
  ·rintro j z2 ρ hz2 ⟨y8,y10,y11,y12,rfl,hk⟩
   unfold dR at hz2;rw[bi6,bf4]at hz2;cases hp:(vw i)[j]? with
   |none=>rw[hp]at hz2;cases hz2
   |some p=>
    rw[hp]at hz2;cases hz2;have pm:p∈vw i:=bi9 hp
    obtain⟨pk,pb⟩:=(kd i).mem p pm
    have tk:(vw i).take (j+1)=(vw i).take j++[p]:=by rw[bk3,hp];rfl
    have pv2:=sT (kd i).nd pm;have fv:d6 (dR rF (cI ws Ks)) (ki p.1)=some (rF (Strip.after ws p.1)):=by rw[gN,pI,if_pos pk];rfl
    refine⟨_,rfl,_,rfl,rF (Strip.after ws p.1),.inl ⟨_,ki p.1,rfl,rfl,fv.symm⟩,_,rfl,(λz=>by cases z),λm ρ=>∃y11 y12,ρ = [some (.sh (flat x) x),si n,some (.sh (flat (r first)) (r first)),some (.sh (flat gP) gP),some (.sh (flat gJ) gJ),some (.sh true (bE (Strip.aQ ws))),some (.sh true (.fA (dR rF (cI ws Ks)))),some (.sh true (.fA (dR r (vw i)))),y8,some (.own (.dA (dR r (((Strip.after ws p.1).take m).foldl (λl q=>Strip.cD J l q.2 (pass p.2 q.1)) (((vw i).take j).foldl (Strip.cW ws pass J) []))))),some (.sh true (bE p.1)),y11,y12,none]/\Kd Ks (Bd (i+1)) (((Strip.after ws p.1).take m).foldl (λl q=>Strip.cD J l q.2 (pass p.2 q.1)) (((vw i).take j).foldl (Strip.cW ws pass J) [])),⟨_,_,rfl,hk⟩,?_,?_⟩
    ·rintro m z3 ρ hz3 ⟨y11,y12,rfl,hk3⟩
     have hz3:((Strip.after ws p.1).map dS)[m]? = some z3:=hz3;rw[bf4]at hz3;cases hq:(Strip.after ws p.1)[m]? with
     |none=>rw[hq]at hz3;cases hz3
     |some u=>
      rw[hq]at hz3;cases hz3;have um:=bi9 hq;have us:=(Strip.nI um).1;have u2:u.1<2^c:=by rw[<- hcw,<- (gd.wf _ pk).1];exact us
      have tk3:(Strip.after ws p.1).take (m+1)=(Strip.after ws p.1).take m++[u]:=by rw[bk3,hq];rfl
      refine⟨_,_,rfl,_,rfl,_,rfl,?_⟩;refine htc _ _ (vw i) p.1 p.2 u.1 i ⟨_,rfl⟩ ⟨_,rfl⟩ ⟨_,rfl⟩ ⟨_,rfl⟩ pv2 pb (by omega) u2 ?_;refine⟨_,rfl,ki u.2,rfl,rfl,fl _,hO (i+1) _ (by omega) (hP i p.2 u.1 pb u2),λw hw=>?_,by rw[lM];have:=hk3.len;omega,?_⟩
      ·rw[gN]at hw
       cases e:Strip.bQ _ u.2 with
       |none=>rw[e]at hw;cases hw
       |some b=>rw[e]at hw;cases hw;exact hO (i+1) b (by omega) (hk3.mem _ (X8 e)).2
      ·refine⟨some (.sh true (.int u.1)),some (.sh true (bE u.2)),?_,?_⟩
       rotate_left
       ·rw[tk3,bh9]
        exact hk3.join (hJ (i+1)) (gd.go p.1 pk u um) (hP i p.2 u.1 pb u2)
       ·rw[X9 inj,tk3,bh9];rfl
    ·rintro ρ ⟨y11,y12,rfl,hk3⟩
     have e:((Strip.after ws p.1).take ((Strip.after ws p.1).map dS).length)=Strip.after ws p.1:=by rw[be0,bj9]
     rw[e]at hk3 ⊢;refine⟨y8,some (.sh true (bE p.1)),y11,y12,?_,?_⟩
     rotate_left
     ·rw[tk,bh9];exact hk3
     ·rw[tk,bh9];rfl
  ·rintro ρ ⟨y8,y10,y11,y12,rfl,hk⟩
   have e:(vw i).take ((dR r (vw i)).map λp=>PV.tup (p.1.map λq=>.tup [.int q.1,.bl q.2])).length=vw i:=by rw[be0,lM,bj9]
   rw[e]
   exact⟨_,rfl,y8,_,y10,y11,y12,rfl⟩
 rintro ρ ⟨y8,y9,y10,y11,y12,rfl⟩;have e:(gW 0 ((n:Int)).toNat).length=n:=by rw[fH];exact bk2 _
 rw[e];refine⟨rfl,.inr ⟨[],rfl,rfl⟩,?_⟩;refine⟨_,rfl,dR r (vw n),rfl,λj ρ=>∃y10,ρ = [some (.sh (flat x) x),si n,some (.sh (flat (r first)) (r first)),some (.sh (flat gP) gP),some (.sh (flat gJ) gJ),some (.sh true (bE (Strip.aQ ws))),some (.sh true (.fA (dR rF (cI ws Ks)))),some (.sh true (.fA (dR r (vw n)))),y8,y9,y10,y11,y12,some (.own (.dB (eB r ((((vw n).take j).filter λp=>Strip.lit p.1).foldl (λacc p=>Strip.dC J acc p.2) none))))]/\∀b,(((vw n).take j).filter λp=>Strip.lit p.1).foldl (λacc p=>Strip.dC J acc p.2) none=some b->Bd n b,⟨_,rfl,λb z=>nomatch z⟩,?_,?_⟩
 ·rintro j z2 ρ hz2 ⟨y10,rfl,ab⟩
  unfold dR at hz2;rw[bi6,bf4]at hz2;cases hp:(vw n)[j]? with
  |none=>rw[hp]at hz2;cases hz2
  |some p=>
   rw[hp]at hz2;cases hz2;have pm:p∈vw n:=bi9 hp
   obtain⟨pk,pb⟩:=(kd n).mem p pm
   have tk:(vw n).take (j+1)=(vw n).take j++[p]:=by rw[bk3,hp];rfl
   have pv2:=sT (kd n).nd pm;have a0:0<p.1.length:=by rw[(gd.wf _ pk).1];exact bk8 _
   refine⟨_,rfl,_,_,_,nN _,rfl,pE (b:=0) a0,_,_,_,rfl,rfl,rfl,_,rfl,?_⟩;show if Strip.lit p.1=true then _ else _
   cases hl2:Strip.lit p.1 with
   |true=>
    refine cC ⟨_,rfl,_,rfl,_,rfl,r p.2,.inl ⟨_,ki p.1,rfl,rfl,by rw[gN,pv2];rfl⟩,_,rfl,1,.inr ⟨true,rfl,rfl⟩,rfl,fl _,hO n p.2 hn pb,λw hw=>?_,?_,some (.sh true (bE p.1)),?_,?_⟩
    ·generalize ((((vw n).take j).filter λp=>Strip.lit p.1).foldl (λacc p=>Strip.dC J acc p.2) none)=o at hw ab
     cases o with
     |none=>cases hw
     |some b=>cases hw;exact hO n b hn (ab b rfl)
    ·generalize ((((vw n).take j).filter λp=>Strip.lit p.1).foldl (λacc p=>Strip.dC J acc p.2) none)=o
     cases o with
     |none=>show 0<16000000;decide
     |some b=>show 1<16000000;decide
    ·have fc:[p].filter (λp=>Strip.lit p.1) = [p]:=by
      show (match Strip.lit p.1 with|true=>_|false=>_)=_;rw[hl2];rfl
     rw[tk,bn3,bh9,fc,Y0 inj];rfl
    ·intro b hb
     have fc:[p].filter (λp=>Strip.lit p.1) = [p]:=by
      show (match Strip.lit p.1 with|true=>_|false=>_)=_;rw[hl2];rfl
     rw[tk,bn3,bh9,fc]at hb;generalize ((((vw n).take j).filter λp=>Strip.lit p.1).foldl (λacc p=>Strip.dC J acc p.2) none)=o at hb ab;cases o with
     |none=>cases hb;exact pb
     |some w=>cases hb;exact hJ n _ _ (ab w rfl) pb
   |false=>
    refine bJ ⟨some (.sh true (bE p.1)),?_,?_⟩
    rotate_left
    ·intro b hb
     have fc:[p].filter (λp=>Strip.lit p.1) = []:=by
      show (match Strip.lit p.1 with|true=>_|false=>_)=_;rw[hl2];rfl
     rw[tk,bn3,bh9,fc]at hb;exact ab b hb
    have fc:[p].filter (λp=>Strip.lit p.1) = []:=by
     show (match Strip.lit p.1 with|true=>_|false=>_)=_;rw[hl2];rfl
    rw[tk,bn3,bh9,fc];rfl
 rintro ρ ⟨y10,rfl,_⟩;have e:(vw n).take ((dR r (vw n)).map λp=>PV.tup (p.1.map λq=>.tup [.int q.1,.bl q.2])).length=vw n:=by rw[be0,lM,bj9]
 rw[e];have ee:((vw n).filter λp=>Strip.lit p.1).foldl (λacc p=>Strip.dC J acc p.2) none=some v:=hv;rw[ee]
 exact⟨_,rfl,r v,.inr ⟨_,1,rfl,.inr ⟨true,rfl,rfl⟩,rfl⟩,fl v,q⟩
end PP
namespace PP
open PySem L2 PyProof.Rows PySem.Spec
open Strip (aB b8 d2 Closed lJ bR aX)
open Core (d9 si dQ)
noncomputable abbrev nz (v:List Nat):List PV:=intz (v.map Int.ofNat)
noncomputable def rL (v:List Nat):PV:=.fL (nz v)
theorem iG (v:List Nat):(nz v).length=v.length:=by unfold nz;rw[Core.lC,be0]
theorem hI (v:List Nat):flats (nz v)=true:=kP _
theorem aX0:∀{l m:List Nat},nz l=nz m->l=m:=by
 intro l
 induction l with
 |nil=>intro m h;cases m with
  |nil=>rfl
  |cons=>cases h
 |cons x r ih=>intro m h;cases m with
  |nil=>cases h
  |cons y t=>
   injection h with h1 h2
   rw[ih h2,show x=y from Int.ofNat.inj (PV.int.inj h1)]
theorem ac2:∀{a b:List Nat},rL a=rL b->a=b:=λh=>aX0 (PV.fL.inj h)
theorem tD (a b:List Nat):nz (a++b)=nz a++nz b:=by unfold nz;rw[bg4];exact bg4 ..
theorem ac3 (p:Nat):(List.replicate p [PV.int 0]).flatten=nz (List.replicate p 0):=by
 induction p with
 |zero=>rfl
 |succ p ih=>rw[bj4,bj4,bn6,ih];rfl
theorem aX1 (v:List Nat):flat (rL v)=true:=by
 show flats (nz v)=true;exact hI v
noncomputable def pT:b7:=λxs Q=>∃v:List Nat,∃p c:Nat,xs = [rL v,.int p,.int c]/\v.length<=1000/\p<=c/\c<=2/\Q (.lst (nz (List.replicate p 0++v++List.replicate (c-p) 0)))
noncomputable def ac4:aY:=cL (O4 (T7 (vM (mE (aE (qC (.int 0)) aM)) (aC 1)) (aC 0)) (vM (mE (aE (qC (.int 0)) aM)) (oP (aC 2) (aC 1))))
theorem aX2:∀xs Q,pT xs Q->ac4 { nx:=λ_=>Q .non,rt:=Q } (bF ["row","places","width"] xs):=by
 rintro _ Q ⟨v,p,c,rfl,hl,hp,hc,q⟩;have e1:(List.replicate ((p:Nat):Int).toNat [PV.int 0]).flatten=nz (List.replicate p 0):=by rw[bk2,ac3]
 have e2:(List.replicate ((c:Int)-(p:Int)).toNat [PV.int 0]).flatten=nz (List.replicate (c-p) 0):=by rw[show ((c:Int)-(p:Int)).toNat=c-p by omega,ac3]
 refine⟨by show 1<=1000;decide,rfl,_,rfl,[.int 0],(p:Int),rfl,rfl,rfl,by omega,by omega,by decide,?_⟩;rw[e1];refine⟨_,rfl,_,_,rfl,rfl,hI _,hI _,by rw[iG,iG,bk6];omega,?_⟩;refine⟨by show 1<=1000;decide,rfl,_,rfl,_,rfl,_,_,rfl,rfl,[.int 0],(c:Int)-(p:Int),rfl,rfl,rfl,by omega,by omega,by decide,?_⟩;rw[e2,<- tD];refine⟨_,_,rfl,rfl,hI _,hI _,by rw[iG,iG,be3,bk6,bk6];omega,?_⟩;rw[<- tD]
 exact⟨trivial,q⟩
noncomputable def nV:b7:=λxs Q=>∃a b:List Nat,xs = [rL a,rL b]/\a.length<=1000/\b.length<=1000/\Q (.lst (nz (aX a b)))
noncomputable def ac5:aY:=cL (iA (wN (aC 0) (aC 1)) [none,none] (kX 0 1) gG (iL (aC 0) (aC 1)))
theorem aX3 {a b:List Nat}{i:Nat}{x y:PV}(h1:(nz a)[i]? = some x)(h2:(nz b)[i]? = some y):∃m n:Nat,x = .int m/\y = .int n/\(aX a b)[i]? = some (m+n):=by
 unfold nz intz at h1 h2;rw[bi6,bf4]at h1 h2;cases ea:a[i]? with
 |none=>rw[ea]at h1;cases h1
 |some m=>
  cases eb:b[i]? with
  |none=>rw[eb]at h2;cases h2
  |some n=>
   rw[ea]at h1;rw[eb]at h2;cases h1;cases h2;refine⟨m,n,rfl,rfl,?_⟩;unfold aX;rw[List.getElem?_zipWith,ea,eb]
theorem aX4:∀xs Q,nV xs Q->ac5 { nx:=λ_=>Q .non,rt:=Q } (bF ["row","other"] xs):=by
 rintro _ Q ⟨a,b,rfl,ha,hb,q⟩;have ll:(j5 (nz a) (nz b)).length=(aX a b).length:=by
  rw[vO,iG,iG];unfold aX;rw[List.length_zipWith]
 refine⟨_,rfl,_,rfl,nz a,nz b,rfl,rfl,hI _,hI _,by rw[vO,iG,iG];omega,λi acc=>acc=nz ((aX a b).take i),rfl,?_,?_⟩
 ·rintro i z acc hz rfl
  obtain⟨x,y,h1,h2,rfl⟩:=aG9 hz
  obtain⟨m,n,rfl,rfl,e⟩:=aX3 h1 h2
  refine⟨_,_,rfl,?_⟩;show gG _ _;refine⟨_,rfl,_,rfl,_,_,rfl,rfl,trivial,?_⟩;show nz ((aX a b).take i)++[PV.int ((m:Int)+(n:Int))]=nz ((aX a b).take (i+1));rw[bk3,e,tD,<- Int.natCast_add];rfl
 ·rintro acc rfl
  rw[ll,bj9]
  exact⟨trivial,q⟩
noncomputable def pU (w:Int):b7:=λxs Q=>∃v:List Nat,∃s c:Nat,xs = [rL v,.int s]/\(c:Int)=w/\v.length<=1000/\s<4/\Strip.one s<=c/\c<=2/\Q (rL (bR c v s))
noncomputable def aX5:aF:=nB (aP pT (aE (aC 0) (aE (aP lK (aE (aC 1) aM)) (aE (aC 2) aM))))
theorem aX6 (w:Int):∀xs Q,pU w xs Q->aX5 (bF ["row","seeds","width"] (xs++[.int w])) λx _=>flat x=true/\Q x:=by
 rintro _ Q ⟨v,s,c,rfl,rfl,hl,hs,h1,hc,q⟩
 exact⟨_,rfl,_,rfl,s,rfl,hs,_,rfl,v,Strip.one s,c,rfl,hl,h1,hc,_,rfl,rfl,hI _,hI _,q⟩
theorem aX7 (w:Int):∀xs Q,pU w xs Q->xs.length=2:=by rintro _ Q ⟨v,s,c,rfl,_⟩;rfl
noncomputable def nW (l:bA)(w:Int):b7:=λxs Q=>((w.toNat:Nat):Int)=w/\ac1 rL [1] (bR w.toNat) aX (.lm l) (.fn "sums_of") w.toNat xs Q
noncomputable abbrev aX8 (l:bA)(w:Int):List (bA×b7):=[(l,pU w)]
noncomputable abbrev aX9:List (Str×b7):=[("sums_of",nV)]
noncomputable abbrev tcR (l:bA)(w:Int):aF:=sF 3 (aX8 l w) (aE (iD (aC 7) (aC 10)) (aE (aC 11) aM))
noncomputable def jJ (x:PV):Prop:=∃v:List Nat,x=rL v/\v.length<=1000
noncomputable abbrev JL:PV->PV->PV:=gO rL aX
noncomputable abbrev yD:aF:=nB (wH 3 aX9 (aE (iD (aC 0) (aC 1)) (aE (aC 2) aM)))
theorem ac6:∀d y w z,jF d y (some w)->jJ w->jJ z->yD (bF ["values","key","value","joined"] [d,y,z,.fn "sums_of"]) λv _=>v=JL w z/\flat v=true:=by
 rintro d y _ _ ak ⟨a,rfl,ha⟩ ⟨b,rfl,hb⟩;refine⟨_,"sums_of",_,rfl,bd4,_,rfl,_,rfl,rL a,ak,_,rfl,a,b,rfl,ha,hb,_,rfl,rfl,hI _,?_,hI _⟩;exact (sU ac2 a b).symm
theorem aY0 {l:bA}{w:Int}:∀xs Q,nW l w xs Q->xs.length=5:=by rintro _ Q ⟨_,_,_,_,_,rfl,_⟩;rfl
noncomputable abbrev ac7 (l:bA)(w:Int):aY:=pJ (tcR l w) (.fn "sums_of") jJ JL
theorem aY1 (l:bA)(w:Int):∀xs Q,nW l w xs Q->ac7 l w { nx:=λ_=>Q .non,rt:=Q } (bF ["wants","length","first","passed","joined","begin","following","values","turn","later","answer","seeds","behind","ends"] xs):=by
 rintro xs Q ⟨hw,h⟩;have h0:=h
 obtain⟨_,ws,_,_,_,_,o,_,hc,_⟩:=h0
 have o1:=o.1;have o2:=o.2;have c2:w.toNat=1∨w.toNat=2:=by omega
 have p4:2^w.toNat<=4:=by rcases c2 with e|e<;>rw[e]<;>decide
 have hO:∀(i:Nat) (v:List Nat),i<=300->v.length=w.toNat*i+1->jJ (rL v):=λi v hi hv=>⟨v,rfl,by rcases c2 with e|e<;>rw[e]at hv<;>omega⟩
 have hJ:∀(i:Nat) (a b:List Nat),a.length=w.toNat*i+1->b.length=w.toNat*i+1->(aX a b).length=w.toNat*i+1:=λi a b ha hb=>by
  rw[Strip.kB (ha.trans hb.symm)];exact ha
 have hP:∀(i:Nat) (v:List Nat) (s:Nat),v.length=w.toNat*i+1->s<2^w.toNat->(bR w.toNat v s).length=w.toNat*(i+1)+1:=λi v s hv hs=>by
  have:=Strip.aa8 o (v:=v) (s:=s) (by rw[hc];exact hs)
  rw[hc]at this;rw[this,hv,Nat.mul_succ];omega
 refine aW9 (c:=w.toNat) (Ok:=jJ) (λi v=>v.length=w.toNat*i+1) hO ac2 aX1 rfl hJ hP (λρ Q ps k b s i h3 h7 h10 h11 hv hb hi hs q=>?_) xs Q h
 obtain⟨_,e3⟩:=h3
 obtain⟨_,e7⟩:=h7
 obtain⟨_,e10⟩:=h10
 obtain⟨_,e11⟩:=h11
 refine⟨_,l,_,e3,bd4,_,e7,_,e10,rL b,.inl ⟨_,ki k,rfl,rfl,by rw[gN,hv];rfl⟩,_,e11,b,s,w.toNat,rfl,hw,?_,by omega,?_,by omega,q⟩
 ·rcases c2 with e|e<;>rw[e]at hb<;>omega
 ·rw[<- hc];exact Strip.xY o (by rw[hc];exact hs)
noncomputable def tE:b7:=λxs Q=>∃ws,∃n:Nat,∃v,xs = [.tup (intz ws),.int n]/\dQ ws/\n<=60/\Strip.fW aX (Strip.bK ws (bR ws.length) aX [1] n)=some v/\Q (rL v)
noncomputable def lT:b7:=λxs Q=>∃ws,∃n:Nat,∃v,xs = [.tup (intz ws),.int n]/\dQ ws/\n<=60/\Strip.fW aX (Strip.bK ws (bR ws.length) aX [1] n)=some v/\Q (.lst (nz v))
noncomputable def ac8 (l:bA):aY:=(bC (jR (aP (Core.j9 λ_=>False) (aE (aC 0) (aE (aC 1) aM))))
 (bC (jR (aP (Core.jC λ_=>False) (aE (aC 1) (aE (qC (.int 60)) aM))))
 (bC (cR 2 (aP e9 (aE (aC 0) aM)))
 (cL (wM 2 (nW l) (aE (aC 0) (aE (aC 1) (aE (nB (mE (aE (qC (.int 1)) aM))) (aE (nE l) (aE (qC (.fn "sums_of")) aM))))))))))
theorem aY2 (l:bA):∀xs Q,tE xs Q->ac8 l { nx:=λ_=>Q .non,rt:=Q } (bF ["wants","length","width"] xs):=by
 rintro _ Q ⟨ws,n,v,rfl,ok,hn,hv,q⟩;have o:=lP ok;have cl:=Strip.aa0 o;have el:(intz ws).length=ws.length:=Core.lC ws;refine⟨_,rfl,_,rfl,.tup (intz ws),ws,n,rfl,.inl rfl,λ_ _=>?_,λz=>z ⟨ok,by omega⟩⟩;refine⟨_,rfl,n,60,rfl,λ_=>?_,λz=>by omega⟩;refine⟨_,rfl,.tup (intz ws),ws.length,rfl,by rw[<- el];rfl,trivial,?_⟩;refine⟨_,rfl,_,rfl,by show 1<=1000;decide,rfl,_,rfl,rfl,rfl,_,((ws.length:Nat):Int),rfl,?_⟩;refine⟨by rw[bk2],.tup (intz ws),ws,n,v,?_,.inl rfl,o,cl,by rw[bk2],by omega,?_,trivial,q⟩
 ·rfl
 ·rw[bk2];exact hv
theorem cV.fresh {T:List (az×Str)}{P:ba}{w:bf}{K:ad}{mg:Str->Option ax}{base:Heap}{k:Nat}{x:Str}{ps:List Str}{p p':b7}(d:cV P w K mg base T k x ps p)(h:∀xs Q,p' xs Q->pls xs=true/\p xs (λz=>∃ys,z = .fL ys/\pls ys=true/\Q (.lst ys))):cV P w K mg base T k x ps p':=by
 obtain⟨f,fd,F,rest⟩:=d.ex
 have tups:∀{H:Hp} (a us),H a=some (.tup us)->eJ H a=some (.tup us):=λa us e=>jD e λ_ _ z=>by cases z
 have goes:∀(vs:List V) (H:Hp) (Q:VK),jX K T p' vs H Q (λ_ _ _=>False)->jX K T p vs (eJ H) (λv H'=>aH (eJ H) H'/\∃f o us ys,v = .ref f/\H' f=some (.frz o (.lst us))/\Reps K (λ_=>True) H' us ys/\pls ys=true/\
   ∀H2,aH H H2->H f=none->H2 f=some (.lst us)->Reps K (λa=>H a=none) H2 us ys->Q v H2) (λ_ _ _=>False):=by
  rintro vs H Q ⟨hT,xs,Qp,r,hp,q⟩
  obtain⟨h1,h2⟩:=h xs Qp hp
  refine⟨λz hz=>let ⟨t,e⟩:=hT z hz;⟨t,jD e λ_ _ z=>by cases z⟩,xs,_,r.pl tups h1,h2,?_⟩;rintro v H' z sm rz ⟨ys,rfl,py,qy⟩;cases rz with
  |@fL f o us _ hf rs=>exact⟨sm,f,o,us,ys,rfl,hf,rs.pl (λ_ _ z=>z) py,py,λH2 s2 nf e2 r2=>q _ H2 _ s2 (.lst nf e2 r2) qy⟩
 refine⟨f,fd,⟨λvs H Q E hs=>?_,λA outer s H args us vs Q E hr e0 hb hv hs=>?_⟩,rest⟩
 ·obtain⟨hT,xs,Qp,r,hp,q⟩:=hs
  exact F.len vs (eJ H) _ _ (goes vs H Q ⟨hT,xs,Qp,r,hp,q⟩)
 ·have none_of:∀{b},H b=none->eJ H b=none:=λe=>jD e λ_ _ z=>by cases z
  have e1:jM P w K mg base A outer s (eJ H):=⟨e0.frames,e0.mod,λb o e=>⟨(e0.bs b o e).1,none_of (e0.bs b o e).2⟩,e0.bsz,e0.funs,λb hb=>none_of (e0.frf b hb),aL3 e0.hok,e0.bare⟩;have hs':jX K T p' vs H Q (λ_ _ _=>False):=hs;refine codeAny_mono (F.run A outer s (eJ H) args us vs _ E hr e1 hb hv (goes vs H Q hs')) λr s' hc=>?_
  cases r with
  |error e=>exact hc
  |ok fl=>
   cases fl with
   |ret u=>
    obtain⟨v,H',os,bare,un,hok,rv,sm,f,o,us2,ys,rfl,hf,rs,py,q⟩:=hc
    have nf1:eJ H f=none:=by
     cases z:eJ H f with
     |none=>rfl
     |some o1=>
      have:=sm f o1 z
      rw[hf]at this;exact absurd (z.trans this.symm) aL2
    have nf:H f=none:=by
     rcases S0 H f with⟨ob,us,eb⟩|eb
     ·rw[w5 eb]at nf1;cases nf1
     ·rw[<- eb];exact nf1
    have ext:∀{b ob us},H b=some (.frz ob (.lst us))->H' b=some (.ext λh=>h.get? b=some ob):=λ{b ob us} eb=>sm b _ (w5 eb)
    have oth:∀{b o1},H b=some o1->(∀ob us,o1≠.frz ob (.lst us))->H' b=some o1:=λ{b o1} eb n=>sm b _ (jD eb λob us z=>n ob us (bf6 z))
    generalize hH2:(λb=>match H b with|some (.frz ob (.lst us))=>some (HO.frz ob (.lst us))|_=>if b=f then some (HO.lst us2) else H' b:Hp)=H2;have h2f:∀{b ob us},H b=some (.frz ob (.lst us))->H2 b=some (.frz ob (.lst us)):=λ{b ob us} eb=>by rw[<- hH2];dsimp only;rw[eb]
    have h2n:∀{b},(∀ob us,H b≠some (.frz ob (.lst us)))->b≠f->H2 b=H' b:=λ{b} n nb=>by
     rw[<- hH2];dsimp only;split
     ·rename_i ob us z;exact absurd z (n ob us)
     ·rw[if_neg nb]
    have h2s:H2 f=some (.lst us2):=by
     rw[<- hH2];dsimp only;rw[nf];dsimp only;rw[if_pos rfl]
    have nef:∀{b o1},H b=some o1->b≠f:=λ{b o1} e z=>by rw[z,nf]at e;cases e
    have same:aH H H2:=λb o1 e=>by
     by_cases c:∃ob us,o1 = .frz ob (.lst us)
     ·obtain⟨ob,us,rfl⟩:=c;exact h2f e
     ·have n:∀ob us,o1≠.frz ob (.lst us):=λob us z=>c ⟨ob,us,z⟩
      rw[h2n (λob us z=>n ob us (by rw[e]at z;exact bf6 z)) (nef e)];exact oth e n
    have back:∀{b o1},H' b=some o1->(∀φ,o1≠.ext φ)->b≠f->H2 b=some o1:=λ{b o1} e n nb=>by
     rw[h2n (λob us z=>?_) nb]
     ·exact e
     ·rw[ext z]at e;cases e;exact n _ rfl
    refine⟨.ref f,H2,os,bare,⟨λb o1 e n=>un.keep b o1 e (none_of n),λb o1 e n=>un.slot b o1 e (none_of n),λb o1 e n hx=>?_,un.there,λb xs e=>?_,λb o1 u e=>same b _ e,λb ps e=>?_⟩,λb o1 e=>?_,rv,q H2 same nf h2s ?_⟩
    ·have hb:=un.free b o1 e (none_of n) hx
     rw[h2n (λob us z=>by rw[n]at z;cases z) (λz=>by rw[z,hf]at hb;cases hb)];exact hb
    ·exact same b _ e
    ·obtain⟨more,hm⟩:=un.tbls b ps (jD e λ_ _ z=>by cases z)
     exact⟨more,back hm (λφ z=>by cases z) (nef e)⟩
    ·by_cases c:∃ob us,H b=some (.frz ob (.lst us))
     ·obtain⟨ob,us,eb⟩:=c
      rw[h2f eb]at e;cases e
      obtain⟨g,_⟩:=hok b _ (ext eb)
      obtain⟨g0,z,its,n,r,e3⟩:=e0.hok b _ eb
      rw[g0]at e3;cases e3
      exact⟨g,z,its,n,r,g⟩
     ·by_cases nb:b=f
      ·subst nb
       rw[h2s]at e;cases e
       obtain⟨_,z,its,n,r,e3⟩:=hok _ _ hf
       exact⟨z,its,n,r,e3⟩
      ·rw[h2n (λob us z=>c ⟨ob,us,z⟩) nb]at e
       refine (hok b o1 e).stay (λ_ _ _ q=>q) (λc q=>back q (λφ z=>by cases z) λz=>?_) (λc xs q=>back q (λφ z=>by cases z) λz=>?_) (λc r q=>back q (λφ z=>by cases z) λz=>?_)
       ·rw[z,hf]at q;cases q
       ·rw[z,hf]at q;cases q
       ·rw[z,hf]at q;cases q
    ·exact rs.pl (λa us e=>back e (λφ z=>by cases z) λz=>by rw[z,hf]at e;cases e) py
   |_=>exact hc
theorem aY3:∀xs Q,lT xs Q->pls xs=true/\tE xs (λz=>∃ys,z = .fL ys/\pls ys=true/\Q (.lst ys)):=by
 rintro _ Q ⟨ws,n,v,rfl,ok,hn,hv,q⟩;have pi:∀l:ag,pls (intz l)=true:=λl=>by
  induction l with
  |nil=>rfl
  |cons a r ih=>show (pl (.int a)&&pls (intz r))=true;rw[ih];rfl
 refine⟨?_,ws,n,v,rfl,ok,hn,hv,nz v,rfl,pi _,q⟩;show (pls (intz ws)&&(true&&true))=true;rw[pi];rfl
section
variable {X:Cx}{p2 pos:Pos}{T:List (az×Str)}
theorem aY4 {k j:Nat}{x:Str}{ps:List Str}{p:b7}(hT:fN T X.H₀)(d:cV X.prog X.w X.K X.mg X.base T k x ps p)(hr:bG j X.A)(hkj:k<=j:=by decide)(hg:Gl X x:=by rfl)(hdb:(x==("__debug__":Str))=false:=by decide):QE X (.Call (.Name x p2) [] [] pos) (aP p aM):=by
 obtain⟨f,fd,F,b,kp,m⟩:=d.ex
 exact bV (am0 F (hr.mono hkj) hg m kp b .nil jO hdb) λ_ _ _ h=>J7 (S6 hT h)
end
open Strip (b8 cG aQ cB bR aX gQ)
open Core (d9 si dQ w4 nA lD gL vF mX)
theorem tF {v:List Nat}{i:Nat}(h:i<v.length):atI (nz v) (i:Int)=some (.int (v.getD i 0:Nat)):=by
 refine tY ?_;unfold nz intz;rw[bi6,bf4,bf3 h,bf5,bf3 h];rfl
theorem aY5 {v:List Nat}{m:Nat}(h:v.length=m+1):atI (nz v) (-1)=some (.int (v.getD m 0:Nat)):=by
 have e:v=v.take m++[v.getD m 0]:=by
  have t:=bk3 (l:=v) (i:=m);rw[List.take_of_length_le (by omega)]at t;rw[bf5,bf3 (show m<v.length by omega)];rw[bf3 (show m<v.length by omega)]at t;exact t
 rw[show nz v=nz (v.take m)++[.int (v.getD m 0:Nat)] by rw[<- show nz [v.getD m 0] = [PV.int (v.getD m 0:Nat)] from rfl,<- tD,<- e]];exact tZ _ _
theorem ac9 (v:List Nat):(v.map Int.ofNat).sum=((v.sum:Nat):Int):=by
 induction v with
 |nil=>rfl
 |cons a r ih=>rw[bf0,bg5,bg5,ih,Int.natCast_add];rfl
theorem aY6 {v:List Nat}:∀{m:Nat},(∀j,j<m->v.getD j 0=0)->(v.take m).sum=0:=by
 intro m h
 induction m with
 |zero=>rw[List.take_zero];rfl
 |succ m ih=>
  rw[bk3,bq2,ih λj hj=>h j (by omega)]
  have:=h m (by omega)
  rw[bf5]at this;cases e:v[m]? with
  |none=>rfl
  |some a=>rw[e]at this;have:a=0:=this;subst this;rfl
noncomputable def pV:b7:=λxs Q=>xs = []/\Q (.bl true)
noncomputable def ad0:aY:=(bC (cR 0 (aP lT (aE (fE (aE (qC (.int 0)) (aE (qC (.int 0)) aM))) (aE (qC (.int 60)) aM))))
 (bC (cR 1 (qC (.int 1)))
 (bC (dG (bN (mP (aP e9 (aE (aC 0) aM)) (qC (.int 121)))) (cL (qC (.bl false))) dF)
 (bC (i9 (kW (qC (.int 121))) (fQ 2)
  (bC (dG (bN (mP (d4 (aC 0) (aC 2)) (aC 1))) (cL (qC (.bl false))) dF)
  (cR 1 (j0 (L6 (aC 1) (oP (qC (.int 120)) (aC 2))) (iL (aC 2) (qC (.int 1)))))))
 (cL (qC (.bl true)))))))
theorem aY7:∀xs Q,pV xs Q->ad0 { nx:=λ_=>Q .non,rt:=Q } (bF ["found","many","size"] xs):=by
 rintro _ Q ⟨rfl,q⟩;have ok:dQ [0,0]:=nA ⟨by decide,by decide⟩ ⟨by decide,by decide⟩;have o:=lP ok
 obtain⟨v,hv,hl,hg,hs⟩:=Strip.yC o 60
 have hl:v.length=121:=hl;refine⟨by show 2<=1000;decide,rfl,[0,0],60,v,rfl,ok,by decide,hv,trivial,?_⟩;refine⟨trivial,?_⟩;refine⟨_,rfl,_,121,rfl,by show some (nz v).length=_;rw[iG,hl],.inl ⟨_,_,rfl,rfl,_,rfl,?_⟩⟩;rw[show (if true=true then !decide (((121:Nat):Int)=121) else decide (((121:Nat):Int)=121))=false by decide];refine bJ ?_;refine⟨121,rfl,by decide,by decide,λi ρ=>∃y,ρ = [some (.sh true (.lst (nz v))),si (gQ i:Nat),y],⟨_,rfl⟩,?_,?_⟩
 ·rintro i z ρ hz ⟨y,rfl⟩
  obtain⟨rfl,hi⟩:=Core.N9 hz
  have hi:i<121:=hi;have e:v.getD i 0=gQ i:=by rw[hg,Strip.aW8 hi]
  refine⟨_,rfl,_,rfl,nz v,(i:Int),.int (v.getD i 0:Nat),rfl,by rw[Int.zero_add];rfl,tF (by omega),_,rfl,.inl ⟨_,_,rfl,rfl,_,rfl,?_⟩⟩;rw[e];rw[show (if true=true then !decide (((gQ i:Nat):Int)=((gQ i:Nat):Int)) else decide (((gQ i:Nat):Int)=((gQ i:Nat):Int)))=false by simp];refine bJ ?_;refine⟨_,rfl,_,rfl,_,_,rfl,rfl,_,_,rfl,rfl,.inr ⟨by omega,by omega⟩,_,rfl,_,_,rfl,rfl,_,_,rfl,rfl,⟨by omega,by omega⟩,trivial,?_⟩;refine⟨some (.sh true (.int (0+(i:Int)))),?_⟩;have eb:((gQ i:Nat):Int)*(120-(0+(i:Int)))/(0+(i:Int)+1)=((gQ (i+1):Nat):Int):=by
   show _=((gQ i*(120-i)/(i+1):Nat):Int);rw[Int.natCast_ediv,Int.natCast_mul,show ((120-i:Nat):Int)=120-(0+(i:Int)) by omega,show ((i+1:Nat):Int)=0+(i:Int)+1 by omega]
  rw[<- eb];rfl
 ·rintro ρ ⟨y,rfl⟩
  exact⟨trivial,q⟩
noncomputable def ad1:aY:=(cL (iM (aP e9 (aE (iA (kW (aP e9 (aE (aC 3) aM))) [none,some 7,some 3] (fQ 0) (bN (mO (d4 (aC 1) (aC 0)) (d4 (aC 2) (aC 0)))) (aC 0)) aM)) (qC (.int 0))))
noncomputable def yE:aY:=(bC (dG (bN (iM (d4 (aC 1) (aC 6)) (qC (.int 0)))) (cL (qC (.bl true))) dF)
 (bC (cR 7 (aP lT (aE (rZ (rZ (rM (aC 1) rJ (rK (aC 6))) (fE (aE (oP (d4 (aC 1) (aC 6)) (qC (.int 1))) aM))) (rM (aC 1) (rK (iL (aC 6) (qC (.int 1)))) rJ)) (aE (aC 2) aM))))
 ad1))
noncomputable def ad2 (K:ad):aY:=(bC (cR 3 (aP lT (aE (aC 1) (aE (aC 2) aM))))
 (bC (dG (iK (oN (bN (lA K "list" (aC 3)))) (iK (bN (mP (aP e9 (aE (aC 3) aM)) (iL (L6 (aP e9 (aE (aC 1) aM)) (aC 2)) (qC (.int 1))))) (bN (mP (d4 (aC 3) (uV (qC (.int 1)))) (qC (.int 1)))))) (cL (qC (.bl false))) dF)
 (bC (i9 (mJ (aC 3)) (fQ 4)
  (dG (iK (oN (bN (aP mX (aE (aC 4) aM)))) (bN (mO (aC 4) (qC (.int 0))))) (cL (qC (.bl false))) dF))
 (bC (cR 5 (aP pP (aE (aC 1) (aE (aC 2) aM))))
 (bC (dG (iK (bN (mP (aP sA (aE (aC 3) aM)) (aP pM (aE (aC 1) (aE (aC 2) aM))))) (iK (bN (iM (d4 (aC 3) (aC 5)) (qC (.int 0)))) (bN (rO (aP sA (aE (rM (aC 3) rJ (rK (aC 5))) aM)) (qC (.int 0)))))) (cL (qC (.bl false))) dF)
 (bC (cR 6 (gI (aP gL (aE (aC 0) (aE (qC (.int 2)) aM))) (aP e9 (aE (aC 1) aM))))
 yE))))))
noncomputable def ad3 (K:ad):aY:=(bC (dG (qY (bN (iM (aP e9 (aE (aC 1) aM)) (qC (.int 1)))) (bN (iM (gI (aP gL (aE (aC 0) (aE (qC (.int 1)) aM))) (qC (.int 8))) (qC (.int 2))))) (cR 2 (qC (.int 60))) dF)
 (ad2 K))
noncomputable def ad4 (K:ad):aY:=(bC (cR 2 (gI (j0 (aP gL (aE (aC 0) (aE (qC (.int 1)) aM))) (qC (.int 8))) (qC (.int 13))))
 (bC (dG (bN (iM (gI (aP gL (aE (aC 0) (aE (qC (.int 1)) aM))) (qC (.int 8))) (qC (.int 1)))) (cR 2 (gI (j0 (aP gL (aE (aC 0) (aE (qC (.int 1)) aM))) (qC (.int 8))) (qC (.int 25)))) dF)
 (ad3 K)))
noncomputable def ad5 (K:ad):aY:=(bC (dG (qY (bN (iM (gI (j0 (aP gL (aE (aC 0) (aE (qC (.int 1)) aM))) (qC (.int 8))) (qC (.int 16))) (qC (.int 5)))) (oN (mI (aP pV aM)))) (cL (qC (.bl false))) dF)
 (bC (cR 1 (aP lD (aE (aP gL (aE (aC 0) (aE (qC (.int 0)) aM))) aM)))
 (ad4 K)))
noncomputable def yF:b7:=vF
noncomputable abbrev yG (s:PV)(ws:ag)(n:Nat)(v:List Nat)(y4:Option Slot)(u p:Int)(w:Option Slot):bT:=[some (.sh true s),some (.sh true (.tup (intz ws))),si n,some (.sh true (.lst (nz v))),y4,si u,si p,w]
theorem aY8 {s:PV}{ws:ag}{n:Nat}{v v':List Nat}{y4:Option Slot}{u p:Int}{Q:PV->Prop}(hl:v.length=v'.length)(hm:v.length<=1000)(le:∀J,v.getD J 0<=v'.getD J 0)(q:Q (.bl true)):ad1 { nx:=λ_=>Q .non,rt:=Q } (yG s ws n v y4 u p (some (.sh true (.lst (nz v'))))):=by
 refine⟨_,rfl,_,v.length,rfl,by show some (nz v).length=_;rw[iG],(v.length:Nat),rfl,by omega,by omega,by rw[fH];omega,λi acc=>acc = [],rfl,?_,?_⟩
 ·rintro i z acc hz rfl
  obtain⟨rfl,hi⟩:=Core.N9 hz
  have hi:i<v.length:=by omega
  refine⟨_,rfl,_,rfl,nz v',(i:Int),.int (v'.getD i 0:Nat),rfl,by rw[Int.zero_add];rfl,tF (by omega),?_⟩;refine⟨_,rfl,_,rfl,nz v,(i:Int),.int (v.getD i 0:Nat),rfl,by rw[Int.zero_add];rfl,tF hi,_,_,rfl,rfl,_,rfl,?_⟩
  have:=le i
  rw[be4 (by omega)];rfl
 ·rintro acc rfl
  exact⟨_,0,rfl,rfl,.inl ⟨_,_,rfl,rfl,trivial,q⟩⟩
theorem aY9 {xs ys:List PV}(h:flats xs=true)(k:flats ys=true):flats (xs++ys)=true:=by
 induction xs with
 |nil=>exact k
 |cons a r ih=>
  have h:(flat a&&flats r)=true:=h
  obtain⟨h1,h2⟩:=Bool.and_eq_true_iff.mp h
  show (flat a&&flats (r++ys))=true;rw[h1,ih h2];rfl
theorem yH {s:PV}{ws ws':ag}{a:Int}{n p:Nat}{v:List Nat}{y4:Option Slot}{u:Int}{Q:PV->Prop}(ok:dQ ws)(hn:n<=60)(hl:v.length=ws.length*n+1)(hg:∀J,v.getD J 0=cB ws n (aQ ws) J)(ha:atI (intz ws) (p:Int)=some (.int a))(e1:(gH (intz ws) none (some (p:Int))++[PV.int (a-1)])++gH (intz ws) (some ((p:Int)+1)) none=intz ws')(f1:flats (gH (intz ws) none (some (p:Int)))=true)(f2:flats (gH (intz ws) (some ((p:Int)+1)) none)=true)(n1:(gH (intz ws) none (some (p:Int))).length<=2)(n2:(gH (intz ws) (some ((p:Int)+1)) none).length<=2)(ok':a≠0->dQ ws')(l':ws'.length=ws.length)(le:∀j,j<ws.length->ws'.getD j 0<=ws.getD j 0)(q:Q (.bl true)):yE { nx:=λ_=>Q .non,rt:=Q } (yG s ws n v y4 u p none):=by
 refine⟨_,rfl,_,rfl,intz ws,(p:Int),.int a,rfl,rfl,ha,.inl ⟨_,_,rfl,rfl,_,rfl,?_⟩⟩;show if decide (a=0)=true then _ else _
 by_cases z:a=0
 ·rw[bg0 z]
  exact cC ⟨trivial,q⟩
 rw[be4 z];refine bJ ?_;have o:=lP ok;have o':=lP (ok' z)
 obtain⟨v',hv,hl',hg',_⟩:=Strip.yC o' n
 have cn:ws.length*n<=120:=by rcases Core.xT o with e|e<;>rw[e]<;>omega
 refine⟨_,rfl,_,rfl,_,rfl,_,rfl,kP ws,_,rfl,_,rfl,intz ws,(p:Int),.int a,rfl,rfl,ha,_,_,rfl,rfl,by show 1<=1000;decide,rfl,_,_,rfl,rfl,f1,rfl,by show _+1<=16000000;omega,?_⟩;have f3:flats (gH (intz ws) none (some (p:Int))++[PV.int (a-1)])=true:=aY9 f1 rfl;refine⟨_,rfl,_,rfl,_,_,rfl,rfl,_,rfl,_,rfl,kP ws,_,_,rfl,rfl,f3,f2,by rw[be3];show _+1+_<=16000000;omega,?_⟩;refine⟨_,rfl,ws',n,v',congrArg (λl=>[PV.tup l,PV.int (n:Int)]) e1,ok' z,hn,hv,trivial,?_⟩;exact aY8 (by rw[hl,hl',l']) (by omega) (λJ=>by rw[hg,hg'];exact Strip.aW1 o o' l' le n J) q
theorem yI {K:ad}{ns ws:ag}{n:Nat}{Q:PV->Prop}(ok:dQ ws)(hn:n<=60)(q:Q (.bl true)):ad2 K { nx:=λ_=>Q .non,rt:=Q } [some (.sh true (.scr ns)),some (.sh true (.tup (intz ws))),si n,none,none,none,none,none]:=by
 have kk:=Core.vG K;have o:=lP ok;have w2:=o.2;have cl:=Strip.aa0 o
 obtain⟨v,hv,hl,hg,hs⟩:=Strip.yC o n
 obtain⟨u,hu⟩:=Strip.aU8 xQ o n
 obtain⟨u1,u2⟩:=Strip.aW3 xQ o hu
 have top:=Strip.aW2 o n;have el:(intz ws).length=ws.length:=Core.lC ws;have cn:ws.length*n<=120:=by rcases Core.xT o with e|e<;>rw[e]<;>omega
 have vm:v.length<=121:=by omega
 refine⟨_,rfl,_,rfl,ws,n,v,rfl,ok,hn,hv,trivial,?_⟩;refine⟨_,rfl,_,_,rfl,kk.ll,_,rfl,?_⟩;refine bJ ?_;refine⟨_,rfl,_,v.length,rfl,by show some (nz v).length=_;rw[iG],_,rfl,_,_,rfl,rfl,_,rfl,_,_,rfl,rfl,.inl ⟨by rw[el];omega,by rw[el];omega⟩,_,_,rfl,rfl,.inl ⟨_,_,rfl,rfl,_,rfl,?_⟩⟩;rw[el,hl,show (((ws.length*n+1:Nat)):Int)=(ws.length:Int)*(n:Int)+1 by rw[Int.natCast_add,Int.natCast_mul];rfl];rw[show ∀a:Int,(if true=true then !decide (a=a) else decide (a=a))=false from λa=>by simp];refine bJ ?_;refine⟨_,rfl,_,rfl,nz v,-1,.int (v.getD (ws.length*n) 0:Nat),rfl,rfl,aY5 hl,.inl ⟨_,_,rfl,rfl,_,rfl,?_⟩⟩;rw[hg,top];refine bJ ?_;refine⟨_,rfl,_,rfl,(λz=>by cases z),λi ρ=>∃y4,ρ = [some (.sh true (.scr ns)),some (.sh true (.tup (intz ws))),si n,some (.sh true (.lst (nz v))),y4,none,none,none],⟨_,rfl⟩,?_,?_⟩
 ·rintro i z ρ hz ⟨y4,rfl⟩
  have hz:((v.map Int.ofNat).map PV.int)[i]? = some z:=hz;rw[bi6,bf4]at hz;cases e:v[i]? with
  |none=>rw[e]at hz;cases hz
  |some a=>
   rw[e]at hz;cases hz;refine⟨_,rfl,_,rfl,_,rfl,?_⟩;refine bJ ⟨_,rfl,_,_,rfl,rfl,_,rfl,?_⟩;rw[be4 (by show ¬((a:Nat):Int)<0;omega)];refine bJ ⟨_,rfl⟩
 rintro ρ ⟨y4,rfl⟩;refine⟨_,rfl,_,rfl,.tup (intz ws),ws,n,u,rfl,.inl rfl,ok,cl,by omega,hu,trivial,?_⟩;refine⟨_,rfl,_,_,rfl,rfl,_,rfl,_,rfl,.tup (intz ws),ws,n,_,rfl,.inl rfl,ok,cl,by omega,Strip.aU7 o n,.inl ⟨_,_,rfl,rfl,_,rfl,?_⟩⟩;rw[ac9,hs];rw[show ∀a:Int,(if true=true then !decide (a=a) else decide (a=a))=false from λa=>by simp];have ul:u.1<v.length:=by
  by_cases h:u.1<v.length
  ·exact h
  ·have:=hg u.1
   rw[bf5,List.getElem?_eq_none (by omega)]at this
   have:0=cB ws n (aQ ws) u.1:=this
   omega
 refine bJ ⟨_,rfl,_,rfl,nz v,(u.1:Nat),.int (v.getD u.1 0:Nat),rfl,rfl,tF ul,.inl ⟨_,_,rfl,rfl,_,rfl,?_⟩⟩;rw[hg,be4 (by omega)];have c0:=Core.aH1 (ns:=v.map Int.ofNat) (w:=((u.1:Nat):Int)) (Int.natCast_nonneg _);rw[bk2,<- List.map_take]at c0;refine bJ ⟨_,rfl,_,rfl,_,rfl,nz v,rfl,hI _,_,(v.take u.1).map Int.ofNat,rfl,congrArg some c0,_,_,rfl,rfl,_,rfl,?_⟩;rw[ac9,aY6 λj hj=>by rw[hg];exact u2 j hj];refine bJ ?_
 obtain⟨p,ep,hp⟩:∃p:Nat,ns.getD 2 0%(ws.length:Int)=p/\p<ws.length:=by
  rcases Core.xT o with e|e<;>rw[e]
  ·exact⟨0,by omega,by omega⟩
  ·exact⟨(ns.getD 2 0%((2:Nat):Int)).toNat,by omega,by omega⟩
 refine⟨_,rfl,.scr ns,ns,2,rfl,.inl rfl,by decide,_,rfl,_,_,rfl,rfl,_,_,rfl,rfl,?_,trivial,?_⟩
 ·rw[el];omega
 rw[el];show yE { nx:=λ_=>Q .non,rt:=Q } (yG (.scr ns) ws n v y4 (u.1:Nat) (ns.getD 2 0%(ws.length:Int)) none);rw[ep];have ok3:=ok.2.2;rcases o.two with⟨a,rfl⟩|⟨a,b,rfl⟩
 ·have hp:p=0:=by have:p<1:=hp;omega
  subst hp;have ia:=ok3 a bd4
  exact yH (ws':=[a-1]) ok hn hl hg rfl rfl rfl rfl (bo1 rfl) (bo1 rfl) (λz=>w4 (by omega)) rfl (λj hj=>by
   have:j=0:=by have:j<1:=hj;omega
   subst this;show a-1<=a;omega) q
 ·have ia:=ok3 a bd4
  have ib:=ok3 b (bd5 _ bd4);have hp:p=0∨p=1:=by have:p<2:=hp;omega
  rcases hp with rfl|rfl
  ·exact yH (ws':=[a-1,b]) ok hn hl hg rfl rfl rfl rfl (bo1 rfl) (bo1 rfl) (λz=>nA (by omega) ib) rfl (λj hj=>by
    have:j=0∨j=1:=by have:j<2:=hj;omega
    rcases this with rfl|rfl
    ·show a-1<=a;omega
    ·exact Int.le_refl _) q
  ·exact yH (ws':=[a,b-1]) ok hn hl hg rfl rfl rfl rfl (bo1 rfl) (bo1 rfl) (λz=>nA ia (by omega)) rfl (λj hj=>by
    have:j=0∨j=1:=by have:j<2:=hj;omega
    rcases this with rfl|rfl
    ·exact Int.le_refl _
    ·show b-1<=b;omega) q
theorem ad6 {K:ad}{ns ws:ag}{n:Nat}{Q:PV->Prop}(ok:dQ ws)(hn:n<=60)(q:Q (.bl true)):ad3 K { nx:=λ_=>Q .non,rt:=Q } [some (.sh true (.scr ns)),some (.sh true (.tup (intz ws))),si n,none,none,none,none,none]:=by
 have d8:(0:Int)<8:=by decide
 have el:(intz ws).length=ws.length:=Core.lC ws;refine⟨_,rfl,_,_,rfl,rfl,.inl ⟨_,_,rfl,rfl,_,rfl,?_⟩⟩;show if decide ((((intz ws).length:Nat):Int)=1)=true then _ else _
 by_cases g:(((intz ws).length:Nat):Int)=1
 ·rw[bg0 g]
  refine cC ⟨_,rfl,.scr ns,ns,1,rfl,.inl rfl,by decide,_,_,rfl,rfl,d8,.inl ⟨_,_,rfl,rfl,_,rfl,?_⟩⟩;show if decide (ns.getD 1 0%8=2)=true then _ else _
  by_cases k:ns.getD 1 0%8=2
  ·rw[bg0 k]
   refine cC ⟨trivial,?_⟩;exact yI (n:=60) ok (be2 _) q
  ·rw[be4 k]
   exact bJ (yI ok hn q)
 ·rw[be4 g]
  exact bJ (bJ (yI ok hn q))
theorem ad7 {K:ad}{ns:ag}{Q:PV->Prop}(hl:ns.length<=63)(q:Q (.bl true)):(bC (cR 1 (aP lD (aE (aP gL (aE (aC 0) (aE (qC (.int 0)) aM))) aM))) (ad4 K)) { nx:=λ_=>Q .non,rt:=Q } [some (.sh true (.scr ns)),none,none,none,none,none,none,none]:=by
 have d8:(0:Int)<8:=by decide
 have d13:(0:Int)<13:=by decide
 have d25:(0:Int)<25:=by decide
 refine⟨_,rfl,.scr ns,ns,0,rfl,.inl rfl,by decide,_,rfl,λws ok=>⟨trivial,?_⟩⟩
 obtain⟨m,em,hm⟩:∃m:Nat,ns.getD 1 0/8%13=m/\m<=60:=⟨(ns.getD 1 0/8%13).toNat,by omega,by omega⟩
 obtain⟨m2,em2,hm2⟩:∃m:Nat,ns.getD 1 0/8%25=m/\m<=60:=⟨(ns.getD 1 0/8%25).toNat,by omega,by omega⟩
 refine⟨_,rfl,.scr ns,ns,1,rfl,.inl rfl,by decide,_,_,rfl,rfl,⟨d8,by decide⟩,_,_,rfl,rfl,d13,trivial,?_⟩;refine⟨_,rfl,.scr ns,ns,1,rfl,.inl rfl,by decide,_,_,rfl,rfl,d8,.inl ⟨_,_,rfl,rfl,_,rfl,?_⟩⟩;show if decide (ns.getD 1 0%8=1)=true then _ else _
 by_cases g:ns.getD 1 0%8=1
 ·rw[bg0 g]
  refine cC ⟨_,rfl,.scr ns,ns,1,rfl,.inl rfl,by decide,_,_,rfl,rfl,⟨d8,by decide⟩,_,_,rfl,rfl,d25,trivial,?_⟩;have h:=ad6 (K:=K) (ns:=ns) (n:=m2) ok hm2 q;rw[<- em2]at h;dsimp only[List.set];exact h
 ·rw[be4 g]
  refine bJ ?_;have h:=ad6 (K:=K) (ns:=ns) (n:=m) ok hm q;rw[<- em]at h;dsimp only[List.set];exact h
theorem aZ0 {K:ad}:∀xs Q,yF xs Q->ad5 K { nx:=λ_=>Q .non,rt:=Q } (bF ["script","wants","length","found","number","least","place","other"] xs):=by
 rintro _ Q ⟨ns,rfl,hl,q⟩;have d8:(0:Int)<8:=by decide
 have d16:(0:Int)<16:=by decide
 refine⟨_,rfl,.scr ns,ns,1,rfl,.inl rfl,by decide,_,_,rfl,rfl,⟨d8,by decide⟩,_,_,rfl,rfl,d16,.inl ⟨_,_,rfl,rfl,_,rfl,?_⟩⟩;show if decide (ns.getD 1 0/8%16=5)=true then _ else _
 by_cases g:ns.getD 1 0/8%16=5
 ·rw[bg0 g]
  refine cC ⟨rfl,_,rfl,?_⟩;exact bJ (ad7 hl q)
 ·rw[be4 g]
  exact bJ (bJ (ad7 hl q))
end PP
namespace K_k83
open PySem PySem.W L2 PP Core
theorem _root_.L2.FnScope.au {N P:List Str}{s:Scope}(a:s.kind=.function:=by rfl)(b:s.isCoroutine=false:=by rfl)(c:s.isGenerator=false:=by rfl)(d:N.Nodup:=by decide +kernel)(e:N.take P.length=P:=by rfl)(f:∀x∈P,s.names.lookup x=some .local∨s.names.lookup x=some .cell:=by decide +kernel)(g:∀y∈s.names,y.2≠.free:=by decide +kernel):FnScope N P s:=⟨a,b,c,d,e,f,g⟩
noncomputable def top (i:Nat):Stmt:=PySem.Challenge.pw_kindleweb_k83_long_strips.main.body.getD i (.Pass ⟨0,0,0,0⟩)
section
variable {P:ba}{w:bf}{K:Frag}{mg:Str→Option ax}{base:Heap}{f:az}{fd:FuncData}{T:List (az×Str)}
noncomputable def kC:bA:=xN "strip_count.<locals>.<lambda>" (pK (top 11) 3)
theorem aZ1:dW P w K mg base 1 kC pL:=
 dW.of (N:=["many","seeds"]) (ps:=["many","seeds"]) rfl .au (λ_ _ _ us hl=>by obtain⟨_,_,rfl⟩:=us2 hl;rfl) aT3 (λf cv A outer s H E hr=>⟨_,(qv 0),aT0⟩)
noncomputable def eO:bA:=xN "strip_count.<locals>.<lambda>" (pK (top 11) 4)
theorem ad8:dW P w K mg base 1 eO nQ:=
 dW.of (N:=["one","other"]) (ps:=["one","other"]) rfl .au (λ_ _ _ us hl=>by obtain⟨_,_,rfl⟩:=us2 hl;rfl) aT4 (λf cv A outer s H E hr=>⟨_,(iB (qv 0) (qv 1)),aT1⟩)
noncomputable def lF:bA:=xN "fewest.<locals>.<lambda>" (pK (top 16) 4)
theorem ad9 (B:Bt mg):dW P w K mg base 1 lF nR:=
 dW.of (N:=["one","other"]) (ps:=["one","other"]) rfl .au (λ_ _ _ us hl=>by obtain⟨_,_,rfl⟩:=us2 hl;rfl) aT5 (λf cv A outer s H E hr=>⟨_,(aR4 B rfl (by show (A.deeper (PyProof.Rows.envOfC lF.qual lF.scope s.heap.objs.size f cv)).units+6<cLine;have:=hr.units;omega) (aD (qv 0) (aD (qv 1) aK))),aT2⟩)
noncomputable def lR (c0:az):bA:=Y6 "strip_counts.<locals>.<lambda>" (pK (top 12) 3) [("width",c0)]
theorem aZ2:sH ["row","seeds","width"] ["row","seeds"] "width" (Y5 (pK (top 12) 3)):=⟨rfl,rfl,rfl,by decide +kernel,rfl,by decide +kernel,by decide +kernel,by decide +kernel,by decide +kernel⟩
theorem aZ3 {c0:az}{w0:Int}{u0:ax}(hcell:base.IsCell c0 (some u0))(rv:aU (.int w0) u0)(d_moved_row:Df P w K mg base 1 "moved_row" ["row","places","width"] pT)(d_count_in:Df P w K mg base 2 "count_in" ["mask"] lK):dW P w K mg base 3 (lR c0) (pU w0):=
 dW.ofC (N:=["row","seeds","width"]) (ps:=["row","seeds"]) (y:="width") rfl hcell rv aZ2 (λ_ _ _ us hl=>by obtain⟨_,_,rfl⟩:=us2 hl;rfl) (aX7 w0) (λf cv A outer s H E hr=>⟨_,oZ (cT d_moved_row hr (aD (qv 0) (aD (cT d_count_in hr (aD (qv 1) aK)) (aD (qv 2) aK)))),aX6 w0⟩)
theorem aZ4:FnScope ["wants","length"] ["wants","length"] (aI (top 9)):=.au
theorem aZ5 (B:Bt mg)(F:bM K "looked_through" "looked_through" (top 9) f fd)(m:mg "looked_through" = some (.ref f))(x_BadBoard:Xc K mg base "BadBoard"){u_MOST_WIDE:Nat}(m_MOST_WIDE:mg "MOST_WIDE" = some (.int 2 u_MOST_WIDE)){u_MOST_WANTED_ON_STRIPS:Nat}(m_MOST_WANTED_ON_STRIPS:mg "MOST_WANTED_ON_STRIPS" = some (.int 6 u_MOST_WANTED_ON_STRIPS)):gM P w K mg base 1 "looked_through" ["wants","length"] j9:=
 gM.of F m aZ4 (λ_ _ _ _ _ _ us hl=>by obtain⟨_,_,rfl⟩:=us2 hl;rfl) R4 (λEp xs Q h=>by unfold j9 at h;repeat (first|(obtain⟨rfl,_⟩:=h;rfl)|(obtain⟨_,h⟩:=h))) aK5 (λcdv A outer s H E Ep hr hX=>by
  exact (aV (dI (mU (jU (mR (eI B (aD (qv 0) aK)) aL) (jU (rR (eI B (aD (qv 0) aK)) (oW rfl m_MOST_WIDE)) (jU (mR (aK1 B rfl (aD (qv 0) aK)) aL) (rS (rR (aK2 B rfl (aD (qv 0) aK)) (oW rfl m_MOST_WANTED_ON_STRIPS))))))) (bB (vP hX x_BadBoard (aD uW aK))) dH)
   (bB (dI (mR (qv 1) aL) (bB (vP hX x_BadBoard (aD uW aK))) dH))))
theorem aZ6:FnScope ["length","most"] ["length","most"] (aI (top 10)):=.au
theorem aZ7 (B:Bt mg)(F:bM K "held_to" "held_to" (top 10) f fd)(m:mg "held_to" = some (.ref f))(x_TooMany:Xc K mg base "TooMany"):gM P w K mg base 1 "held_to" ["length","most"] jC:=
 gM.of F m aZ6 (λ_ _ _ _ _ _ us hl=>by obtain⟨_,_,rfl⟩:=us2 hl;rfl) R5 (λEp xs Q h=>by unfold jC at h;repeat (first|(obtain⟨rfl,_⟩:=h;rfl)|(obtain⟨_,h⟩:=h))) aK6 (λcdv A outer s H E Ep hr hX=>by
  exact (bB (dI (rR (qv 0) (qv 1)) (bB (vP hX x_TooMany (aD uW aK))) dH)))
theorem aZ8:FnScope ["row","places","width"] ["row","places","width"] (aI (top 13)):=.au
theorem ae0 (B:Bt mg)(F:bM K "moved_row" "moved_row" (top 13) f fd)(m:mg "moved_row" = some (.ref f)) :Df P w K mg base 1 "moved_row" ["row","places","width"] pT:=
 Df.of F m aZ8 (λ_ _ _ _ _ _ us hl=>by obtain⟨_,_,_,rfl⟩:=vR hl;rfl) (λxs Q h=>by unfold pT at h;repeat (first|(obtain⟨rfl,_⟩:=h;rfl)|(obtain⟨_,h⟩:=h))) (λcdv A outer s H E hr=>by
  exact⟨(ac4),(bB (cM (aE1 (aO2 (O9 (rT (aD aL aK)) (qv 1)) (qv 0)) (O9 (rT (aD aL aK)) (oR (qv 2) (qv 1)))))),aX2⟩)
theorem aZ9:FnScope ["row","other"] ["row","other"] (aI (top 14)):=.au
theorem yJ (B:Bt mg)(F:bM K "sums_of" "sums_of" (top 14) f fd)(m:mg "sums_of" = some (.ref f)) :Df P w K mg base 1 "sums_of" ["row","other"] nV:=
 Df.of F m aZ9 (λ_ _ _ _ _ _ us hl=>by obtain⟨_,_,rfl⟩:=us2 hl;rfl) (λxs Q h=>by unfold nV at h;repeat (first|(obtain⟨rfl,_⟩:=h;rfl)|(obtain⟨_,h⟩:=h))) (λcdv A outer s H E hr=>by
  exact⟨(ac5),(bB (cM (O7 (N:=["one","more"]) (fr:=[none,none]) (aO4 B (qv 0) (qv 1)) (λ_ _ _ _=>(iB (qv 0) (qv 1)))))),aX4⟩)
theorem ba0:FnScope ["mask","place"] ["mask","place"] (aI (top 18)):=.au
theorem yK (B:Bt mg)(F:bM K "has" "has" (top 18) f fd)(m:mg "has" = some (.ref f)) :Df P w K mg base 1 "has" ["mask","place"] iR:=
 Df.of F m ba0 (λ_ _ _ _ _ _ us hl=>by obtain⟨_,_,rfl⟩:=us2 hl;rfl) (λxs Q h=>by unfold iR at h;repeat (first|(obtain⟨rfl,_⟩:=h;rfl)|(obtain⟨_,h⟩:=h))) (λcdv A outer s H E hr=>by
  exact⟨(W5),(bB (cM (aI3 (aA3 (qv 0) (qv 1)) aL))),aQ2⟩)
theorem ba1:FnScope ["script","k"] ["script","k"] (aI (top 27)):=.au
theorem ba2 (B:Bt mg)(F:bM K "_law_cell_at" "_law_cell_at" (top 27) f fd)(m:mg "_law_cell_at" = some (.ref f)) :Df P w K mg base 1 "_law_cell_at" ["script","k"] gL:=
 Df.of F m ba1 (λ_ _ _ _ _ _ us hl=>by obtain⟨_,_,rfl⟩:=us2 hl;rfl) (λxs Q h=>by unfold gL at h;repeat (first|(obtain⟨rfl,_⟩:=h;rfl)|(obtain⟨_,h⟩:=h))) (λcdv A outer s H E hr=>by
  exact⟨(O0),(aV (dI (mR (qv 1) (eI B (aD (qv 0) aK))) (bB (cM (cS (qv 0) (qv 1)))) dH)
   (bB (cM aL))),aD0⟩)
theorem ba3:FnScope ["found"] ["found"] (aI (top 28)):=.au
theorem ba4 (B:Bt mg)(F:bM K "_law_whole" "_law_whole" (top 28) f fd)(m:mg "_law_whole" = some (.ref f)) :Df P w K mg base 1 "_law_whole" ["found"] mX:=
 Df.of F m ba3 (λ_ _ _ _ _ _ us hl=>by obtain⟨_,rfl⟩:=us1 hl;rfl) (λxs Q h=>by unfold mX at h;repeat (first|(obtain⟨rfl,_⟩:=h;rfl)|(obtain⟨_,h⟩:=h))) (λcdv A outer s H E hr=>by
  exact⟨(O1 K),(bB (cM (N0 (aB4 B (qv 0)) (M9 (aA6 (aB5 B (qv 0))))))),aD1 (vG K).ii (vG K).ib⟩)
theorem ba5:FnScope ["cell"] ["cell"] (aI (top 29)):=.au
theorem ba6 (B:Bt mg)(F:bM K "_law_wants" "_law_wants" (top 29) f fd)(m:mg "_law_wants" = some (.ref f)) :Df P w K mg base 1 "_law_wants" ["cell"] lD:=
 Df.of F m ba5 (λ_ _ _ _ _ _ us hl=>by obtain⟨_,rfl⟩:=us1 hl;rfl) (λxs Q h=>by unfold lD at h;repeat (first|(obtain⟨rfl,_⟩:=h;rfl)|(obtain⟨_,h⟩:=h))) (λcdv A outer s H E hr=>by
  exact⟨(R6),(aV (dI (jT (gK (qv 0) aL) aL) (bB (cM (eG (aD (gK (j3 (qv 0) aL) aL) aK)))) dH)
   (aV (dI (jT (gK (qv 0) aL) aL) (bB (cM (eG (aD (gK (j3 (qv 0) aL) aL) (aD (gK (j3 (qv 0) aL) aL) aK))))) dH)
   (bB (cM (eG (aD (iB aL (gK (j3 (qv 0) aL) aL)) (aD (iB aL (gK (j3 (qv 0) aL) aL)) aK))))))),aK7⟩)
theorem ba7:FnScope ["mask"] ["mask"] (aI (top 19)):=.au
theorem ae1 (B:Bt mg)(F:bM K "count_in" "count_in" (top 19) f fd)(m:mg "count_in" = some (.ref f))(d_has:Df P w K mg base 1 "has" ["mask","place"] iR):Df P w K mg base 2 "count_in" ["mask"] lK:=
 Df.of F m ba7 (λ_ _ _ _ _ _ us hl=>by obtain⟨_,rfl⟩:=us1 hl;rfl) (λxs Q h=>by unfold lK at h;repeat (first|(obtain⟨rfl,_⟩:=h;rfl)|(obtain⟨_,h⟩:=h))) (λcdv A outer s H E hr=>by
  exact⟨(W6),(bB (cM (iB (cT d_has hr (aD (qv 0) (aD aL aK))) (cT d_has hr (aD (qv 0) (aD aL aK)))))),aQ3⟩)
theorem nX:FnScope ["values","key","value","joined"] ["values","key","value","joined"] (aI (top 21)):=.au
theorem ba8 (F:bM K "join_in" "join_in" (top 21) f fd)(m:mg "join_in" = some (.ref f))(lm:dW P w K mg base 1 eO nQ):gZ P w K mg base 2 "join_in" ["values","key","value","joined"] (.lm eO) (eN rN) JN:=
 gZ.of F m nX (λ_ _ _ _ _ _ us hl=>by obtain⟨_,_,_,_,rfl⟩:=j7 hl;rfl) (λcdv A outer s H E hr=>by
  have hu16:(A.deeper (PyProof.Rows.envOfC "join_in" (aI (top 21)) s.heap.objs.size f cdv)).units+16<cLine:=by have:=hr.units;omega
  exact⟨lO (xO eO),dL (kE (nD hu16 (qv 1) (qv 0)) (dL (gD hu16 (pv 0) (pv 1) (nF 3 (λz hz=>by obtain rfl:=bd7.mp hz;exact lm) hr (aD (dU hu16 (qv 0) (qv 1)) (aD (qv 2) aK))) rfl)) (dL (gD hu16 (pv 0) (pv 1) (pv 2) rfl))),Z0 eO⟩)
theorem ba9 (F:bM K "join_in" "join_in" (top 21) f fd)(m:mg "join_in" = some (.ref f))(lm:dW P w K mg base 1 eO nQ):h8 P w K mg base 2 "join_in" ["values","key","value","joined"] (.lm eO) (eN rN) JN:=
 h8.of F m nX (λ_ _ _ _ _ _ us hl=>by obtain⟨_,_,_,_,rfl⟩:=j7 hl;rfl) (λcdv A outer s H E hr=>by
  have hu16:(A.deeper (PyProof.Rows.envOfC "join_in" (aI (top 21)) s.heap.objs.size f cdv)).units+16<cLine:=by have:=hr.units;omega
  exact⟨lO (xO eO),dL (kE (nD hu16 (qv 1) (qv 0)) (dL (gD hu16 (pv 0) (pv 1) (nF 3 (λz hz=>by obtain rfl:=bd7.mp hz;exact lm) hr (aD (dU hu16 (qv 0) (qv 1)) (aD (qv 2) aK))) rfl)) (dL (gD hu16 (pv 0) (pv 1) (pv 2) rfl))),Z0 eO⟩)
theorem bb0 (F:bM K "join_in" "join_in" (top 21) f fd)(m:mg "join_in" = some (.ref f))(lm:dW P w K mg base 1 lF nR):gZ P w K mg base 2 "join_in" ["values","key","value","joined"] (.lm lF) (eN rP) nT:=
 gZ.of F m nX (λ_ _ _ _ _ _ us hl=>by obtain⟨_,_,_,_,rfl⟩:=j7 hl;rfl) (λcdv A outer s H E hr=>by
  have hu16:(A.deeper (PyProof.Rows.envOfC "join_in" (aI (top 21)) s.heap.objs.size f cdv)).units+16<cLine:=by have:=hr.units;omega
  exact⟨lO (xR lF),dL (kE (nD hu16 (qv 1) (qv 0)) (dL (gD hu16 (pv 0) (pv 1) (nF 3 (λz hz=>by obtain rfl:=bd7.mp hz;exact lm) hr (aD (dU hu16 (qv 0) (qv 1)) (aD (qv 2) aK))) rfl)) (dL (gD hu16 (pv 0) (pv 1) (pv 2) rfl))),Z5 lF⟩)
theorem bb1 (F:bM K "join_in" "join_in" (top 21) f fd)(m:mg "join_in" = some (.ref f))(lm:dW P w K mg base 1 lF nR):h8 P w K mg base 2 "join_in" ["values","key","value","joined"] (.lm lF) (eN rP) nT:=
 h8.of F m nX (λ_ _ _ _ _ _ us hl=>by obtain⟨_,_,_,_,rfl⟩:=j7 hl;rfl) (λcdv A outer s H E hr=>by
  have hu16:(A.deeper (PyProof.Rows.envOfC "join_in" (aI (top 21)) s.heap.objs.size f cdv)).units+16<cLine:=by have:=hr.units;omega
  exact⟨lO (xR lF),dL (kE (nD hu16 (qv 1) (qv 0)) (dL (gD hu16 (pv 0) (pv 1) (nF 3 (λz hz=>by obtain rfl:=bd7.mp hz;exact lm) hr (aD (dU hu16 (qv 0) (qv 1)) (aD (qv 2) aK))) rfl)) (dL (gD hu16 (pv 0) (pv 1) (pv 2) rfl))),Z5 lF⟩)
theorem bb2 (F:bM K "join_in" "join_in" (top 21) f fd)(m:mg "join_in" = some (.ref f))(fv:jW K mg "sums_of")(d_sums_of:Df P w K mg base 1 "sums_of" ["row","other"] nV):gZ P w K mg base 2 "join_in" ["values","key","value","joined"] (.fn "sums_of") jJ JL:=
 gZ.of F m nX (λ_ _ _ _ _ _ us hl=>by obtain⟨_,_,_,_,rfl⟩:=j7 hl;rfl) (λcdv A outer s H E hr=>by
  have hu16:(A.deeper (PyProof.Rows.envOfC "join_in" (aI (top 21)) s.heap.objs.size f cdv)).units+16<cLine:=by have:=hr.units;omega
  exact⟨yD,dL (kE (nD hu16 (qv 1) (qv 0)) (dL (gD hu16 (pv 0) (pv 1) (oZ (wI 3 (λz hz=>by obtain rfl:=bd7.mp hz;exact⟨fv.ex,_,d_sums_of⟩) hr (aD (dU hu16 (qv 0) (qv 1)) (aD (qv 2) aK)))) rfl)) (dL (gD hu16 (pv 0) (pv 1) (pv 2) rfl))),ac6⟩)
theorem bb3 (F:bM K "join_in" "join_in" (top 21) f fd)(m:mg "join_in" = some (.ref f))(fv:jW K mg "sums_of")(d_sums_of:Df P w K mg base 1 "sums_of" ["row","other"] nV):h8 P w K mg base 2 "join_in" ["values","key","value","joined"] (.fn "sums_of") jJ JL:=
 h8.of F m nX (λ_ _ _ _ _ _ us hl=>by obtain⟨_,_,_,_,rfl⟩:=j7 hl;rfl) (λcdv A outer s H E hr=>by
  have hu16:(A.deeper (PyProof.Rows.envOfC "join_in" (aI (top 21)) s.heap.objs.size f cdv)).units+16<cLine:=by have:=hr.units;omega
  exact⟨yD,dL (kE (nD hu16 (qv 1) (qv 0)) (dL (gD hu16 (pv 0) (pv 1) (oZ (wI 3 (λz hz=>by obtain rfl:=bd7.mp hz;exact⟨fv.ex,_,d_sums_of⟩) hr (aD (dU hu16 (qv 0) (qv 1)) (aD (qv 2) aK)))) rfl)) (dL (gD hu16 (pv 0) (pv 1) (pv 2) rfl))),ac6⟩)
theorem ae2:FnScope ["wants","behind","burning","ahead","lit","place","want"] ["wants","behind","burning","ahead"] (aI (top 25)):=.au
theorem ae3 (B:Bt mg)(F:bM K "with_kindled" "with_kindled" (top 25) f fd)(m:mg "with_kindled" = some (.ref f))(d_has:Df P w K mg base 1 "has" ["mask","place"] iR):Df P w K mg base 2 "with_kindled" ["wants","behind","burning","ahead"] nO:=
 Df.of F m ae2 (λ_ _ _ _ _ _ us hl=>by obtain⟨_,_,_,_,rfl⟩:=j7 hl;rfl) (λxs Q h=>by unfold nO at h;repeat (first|(obtain⟨rfl,_⟩:=h;rfl)|(obtain⟨_,h⟩:=h))) (λcdv A outer s H E hr=>by
  have nd:=ae2.nd
  exact⟨(X2),(aV (cO (i:=4) nd (qv 2))
   (aV (rV 5 6 nd (aF8 rfl B.enum (qv 0))
    (bB (dI (aA5 (iB (iB (cT d_has hr (aD (qv 1) (aD (qv 5) aK))) (cT d_has hr (aD (qv 3) (aD (qv 5) aK)))) (cT d_has hr (aD (qv 2) (aD (oR aL (qv 5)) aK)))) (qv 6)) (bB (cO (i:=4) nd (aR2 (qv 4) (rQ aL (qv 5))))) dH)))
   (bB (N1 4)))),aR9⟩)
theorem bb4:FnScope ["pair","seeds"] ["pair","seeds"] (aI (top 17)):=.au
theorem bb5 (B:Bt mg)(F:bM K "with_slice" "with_slice" (top 17) f fd)(m:mg "with_slice" = some (.ref f))(d_count_in:Df P w K mg base 2 "count_in" ["mask"] lK):Df P w K mg base 3 "with_slice" ["pair","seeds"] pN:=
 Df.of F m bb4 (λ_ _ _ _ _ _ us hl=>by obtain⟨_,_,rfl⟩:=us2 hl;rfl) (λxs Q h=>by unfold pN at h;repeat (first|(obtain⟨rfl,_⟩:=h;rfl)|(obtain⟨_,h⟩:=h))) (λcdv A outer s H E hr=>by
  exact⟨(Z3),(bB (cM (eG (aD (iB (cS (qv 0) aL) (cT d_count_in hr (aD (qv 1) aK))) (aD (vN (cS (qv 0) aL) (eG (aD (qv 1) aK))) aK))))),aT9⟩)
theorem ae4:FnScope ["wants","answer","seeds","ahead","burning","more","whole"] ["wants","answer","seeds","ahead"] (aI (top 24)):=.au
theorem ae5 (B:Bt mg)(F:bM K "settled" "settled" (top 24) f fd)(m:mg "settled" = some (.ref f))(d_with_kindled:Df P w K mg base 2 "with_kindled" ["wants","behind","burning","ahead"] nO):Df P w K mg base 3 "settled" ["wants","answer","seeds","ahead"] pG:=
 Df.of F m ae4 (λ_ _ _ _ _ _ us hl=>by obtain⟨_,_,_,_,rfl⟩:=j7 hl;rfl) (λxs Q h=>by unfold pG at h;repeat (first|(obtain⟨rfl,_⟩:=h;rfl)|(obtain⟨_,h⟩:=h))) (λcdv A outer s H E hr=>by
  have nd:=ae4.nd
  exact⟨(X3),(aV (cO (i:=4) nd (qv 2))
   (aV (cO (i:=5) nd (cT d_with_kindled hr (aD (qv 0) (aD (cS (cS (qv 1) (qv 4)) aL) (aD (qv 4) (aD (qv 3) aK))))))
   (aV (N2 PassesOwn.never (mS (qv 5) (qv 4))
    (aV (cO (i:=4) nd (qv 5))
    (bB (cO (i:=5) nd (cT d_with_kindled hr (aD (qv 0) (aD (cS (cS (qv 1) (qv 4)) aL) (aD (qv 4) (aD (qv 3) aK)))))))))
   (aV (cO (i:=6) nd (oR (eI B (aD (qv 1) aK)) aL))
   (bB (cM (eG (aD (qv 4) (aD (N0 (M5 (qv 4) (qv 6)) (M9 (cS (cS (qv 1) (qv 6)) aL))) aK))))))))),aS0⟩)
theorem bb6:FnScope ["wants","answer","seeds"] ["wants","answer","seeds"] (aI (top 23)):=.au
theorem ae6 (B:Bt mg)(F:bM K "next_answer" "next_answer" (top 23) f fd)(m:mg "next_answer" = some (.ref f))(d_settled:Df P w K mg base 3 "settled" ["wants","answer","seeds","ahead"] pG):Df P w K mg base 4 "next_answer" ["wants","answer","seeds"] pH:=
 Df.of F m bb6 (λ_ _ _ _ _ _ us hl=>by obtain⟨_,_,_,rfl⟩:=vR hl;rfl) (λxs Q h=>by unfold pH at h;repeat (first|(obtain⟨rfl,_⟩:=h;rfl)|(obtain⟨_,h⟩:=h))) (λcdv A outer s H E hr=>by
  exact⟨(X5),(bB (cM (aB1 B (aD (aB7 (N:=["ahead","wants","answer","seeds"]) (fr:=[none,some 0,some 1,some 2]) (lB rfl B.range (eI B (aD (qv 1) aK))) (λ_ _ _ _=>(cT d_settled hr (aD (qv 1) (aD (qv 2) (aD (qv 3) (aD (qv 0) aK))))))) aK)))),aS2⟩)
theorem ae7:FnScope ["wants","begin","following","waiting","answer","pairs"] ["wants","begin"] (aI (top 22)):=.au
theorem ae8 (B:Bt mg)(F:bM K "answers_behind" "answers_behind" (top 22) f fd)(m:mg "answers_behind" = some (.ref f))(d_next_answer:Df P w K mg base 4 "next_answer" ["wants","answer","seeds"] pH):Df P w K mg base 5 "answers_behind" ["wants","begin"] lN:=
 Df.of F m ae7 (λ_ _ _ _ _ _ us hl=>by obtain⟨_,_,rfl⟩:=us2 hl;rfl) (λxs Q h=>by unfold lN at h;repeat (first|(obtain⟨rfl,_⟩:=h;rfl)|(obtain⟨_,h⟩:=h))) (λcdv A outer s H E hr=>by
  have nd:=ae7.nd;have hu16:(A.deeper (PyProof.Rows.envOfC "answers_behind" (aI (top 22)) s.heap.objs.size f cdv)).units+16<cLine:=by have:=hr.units;omega
  exact⟨X7,(aV (lL (i:=2) nd sD)
   (aV (aA8 (i:=3) nd (rT (aD (qv 1) aK)))
   (aV (N2 PassesOwn.never (mT (qv 3))
    (aV (aH8 nd 3 4)
    (bB (dI (aM2 hu16 (qv 4) (qv 2)) (aV (aB8 (N:=["seeds","wants","answer"]) (fr:=[none,some 0,some 4]) (i:=5) nd (lB rfl B.range (eI B (aD (qv 4) aK))) (λ_ _ _ _=>(eG (aD (qv 0) (aD (cT d_next_answer hr (aD (qv 1) (aD (qv 2) (aD (qv 0) aK)))) aK)))))
     (aV (aM3 (i:=2) hu16 (qv 4) (oZ (N6 (N:=["pair"]) (fr:=[none]) (mW (qv 5)) (λ_ _ _ _=>(mT (cS (cS (cS (qv 0) aL) (N4 aL)) aL))) (λ_ _ _ _=>(qv 0)))))
     (bB (aC0 3 (O7 (N:=["seeds","behind"]) (fr:=[none,none]) (mW (dU hu16 (qv 2) (qv 4))) (λ_ _ _ _=>(qv 1))))))) dH))))
   (bB (N1 2))))),aS5⟩)
theorem nY:FnScope ["wants","length","first","passed","joined","begin","following","values","turn","later","answer","seeds","behind","ends"] ["wants","length","first","passed","joined"] (aI (top 20)):=.au
theorem bb7 (B:Bt mg)(F:bM K "gone_through" "gone_through" (top 20) f fd)(m:mg "gone_through" = some (.ref f))(d_answers_behind:Df P w K mg base 5 "answers_behind" ["wants","begin"] lN)(jA:gZ P w K mg base 2 "join_in" ["values","key","value","joined"] (.lm eO) (eN rN) JN)(jB:h8 P w K mg base 2 "join_in" ["values","key","value","joined"] (.lm eO) (eN rN) JN)(lp:dW P w K mg base 1 kC pL):Df P w K mg base 6 "gone_through" ["wants","length","first","passed","joined"] (sX kC eO):=
 Df.of F m nY (λ_ _ _ _ _ _ us hl=>by obtain⟨_,_,_,_,_,rfl⟩:=vS hl;rfl) Y7 (λcdv A outer s H E hr=>by
  have nd:=nY.nd;have hu16:(A.deeper (PyProof.Rows.envOfC "gone_through" (aI (top 20)) s.heap.objs.size f cdv)).units+16<cLine:=by have:=hr.units;omega
  exact⟨(Y9 kC eO),(aV (cO (i:=5) nd (vE (eG (aD (eG (aD aL (aD eF aK))) aK)) (rQ aL (eI B (aD (qv 0) aK)))))
   (aV (cO (i:=6) nd (nL (cT d_answers_behind hr (aD (qv 0) (aD (qv 5) aK)))))
   (aV (cO (i:=7) nd (nL (wC hu16 (qv 5) (qv 2))))
   (aV (iC 8 nd (lB rfl B.range (qv 1))
    (aV (lL (i:=9) nd sD)
    (aV (iC 10 nd (nM (qv 7))
     (bB (rV 11 12 nd (mW (dU hu16 (qv 6) (qv 10)))
      (bB (wF jA hr 9 (qv 12) (nF 3 (λz hz=>by obtain rfl:=bd7.mp hz;exact lp) hr (aD (dU hu16 (qv 7) (qv 10)) (aD (qv 11) aK))) (qv 4))))))
    (bB (xG 9 (i:=7) nd)))))
   (aV (lL (i:=13) nd wB)
   (aV (iC 10 nd (nM (qv 7))
    (bB (dI (mT (cS (cS (qv 10) aL) aL)) (bB (wG jB hr 13 eF (dU hu16 (qv 7) (qv 10)) (qv 4))) dH)))
   (bB (cM (dU hu16 (qv 13) eF))))))))),(aT7 kC eO)⟩)
theorem bb8 (B:Bt mg)(F:bM K "gone_through" "gone_through" (top 20) f fd)(m:mg "gone_through" = some (.ref f))(d_answers_behind:Df P w K mg base 5 "answers_behind" ["wants","begin"] lN)(jA:gZ P w K mg base 2 "join_in" ["values","key","value","joined"] (.lm lF) (eN rP) nT)(jB:h8 P w K mg base 2 "join_in" ["values","key","value","joined"] (.lm lF) (eN rP) nT)(fv:jW K mg "with_slice")(lp:Df P w K mg base 3 "with_slice" ["pair","seeds"] pN):Df P w K mg base 6 "gone_through" ["wants","length","first","passed","joined"] (sY lF):=
 Df.of F m nY (λ_ _ _ _ _ _ us hl=>by obtain⟨_,_,_,_,_,rfl⟩:=vS hl;rfl) Y7 (λcdv A outer s H E hr=>by
  have nd:=nY.nd;have hu16:(A.deeper (PyProof.Rows.envOfC "gone_through" (aI (top 20)) s.heap.objs.size f cdv)).units+16<cLine:=by have:=hr.units;omega
  exact⟨(Z4 lF),(aV (cO (i:=5) nd (vE (eG (aD (eG (aD aL (aD eF aK))) aK)) (rQ aL (eI B (aD (qv 0) aK)))))
   (aV (cO (i:=6) nd (nL (cT d_answers_behind hr (aD (qv 0) (aD (qv 5) aK)))))
   (aV (cO (i:=7) nd (nL (wC hu16 (qv 5) (qv 2))))
   (aV (iC 8 nd (lB rfl B.range (qv 1))
    (aV (lL (i:=9) nd sD)
    (aV (iC 10 nd (nM (qv 7))
     (bB (rV 11 12 nd (mW (dU hu16 (qv 6) (qv 10)))
      (bB (wF jA hr 9 (qv 12) (wI 3 (λz hz=>by obtain rfl:=bd7.mp hz;exact⟨fv.ex,_,lp⟩) hr (aD (dU hu16 (qv 7) (qv 10)) (aD (qv 11) aK))) (qv 4))))))
    (bB (xG 9 (i:=7) nd)))))
   (aV (lL (i:=13) nd wB)
   (aV (iC 10 nd (nM (qv 7))
    (bB (dI (mT (cS (cS (qv 10) aL) aL)) (bB (wG jB hr 13 eF (dU hu16 (qv 7) (qv 10)) (qv 4))) dH)))
   (bB (cM (dU hu16 (qv 13) eF))))))))),(aU1 lF)⟩)
theorem bb9 (B:Bt mg)(F:bM K "gone_through" "gone_through" (top 20) f fd)(m:mg "gone_through" = some (.ref f))(d_answers_behind:Df P w K mg base 5 "answers_behind" ["wants","begin"] lN)(jA:gZ P w K mg base 2 "join_in" ["values","key","value","joined"] (.fn "sums_of") jJ JL)(jB:h8 P w K mg base 2 "join_in" ["values","key","value","joined"] (.fn "sums_of") jJ JL){c0:az}{w0:Int}(lp:dW P w K mg base 3 (lR c0) (pU w0)):Df P w K mg base 6 "gone_through" ["wants","length","first","passed","joined"] (nW (lR c0) w0):=
 Df.of F m nY (λ_ _ _ _ _ _ us hl=>by obtain⟨_,_,_,_,_,rfl⟩:=vS hl;rfl) aY0 (λcdv A outer s H E hr=>by
  have nd:=nY.nd;have hu16:(A.deeper (PyProof.Rows.envOfC "gone_through" (aI (top 20)) s.heap.objs.size f cdv)).units+16<cLine:=by have:=hr.units;omega
  exact⟨(ac7 (lR c0) w0),(aV (cO (i:=5) nd (vE (eG (aD (eG (aD aL (aD eF aK))) aK)) (rQ aL (eI B (aD (qv 0) aK)))))
   (aV (cO (i:=6) nd (nL (cT d_answers_behind hr (aD (qv 0) (aD (qv 5) aK)))))
   (aV (cO (i:=7) nd (nL (wC hu16 (qv 5) (qv 2))))
   (aV (iC 8 nd (lB rfl B.range (qv 1))
    (aV (lL (i:=9) nd sD)
    (aV (iC 10 nd (nM (qv 7))
     (bB (rV 11 12 nd (mW (dU hu16 (qv 6) (qv 10)))
      (bB (wF jA hr 9 (qv 12) (nF 3 (λz hz=>by obtain rfl:=bd7.mp hz;exact lp) hr (aD (dU hu16 (qv 7) (qv 10)) (aD (qv 11) aK))) (qv 4))))))
    (bB (xG 9 (i:=7) nd)))))
   (aV (lL (i:=13) nd wB)
   (aV (iC 10 nd (nM (qv 7))
    (bB (dI (mT (cS (cS (qv 10) aL) aL)) (bB (wG jB hr 13 eF (dU hu16 (qv 7) (qv 10)) (qv 4))) dH)))
   (bB (cM (dU hu16 (qv 13) eF))))))))),(aY1 (lR c0) w0)⟩)
theorem bc0:FnScope ["wants","length"] ["wants","length"] (aI (top 11)):=.au
theorem bc1 {c0 P0:az}{oc:ax}{od an:Option az}{osl:Array (Option ax)}{kV doc pm ct:ax}(l:K.lookup f=some ⟨oc,od,.func (fnOf "strip_count" "strip_count" (bI (top 11)) (bD (top 11)) (aI (top 11)) .none kV doc pm an (.ref c0) ct),osl⟩)(cc:codeIn K (.ref c0) "strip_count" = true)(kp:keepIn K (.ref f)=true)(m:mg "strip_count" = some (.ref f))(hK:codeHdIn K c0 P0=true)(BK:gU base mg P0)(hgP:mainGlobals≠P0)(hmem:((P0,"strip_count.<locals>.<lambda>"):az×Str)∈T)(d_looked_through:gM P w K mg base 1 "looked_through" ["wants","length"] j9)(d_held_to:gM P w K mg base 1 "held_to" ["length","most"] jC)(d_gone:Df P w K mg base 6 "gone_through" ["wants","length","first","passed","joined"] (sX kC eO)){u_:Nat}(m_:mg "MOST_COUNTED" = some (.int 300 u_)):cV P w K mg base T 7 "strip_count" ["wants","length"] pM:=
 cV.ofC l cc kp m bc0 (λ_ _ _ _ _ _ us hl=>by obtain⟨_,_,rfl⟩:=us2 hl;rfl) (λxs Q h=>by unfold pM at h;repeat (first|(obtain⟨rfl,_⟩:=h;rfl)|(obtain⟨_,h⟩:=h))) (λA outer s H E hr hT=>⟨(Z1 kC eO),(aV (mV (mY d_looked_through hr (aD (qv 0) (aD (qv 1) aK))))
   (aV (mV (mY d_held_to hr (aD (qv 1) (aD (oW rfl m_) aK))))
   (bB (cM (cT d_gone hr (aD (qv 0) (aD (qv 1) (aD aL (aD (sE (hT _ hmem) rfl rfl hK BK hgP) (aD (sE (hT _ hmem) rfl rfl hK BK hgP) aK)))))))))) , (aT8 kC eO)⟩)
theorem ae9:FnScope ["wants","length","width"] ["wants","length"] (aI (top 12)):=.au
theorem bc2 {c0 P0:az}{oc:ax}{od an:Option az}{osl:Array (Option ax)}{kV doc pm ct:ax}(l:K.lookup f=some ⟨oc,od,.func (fnOf "strip_counts" "strip_counts" (bI (top 12)) (bD (top 12)) (aI (top 12)) .none kV doc pm an (.ref c0) ct),osl⟩)(cc:codeIn K (.ref c0) "strip_counts" = true)(kp:keepIn K (.ref f)=true)(m:mg "strip_counts" = some (.ref f))(hK:codeHdIn K c0 P0=true)(BK:gU base mg P0)(hgP:mainGlobals≠P0)(hmem:((P0,"strip_counts.<locals>.<lambda>"):az×Str)∈T)(d_looked_through:gM P w K mg base 1 "looked_through" ["wants","length"] j9)(d_held_to:gM P w K mg base 1 "held_to" ["length","most"] jC){g:az}(mgone:mg "gone_through" = some (.ref g))(kgone:keepIn K (.ref g)=true)(d_gone:∀(base1:Heap) (c1:az) (w0:Int) (u:ax),base1.IsCell c1 (some u)->aU (.int w0) u->Df P w K mg base1 6 "gone_through" ["wants","length","first","passed","joined"] (nW (lR c1) w0))(fv:jW K mg "sums_of")(B:Bt mg){u_:Nat}(m_:mg "MOST_COUNTED_BY_SEEDS" = some (.int 60 u_)):cV P w K mg base T 7 "strip_counts" ["wants","length"] lT:=
 (cV.ofC (p:=tE) l cc kp m ae9 (λ_ _ _ _ _ _ us hl=>by obtain⟨_,_,rfl⟩:=us2 hl;rfl) (λxs Q h=>by unfold tE at h;repeat (first|(obtain⟨rfl,_⟩:=h;rfl)|(obtain⟨_,h⟩:=h))) (λA outer s H E hr hT=>⟨ac8 (lR (s.heap.objs.size+1)),(aV (mV (mY d_looked_through hr (aD (qv 0) (aD (qv 1) aK))))
   (aV (mV (mY d_held_to hr (aD (qv 1) (aD (oW rfl m_) aK))))
   (aV (cO (i:=2) ae9.nd (eI B (aD (qv 0) aK)))
   (bB (cM (aO0 2 (y:="width") rfl (λbase1 w0 u _ _ ic rv=>d_gone base1 _ w0 u ic rv) mgone kgone hr (aD (qv 0) (aD (qv 1) (aD (oZ (rT (aD aL aK))) (aD (sE (hT _ hmem) rfl rfl hK BK hgP) (aD (S2 fv) aK))))))))))) , aY2 _⟩)).fresh aY3
theorem bc3:FnScope ["wants","length"] ["wants","length"] (aI (top 16)):=.au
theorem bc4 {c0 P0:az}{oc:ax}{od an:Option az}{osl:Array (Option ax)}{kV doc pm ct:ax}(l:K.lookup f=some ⟨oc,od,.func (fnOf "fewest" "fewest" (bI (top 16)) (bD (top 16)) (aI (top 16)) .none kV doc pm an (.ref c0) ct),osl⟩)(cc:codeIn K (.ref c0) "fewest" = true)(kp:keepIn K (.ref f)=true)(m:mg "fewest" = some (.ref f))(hK:codeHdIn K c0 P0=true)(BK:gU base mg P0)(hgP:mainGlobals≠P0)(hmem:((P0,"fewest.<locals>.<lambda>"):az×Str)∈T)(d_gone:Df P w K mg base 6 "gone_through" ["wants","length","first","passed","joined"] (sY lF))(fv:jW K mg "with_slice"):cV P w K mg base T 7 "fewest" ["wants","length"] pO:=
 cV.ofC l cc kp m bc3 (λ_ _ _ _ _ _ us hl=>by obtain⟨_,_,rfl⟩:=us2 hl;rfl) (λxs Q h=>by unfold pO at h;repeat (first|(obtain⟨rfl,_⟩:=h;rfl)|(obtain⟨_,h⟩:=h))) (λA outer s H E hr hT=>⟨(Z6 lF),(bB (cM (cT d_gone hr (aD (qv 0) (aD (qv 1) (aD (eG (aD aL (aD (eG aK) aK))) (aD (S2 fv) (aD (sE (hT _ hmem) rfl rfl hK BK hgP) aK)))))))),(aU2 lF)⟩)
theorem bc5:FnScope ["wants","length"] ["wants","length"] (aI (top 15)):=.au
theorem bc6 (B:Bt mg)(F:bM K "strip_least" "strip_least" (top 15) f fd)(m:mg "strip_least" = some (.ref f))(d_looked_through:gM P w K mg base 1 "looked_through" ["wants","length"] j9)(d_held_to:gM P w K mg base 1 "held_to" ["length","most"] jC)(d_fewest:cV P w K mg base T 7 "fewest" ["wants","length"] pO){u_MOST_COUNTED:Nat}(m_MOST_COUNTED:mg "MOST_COUNTED" = some (.int 300 u_MOST_COUNTED)):cV P w K mg base T 8 "strip_least" ["wants","length"] pP:=
 cV.of F m bc5 (λ_ _ _ _ _ _ us hl=>by obtain⟨_,_,rfl⟩:=us2 hl;rfl) (λxs Q h=>by unfold pP at h;repeat (first|(obtain⟨rfl,_⟩:=h;rfl)|(obtain⟨_,h⟩:=h))) (λcdv A outer s H E hr hT=>by
  exact⟨(Z7),(aV (mV (mY d_looked_through hr (aD (qv 0) (aD (qv 1) aK))))
   (aV (mV (mY d_held_to hr (aD (qv 1) (aD (oW rfl m_MOST_COUNTED) aK))))
   (bB (cM (cS (nG hT d_fewest hr (aD (qv 0) (aD (qv 1) aK))) aL))))),aU3⟩)
theorem af0:FnScope ["found","many","size"] [] (aI (top 30)):=.au
theorem bc7 (B:Bt mg)(F:bM K "_law_free_good" "_law_free_good" (top 30) f fd)(m:mg "_law_free_good" = some (.ref f))(d_strip_counts:cV P w K mg base T 7 "strip_counts" ["wants","length"] lT):cV P w K mg base T 8 "_law_free_good" [] pV:=
 cV.of F m af0 (λ_ _ _ _ _ _ us hl=>match us,hl with|[],_=>rfl) (λxs Q h=>by unfold pV at h;repeat (first|(obtain⟨rfl,_⟩:=h;rfl)|(obtain⟨_,h⟩:=h))) (λcdv A outer s H E hr hT=>by
  have nd:=af0.nd
  exact⟨(ad0),(aV (cO (i:=0) nd (nG hT d_strip_counts hr (aD (eG (aD aL (aD aL aK))) (aD aL aK))))
   (aV (cO (i:=1) nd aL)
   (aV (dI (mS (eI B (aD (qv 0) aK)) aL) (bB (cM eF)) dH)
   (aV (iC 2 nd (lB rfl B.range aL)
    (aV (dI (mS (cS (qv 0) (qv 2)) (qv 1)) (bB (cM eF)) dH)
    (bB (cO (i:=1) nd (j3 (M4 (qv 1) (oR aL (qv 2))) (iB (qv 2) aL))))))
   (bB (cM eF)))))),aY7⟩)
theorem af1:FnScope ["script","wants","length","found","number","least","place","other"] ["script"] (aI (top 31)):=.au
theorem bc8 (B:Bt mg)(F:bM K "law" "law" (top 31) f fd)(d__law_cell_at:Df P w K mg base 1 "_law_cell_at" ["script","k"] gL)(d__law_free_good:cV P w K mg base T 8 "_law_free_good" [] pV)(d__law_wants:Df P w K mg base 1 "_law_wants" ["cell"] lD)(d_strip_counts:cV P w K mg base T 7 "strip_counts" ["wants","length"] lT)(d__law_whole:Df P w K mg base 1 "_law_whole" ["found"] mX)(d_strip_least:cV P w K mg base T 8 "strip_least" ["wants","length"] pP)(d_strip_count:cV P w K mg base T 7 "strip_count" ["wants","length"] pM):cX P w K mg base cF 9 f fd ["script"] (jX K T yF):=
 aS6 F af1 (λxs Q h=>by unfold yF at h;repeat (first|(obtain⟨rfl,_⟩:=h;rfl)|(obtain⟨_,h⟩:=h))) (λcdv A outer s H E hr hT=>by
  have nd:=af1.nd
  exact⟨(ad5 K),(aV (dI (mU (M8 (jT (gK (j3 (cT d__law_cell_at hr (aD (qv 0) (aD aL aK))) aL) aL) aL) (M7 (uX (mT (aY4 hT d__law_free_good hr)))))) (bB (cM eF)) dH)
   (aV (cO (i:=1) nd (cT d__law_wants hr (aD (cT d__law_cell_at hr (aD (qv 0) (aD aL aK))) aK)))
   (aV (cO (i:=2) nd (gK (j3 (cT d__law_cell_at hr (aD (qv 0) (aD aL aK))) aL) aL))
   (aV (dI (jT (gK (cT d__law_cell_at hr (aD (qv 0) (aD aL aK))) aL) aL) (bB (cO (i:=2) nd (gK (j3 (cT d__law_cell_at hr (aD (qv 0) (aD aL aK))) aL) aL))) dH)
   (aV (dI (mU (M8 (jT (eI B (aD (qv 1) aK)) aL) (M7 (jT (gK (cT d__law_cell_at hr (aD (qv 0) (aD aL aK))) aL) aL)))) (bB (cO (i:=2) nd aL)) dH)
   (aV (cO (i:=3) nd (nG hT d_strip_counts hr (aD (qv 1) (aD (qv 2) aK))))
   (aV (dI (mU (jU (uX (M6 (aB6 B (qv 3)))) (jU (mS (eI B (aD (qv 3) aK)) (iB (M4 (eI B (aD (qv 1) aK)) (qv 2)) aL)) (rS (mS (cS (qv 3) (N4 aL)) aL))))) (bB (cM eF)) dH)
   (aV (iC 4 nd (mW (qv 3))
    (bB (dI (mU (jU (uX (M6 (cT d__law_whole hr (aD (qv 4) aK)))) (rS (mR (qv 4) aL)))) (bB (cM eF)) dH)))
   (aV (cO (i:=5) nd (nG hT d_strip_least hr (aD (qv 1) (aD (qv 2) aK))))
   (aV (dI (mU (jU (mS (P7 B rfl (aD (qv 3) aK)) (nG hT d_strip_count hr (aD (qv 1) (aD (qv 2) aK)))) (jU (jT (cS (qv 3) (qv 5)) aL) (rS (rR (P7 B rfl (aD (v7 (qv 3) v5 (v6 (qv 5))) aK)) aL))))) (bB (cM eF)) dH)
   (aV (cO (i:=6) nd (gK (cT d__law_cell_at hr (aD (qv 0) (aD aL aK))) (eI B (aD (qv 1) aK))))
   (aV (dI (jT (cS (qv 1) (qv 6)) aL) (bB (cM eF)) dH)
   (aV (cO (i:=7) nd (nG hT d_strip_counts hr (aD (vN (vN (v7 (qv 1) v5 (v6 (qv 6))) (eG (aD (oR (cS (qv 1) (qv 6)) aL) aK))) (v7 (qv 1) (v6 (iB (qv 6) aL)) v5)) (aD (qv 2) aK))))
   (bB (cM (M5 (eI B (aD (N6 (N:=["k","other","found"]) (fr:=[none,some 7,some 3]) (lB rfl B.range (eI B (aD (qv 3) aK))) (λ_ _ _ _=>(mR (cS (qv 1) (qv 0)) (cS (qv 2) (qv 0)))) (λ_ _ _ _=>(qv 0))) aK)) aL)))))))))))))))),aZ0⟩)
end
set_option autoImplicit true in
theorem bc9 {l:OpenLaw}{w:bf}{K:Frag}{h:Heap}{mg:Str->Option ax}(X:K.In h)(G:h.Ns mainGlobals mg)(hfa:mg "law" = some (.ref fa))(a0:nsIn K mainGlobals "looked_through" = some (some (.ref f0)))(l0:K.lookup f0=some ⟨oc0,od0,.func (fnOf "looked_through" "looked_through" (bI (top 9)) (bD (top 9)) (aI (top 9)) .none kV0 dc0 pm0 an0 cd0 ct0),sl0⟩)(c0:codeIn K cd0 "looked_through" = true)(k0:keepIn K (.ref f0)=true)(a1:nsIn K mainGlobals "held_to" = some (some (.ref f1)))(l1:K.lookup f1=some ⟨oc1,od1,.func (fnOf "held_to" "held_to" (bI (top 10)) (bD (top 10)) (aI (top 10)) .none kV1 dc1 pm1 an1 cd1 ct1),sl1⟩)(c1:codeIn K cd1 "held_to" = true)(k1:keepIn K (.ref f1)=true)(a2:nsIn K mainGlobals "moved_row" = some (some (.ref f2)))(l2:K.lookup f2=some ⟨oc2,od2,.func (fnOf "moved_row" "moved_row" (bI (top 13)) (bD (top 13)) (aI (top 13)) .none kV2 dc2 pm2 an2 cd2 ct2),sl2⟩)(c2:codeIn K cd2 "moved_row" = true)(k2:keepIn K (.ref f2)=true)(a3:nsIn K mainGlobals "sums_of" = some (some (.ref f3)))(l3:K.lookup f3=some ⟨oc3,od3,.func (fnOf "sums_of" "sums_of" (bI (top 14)) (bD (top 14)) (aI (top 14)) .none kV3 dc3 pm3 an3 cd3 ct3),sl3⟩)(c3:codeIn K cd3 "sums_of" = true)(k3:keepIn K (.ref f3)=true)(a4:nsIn K mainGlobals "has" = some (some (.ref f4)))(l4:K.lookup f4=some ⟨oc4,od4,.func (fnOf "has" "has" (bI (top 18)) (bD (top 18)) (aI (top 18)) .none kV4 dc4 pm4 an4 cd4 ct4),sl4⟩)(c4:codeIn K cd4 "has" = true)(k4:keepIn K (.ref f4)=true)(a5:nsIn K mainGlobals "_law_cell_at" = some (some (.ref f5)))(l5:K.lookup f5=some ⟨oc5,od5,.func (fnOf "_law_cell_at" "_law_cell_at" (bI (top 27)) (bD (top 27)) (aI (top 27)) .none kV5 dc5 pm5 an5 cd5 ct5),sl5⟩)(c5:codeIn K cd5 "_law_cell_at" = true)(k5:keepIn K (.ref f5)=true)(a6:nsIn K mainGlobals "_law_whole" = some (some (.ref f6)))(l6:K.lookup f6=some ⟨oc6,od6,.func (fnOf "_law_whole" "_law_whole" (bI (top 28)) (bD (top 28)) (aI (top 28)) .none kV6 dc6 pm6 an6 cd6 ct6),sl6⟩)(c6:codeIn K cd6 "_law_whole" = true)(k6:keepIn K (.ref f6)=true)(a7:nsIn K mainGlobals "_law_wants" = some (some (.ref f7)))(l7:K.lookup f7=some ⟨oc7,od7,.func (fnOf "_law_wants" "_law_wants" (bI (top 29)) (bD (top 29)) (aI (top 29)) .none kV7 dc7 pm7 an7 cd7 ct7),sl7⟩)(c7:codeIn K cd7 "_law_wants" = true)(k7:keepIn K (.ref f7)=true)(a8:nsIn K mainGlobals "count_in" = some (some (.ref f8)))(l8:K.lookup f8=some ⟨oc8,od8,.func (fnOf "count_in" "count_in" (bI (top 19)) (bD (top 19)) (aI (top 19)) .none kV8 dc8 pm8 an8 cd8 ct8),sl8⟩)(c8:codeIn K cd8 "count_in" = true)(k8:keepIn K (.ref f8)=true)(a9:nsIn K mainGlobals "join_in" = some (some (.ref f9)))(l9:K.lookup f9=some ⟨oc9,od9,.func (fnOf "join_in" "join_in" (bI (top 21)) (bD (top 21)) (aI (top 21)) .none kV9 dc9 pm9 an9 cd9 ct9),sl9⟩)(c9:codeIn K cd9 "join_in" = true)(k9:keepIn K (.ref f9)=true)(a10:nsIn K mainGlobals "with_kindled" = some (some (.ref f10)))(l10:K.lookup f10=some ⟨oc10,od10,.func (fnOf "with_kindled" "with_kindled" (bI (top 25)) (bD (top 25)) (aI (top 25)) .none kV10 dc10 pm10 an10 cd10 ct10),sl10⟩)(c10:codeIn K cd10 "with_kindled" = true)(k10:keepIn K (.ref f10)=true)(a11:nsIn K mainGlobals "with_slice" = some (some (.ref f11)))(l11:K.lookup f11=some ⟨oc11,od11,.func (fnOf "with_slice" "with_slice" (bI (top 17)) (bD (top 17)) (aI (top 17)) .none kV11 dc11 pm11 an11 cd11 ct11),sl11⟩)(c11:codeIn K cd11 "with_slice" = true)(k11:keepIn K (.ref f11)=true)(a12:nsIn K mainGlobals "settled" = some (some (.ref f12)))(l12:K.lookup f12=some ⟨oc12,od12,.func (fnOf "settled" "settled" (bI (top 24)) (bD (top 24)) (aI (top 24)) .none kV12 dc12 pm12 an12 cd12 ct12),sl12⟩)(c12:codeIn K cd12 "settled" = true)(k12:keepIn K (.ref f12)=true)(a13:nsIn K mainGlobals "next_answer" = some (some (.ref f13)))(l13:K.lookup f13=some ⟨oc13,od13,.func (fnOf "next_answer" "next_answer" (bI (top 23)) (bD (top 23)) (aI (top 23)) .none kV13 dc13 pm13 an13 cd13 ct13),sl13⟩)(c13:codeIn K cd13 "next_answer" = true)(k13:keepIn K (.ref f13)=true)(a14:nsIn K mainGlobals "answers_behind" = some (some (.ref f14)))(l14:K.lookup f14=some ⟨oc14,od14,.func (fnOf "answers_behind" "answers_behind" (bI (top 22)) (bD (top 22)) (aI (top 22)) .none kV14 dc14 pm14 an14 cd14 ct14),sl14⟩)(c14:codeIn K cd14 "answers_behind" = true)(k14:keepIn K (.ref f14)=true)(a15:nsIn K mainGlobals "gone_through" = some (some (.ref f15)))(l15:K.lookup f15=some ⟨oc15,od15,.func (fnOf "gone_through" "gone_through" (bI (top 20)) (bD (top 20)) (aI (top 20)) .none kV15 dc15 pm15 an15 cd15 ct15),sl15⟩)(c15:codeIn K cd15 "gone_through" = true)(k15:keepIn K (.ref f15)=true){cq16 pq16:az}(a16:nsIn K mainGlobals "strip_count" = some (some (.ref f16)))(l16:K.lookup f16=some ⟨oc16,od16,.func (fnOf "strip_count" "strip_count" (bI (top 11)) (bD (top 11)) (aI (top 11)) .none kV16 dc16 pm16 an16 (.ref cq16) ct16),sl16⟩)(c16:codeIn K (.ref cq16) "strip_count" = true)(k16:keepIn K (.ref f16)=true)(tb16:codeHdIn K cq16 pq16=true)(ng16:(mainGlobals==pq16)=false){cq17 pq17:az}(a17:nsIn K mainGlobals "strip_counts" = some (some (.ref f17)))(l17:K.lookup f17=some ⟨oc17,od17,.func (fnOf "strip_counts" "strip_counts" (bI (top 12)) (bD (top 12)) (aI (top 12)) .none kV17 dc17 pm17 an17 (.ref cq17) ct17),sl17⟩)(c17:codeIn K (.ref cq17) "strip_counts" = true)(k17:keepIn K (.ref f17)=true)(tb17:codeHdIn K cq17 pq17=true)(ng17:(mainGlobals==pq17)=false){cq18 pq18:az}(a18:nsIn K mainGlobals "fewest" = some (some (.ref f18)))(l18:K.lookup f18=some ⟨oc18,od18,.func (fnOf "fewest" "fewest" (bI (top 16)) (bD (top 16)) (aI (top 16)) .none kV18 dc18 pm18 an18 (.ref cq18) ct18),sl18⟩)(c18:codeIn K (.ref cq18) "fewest" = true)(k18:keepIn K (.ref f18)=true)(tb18:codeHdIn K cq18 pq18=true)(ng18:(mainGlobals==pq18)=false)(a19:nsIn K mainGlobals "strip_least" = some (some (.ref f19)))(l19:K.lookup f19=some ⟨oc19,od19,.func (fnOf "strip_least" "strip_least" (bI (top 15)) (bD (top 15)) (aI (top 15)) .none kV19 dc19 pm19 an19 cd19 ct19),sl19⟩)(c19:codeIn K cd19 "strip_least" = true)(k19:keepIn K (.ref f19)=true)(a20:nsIn K mainGlobals "_law_free_good" = some (some (.ref f20)))(l20:K.lookup f20=some ⟨oc20,od20,.func (fnOf "_law_free_good" "_law_free_good" (bI (top 30)) (bD (top 30)) (aI (top 30)) .none kV20 dc20 pm20 an20 cd20 ct20),sl20⟩)(c20:codeIn K cd20 "_law_free_good" = true)(k20:keepIn K (.ref f20)=true)(a21:nsIn K mainGlobals "law" = some (some (.ref f21)))(l21:K.lookup f21=some ⟨oc21,od21,.func (fnOf "law" "law" (bI (top 31)) (bD (top 31)) (aI (top 31)) .none kV21 dc21 pm21 an21 cd21 ct21),sl21⟩)(c21:codeIn K cd21 "law" = true)(k21:keepIn K (.ref f21)=true)(z_len:nsIn K mainGlobals "len" = some none)(z_range:nsIn K mainGlobals "range" = some none)(z_tuple:nsIn K mainGlobals "tuple" = some none)(z_list:nsIn K mainGlobals "list" = some none)(z_sorted:nsIn K mainGlobals "sorted" = some none)(z_all:nsIn K mainGlobals "all" = some none)(z_any:nsIn K mainGlobals "any" = some none)(z_zip:nsIn K mainGlobals "zip" = some none)(z_min:nsIn K mainGlobals "min" = some none)(z_max:nsIn K mainGlobals "max" = some none)(z_sum:nsIn K mainGlobals "sum" = some none)(z_isinstance:nsIn K mainGlobals "isinstance" = some none)(z_int:nsIn K mainGlobals "int" = some none)(z_bool:nsIn K mainGlobals "bool" = some none)(z_enumerate:nsIn K mainGlobals "enumerate" = some none){u_MOST_COUNTED:Nat}(z_MOST_COUNTEDx:nsIn K mainGlobals "MOST_COUNTED" = some (some (.int 300 u_MOST_COUNTED))){u_MOST_COUNTED_BY_SEEDS:Nat}(z_MOST_COUNTED_BY_SEEDSx:nsIn K mainGlobals "MOST_COUNTED_BY_SEEDS" = some (some (.int 60 u_MOST_COUNTED_BY_SEEDS))){u_MOST_WANTED_ON_STRIPS:Nat}(z_MOST_WANTED_ON_STRIPSx:nsIn K mainGlobals "MOST_WANTED_ON_STRIPS" = some (some (.int 6 u_MOST_WANTED_ON_STRIPS))){u_MOST_WIDE:Nat}(z_MOST_WIDEx:nsIn K mainGlobals "MOST_WIDE" = some (some (.int 2 u_MOST_WIDE))){C_HearthError C_BadBoard C_TooMany:az}(aX_HE:nsIn K mainGlobals "HearthError" = some (some (.ref C_HearthError)))(aX_BB:nsIn K mainGlobals "BadBoard" = some (some (.ref C_BadBoard)))(aX_TM:nsIn K mainGlobals "TooMany" = some (some (.ref C_TooMany)))(zX_BW:nsIn K mainGlobals "BadWeb" = some none)(zX_BS:nsIn K mainGlobals "BadSet" = some none)(zX_BO:nsIn K mainGlobals "BadOrder" = some none)(zX_BP:nsIn K mainGlobals "BadPrices" = some none)(zX_BD:nsIn K mainGlobals "BadDeed" = some none)(zX_NW:nsIn K mainGlobals "NotWood" = some none)(zX_NP:nsIn K mainGlobals "NoPaper" = some none)(zX_NS:nsIn K mainGlobals "NoSuch" = some none)(zX_NT:nsIn K mainGlobals "NoText" = some none)(zX_OR:nsIn K mainGlobals "OddRound" = some none)(y_fg:specialIn K (.builtin "object.__class__") "__get__" = some (some (.builtin "getset_descriptor.__get__")))(y_ft:takesIn K (.builtin "object.__class__")=some true)(z_VE:nsIn K mainGlobals "ValueError" = some none)(y1_HE:isClsIn K C_HearthError=true)(y2_HE:typeIn K (.ref C_HearthError)=some (.type "type"))(y3_HE:findIn K (.ref C_HearthError) "__getattribute__" = some (some (.builtin "BaseException.__getattribute__")))(y4_HE:findIn K (.ref C_HearthError) "__getattr__" = some none)(y5_HE:findIn K (.ref C_HearthError) "__class__" = some (some (.builtin "object.__class__")))(y6_HE:mroIn K C_HearthError (.type "object")=some true)(y7_HE:mroIn K C_HearthError (.type "BaseException")=some true)(y1_BB:isClsIn K C_BadBoard=true)(y2_BB:typeIn K (.ref C_BadBoard)=some (.type "type"))(y3_BB:findIn K (.ref C_BadBoard) "__getattribute__" = some (some (.builtin "BaseException.__getattribute__")))(y4_BB:findIn K (.ref C_BadBoard) "__getattr__" = some none)(y5_BB:findIn K (.ref C_BadBoard) "__class__" = some (some (.builtin "object.__class__")))(y6_BB:mroIn K C_BadBoard (.type "object")=some true)(y7_BB:mroIn K C_BadBoard (.type "BaseException")=some true)(y1_TM:isClsIn K C_TooMany=true)(y2_TM:typeIn K (.ref C_TooMany)=some (.type "type"))(y3_TM:findIn K (.ref C_TooMany) "__getattribute__" = some (some (.builtin "BaseException.__getattribute__")))(y4_TM:findIn K (.ref C_TooMany) "__getattr__" = some none)(y5_TM:findIn K (.ref C_TooMany) "__class__" = some (some (.builtin "object.__class__")))(y6_TM:mroIn K C_TooMany (.type "object")=some true)(y7_TM:mroIn K C_TooMany (.type "BaseException")=some true)(q_BB:excIn K C_BadBoard [.type "ValueError",.type "Exception",.type "BaseException",.type "object"] "ValueError.__new__" = true)(q_TM:excIn K C_TooMany [.type "ValueError",.type "Exception",.type "BaseException",.type "object"] "ValueError.__new__" = true)
 :∃fd:FuncData,(∀(s:ay) (v:ax),BindsTo s fd ⟨[v],[]⟩ [("script",v)])/\∀base:Heap,K.In base->base.Ns mainGlobals mg->(∀z∈([(pq18,"fewest.<locals>.<lambda>"),(pq17,"strip_counts.<locals>.<lambda>"),(pq16,"strip_count.<locals>.<lambda>")]:List (az×Str)),gU base mg z.1)->cX l.prog w K mg base cF 9 fa fd ["script"] (sW K [(pq18,"fewest.<locals>.<lambda>"),(pq17,"strip_counts.<locals>.<lambda>"),(pq16,"strip_count.<locals>.<lambda>")]):=by
 have e:=hfa.symm.trans (mg_of X G a21);cases e;have F0:=d0 (st:=top 9) l0 c0 k0;have m0:=mg_of X G a0;have F1:=d0 (st:=top 10) l1 c1 k1;have m1:=mg_of X G a1;have F2:=d0 (st:=top 13) l2 c2 k2;have m2:=mg_of X G a2;have F3:=d0 (st:=top 14) l3 c3 k3;have m3:=mg_of X G a3;have F4:=d0 (st:=top 18) l4 c4 k4;have m4:=mg_of X G a4;have F5:=d0 (st:=top 27) l5 c5 k5;have m5:=mg_of X G a5;have F6:=d0 (st:=top 28) l6 c6 k6;have m6:=mg_of X G a6;have F7:=d0 (st:=top 29) l7 c7 k7;have m7:=mg_of X G a7;have F8:=d0 (st:=top 19) l8 c8 k8;have m8:=mg_of X G a8;have F9:=d0 (st:=top 21) l9 c9 k9;have m9:=mg_of X G a9;have F10:=d0 (st:=top 25) l10 c10 k10;have m10:=mg_of X G a10;have F11:=d0 (st:=top 17) l11 c11 k11;have m11:=mg_of X G a11;have F12:=d0 (st:=top 24) l12 c12 k12;have m12:=mg_of X G a12;have F13:=d0 (st:=top 23) l13 c13 k13;have m13:=mg_of X G a13;have F14:=d0 (st:=top 22) l14 c14 k14;have m14:=mg_of X G a14;have F15:=d0 (st:=top 20) l15 c15 k15;have m15:=mg_of X G a15;have F16:=d0 (st:=top 11) l16 c16 k16;have m16:=mg_of X G a16;have F17:=d0 (st:=top 12) l17 c17 k17;have m17:=mg_of X G a17;have F18:=d0 (st:=top 16) l18 c18 k18;have m18:=mg_of X G a18;have F19:=d0 (st:=top 15) l19 c19 k19;have m19:=mg_of X G a19;have F20:=d0 (st:=top 30) l20 c20 k20;have m20:=mg_of X G a20;have F21:=d0 (st:=top 31) l21 c21 k21;have m21:=mg_of X G a21;have B:Bt mg:=⟨mg_none_of X G z_len,mg_none_of X G z_range,mg_none_of X G z_tuple,mg_none_of X G z_list,mg_none_of X G z_sorted,mg_none_of X G z_all,mg_none_of X G z_any,mg_none_of X G z_zip,mg_none_of X G z_min,mg_none_of X G z_max,mg_none_of X G z_sum,mg_none_of X G z_isinstance,mg_none_of X G z_int,mg_none_of X G z_bool,mg_none_of X G z_enumerate⟩;have fv_sums_of:jW K mg "sums_of":=⟨_,m3,a3⟩;have fv_with_slice:jW K mg "with_slice":=⟨_,m11,a11⟩;have m_MOST_COUNTED:=mg_of X G z_MOST_COUNTEDx;have m_MOST_COUNTED_BY_SEEDS:=mg_of X G z_MOST_COUNTED_BY_SEEDSx;have m_MOST_WANTED_ON_STRIPS:=mg_of X G z_MOST_WANTED_ON_STRIPSx;have m_MOST_WIDE:=mg_of X G z_MOST_WIDEx
 refine⟨fnOf "law" "law" (bI (top 31)) (bD (top 31)) (aI (top 31)) .none kV21 dc21 pm21 an21 cd21 ct21,λs v=>.of_eq rfl,λbase KB _ bms=>?_⟩;have XK_HearthError:vQ K C_HearthError:=⟨y1_HE,y2_HE,y3_HE,y4_HE,y5_HE,y_fg,y_ft,y6_HE,y7_HE⟩;have XK_BadBoard:vQ K C_BadBoard:=⟨y1_BB,y2_BB,y3_BB,y4_BB,y5_BB,y_fg,y_ft,y6_BB,y7_BB⟩;have XK_TooMany:vQ K C_TooMany:=⟨y1_TM,y2_TM,y3_TM,y4_TM,y5_TM,y_fg,y_ft,y6_TM,y7_TM⟩;have x_BadBoard:Xc K mg base "BadBoard":=⟨C_BadBoard,_,_,_,_,P9 KB (mg_of X G aX_BB) q_BB,PySem.F.excBase_ValueError,aX_BB⟩;have x_TooMany:Xc K mg base "TooMany":=⟨C_TooMany,_,_,_,_,P9 KB (mg_of X G aX_TM) q_TM,PySem.F.excBase_ValueError,aX_TM⟩;have D0:=aZ5 (P:=l.prog) (w:=w) (base:=base) B F0 m0  x_BadBoard m_MOST_WIDE m_MOST_WANTED_ON_STRIPS;have D1:=aZ7 (P:=l.prog) (w:=w) (base:=base) B F1 m1  x_TooMany;have D2:=ae0 (P:=l.prog) (w:=w) (base:=base) B F2 m2;have D3:=yJ (P:=l.prog) (w:=w) (base:=base) B F3 m3;have D4:=yK (P:=l.prog) (w:=w) (base:=base) B F4 m4;have D5:=ba2 (P:=l.prog) (w:=w) (base:=base) B F5 m5;have D6:=ba4 (P:=l.prog) (w:=w) (base:=base) B F6 m6;have D7:=ba6 (P:=l.prog) (w:=w) (base:=base) B F7 m7;have D8:=ae1 (P:=l.prog) (w:=w) (base:=base) B F8 m8 D4;have D9AC:=ba8 (P:=l.prog) (w:=w) (base:=base) F9 m9 (ad8);have D9BC:=ba9 (P:=l.prog) (w:=w) (base:=base) F9 m9 (ad8);have D9AF:=bb0 (P:=l.prog) (w:=w) (base:=base) F9 m9 (ad9 B);have D9BF:=bb1 (P:=l.prog) (w:=w) (base:=base) F9 m9 (ad9 B);have D10:=ae3 (P:=l.prog) (w:=w) (base:=base) B F10 m10 D4;have D11:=bb5 (P:=l.prog) (w:=w) (base:=base) B F11 m11 D8;have D12:=ae5 (P:=l.prog) (w:=w) (base:=base) B F12 m12 D10;have D13:=ae6 (P:=l.prog) (w:=w) (base:=base) B F13 m13 D12;have D14:=ae8 (P:=l.prog) (w:=w) (base:=base) B F14 m14 D13;have D15C:=bb7 (P:=l.prog) (w:=w) (base:=base) B F15 m15 D14 D9AC D9BC aZ1;have D15F:=bb8 (P:=l.prog) (w:=w) (base:=base) B F15 m15 D14 D9AF D9BF fv_with_slice D11;have D15R:∀(base1:Heap) (c1:az) (w0:Int) (u:ax),base1.IsCell c1 (some u)->aU (.int w0) u->Df l.prog w K mg base1 6 "gone_through" ["wants","length","first","passed","joined"] (nW (lR c1) w0):=λbase1 c1 w0 u ic rv=>bb9 (P:=l.prog) (w:=w) (base:=base1) B F15 m15 (ae8 (P:=l.prog) (w:=w) (base:=base1) B F14 m14 (ae6 (P:=l.prog) (w:=w) (base:=base1) B F13 m13 (ae5 (P:=l.prog) (w:=w) (base:=base1) B F12 m12 (ae3 (P:=l.prog) (w:=w) (base:=base1) B F10 m10 (yK (P:=l.prog) (w:=w) (base:=base1) B F4 m4 ))))) (bb2 (P:=l.prog) (w:=w) (base:=base1) F9 m9 fv_sums_of (yJ (P:=l.prog) (w:=w) (base:=base1) B F3 m3 )) (bb3 (P:=l.prog) (w:=w) (base:=base1) F9 m9 fv_sums_of (yJ (P:=l.prog) (w:=w) (base:=base1) B F3 m3 )) (aZ3 ic rv (ae0 (P:=l.prog) (w:=w) (base:=base1) B F2 m2 ) (ae1 (P:=l.prog) (w:=w) (base:=base1) B F8 m8 (yK (P:=l.prog) (w:=w) (base:=base1) B F4 m4 )))
 have D16:=bc1 (P:=l.prog) (w:=w) (base:=base) (T:=[(pq18,"fewest.<locals>.<lambda>"),(pq17,"strip_counts.<locals>.<lambda>"),(pq16,"strip_count.<locals>.<lambda>")]) l16 c16 k16 m16 tb16 (bms _ (bd5 _ (bd5 _ bd4))) (xM ng16) (bd5 _ (bd5 _ bd4)) D0 D1 D15C m_MOST_COUNTED;have D17:=bc2 (P:=l.prog) (w:=w) (base:=base) (T:=[(pq18,"fewest.<locals>.<lambda>"),(pq17,"strip_counts.<locals>.<lambda>"),(pq16,"strip_count.<locals>.<lambda>")]) l17 c17 k17 m17 tb17 (bms _ (bd5 _ bd4)) (xM ng17) (bd5 _ bd4) D0 D1 m15 k15 D15R fv_sums_of B m_MOST_COUNTED_BY_SEEDS;have D18:=bc4 (P:=l.prog) (w:=w) (base:=base) (T:=[(pq18,"fewest.<locals>.<lambda>"),(pq17,"strip_counts.<locals>.<lambda>"),(pq16,"strip_count.<locals>.<lambda>")]) l18 c18 k18 m18 tb18 (bms _ bd4) (xM ng18) bd4 D15F fv_with_slice;have D19:=bc6 (P:=l.prog) (w:=w) (base:=base) B F19 m19 D0 D1 D18 m_MOST_COUNTED;have D20:=bc7 (P:=l.prog) (w:=w) (base:=base) B F20 m20 D17;exact aS7 (bc8 (T:=[(pq18,"fewest.<locals>.<lambda>"),(pq17,"strip_counts.<locals>.<lambda>"),(pq16,"strip_count.<locals>.<lambda>")]) B F21 D5 D20 D7 D17 D6 D19 D16)
theorem bd0 {l:OpenLaw}{q:ba}{loose:List Str}{XP:(Str->Option ax)->Heap->Prop}{d:DefRec}{K:Params->Frag}{as:List az}{e:∀P,as=(K P).map (·.1)}{P1 P2 P3:az}(hn:l.most=some 63)(hdf:d.params.defaults = [])(hN:∀p,(K p).lookup P1=none/\(K p).lookup P2=none/\(K p).lookup P3=none){f1 c1:az}(hA1:∀p,nsIn (K p) mainGlobals "fewest" = some (some (.ref f1)))(hL1:∀p,∃oc od kV doc pm an ct osl,(K p).lookup f1=some ⟨oc,od,.func (fnOf "fewest" "fewest" (bI (top 16)) (bD (top 16)) (aI (top 16)) .none kV doc pm an (.ref c1) ct),osl⟩)(hC1:∀p,codeHdIn (K p) c1 P1=true){f2 c2:az}(hA2:∀p,nsIn (K p) mainGlobals "strip_counts" = some (some (.ref f2)))(hL2:∀p,∃oc od kV doc pm an ct osl,(K p).lookup f2=some ⟨oc,od,.func (fnOf "strip_counts" "strip_counts" (bI (top 12)) (bD (top 12)) (aI (top 12)) .none kV doc pm an (.ref c2) ct),osl⟩)(hC2:∀p,codeHdIn (K p) c2 P2=true){f3 c3:az}(hA3:∀p,nsIn (K p) mainGlobals "strip_count" = some (some (.ref f3)))(hL3:∀p,∃oc od kV doc pm an ct osl,(K p).lookup f3=some ⟨oc,od,.func (fnOf "strip_count" "strip_count" (bI (top 11)) (bD (top 11)) (aI (top 11)) .none kV doc pm an (.ref c3) ct),osl⟩)(hC3:∀p,codeHdIn (K p) c3 P3=true)(h12:¬(P1=P2∨P1=P3))(h23:¬P2=P3)(F:∀(w:bf) (mg:Str->Option ax) (fa:az) (h:Heap),(K w.params).In h->h.Ns mainGlobals mg->mg d.name=some (.ref fa)->
   ∃fd:FuncData,(∀(s:ay) (u:ax),BindsTo s fd ⟨[u],[]⟩ [("script",u)])/\∀base:Heap,(K w.params).In base->base.Ns mainGlobals mg->(∀z∈([(P1,"fewest.<locals>.<lambda>"),(P2,"strip_counts.<locals>.<lambda>"),(P3,"strip_count.<locals>.<lambda>")]:List (az×Str)),gU base mg z.1)->cX l.prog w (K w.params) mg base cF 9 fa fd ["script"] (sW (K w.params) [(P1,"fewest.<locals>.<lambda>"),(P2,"strip_counts.<locals>.<lambda>"),(P3,"strip_count.<locals>.<lambda>")])) :
  WalkO q loose XP (kmHook K as e [P1,P2,P3]).says l.row.toRowW d [] (λf vs=>PySem.call f vs):=
 L2.aN4 (n:=63) (k:=9) (x:="script") (CX:=λ_=>cF) (T:=[(P1,"fewest.<locals>.<lambda>"),(P2,"strip_counts.<locals>.<lambda>"),(P3,"strip_count.<locals>.<lambda>")]) (sp:=λw=>sW (K w.params) [(P1,"fewest.<locals>.<lambda>"),(P2,"strip_counts.<locals>.<lambda>"),(P3,"strip_count.<locals>.<lambda>")]) hn (by decide) hdf ⟨rfl,by decide,by decide⟩ (λw h Y=>km_in_of Y) (λw h Y=>⟨λz hz=>by
  simp only[bd8,bf2,bi5]at hz;rcases hz with rfl|rfl|rfl
  ·exact⟨km_tabs_of Y _ bd4,(hN w.params).1,wK (km_in_of Y) (hC1 w.params)⟩
  ·exact⟨km_tabs_of Y _ (bd5 _ bd4),(hN w.params).2.1,wK (km_in_of Y) (hC2 w.params)⟩
  ·exact⟨km_tabs_of Y _ (bd5 _ (bd5 _ bd4)),(hN w.params).2.2,wK (km_in_of Y) (hC3 w.params)⟩,by simp only[bf0,List.map_nil,bh7,bd8,bf2,bi5,not_false_eq_true,bk9,and_true];exact⟨h12,h23⟩⟩) F (λ_ _ a ns hl hO hT hS=>⟨hT,a,ns,rfl,aN3 hO hS,hl,λ_=>rfl⟩) λ_ _ _ _ _ z=>z
end K_k83
open PySem PySem.W PyProof.Rows
set_option maxRecDepth 100000 in
set_option maxHeartbeats 0 in
theorem PySem.Challenge.cw_kindleweb_k83_long_strips_holds : PySem.Challenge.rw_kindleweb_k83_long_strips.Holds := by
 w_on;o_law;k_head;(case hw => w_witness2)
 k_fill
 refine' K_k83.bd0 (l := PySem.Challenge.rw_kindleweb_k83_long_strips) rfl rfl ?hN ?hA1 ?hL1 ?hC1 ?hA2 ?hL2 ?hC2 ?hA3 ?hL3 ?hC3 ?h12 ?h23 ?F
 (case hA1 => intro p;k_is)
 (case hL1 => intro p;apply PP.xL;k_is)
 (case hC1 => intro p;kernel_rfl)
 (case hA2 => intro p;k_is)
 (case hL2 => intro p;apply PP.xL;k_is)
 (case hC2 => intro p;kernel_rfl)
 (case hA3 => intro p;k_is)
 (case hL3 => intro p;apply PP.xL;k_is)
 (case hC3 => intro p;kernel_rfl)
 (case hN => intro p;exact⟨by kernel_rfl, by kernel_rfl, by kernel_rfl⟩)
 (case h12 => decide)
 (case h23 => decide)
 case F =>
  intro w mg fa h KX G hmg
  refine' K_k83.bc9 KX G hmg ?a0 ?l0 ?c0 ?k0 ?a1 ?l1 ?c1 ?k1 ?a2 ?l2 ?c2 ?k2 ?a3 ?l3 ?c3 ?k3 ?a4 ?l4 ?c4 ?k4 ?a5 ?l5 ?c5 ?k5 ?a6 ?l6 ?c6 ?k6 ?a7 ?l7 ?c7 ?k7 ?a8 ?l8 ?c8 ?k8 ?a9 ?l9 ?c9 ?k9 ?a10 ?l10 ?c10 ?k10 ?a11 ?l11 ?c11 ?k11 ?a12 ?l12 ?c12 ?k12 ?a13 ?l13 ?c13 ?k13 ?a14 ?l14 ?c14 ?k14 ?a15 ?l15 ?c15 ?k15 ?a16 ?l16 ?c16 ?k16 ?tb16 ?ng16 ?a17 ?l17 ?c17 ?k17 ?tb17 ?ng17 ?a18 ?l18 ?c18 ?k18 ?tb18 ?ng18 ?a19 ?l19 ?c19 ?k19 ?a20 ?l20 ?c20 ?k20 ?a21 ?l21 ?c21 ?k21 ?z_len ?z_range ?z_tuple ?z_list ?z_sorted ?z_all ?z_any ?z_zip ?z_min ?z_max ?z_sum ?z_isinstance ?z_int ?z_bool ?z_enumerate ?z_MOST_COUNTEDx ?z_MOST_COUNTED_BY_SEEDSx ?z_MOST_WANTED_ON_STRIPSx ?z_MOST_WIDEx ?aX_HE ?aX_BB ?aX_TM ?zX_BW ?zX_BS ?zX_BO ?zX_BP ?zX_BD ?zX_NW ?zX_NP ?zX_NS ?zX_NT ?zX_OR ?y_fg ?y_ft ?z_VE ?y1_HE ?y2_HE ?y3_HE ?y4_HE ?y5_HE ?y6_HE ?y7_HE ?y1_BB ?y2_BB ?y3_BB ?y4_BB ?y5_BB ?y6_BB ?y7_BB ?y1_TM ?y2_TM ?y3_TM ?y4_TM ?y5_TM ?y6_TM ?y7_TM ?q_BB ?q_TM
  (case a0|l0|c0|k0|a1|l1|c1|k1|a2|l2|c2|k2|a3|l3|c3|k3|a4|l4|c4|k4|a5|l5|c5|k5|a6|l6|c6|k6|a7|l7|c7|k7|a8|l8|c8|k8|a9|l9|c9|k9|a10|l10|c10|k10|a11|l11|c11|k11|a12|l12|c12|k12|a13|l13|c13|k13|a14|l14|c14|k14|a15|l15|c15|k15|a16|l16|c16|k16 => k_is)
  (case tb16 => kernel_rfl)
  (case ng16 => decide)
  (case a17|l17|c17|k17 => k_is)
  (case tb17 => kernel_rfl)
  (case ng17 => decide)
  (case a18|l18|c18|k18 => k_is)
  (case tb18 => kernel_rfl)
  (case ng18 => decide)
  (case a19|l19|c19|k19|a20|l20|c20|k20|a21|l21|c21|k21|z_len|z_range|z_tuple|z_list|z_sorted|z_all|z_any|z_zip|z_min|z_max|z_sum|z_isinstance|z_int|z_bool|z_enumerate|z_MOST_COUNTEDx|z_MOST_COUNTED_BY_SEEDSx|z_MOST_WANTED_ON_STRIPSx|z_MOST_WIDEx|aX_HE|aX_BB|aX_TM|zX_BW|zX_BS|zX_BO|zX_BP|zX_BD|zX_NW|zX_NP|zX_NS|zX_NT|zX_OR|y_fg|y_ft|z_VE|y1_HE|y2_HE|y3_HE|y4_HE|y5_HE|y6_HE|y7_HE|y1_BB|y2_BB|y3_BB|y4_BB|y5_BB|y6_BB|y7_BB|y1_TM|y2_TM|y3_TM|y4_TM|y5_TM|y6_TM|y7_TM => k_is)
  (case q_BB|q_TM => k_exc)


