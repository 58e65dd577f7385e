import PyProof.Rows.All
import Wide.All
import OpenK.AllK
import Wide.FinOn
import Lean
import PyProof.EqAt
import PyProof.EqKinds
import PyProof.TupleCall
import PyProof.NeKinds
import PyProof.Draws
import PyProof.ZipIter
import PyProof.DictUpdate
import PyProof.AutoSeq1
import PyProof.ListRange
import PyProof.ListMulRoad
import PyProof.FactsAll.tuple_2
import PyProof.Rows.SortShell
import PyProof.EnumFor
import PyProof.EnumMake
import PyProof.EnumStmt
import PyProof.Rows.SortWalk
import KE.KDictList
import PyProof.SumAny
import PyProof.ConsumeWalk
import PyProof.WalksMore
import PyProof.Rows.TupAssign
import PyProof.ExcArgsOwn
import Wide.Seal
import PyProof.TupleKey
import KE.KLam
import PySem.Challenge.RW_kindleweb_k87_whole_strips_put_together
set_option Elab.async false
set_option linter.all false
set_option maxRecDepth 100000
set_option maxHeartbeats 4000000
section
open PySem PySem.Spec PyProof.Rows
noncomputable def av3:=@wpAny_bind
noncomputable def av4:=@List.length_map
noncomputable def av5:=@List.mem_cons_self
noncomputable def av6:=@Heap.get?_push_of_some
noncomputable def av7:=@List.size_toArray
noncomputable def av8:=@wpAny_pure
noncomputable def av9:=@Nat.lt_of_lt_of_le
noncomputable def aw1:=@decide_eq_false
noncomputable def aw2:=@List.mem_singleton
noncomputable def aw3:=@Heap.lt_size
noncomputable def aw4:=@List.mem_cons_of_mem
noncomputable def aw5:=@Nat.le_refl
noncomputable def aw6:=@List.mem_cons
noncomputable def aw7:=@Bool.and_eq_true
noncomputable def aw8:=@Heap.get?_push_size
noncomputable def aw9:=@Bool.false_ne_true
noncomputable def ax0:=@List.all_eq_true
noncomputable def ax2:=@List.map_cons
noncomputable def ax3:=@List.getElem?_eq_getElem
noncomputable def ax4:=@List.mem_append_right
noncomputable def ax5:=@Bool.false_eq_true
noncomputable def ax6:=@List.getElem?_map
noncomputable def ax7:=@Option.some.inj
noncomputable def ay0:=@List.map_append
noncomputable def ay1:=@List.length_append
noncomputable def ay2:=@List.getElem?_eq_some_iff
noncomputable def ay4:=@List.not_mem_nil
noncomputable def ay5:=@decide_eq_true
noncomputable def ay6:=@List.getElem?_set_ne
noncomputable def ay7:=@Nat.le_trans
noncomputable def ay9:=@Nat.ne_of_lt
noncomputable def az0:=@List.find?_cons
noncomputable def az1:=@PySem.mem_of_lookup
noncomputable def az3:=@List.getD_eq_getElem?_getD
noncomputable def az4:=@List.lookup_cons
noncomputable def az5:=@List.mem_append_left
noncomputable def az6:=@wpAny_mono
noncomputable def az8:=@List.mem_append
noncomputable def az9:=@Nat.lt_irrefl
noncomputable def aA0:=@decide_eq_true_eq
noncomputable def aA3:=@List.nodup_cons
noncomputable def aA6:=@List.getElem?_set_self
noncomputable def aA7:=@beq_self_eq_true
noncomputable def aA8:=@PySem.F.plain_min_loop
noncomputable def aA9:=@List.mem_map
noncomputable def aB0:=@List.replicate_succ
noncomputable def aB2:=@List.length_set
noncomputable def aB3:=@if_false
noncomputable def aB4:=@List.getElem?_cons_succ
noncomputable def aB5:=@Bool.and_eq_true_iff
noncomputable def aB6:=@List.sum_cons
noncomputable def aB7:=@List.mem_range
noncomputable def aB8:=@Nat.ne_of_gt
noncomputable def aC0:=@Heap.size_push
noncomputable def aC1:=@wpAny_newObj_type
noncomputable def aC2:=@List.map_map
noncomputable def aC5:=@Bool.or_eq_true
noncomputable def aC6:=@List.mem_of_find?_eq_some
noncomputable def aC8:=@List.zip_cons_cons
noncomputable def aC9:=@List.length_cons
noncomputable def aD1:=@Array.eq_empty_of_size_eq_zero
noncomputable def aD5:=@List.mem_of_getElem?
noncomputable def aD6:=@or_false
noncomputable def aD7:=@wpAny_callSpecial?_slot
noncomputable def aE0:=@beq_eq_false_iff_ne
noncomputable def aE1:=@wpAny_call_entry
noncomputable def aE3:=@wpAny_passesOwn
noncomputable def aE4:=@Bool.eq_iff_iff
noncomputable def aE5:=@List.append_nil
noncomputable def aE6:=@wpAny_truthy_bool
noncomputable def aE7:=@Nat.le_of_lt
noncomputable def aE8:=@List.flatten_cons
noncomputable def aE9:=@Int.toNat_natCast
noncomputable def aF0:=@wpAny_field
noncomputable def aF2:=@List.length_range
noncomputable def aF3:=@List.foldl_append
noncomputable def aF6:=@wpAny_seqItems
noncomputable def aF8:=@List.nodup_nil
noncomputable def aG0:=@Nat.zero_le
end
noncomputable abbrev av:=PySem.Value
noncomputable abbrev aw:=PySem.Shared
noncomputable abbrev ax:=PySem.Addr
noncomputable abbrev ay:=PySem.Program
noncomputable abbrev az:=PySem.Around
noncomputable abbrev ba:=PySem.World
noncomputable abbrev aa:=List (Int×Int)
noncomputable abbrev ad:=PySem.W.Frag
noncomputable abbrev ae:=List (List Int)
noncomputable abbrev ag:=List Int
namespace L2
open PySem PySem.Spec PyProof.Rows
noncomputable def iD (k:Int):av->Bool
 |.int i _=>i==k
 |.bool b=>(if b then 1 else 0)==k
 |_=>false
theorem kB {k:Int}{v:av}(h:iD k v=true):(∃t,v = .int k t)∨∃b:Bool,v = .bool b/\k=if b then 1 else 0:=by
 cases v with
 |int i t=>exact .inl ⟨t,by rw[show i=k from eq_of_beq h]⟩
 |bool b=>exact .inr ⟨b,rfl,(eq_of_beq h).symm⟩
 |_=>cases h
theorem A7 (b:Bool):reduceHash (if b then 1 else 0)=hashInt (if b then 1 else 0):=by cases b<;>decide +kernel
theorem A8 {prog:ay}{w:ba}{A:az}{E:av->aw->Prop}{s:aw}{b:Bool}{Q:Int->aw->Prop}(h:Q (hashInt (if b then 1 else 0)) { s with toks:=s.toks+1 }) :
  wpAny (model prog w) A (PySem.pyHash (.bool b)) Q E s:=by
 refine PySem.W.pyHash_slot (T:="bool") rfl F.slot_bool_hash entry_int_hash (args_int_hash _) (beq_builtin_none _) (.inl rfl) ?_;rw[<- A7]at h;cases b
 ·exact (show wpAny _ _ (do ret (<- mkInt 0)) _ _ s from av3 (wpAny_mkInt (av8 ⟨_,_,rfl,h⟩)))
 ·exact (show wpAny _ _ (do ret (<- mkInt 1)) _ _ s from av3 (wpAny_mkInt (av8 ⟨_,_,rfl,h⟩)))
noncomputable def g4 (prog:ay)(w:ba):KeyKind prog w Int where
 is:=iD
 hash:=hashInt
 inj:=λv a b h1 h2=>by
  rcases kB h1 with⟨t,rfl⟩|⟨x,rfl,e⟩
  ·exact eq_of_beq h2
  ·rw[e];exact eq_of_beq h2
 byValue:=λk v h=>by
  rcases kB h with⟨t,rfl⟩|⟨x,rfl,e⟩<;>rfl
 pyHash:=λhv h=>by
  rcases kB hv with⟨t,rfl⟩|⟨x,rfl,e⟩
  ·exact wpAny_pyHash_int h
  ·exact A8 (by rw[<- e];exact h)
 eqBool:=λ{A E s a b u v Q} hu hv h=>by
  rcases kB hu with⟨t,rfl⟩|⟨x,rfl,e⟩<;>rcases kB hv with⟨t',rfl⟩|⟨y,rfl,e'⟩
  ·exact SeqAt.EqAt.int_int a t b t' prog w E Q h
  ·exact SeqAt.EqAt.int_bool a t y prog w E Q (by rw[<- e'];exact h)
  ·exact SeqAt.EqAt.bool_int x b t' prog w E Q (by rw[<- e];exact h)
  ·refine SeqAt.EqAt.bool_bool x y prog w E Q ?_
   have:(x==y)=decide (a=b):=by rw[e,e'];cases x<;>cases y<;>rfl
   rw[this];exact h
 «strs»:=λk x t v h=>by cases h
theorem oR {α β:Type}{F G:α->β->Prop}:∀{l₁:List α}{l₂:List β},Paired F l₁ l₂->(∀a b,F a b->G a b)->Paired G l₁ l₂
 |_,_,.nil,_=>.nil
 |_,_,.cons r t,f=>.cons (f _ _ r) (oR t f)
section
variable {prog:ay}{w:ba}{K:Type}[DecidableEq K]{knd:KeyKind prog w K}
noncomputable def dI (knd:KeyKind prog w K)(h:Heap)(ks:List (List K))(a:ax):Prop:=∃o items n,h.get? a=some o/\o.cls = .type "tuple"/\o.data = .seq items n/\Paired (λk v=>∃b,v=Value.ref b/\IsTupleKey knd h k b) ks items.toList
noncomputable def sS (knd:KeyKind prog w K)(ks:List (List K)):Int:=reduceHash (Builtin.Tuple.tupleHashOf (ks.map (tupleKeyHash knd)))
noncomputable def sT (ks:List (List K)):Nat:=(ks.map λk=>k.length+1).sum+1
theorem dI.typeIs {s:aw}{ks:List (List K)}{a:ax}(x:dI knd s.heap ks a):s.TypeIs (.ref a) "tuple":=let ⟨o,_,_,ho,hc,_⟩:=x;⟨o,ho,hc⟩
theorem sU {h:Heap}:∀{x y:List (List K)}{vs:List av},Paired (λk v=>∃b,v=Value.ref b/\IsTupleKey knd h k b) x vs->Paired (λk v=>∃b,v=Value.ref b/\IsTupleKey knd h k b) y vs->x=y
 |_,_,_,.nil,.nil=>rfl
 |_,_,_,.cons ⟨b,e,r⟩ t,.cons ⟨b',e',r'⟩ t'=>by
  rw[e]at e';cases e';rw[r.inj r',sU t t']
theorem dI.inj {h:Heap}{a:ax}{x y:List (List K)}(hx:dI knd h x a)(hy:dI knd h y a):x=y:=by
 obtain⟨o,items,n,ho,_,hd,hi⟩:=hx
 obtain⟨o',items',n',ho',_,hd',hi'⟩:=hy
 obtain rfl:o=o':=ax7 (ho.symm.trans ho');rw[hd]at hd';injection hd' with h1 _
 subst h1;exact sU hi hi'
theorem dI.keeps {h h':Heap}{ks:List (List K)}{a d:ax}{o:Obj}{es ep}(x:dI knd h ks a)(ho:h.get? d=some o)(hd:o.data = .dict es ep)(hs:Heap.SameBut d h h'):dI knd h' ks a:=by
 obtain⟨o',items,n,ho',hc,hd',hi⟩:=x
 have hne:a≠d:=by
  rintro rfl;obtain rfl:o'=o:=ax7 (ho'.symm.trans ho);rw[hd]at hd';exact nomatch hd'
 exact⟨o',items,n,(hs.2 a hne).trans ho',hc,hd',oR hi λk v ⟨b,e,r⟩=>⟨b,e,r.keeps ho hd hs⟩⟩
variable {A:az}{E:av→aw→Prop}{s:aw}
theorem sV:∀{ks:List (List K)}{vs:List av}{A:az}{s:aw}{b:Array Int}{Q:Array Int->aw->Prop},A.units<cLine->Paired (λk v=>∃b,v=Value.ref b/\IsTupleKey knd s.heap k b) ks vs->
  (∀b':Array Int,b'.toList=b.toList++ks.map (tupleKeyHash knd)->Q b' { s with toks:=s.toks+(ks.map λk=>k.length+1).sum })->
  wpAny (model prog w) A (forIn vs b λx r=>do let h <- pyHash x;pure PUnit.unit;pure (ForInStep.yield (r.push h))) Q E s
 |[],_,A,s,b,Q,_,.nil,h=>av8 (h b (by simp))
 |k::ks,_,A,s,b,Q,hu,.cons ⟨p,e,r⟩ t,h=>by
  subst e;rw[List.forIn_cons];refine av3 (av3 (wpAny_pyHash_tuple hu r ?_));refine av3 (av8 (av8 ?_));exact sV (s:={ s with toks:=s.toks+(k.length+1) }) hu t λb' hb=>by
   have:=h b' (by rw[hb];simp)
   simpa[Nat.add_assoc] using this
theorem A9 {ks:List (List K)}{a:ax}{Q:Int->aw->Prop}(hu:A.units+1<cLine)(hk:dI knd s.heap ks a)(h:Q (sS knd ks) { s with toks:=s.toks+sT ks }) :
  wpAny (model prog w) A (pyHash (.ref a)) Q E s:=by
 have hT:=hk.typeIs
 obtain⟨o,items,n,ho,_,hd,hi⟩:=hk
 refine PySem.W.pyHash_slot (T:="tuple") hT F.slot_tuple_hash F.entry_tuple_hash (F.args_tuple_hash_1 _) (beq_builtin_none _) (.inr (by omega)) ?_;show wpAny _ _ (Builtin.Tuple.tupleItemsOf (.ref a) >>= _) _ _ s;refine av3 (wpAny_tupleItemsOf ho hd ?_);refine av3 ?_;rw[<- Array.forIn_toList];refine sV (by show A.units+1<cLine;exact hu) hi λb hb=>?_
 show wpAny _ _ (retInt (Builtin.Tuple.tupleHashOf b.toList)) _ _ _;rw[hb];exact av3 (wpAny_mkInt (av8 ⟨_,_,rfl,h⟩))
theorem B0 {x y:List (List K)}{a b:ax}{P:Fin->aw->Prop}(hu:A.units<cLine)(hx:dI knd s.heap x a)(hy:dI knd s.heap y b)(h:P (.done (.ret (.bool (decide (x=y))))) s) :
  wpAny (model prog w) A (Builtin.«tuple.__eq__» ⟨[.ref a,.ref b],[]⟩) P E s:=by
 have hTb:=hy.typeIs
 obtain⟨oa,xs,na,hoa,_,hda,hia⟩:=hx
 obtain⟨ob,ys,nb,hob,_,hdb,hib⟩:=hy
 show wpAny _ _ (isInstance (.ref b) (.type "tuple") >>= _) _ _ s;refine av3 (wpAny_isInstance hTb isSubtype_tuple_tuple ?_);simp only[Bool.not_true,ax5,aB3];refine av3 (wpAny_tupleItemsOf hoa hda ?_);refine av3 (wpAny_tupleItemsOf hob hdb ?_);refine av3 ?_;refine wpAny_forIn_list _
  (λrest r s'=>r.1=none/\s'=s/\∃x' y' xs' ys',rest=List.zip xs' ys'/\Paired (λk v=>∃b,v=Value.ref b/\IsTupleKey knd s.heap k b) x' xs'/\Paired (λk v=>∃b,v=Value.ref b/\IsTupleKey knd s.heap k b) y' ys'/\decide (x'=y')=decide (x=y)/\(xs'.length==ys'.length)=(xs.size==ys.size))
  _ ?_ ?_ _ _ ⟨rfl,rfl,x,y,xs.toList,ys.toList,rfl,hia,hib,rfl,by simp⟩
 ·rintro⟨u,v⟩ rest r s' ⟨hr,rfl,x',y',xs',ys',hz,hx',hy',hdec,ao⟩
  cases hx' with
  |nil=>simp at hz
  |@cons k1 u' x'' xs'' h1 hx''=>
   cases hy' with
   |nil=>simp at hz
   |@cons k2 v' y'' ys'' h2 hy''=>
    simp only[aC8,List.cons.injEq,Prod.mk.injEq]at hz
    obtain⟨⟨rfl,rfl⟩,rfl⟩:=hz
    obtain⟨b1,rfl,q1⟩:=h1
    obtain⟨b2,rfl,q2⟩:=h2
    refine av3 (wpAny_eqBool_tuple (x:=k1) (y:=k2) hu q1 q2 ?_);by_cases hk:k1=k2
    ·subst hk
     rw[ay5 rfl];simp only[Bool.not_true,ax5,aB3];refine av8 ⟨rfl,rfl,x'',y'',xs'',ys'',rfl,hx'',hy'',?_,by simpa using ao⟩;rw[<- hdec];by_cases hxy:x''=y''
     ·simp[hxy]
     ·simp[hxy]
    ·rw[aw1 hk]
     simp only[Bool.not_false,if_true];have hf:decide (x=y)=false:=by rw[<- hdec];simp[hk]
     rw[hf]at h;exact av3 (av8 (av8 (av8 h)))
 ·rintro⟨r1,r2⟩ s' ⟨hr,rfl,x',y',xs',ys',hz,hx',hy',hdec,ao⟩
  simp only at hr;subst hr;refine av8 ?_;have hfin:(xs.size==ys.size)=decide (x=y):=by
   rw[<- hdec,<- ao];cases hx' with
   |nil=>
    cases hy' with
    |nil=>simp
    |cons _ _=>simp
   |cons _ _=>
    cases hy' with
    |nil=>simp
    |cons _ _=>simp at hz
  show P (.done (.ret (.bool (xs.size==ys.size)))) s';rw[hfin];exact h
theorem B1 {x y:List (List K)}{a b:ax}{Q:Bool->aw->Prop}(hu:A.units+8<cLine)(hx:dI knd s.heap x a)(hy:dI knd s.heap y b)(h:Q (decide (x=y)) s) :
  wpAny (model prog w) A (eqBool (.ref a) (.ref b)) Q E s:=by
 unfold eqBool
 try with_reducible refine wpAny_holding ?_
 show wpAny _ _ (if (Value.ref a==Value.ref b)=true then _ else _) Q E s;by_cases hab:(Value.ref a==Value.ref b)=true
 ·rw[if_pos hab]
  have e:a=b:=by have:=eq_of_beq hab;injection this
  subst e;obtain rfl:=hx.inj hy;exact av3 (wpAny_rule (av8 (by simpa using h)))
 ·rw[if_neg hab]
  exact av3 (wpAny_richCompare_same_room (op:=.Eq) hx.typeIs hy.typeIs F.slot_tuple_eq
   (aE1 F.slot_tuple_eq hx.typeIs F.entry_tuple_eq (B0 (by show A.units+1+0<cLine;omega) hx hy ⟨_,rfl,(λe=>nomatch e),aE6 h⟩) (F.args_tuple_eq_2 _ _)) (by omega))
theorem B2 {ks:List K}{a:ax}{n:Nat}{Q:Bool->aw->Prop}(hk:IsTupleKey knd s.heap ks a)(h:Q true s):wpAny (model prog w) A (eqIsQuiet (n+1) (.ref a)) Q E s:=by
 have hT:=hk.typeIs
 obtain⟨o,items,m,ho,_,hd,hi⟩:=hk
 unfold eqIsQuiet;refine av3 (wpAny_specialOf hT F.slot_tuple_eq.lookup ?_);show wpAny _ _ (isInstance (.ref a) (.type "tuple") >>= _) _ _ s;refine av3 (wpAny_isInstance hT isSubtype_tuple_tuple ?_);simp only[Bool.not_true,ax5,aB3];refine av3 (aF6 ho hd ?_);refine av3 ?_;show wpAny _ _ (forIn items _ _) _ _ s;rw[<- Array.forIn_toList];refine wpAny_forIn_list _ (λrest r s'=>r.1=none/\s'=s/\∀v∈rest,carriedByValue v=true) _ ?_ ?_ _ _ ⟨rfl,rfl,hi.byValue⟩
 ·rintro v rest r s' ⟨hr,rfl,hall⟩
  rw[eqIsQuiet_byValue _ (hall v av5)];refine av3 (av8 ?_);simp only[Bool.not_true,ax5,aB3];exact av8 ⟨rfl,rfl,λu hu'=>hall u (aw4 _ hu')⟩
 ·rintro⟨r1,r2⟩ s' ⟨hr,rfl,_⟩
  simp only at hr;subst hr;exact av8 h
theorem sW {h:Heap}:∀{x:List (List K)}{vs:List av},Paired (λk v=>∃b,v=Value.ref b/\IsTupleKey knd h k b) x vs->∀v∈vs,∃k b,v = .ref b/\IsTupleKey knd h k b
 |_,_,.nil,v,hv=>by simp at hv
 |_,_,.cons ⟨b,e,r⟩ t,v,hv=>by
  rcases aw6.mp hv with rfl|hv
  ·exact⟨_,b,e,r⟩
  ·exact sW t v hv
theorem B3 {ks:List (List K)}{a:ax}{n:Nat}{Q:Bool->aw->Prop}(hk:dI knd s.heap ks a)(h:Q true s):wpAny (model prog w) A (eqIsQuiet (n+2) (.ref a)) Q E s:=by
 have hT:=hk.typeIs
 obtain⟨o,items,m,ho,_,hd,hi⟩:=hk
 unfold eqIsQuiet;refine av3 (wpAny_specialOf hT F.slot_tuple_eq.lookup ?_);show wpAny _ _ (isInstance (.ref a) (.type "tuple") >>= _) _ _ s;refine av3 (wpAny_isInstance hT isSubtype_tuple_tuple ?_);simp only[Bool.not_true,ax5,aB3];refine av3 (aF6 ho hd ?_);refine av3 ?_;show wpAny _ _ (forIn items _ _) _ _ s;rw[<- Array.forIn_toList];refine wpAny_forIn_list _ (λrest r s'=>r.1=none/\s'=s/\∀v∈rest,∃k b,v = .ref b/\IsTupleKey knd s.heap k b) _ ?_ ?_ _ _ ⟨rfl,rfl,sW hi⟩
 ·rintro v rest r s' ⟨hr,rfl,hall⟩
  obtain⟨k,b,rfl,q⟩:=hall v av5
  refine av3 (B2 q ?_);simp only[Bool.not_true,ax5,aB3];exact av8 ⟨rfl,rfl,λu hu'=>hall u (aw4 _ hu')⟩
 ·rintro⟨r1,r2⟩ s' ⟨hr,rfl,_⟩
  simp only at hr;subst hr;exact av8 h
end
noncomputable def kC {prog:ay}{w:ba}{K:Type}[DecidableEq K](knd:KeyKind prog w K):HeapKind prog w (List (List K)) where
 is:=dI knd
 hash:=sS knd
 draws:=sT
 room:=λA=>A.units+8<cLine
 inj:=λhx hy=>hx.inj hy
 keeps:=λx ho hd hs=>x.keeps ho hd hs
 pyHash:=λhu hk h=>A9 (Nat.lt_of_le_of_lt (Nat.add_le_add_left (by decide) _) hu) hk h
 eqBool:=λhu hx hy h=>B1 hu hx hy h
 quiet:=λhk h=>B3 hk h
noncomputable def cL (k:List (Int×Bool)):ae:=k.map λp=>[p.1,if p.2 then 1 else 0]
theorem oS:∀{k k':List (Int×Bool)},cL k=cL k'->k=k'
 |[],[],_=>rfl
 |[],_::_,h=>by simp[cL]at h
 |_::_,[],h=>by simp[cL]at h
 |(i,b)::r,(j,c)::r',h=>by
  simp only[cL,ax2,List.cons.injEq]at h
  obtain⟨⟨rfl,h2,_⟩,h3⟩:=h
  have:b=c:=by cases b<;>cases c<;>simp_all
  subst this;rw[oS h3]
noncomputable abbrev bJ:=Sum Int Str
noncomputable def sX:bJ->av->Bool
 |.inl k,v=>Value.isInt k v
 |.inr x,v=>Value.isStrOf x v
noncomputable def B4 (w:ba):bJ->Int
 |.inl k=>hashInt k
 |.inr x=>hashStr w x
theorem gI:∀{k:bJ}{v:av},sX k v=true->(∃i t,k=Sum.inl i/\v=Value.int i t)∨(∃x t,k=Sum.inr x/\v=Value.str x t)
 |.inl i,v,h=>by
  obtain⟨t,e⟩:=Value.isInt_shape (k:=i) (v:=v) h
  exact .inl ⟨i,t,rfl,e⟩
 |.inr x,v,h=>by
  obtain⟨t,e⟩:=Value.isStrOf_shape (x:=x) (v:=v) h
  exact .inr ⟨x,t,rfl,e⟩
theorem B5 (a b:Int):decide ((Sum.inl a:bJ)=Sum.inl b)=(a==b):=by
 by_cases e:a=b
 ·subst e;simp
 ·have h:¬(Sum.inl a:bJ)=Sum.inl b:=λq=>e (Sum.inl.inj q)
  rw[aw1 h];exact (aE0.mpr e).symm
theorem B6 (a b:Str):decide ((Sum.inr a:bJ)=Sum.inr b)=decide (a=b):=by
 by_cases e:a=b
 ·subst e;simp
 ·have h:¬(Sum.inr a:bJ)=Sum.inr b:=λq=>e (Sum.inr.inj q)
  rw[aw1 h,aw1 e]
theorem B7 (a:Int)(b:Str):decide ((Sum.inl a:bJ)=Sum.inr b)=false:=aw1 (λq=>nomatch q)
theorem B8 (a:Str)(b:Int):decide ((Sum.inr a:bJ)=Sum.inl b)=false:=aw1 (λq=>nomatch q)
noncomputable def mF (prog:ay)(w:ba):PySem.KeyKind prog w bJ where
 is:=sX
 hash:=B4 w
 inj:=λv a b ha hb=>by
  rcases gI ha with⟨i,t,rfl,rfl⟩|⟨x,t,rfl,rfl⟩
  ·rcases gI hb with⟨j,u,rfl,e⟩|⟨y,u,rfl,e⟩
   ·injection e with e1 _;rw[e1]
   ·exact nomatch e
  ·rcases gI hb with⟨j,u,rfl,e⟩|⟨y,u,rfl,e⟩
   ·exact nomatch e
   ·injection e with e1 _;rw[e1]
 byValue:=λk v h=>by
  rcases gI h with⟨i,t,rfl,rfl⟩|⟨x,t,rfl,rfl⟩<;>rfl
 pyHash:=λhv h=>by
  rcases gI hv with⟨i,t,rfl,rfl⟩|⟨x,t,rfl,rfl⟩
  ·exact wpAny_pyHash_int h
  ·exact wpAny_pyHash_str h
 eqBool:=λhu hv h=>by
  rcases gI hu with⟨i,t,rfl,rfl⟩|⟨x,t,rfl,rfl⟩
  ·rcases gI hv with⟨j,u,rfl,rfl⟩|⟨y,u,rfl,rfl⟩
   ·rw[B5]at h;exact wpAny_eqBool_int h
   ·rw[B7]at h;exact SeqAt.EqAt.int_str i t y u _ _ _ _ h
  ·rcases gI hv with⟨j,u,rfl,rfl⟩|⟨y,u,rfl,rfl⟩
   ·rw[B8]at h;exact SeqAt.EqAt.str_int x t j u _ _ _ _ h
   ·rw[B6]at h;exact wpAny_eqBool_str h
 «strs»:=λk x t v h=>by
  rcases gI h with⟨i,u,rfl,e⟩|⟨y,u,rfl,e⟩
  ·exact nomatch e
  ·injection e with e1 _
   subst e1;cases v<;>rfl
inductive V where
 |non|bl (b:Bool)|int (i:Int)|str (x:Str)|byt (b:Array UInt8)|flt (b:UInt64)|ref (a:ax)|ty (n:String)
 deriving DecidableEq
noncomputable def aP:V->av->Prop
 |.non,u=>u=Value.none
 |.bl b,u=>u=Value.bool b
 |.int i,u=>∃t,u=Value.int i t
 |.str x,u=>∃t,u=Value.str x t
 |.byt b,u=>∃t,u=Value.bytes b t
 |.flt b,u=>∃t,u=Value.float b t
 |.ref a,u=>u=Value.ref a
 |.ty n,u=>u=Value.type n
noncomputable abbrev aM:List V->List av->Prop:=Paired aP
theorem aM.length {xs:List V}{us:List av}(r:aM xs us):xs.length=us.length:=Paired.length r
theorem aM.get:∀{xs:List V}{us:List av}{i:Nat}{x:V},aM xs us->xs[i]? = some x->∃u,us[i]? = some u/\aP x u
 |_,_,_,_,.nil,e=>by simp at e
 |_,_,0,_,.cons r _,e=>by simp at e;subst e;exact⟨_,rfl,r⟩
 |_,_,i+1,x,.cons _ t,e=>by
  obtain⟨u,h1,h2⟩:=aM.get (i:=i) (x:=x) t (by simpa using e)
  exact⟨u,by simpa using h1,h2⟩
theorem aM.append:∀{xs ys:List V}{us ws:List av},aM xs us->aM ys ws->aM (xs++ys) (us++ws)
 |_,_,_,_,.nil,s=>s
 |_,_,_,_,.cons r t,s=>.cons r (aM.append t s)
noncomputable def g8:Option V->Option av->Prop
 |some v,some u=>aP v u
 |none,none=>True
 |_,_=>False
noncomputable def KV {κ:Type}:List (κ×V)->List (κ×av)->Prop:=Paired λ(p:κ×V) (q:κ×av)=>p.1=q.1/\aP p.2 q.2
noncomputable def kV:bJ->V
 |.inl i=>.int i
 |.inr x=>.str x
inductive HO where
 |lst (xs:List V)
 |tup (xs:List V)
 |dK (kvs:List (bJ×V))|dT (kvs:List (List bJ×V))
 |set (S:Int->Bool) (n:Nat)
 |ins (C dx:ax) (fs:List (Str×V))
 |own (x:ax)
 |xd (fs:List (Str×V))
 |met (f x:ax)
 |rng (lo hi:Int)
 |frz (o:Obj) (u:HO)
 |tbl (ps:Array av)
 |code (q:Str)
 |cd (c:ax) (q:Str)
 |dA (kvs:List (List (Int×Bool)×V))|dB (kvs:List (Int×V))
 |ext (φ:Heap->Prop)
noncomputable abbrev Hp:=ax->Option HO
noncomputable def upd (H:Hp)(a:ax)(o:HO):Hp:=λb=>if b=a then some o else H b
theorem bI {H:Hp}{a:ax}{o:HO}:upd H a o a=some o:=by unfold upd;rw[if_pos rfl]
theorem aK {H:Hp}{a b:ax}{o:HO}(h:b≠a):upd H a o b=H b:=by unfold upd;rw[if_neg h]
theorem sY {H:Hp}{a b:ax}{o u:HO}(h:H a=some o)(h':H b=some u)(d:o≠u):a≠b:=by
 intro e;subst e;rw[h]at h';exact d (ax7 h')
theorem cS {H:Hp}{a b:ax}{o:HO}(h:H a=some o)(h':H b=none):a≠b:=by
 intro e;subst e;rw[h]at h';cases h'
noncomputable def g9 (h:Heap)(a:ax):Prop:=∀o,h.get? a=some o->o.dict=none
theorem g9.new (h:Heap)(o:Obj)(d:o.dict=none)(s:o.isFreed=false:=by rfl):g9 (h.push o) h.objs.size:=λu e=>by
 rw[aw8 h (o:=o) s]at e;cases e;exact d
theorem g9.stay {h h':Heap}{a:ax}{o:Obj}(n:g9 h a)(e:h.get? a=some o)(e':h'.get? a=some o):g9 h' a:=λu hu=>by
 rw[e']at hu;cases hu;exact n _ e
noncomputable def dJ (H:Hp)(k:List (Int×Bool))(b:ax):Prop:=∃us:List V,H b=some (.tup us)/\Paired (λ(p:Int×Bool) (u:V)=>∃c,u = .ref c/\H c=some (.tup [.int p.1,.bl p.2])) k us
theorem dJ.keeps {H H':Hp}{k:List (Int×Bool)}{b:ax}(ht:∀b xs,H b=some (.tup xs)->H' b=some (.tup xs))(x:dJ H k b):dJ H' k b:=
 let ⟨us,e,r⟩:=x;⟨us,ht _ _ e,oR r λ_ _ ⟨c,q,z⟩=>⟨c,q,ht _ _ z⟩⟩
section
variable (P:ay)(w:ba)
noncomputable def bK (H:Hp)(h:Heap)(a:ax):HO->Prop
 |.lst xs=>xs.length<=sizeLine/\∃(its:List av) (n:Nat),aM xs its/\h.get? a=some { cls:=.type "list",data:=.seq its.toArray n }
 |.tup xs=>xs.length<=sizeLine/\∃its:List av,aM xs its/\IsTup h a its.toArray/\g9 h a
 |.dK kvs=>kvs.length<=sizeLine/\(a==sysModules)=false/\∃vs,KV kvs vs/\h.DictOf (mF P w) a vs
 |.dT kvs=>kvs.length<=sizeLine/\(a==sysModules)=false/\∃xs:List (List bJ×ax×av),
   Paired (λ(p:List bJ×V) (q:List bJ×ax×av)=>p.1=q.1/\H q.2.1=some (.tup (p.1.map kV))/\aP p.2 q.2.2) kvs xs/\
   ∃o es ep,h.get? a=some o/\o.ExactDict/\o.data = .dict es ep/\es.toList=xs.map (entryOfKey (tupleKind (mF P w)))/\(xs.map (·.1)).Nodup
 |.set S n=>h.SetOf (intKind P w) a S n
 |.ins C dx fs=>H dx=some (.own a)/\fs.length<=1000/\dx≠a/\h.get? a=some (PySem.W.instObj C dx)/\
   ∃mA,h.Ns1 dx mA/\(∀f,g8 (fs.lookup f) (mA f))/\PySem.Within mA (fs.map (·.1))
 |.own _=>∃o,h.get? a=some o
 |.xd fs=>∃mA,h.Ns1 a mA/\∀f,g8 (fs.lookup f) (mA f)
 |.rng lo hi=>∃t u v,h.get? a=some { cls:=.type "range",data:=.fields #[.int lo t,.int hi u,.int 1 v] }
 |.frz o u=>h.get? a=some o/\bK H h a u
 |.tbl ps=>∃qs:Array av,h.get? a=some { cls:=.none,data:=.fields qs }/\TriplesOk qs.toList/\∀(pos:Pos) (cv:av),codeAmong pos qs.toList=some cv->∃(c:ax) (q:Str) (t:Tok),cv = .ref c/\H c=some (.code q)/\ps = #[.str q t]
 |.code q=>∃(oc:Obj) (vs:Array av) (t:Tok),h.get? a=some oc/\oc.data = .fields vs/\vs[1]? = some (.str q t)
 |.cd c q=>(∃o,h.get? a=some o)/\H c=some (.code q)
 |.dA kvs=>kvs.length<=sizeLine/\(a==sysModules)=false/\∃xs:List (ae×ax×av),
   Paired (λ(p:List (Int×Bool)×V) (q:ae×ax×av)=>cL p.1=q.1/\dJ H p.1 q.2.1/\aP p.2 q.2.2) kvs xs/\
   ∃o es ep,h.get? a=some o/\o.ExactDict/\o.data = .dict es ep/\es.toList=xs.map (entryOfKey (kC (g4 P w)))/\(xs.map (·.1)).Nodup
 |.dB kvs=>kvs.length<=sizeLine/\(a==sysModules)=false/\∃vs,KV kvs vs/\h.DictOf (g4 P w) a vs
 |.met f x=>h.get? a=some (PySem.W.methodObj (.ref f) (.ref x))
 |.ext φ=>φ h/\(∃o,h.get? a=some o)/\∀h1 h2:Heap,φ h1->(∀o,h1.get? a=some o->h2.get? a=some o)->φ h2
noncomputable def bG (H:Hp)(h:Heap):Prop:=∀a o,H a=some o->bK P w H h a o
end
section
variable {P:ay}{w:ba}{H H':Hp}{h h':Heap}{a:ax}{o:HO}
theorem bK.lt (x:bK P w H h a o):a<h.objs.size:=by
 cases o with
 |lst xs=>obtain⟨_,_,_,_,e⟩:=x;exact aw3 e
 |tup xs=>obtain⟨_,_,_,p,_⟩:=x;exact p.lt
 |dK kvs=>obtain⟨_,_,_,_,o,_,_,e,_⟩:=x;exact aw3 e
 |dT kvs=>obtain⟨_,_,_,_,o,_,_,e,_⟩:=x;exact aw3 e
 |set S n=>obtain⟨o,_,_,_,e,_⟩:=x;exact aw3 e
 |ins C dx fs=>obtain⟨_,_,_,e,_⟩:=x;exact aw3 e
 |own y=>obtain⟨_,e⟩:=x;exact aw3 e
 |xd fs=>obtain⟨_,⟨_,_,_,e,_⟩,_⟩:=x;exact aw3 e
 |rng lo hi=>obtain⟨_,_,_,e⟩:=x;exact aw3 e
 |frz ob u=>obtain⟨e,_⟩:=x;exact aw3 e
 |tbl ps=>obtain⟨_,e,_⟩:=x;exact aw3 e
 |code q=>obtain⟨_,_,_,e,_⟩:=x;exact aw3 e
 |cd c q=>obtain⟨⟨_,e⟩,_⟩:=x;exact aw3 e
 |dA kvs=>obtain⟨_,_,_,_,o,_,_,e,_⟩:=x;exact aw3 e
 |dB kvs=>obtain⟨_,_,_,_,o,_,_,e,_⟩:=x;exact aw3 e
 |met f y=>exact aw3 (show h.get? a=some _ from x)
 |ext φ=>obtain⟨_,⟨_,e⟩,_⟩:=x;exact aw3 e
theorem Paired.mapP {α β:Type}{F G:α->β->Prop}:∀{l₁:List α}{l₂:List β},Paired F l₁ l₂->(∀a b,F a b->G a b)->Paired G l₁ l₂
 |_,_,.nil,_=>.nil
 |_,_,.cons r t,f=>.cons (f _ _ r) (Paired.mapP t f)
theorem bK.stay (x:bK P w H h a o)(k:∀b u,(b=a∨H b=some (.own a))->h.get? b=some u->h'.get? b=some u)(ho:∀b,H b=some (.own a)->H' b=some (.own a))(ht:∀b xs,H b=some (.tup xs)->H' b=some (.tup xs))(hc:∀b q,H b=some (.code q)->H' b=some (.code q):=by
   first
    |exact λ_ _ e=>e
    |(intro c q e;rw[aK (cS e (by assumption))];exact e)
    |(intro c q e;rw[aK (λz=>by subst z;simp_all)];exact e)):bK P w H' h' a o:=by
 induction o with
 |lst xs=>obtain⟨z,its,n,r,e⟩:=x;exact⟨z,its,n,r,k _ _ (.inl rfl) e⟩
 |tup xs=>obtain⟨z,its,r,⟨ob,e,c⟩,nd⟩:=x;exact⟨z,its,r,⟨ob,k _ _ (.inl rfl) e,c⟩,nd.stay e (k _ _ (.inl rfl) e)⟩
 |dK kvs=>obtain⟨z,y,vs,r,ob,es,ep,e,c⟩:=x;exact⟨z,y,vs,r,ob,es,ep,k _ _ (.inl rfl) e,c⟩
 |dT kvs=>
  obtain⟨z,y,xs,r,ob,es,ep,e,c⟩:=x
  exact⟨z,y,xs,Paired.mapP r λp q z=>⟨z.1,ht _ _ z.2.1,z.2.2⟩,ob,es,ep,k _ _ (.inl rfl) e,c⟩
 |set S n=>obtain⟨ob,es,ep,t,e,c⟩:=x;exact⟨ob,es,ep,t,k _ _ (.inl rfl) e,c⟩
 |ins C dx fs=>
  obtain⟨d,z,ne,e,mA,⟨od,es,ep,e2,c⟩,r⟩:=x
  exact⟨ho _ d,z,ne,k _ _ (.inl rfl) e,mA,⟨od,es,ep,k _ _ (.inr d) e2,c⟩,r⟩
 |own y=>obtain⟨ob,e⟩:=x;exact⟨ob,k _ _ (.inl rfl) e⟩
 |xd fs=>obtain⟨mA,⟨od,es,ep,e,c⟩,r⟩:=x;exact⟨mA,⟨od,es,ep,k _ _ (.inl rfl) e,c⟩,r⟩
 |rng lo hi=>obtain⟨t,u,v,e⟩:=x;exact⟨t,u,v,k _ _ (.inl rfl) e⟩
 |frz ob u ih=>obtain⟨e,q⟩:=x;exact⟨k _ _ (.inl rfl) e,ih q⟩
 |tbl ps=>
  obtain⟨qs,e,tr,cs⟩:=x
  exact⟨qs,k _ _ (.inl rfl) e,tr,λpos cv z=>let ⟨c,q,t,e1,e2,e3⟩:=cs pos cv z;⟨c,q,t,e1,hc _ _ e2,e3⟩⟩
 |code q=>obtain⟨oc,vs,t,e,r⟩:=x;exact⟨oc,vs,t,k _ _ (.inl rfl) e,r⟩
 |cd c q=>obtain⟨⟨o,e⟩,r⟩:=x;exact⟨⟨o,k _ _ (.inl rfl) e⟩,hc _ _ r⟩
 |dA kvs=>
  obtain⟨z,y,xs,r,ob,es,ep,e,c⟩:=x
  exact⟨z,y,xs,Paired.mapP r λp q z=>⟨z.1,z.2.1.keeps ht,z.2.2⟩,ob,es,ep,k _ _ (.inl rfl) e,c⟩
 |dB kvs=>obtain⟨z,y,vs,r,ob,es,ep,e,c⟩:=x;exact⟨z,y,vs,r,ob,es,ep,k _ _ (.inl rfl) e,c⟩
 |met f y=>
  have e:h.get? a=some (PySem.W.methodObj (.ref f) (.ref y)):=x;show h'.get? a=some (PySem.W.methodObj (.ref f) (.ref y));exact k a _ (.inl rfl) e
 |ext φ=>obtain⟨p,⟨o,e⟩,st⟩:=x;exact⟨st _ _ p λo q=>k _ _ (.inl rfl) q,⟨o,k _ _ (.inl rfl) e⟩,st⟩
theorem bG.lt (x:bG P w H h)(e:H a=some o):a<h.objs.size:=(x a o e).lt
theorem bG.fresh (x:bG P w H h)(e:h.objs.size<=a):H a=none:=by
 cases q:H a with
 |none=>rfl
 |some u=>exact absurd (av9 (x.lt q) e) (az9 _)
theorem bG.kept (x:bG P w H h)(k:∀b u,h.get? b=some u->h'.get? b=some u):bG P w H h':=λa o e=>
 (x a o e).stay (λb u _ q=>k b u q) (λ_ q=>q) λ_ _ q=>q
theorem bG.laid (x:bG P w H h)(k:∀b u,h.get? b=some u->h'.get? b=some u)(hp:h.objs.size<=a)(new:bK P w (upd H a o) h' a o):bG P w (upd H a o) h':=λb u e=>by
 have hn:=x.fresh hp;by_cases hb:b=a
 ·subst hb;rw[bI]at e;cases e;exact new
 ·rw[aK hb]at e
  exact (x b u e).stay (λc v _ q=>k c v q) (λc q=>by rw[aK (cS q hn)];exact q) (λc xs q=>by rw[aK (cS q hn)];exact q) (λc r q=>by rw[aK (cS q hn)];exact q)
end
noncomputable def Rd (H:Hp)(a:ax)(u:HO):Prop:=H a=some u∨∃o,H a=some (.frz o u)
theorem Rd.ok {P:ay}{w:ba}{H:Hp}{h:Heap}{a:ax}{u:HO}(r:Rd H a u)(x:bG P w H h):bK P w H h a u:=by
 rcases r with r|⟨o,r⟩
 ·exact x a u r
 ·obtain⟨_,q⟩:=x a _ r
  exact q
noncomputable def kD:Option HO->Prop
 |some (.lst _)=>True
 |some (.dK _)=>True
 |some (.dT _)=>True
 |some (.dA _)=>True
 |some (.dB _)=>True
 |some (.set _ _)=>True
 |some (.ins _ _ _)=>True
 |some (.ext _)=>True
 |_=>False
section
variable {P:ay}{w:ba}{H:Hp}{h h':Heap}{x e:ax}{o':HO}
theorem bG.write (ok:bG P w H h)(mu:kD (H x))(he:e=x∨H e=some (.own x))(k:∀b u,b≠e->h.get? b=some u->h'.get? b=some u)(heo:∃u,h'.get? e=some u)(new:bK P w (upd H x o') h' x o'):bG P w (upd H x o') h':=λb u q=>by
 have nown:∀c y,H c=some (.own y)->c≠x:=λc y r z=>by subst z;rw[r]at mu;exact mu
 have ntup:∀c xs,H c=some (.tup xs)->c≠x:=λc xs r z=>by subst z;rw[r]at mu;exact mu
 by_cases hb:b=x
 ·subst hb;rw[bI]at q;cases q;exact new
 ·rw[aK hb]at q
  by_cases hbe:b=e
  ·have q':H b=some (.own x):=by
    rcases he with z|z
    ·exact absurd (hbe.trans z) hb
    ·rw[hbe];exact z
   rw[q]at q';cases q'
   obtain⟨v,hv⟩:=heo
   exact⟨v,by rw[hbe];exact hv⟩
  ·refine (ok b u q).stay (λc v hc r=>k c v ?_ r) (λc r=>by rw[aK (nown c b r)];exact r) (λc xs r=>by rw[aK (ntup c xs r)];exact r) (λc y r=>by rw[aK (λz=>by subst z;rw[r]at mu;exact mu)];exact r)
   rcases hc with rfl|hc
   ·exact hbe
   ·rintro rfl
    rcases he with z|z
    ·exact nown c b hc z
    ·rw[hc]at z;cases z;exact hb rfl
end
structure Un (fs ex:List ax)(H H':Hp)(h h':Heap):Prop where
 keep:∀b o,h.get? b=some o->H b=none->b∉fs->b∉ex->h'.get? b=some o
 slot:∀b o,h.get? b=some o->H b=none->b∈fs->b∉ex->∃sl,h'.get? b=some { o with slots:=sl }
 free:∀b o,h.get? b=some o->H b=none->b∉ex->H' b=none
 there:∀b o,h.get? b=some o->b∉ex->∃o',h'.get? b=some o'
 tups:∀b xs,H b=some (.tup xs)->H' b=some (.tup xs)
 frzs:∀b o u,H b=some (.frz o u)->H' b=some (.frz o u)
 tbls:∀b ps,H b=some (.tbl ps)->∃more,H' b=some (.tbl (ps++more))
section
variable {fs fs' ex ex':List ax}{H H1 H2:Hp}{h h1 h2 h':Heap}{a x e:ax}{o:HO}
theorem Un.any (u:Un fs ex H H1 h h1){b:ax}{ob:Obj}(q:h.get? b=some ob)(n:H b=none)(hx:b∉ex):∃sl,h1.get? b=some { ob with slots:=sl }:=by
 by_cases hb:b∈fs
 ·exact u.slot b ob q n hb hx
 ·exact⟨ob.slots,u.keep b ob q n hb hx⟩
theorem Un.kept (k:∀b u,h.get? b=some u->h'.get? b=some u):Un fs ex H H h h':=
 ⟨λb ob q _ _ _=>k b ob q,λb ob q _ _ _=>⟨ob.slots,k b ob q⟩,λ_ _ _ n _=>n,λb ob q _=>⟨ob,k b ob q⟩,λ_ _ q=>q,λ_ _ _ q=>q,λ_ ps q=>⟨#[],by rw[q];simp⟩⟩
theorem Un.refl:Un fs ex H H h h:=Un.kept λ_ _ q=>q
theorem Un.laid (k:∀b u,h.get? b=some u->h'.get? b=some u)(hp:h.objs.size<=a)(hn:H a=none):Un fs ex H (upd H a o) h h' where
 keep:=λb u q _ _ _=>k b u q
 slot:=λb u q _ _ _=>⟨u.slots,k b u q⟩
 free:=λb u q n _=>by rw[aK (ay9 (av9 (aw3 q) hp))];exact n
 there:=λb u q _=>⟨u,k b u q⟩
 tups:=λb xs q=>by rw[aK (cS q hn)];exact q
 frzs:=λb u xs q=>by rw[aK (cS q hn)];exact q
 tbls:=λb ps q=>⟨#[],by rw[aK (cS q hn),q];simp⟩
theorem Un.write (mu:kD (H x))(he:e=x∨H e=some (.own x))(k:∀b u,b≠e->h.get? b=some u->h'.get? b=some u)(heo:∃u,h'.get? e=some u):Un fs ex H (upd H x o) h h':=by
 have hx:∀b,H b=none->b≠x:=λb n z=>by subst z;rw[n]at mu;exact mu
 have hb:∀b,H b=none->b≠e:=λb n z=>by
  subst z;rcases he with r|r
  ·exact hx b n r
  ·rw[n]at r;cases r
 have hm:∀b u,H b=some u->¬kD (some u)->b≠x:=λb u q nm z=>by subst z;rw[q]at mu;exact nm mu
 refine⟨λb u q n _ _=>k b u (hb b n) q,λb u q n _ _=>⟨u.slots,k b u (hb b n) q⟩,λb u q n _=>by rw[aK (hx b n)];exact n,λb u q _=>?_,
  λb xs q=>by rw[aK (hm b _ q λz=>z)];exact q,λb u xs q=>by rw[aK (hm b _ q λz=>z)];exact q,λb ps q=>⟨#[],by rw[aK (hm b _ q λz=>z),q];simp⟩⟩
 by_cases hbe:b=e
 ·subst hbe;exact heo
 ·exact⟨u,k b u hbe q⟩
end
noncomputable def mG (h:Heap)(H:Hp):List ax:=(List.range h.objs.size).filter λa=>(H a).isSome
noncomputable def gA (h:Heap)(H:Hp):Heap:=PySem.W.hideAll h (mG h H)
theorem B9 (h:Heap)(H:Hp):(gA h H).objs.size=h.objs.size:=PySem.W.hideAll_size _ _
theorem C0 {h:Heap}{H:Hp}{b:ax}{o:Obj}(e:h.get? b=some o)(n:H b=none):(gA h H).get? b=some o:=
 PySem.W.hideAll_get _ e λhm=>by
  have q:(H b).isSome=true:=(List.mem_filter.mp hm).2;rw[n]at q;simp at q
theorem C1 {h:Heap}{H:Hp}{b:ax}{o:Obj}(e:(gA h H).get? b=some o):h.get? b=some o/\H b=none:=by
 have e':h.get? b=some o:=PySem.W.of_hideAll (mG h H) e;refine⟨e',?_⟩;cases q:H b with
 |none=>rfl
 |some x=>
  have hm:b∈mG h H:=List.mem_filter.mpr ⟨aB7.mpr (aw3 e'),by simp[q]⟩;have z:(gA h H).get? b=none:=PySem.W.hideAll_none (mG h H) hm;rw[z]at e;cases e
noncomputable def C2 (g h:Heap)(L:ax):List (ax×Obj):=(List.range h.objs.size).filterMap λa=>if a=L∨(g.get? a).isSome=true then none else (h.get? a).map λo=>(a,o)
noncomputable def rest (g h:Heap)(L d:ax):List (ax×Obj):=(C2 g h L).filter λp=>decide (p.1≠d)
structure Mod (K:ad)(mg:Str->Option av)(base:Heap):Prop where
 kin:K.In base
 glob:base.Ns mainGlobals mg
 blt:∃mb,base.Ns builtinsNs mb/\∀x:Str,x≠"__name__"->mb x=bootBuiltins x
 nolimit:base.NoLimit
structure Cx where
 prog:ay
 w:ba
 K:ad
 mg:Str->Option av
 base:Heap
 A:az
 N:List Str
 s₀:aw
 H₀:Hp
 env:Env
 outer:List Env
 stack:List Env
 ex:List ax
 fn:Str->Bool
 calm:Bool
 pn:List (ax×Obj)
 xe:av->aw->Prop
noncomputable def bN (l:List Env):List ax:=l.filterMap (·.frame)
noncomputable abbrev Cx.fs (X:Cx):List ax:=bN X.outer
noncomputable def dL (sc:Scope)(x:Str):Prop:=sc.names.lookup x=some .local∨sc.names.lookup x=some .cell∨sc.names.lookup x=some .free
noncomputable def eR (sc:Scope)(x:Str):Prop:=sc.names.lookup x=some .local∨sc.names.lookup x=some .cell
noncomputable def C3 (env:Env)(h:Heap)(m:Str->Option av)(x:Str)(u:av):Prop:=
 (env.kindOf x=some .local/\m x=some u)∨((env.kindOf x=some .cell∨env.kindOf x=some .free)/\∃c,env.cells.lookup x=some c/\h.IsCell c (some u))
structure Cx.Ok (X:Cx):Prop where
 mod:Mod X.K X.mg X.base
 kind:X.env.scope.kind = .function
 glob:X.env.globals=mainGlobals
 blt:X.env.builtins=builtinsNs
 above:X.s₀.heap.objs.size<=X.env.locals
 inj:∀x y c,X.env.cells.lookup x=some c->X.env.cells.lookup y=some c->x=y
 has:∀x,(X.env.kindOf x=some .cell∨X.env.kindOf x=some .free)->∃c,X.env.cells.lookup x=some c
 cab:∀x c,X.fn x=true->X.env.cells.lookup x=some c->X.s₀.heap.objs.size<=c
 hd:X.calm=true->X.A.handled=none
 frames:X.A.frames=some X.stack
 stk:X.stack=X.outer∨(X.stack=X.env::X.outer/\X.env.frame=some X.env.locals)
 exf:∀b∈X.ex,b≠X.env.locals/\∀x c,X.env.cells.lookup x=some c->c≠b
 bs:∀b o,X.base.get? b=some o->X.s₀.heap.get? b=some o/\X.H₀ b=none
 bsz:X.base.objs.size<=X.s₀.heap.objs.size
 noex:∀b o,X.base.get? b=some o->b∉X.ex
 exfs:∀b∈X.ex,b∉X.fs
 funs:X.s₀.heap.FunFrames X.base X.outer
 frf:∀b∈X.fs,X.H₀ b=none
structure aA (X:Cx)(ai:List (ax×Obj))(σ:List (Option V))(H:Hp)(s:aw):Prop where
 ok:X.Ok
 os:s.os=X.s₀.os
 bare:AllBare s.gens
 base:Un X.fs X.ex X.H₀ H X.s₀.heap s.heap
 loc:∃m,s.heap.Ns X.env.locals m/\∀(i:Nat) (x:Str) (v:V),X.N[i]? = some x->σ[i]? = some (some v)->dL X.env.scope x->∃u,aP v u/\C3 X.env s.heap m x u
 cell:∀x c,X.env.cells.lookup x=some c->∃v,s.heap.IsCell c v
 free:H X.env.locals=none
 freeC:∀x c,X.env.cells.lookup x=some c->H c=none
 pin:∀p∈X.pn++ai,s.heap.get? p.1=some p.2/\H p.1=none/\p.1≠X.env.locals/\p.1∉X.fs/\∀v,p.2.data≠.cell v
 hok:bG X.prog X.w H s.heap
 len:σ.length=X.N.length
section
variable {X:Cx}{ai:List (ax×Obj)}{σ:List (Option V)}{H H':Hp}{s:aw}{h':Heap}
theorem Cx.Ok.nofr (ok:X.Ok){b:ax}{o:Obj}(e:X.base.get? b=some o):b∉X.fs:=λhb=>by
 have:=(ok.funs.mem hb).1
 rw[e]at this;cases this
theorem aA.bs (I:aA X ai σ H s):∀b o,X.base.get? b=some o->s.heap.get? b=some o/\H b=none:=λb o e=>
 ⟨I.base.keep b o (I.ok.bs b o e).1 (I.ok.bs b o e).2 (I.ok.nofr e) (I.ok.noex b o e),I.base.free b o (I.ok.bs b o e).1 (I.ok.bs b o e).2 (I.ok.noex b o e)⟩
theorem aA.bk (I:aA X ai σ H s):∀b o,X.base.get? b=some o->s.heap.get? b=some o:=λb o e=>(I.bs b o e).1
theorem aA.mod (I:aA X ai σ H s):Mod X.K X.mg X.base:=I.ok.mod
theorem aA.kIn (I:aA X ai σ H s):X.K.In s.heap:=I.ok.mod.kin.keeps I.bk
theorem aA.fr (I:aA X ai σ H s):∃m,Fr X.base X.env.locals s.heap m:=
 let ⟨m,hn,_⟩:=I.loc
 ⟨m,hn,I.bk,ay7 I.ok.bsz I.ok.above⟩
theorem aA.lt (I:aA X ai σ H s):X.env.locals<s.heap.objs.size:=let ⟨_,hn,_⟩:=I.loc;hn.lt
theorem aA.sz (I:aA X ai σ H s):X.s₀.heap.objs.size<=s.heap.objs.size:=ay7 I.ok.above (aE7 I.lt)
theorem aA.nofs (I:aA X ai σ H s){a:ax}(h:s.heap.objs.size<=a):a∉X.fs:=λhb=>by
 obtain⟨_,o,ho,_⟩:=I.ok.funs.mem hb
 exact absurd (av9 (aw3 ho) (ay7 I.sz h)) (az9 _)
theorem aA.cne (I:aA X ai σ H s):∀x c,X.env.cells.lookup x=some c->c≠X.env.locals:=λx c e z=>by
 obtain⟨v,o,ho,hd⟩:=I.cell x c e
 obtain⟨m,⟨o',es,ep,ho',hd',_⟩,_⟩:=I.loc
 rw[z,ho']at ho;cases ho;rw[hd']at hd;cases hd
theorem aA.funs (I:aA X ai σ H s):s.heap.FunFrames X.base X.outer:=by
 have all:∀(l:List Env),(∀b∈bN l,b∈X.fs)->X.s₀.heap.FunFrames X.base l->s.heap.FunFrames X.base l:=by
  intro l
  induction l with
  |nil=>intro _ _;trivial
  |cons env r ih=>
   intro hs hl
   obtain⟨hk,⟨L,o,hf,hn,ho,hd⟩,hr⟩:=hl
   have hL:L∈X.fs:=hs L (by unfold bN;rw[List.filterMap_cons,hf];exact av5)
   obtain⟨sl,e⟩:=I.base.slot L o ho (I.ok.frf L hL) hL λz=>I.ok.exfs L z hL
   exact⟨hk,⟨L,_,hf,hn,e,hd⟩,ih (λb hb=>hs b (by unfold bN;rw[List.filterMap_cons,hf];exact aw4 _ hb)) hr⟩
 exact all X.outer (λ_ hb=>hb) I.ok.funs
theorem aA.stack (I:aA X ai σ H s):s.heap.FunFrames X.base X.stack:=by
 rcases I.ok.stk with e|⟨e,hf⟩
 ·rw[e];exact I.funs
 ·rw[e]
  obtain⟨m,hn,_⟩:=I.loc
  refine .cons (by rw[I.ok.kind];decide) hf hn ?_ I.funs;exact Heap.get?_none_of_le (ay7 I.ok.bsz I.ok.above)
theorem aA.stkSub (I:aA X ai σ H s):∀b∈bN X.stack,b∈X.env.locals::X.fs:=λb hb=>by
 rcases I.ok.stk with e|⟨e,hf⟩
 ·rw[e]at hb;exact aw4 _ hb
 ·rw[e]at hb
  unfold bN at hb;rw[List.filterMap_cons,hf]at hb;exact hb
theorem aA.stkFree (I:aA X ai σ H s):∀b∈bN X.stack,H b=none:=λb hb=>by
 rcases aw6.mp (I.stkSub b hb) with e|hb
 ·rw[e];exact I.free
 ·obtain⟨_,o,ho,_⟩:=I.ok.funs.mem hb
  exact I.base.free b o ho (I.ok.frf b hb) λz=>I.ok.exfs b z hb
theorem aA.step {g':Array GenState}{t':Nat}{d':Drawn}{ch:List ax}(I:aA X ai σ H s)(hch:∀b∈ch,(b∈X.ex∨X.s₀.heap.objs.size<=b)/\b≠X.env.locals/\(∀x c,X.env.cells.lookup x=some c->c≠b)/\∀p∈X.pn++ai,p.1≠b)(keep:∀b o,b≠X.env.locals->b∉X.fs->b∉ch->s.heap.get? b=some o->H b=none->h'.get? b=some o)(slot:∀b o,b≠X.env.locals->b∈X.fs->b∉ch->s.heap.get? b=some o->H b=none->∃sl,h'.get? b=some { o with slots:=sl })(free:∀b o,b∉ch->s.heap.get? b=some o->H b=none->H' b=none)(there:∀b o,b∉ch->s.heap.get? b=some o->∃o',h'.get? b=some o')(tups:∀b xs,H b=some (.tup xs)->H' b=some (.tup xs))(frzs:∀b o u,H b=some (.frz o u)->H' b=some (.frz o u))(tbls:∀b ps,H b=some (.tbl ps)->∃more,H' b=some (.tbl (ps++more)))(ns:∀m,s.heap.Ns X.env.locals m->h'.Ns X.env.locals m)(hok:bG X.prog X.w H' h')(hg:AllBare g') :
  aA X ai σ H' { s with heap:=h',gens:=g',drawn:=d',toks:=t' }:=by
 have neL:∀b o,X.s₀.heap.get? b=some o->b≠X.env.locals:=λb o e=>ay9 (av9 (aw3 e) I.ok.above)
 have neC:∀b o,X.s₀.heap.get? b=some o->b∉X.ex->b∉ch:=λb o e hx hb=>by
  rcases (hch b hb).1 with z|z
  ·exact hx z
  ·exact absurd (av9 (aw3 e) z) (az9 _)
 have cellK:∀x c,X.env.cells.lookup x=some c->∀v,s.heap.IsCell c v->h'.IsCell c v:=λx c e v ⟨o,ho,hd⟩=>by
  have nch:c∉ch:=λz=>(hch c z).2.2.1 x c e rfl
  by_cases hc:c∈X.fs
  ·obtain⟨sl,q⟩:=slot c o (I.cne x c e) hc nch ho (I.freeC x c e)
   exact⟨_,q,hd⟩
  ·exact⟨o,keep c o (I.cne x c e) hc nch ho (I.freeC x c e),hd⟩
 refine⟨I.ok,I.os,hg,⟨λb o e n hb hx=>?_,λb o e n hb hx=>?_,λb o e n hx=>?_,λb o e hx=>?_,λb xs e=>tups b xs (I.base.tups b xs e),λb o xs e=>frzs b o xs (I.base.frzs b o xs e),λb ps e=>?_⟩,?_,λx c e=>?_,?_,λx c e=>?_,λp hp=>?_,hok,I.len⟩
 ·exact keep b o (neL b o e) hb (neC b o e hx) (I.base.keep b o e n hb hx) (I.base.free b o e n hx)
 ·obtain⟨sl,e1⟩:=I.base.slot b o e n hb hx
  obtain⟨sl',e2⟩:=slot b _ (neL b o e) hb (neC b o e hx) e1 (I.base.free b o e n hx)
  exact⟨sl',e2⟩
 ·obtain⟨o',e1⟩:=I.base.there b o e hx
  exact free b o' (neC b o e hx) e1 (I.base.free b o e n hx)
 ·obtain⟨o',e1⟩:=I.base.there b o e hx
  exact there b o' (neC b o e hx) e1
 ·obtain⟨m1,e1⟩:=I.base.tbls b ps e
  obtain⟨m2,e2⟩:=tbls b _ e1
  exact⟨m1++m2,by rw[e2,Array.append_assoc]⟩
 ·obtain⟨m,hn,hl⟩:=I.loc
  refine⟨m,ns m hn,λi x v e1 e2 e3=>?_⟩
  obtain⟨u,r,l⟩:=hl i x v e1 e2 e3
  refine⟨u,r,?_⟩;rcases l with l|⟨k,c,e,z⟩
  ·exact .inl l
  ·exact .inr ⟨k,c,e,cellK x c e _ z⟩
 ·obtain⟨v,z⟩:=I.cell x c e
  exact⟨v,cellK x c e v z⟩
 ·obtain⟨m,⟨o,_,_,ho,_⟩,_⟩:=I.loc
  exact free _ o (λz=>(hch _ z).2.1 rfl) ho I.free
 ·obtain⟨v,o,ho,hd⟩:=I.cell x c e
  exact free c o (λz=>(hch c z).2.2.1 x c e rfl) ho (I.freeC x c e)
 ·obtain⟨e,n,ne,nf,d⟩:=I.pin p hp
  have nch:p.1∉ch:=λz=>(hch p.1 z).2.2.2 p hp rfl
  exact⟨keep p.1 p.2 ne nf nch e n,free p.1 p.2 nch e n,ne,nf,d⟩
theorem aA.un {t':Nat}(I:aA X ai σ H s)(u:Un X.fs [] H H' s.heap h')(hok:bG X.prog X.w H' h'):aA X ai σ H' { s with heap:=h',toks:=t' }:=by
 obtain⟨m,⟨o,es,ep,ho,r⟩,_⟩:=id I.loc
 obtain⟨sl,hL⟩:=u.any ho I.free (by simp)
 exact I.step (g':=s.gens) (d':=s.drawn) (ch:=[]) (λ_ z=>nomatch z) (λb o _ hb _ e n=>u.keep b o e n hb (by simp)) (λb o _ hb _ e n=>u.slot b o e n hb (by simp)) (λb o _ e n=>u.free b o e n (by simp)) (λb o _ e=>u.there b o e (by simp)) u.tups u.frzs u.tbls (λm' hm=>by
  obtain⟨o',es',ep',ho',r'⟩:=hm
  rw[ho]at ho';cases ho'
  exact⟨_,es',ep',hL,r'⟩) hok I.bare
theorem aA.call {g':Array GenState}{t':Nat}{d':Drawn}{ch:List ax}(I:aA X ai σ H s)(u:Un (bN X.stack) ch H H' s.heap h')(hok:bG X.prog X.w H' h')(hg:AllBare g')(hch:∀b∈ch,(b∈X.ex∨X.s₀.heap.objs.size<=b)/\b≠X.env.locals/\(∀x c,X.env.cells.lookup x=some c->c≠b)/\∀p∈X.pn++ai,p.1≠b) :
  aA X ai σ H' { s with heap:=h',gens:=g',drawn:=d',toks:=t' }:=by
 obtain⟨m,⟨o,es,ep,ho,r⟩,_⟩:=id I.loc
 obtain⟨sl,hL⟩:=u.any ho I.free λz=>(hch _ z).2.1 rfl
 exact I.step (ch:=ch) hch (λb o hL hb hc e n=>u.keep b o e n (λz=>(aw6.mp (I.stkSub b z)).elim hL hb) hc) (λb o _ _ hc e n=>u.any e n hc) (λb o hc e n=>u.free b o e n hc) (λb o hc e=>u.there b o e hc) u.tups u.frzs u.tbls (λm' hm=>by
  obtain⟨o',es',ep',ho',r'⟩:=hm
  rw[ho]at ho';cases ho'
  exact⟨_,es',ep',hL,r'⟩) hok hg
theorem aA.turned {t':Nat}{it:ax}(I:aA X ai σ H s)(k:∀b o,b≠it->s.heap.get? b=some o->h'.get? b=some o)(hn:H it=none)(hL:it≠X.env.locals)(h1:it∈X.ex∨X.s₀.heap.objs.size<=it)(h2:∀x c,X.env.cells.lookup x=some c->c≠it)(h3:∀p∈X.pn++ai,p.1≠it):aA X ai σ H { s with heap:=h',toks:=t' }:=by
 have nit:∀b u,H b=some u->b≠it:=λb u e z=>by rw[z,hn]at e;cases e
 refine I.step (g':=s.gens) (d':=s.drawn) (ch:=[it]) (λb hb=>?_) (λb o _ _ hc e _=>k b o (λz=>hc (by simp[z])) e) (λb o _ _ hc e _=>⟨o.slots,k b o (λz=>hc (by simp[z])) e⟩) (λ_ _ _ _ n=>n)
  (λb o hc e=>⟨o,k b o (λz=>hc (by simp[z])) e⟩) (λ_ _ e=>e) (λ_ _ _ e=>e) (λb ps e=>⟨#[],by rw[e];simp⟩) (λm hm=>?_) (λb u e=>?_) I.bare
 ·have e:b=it:=by simpa using hb
  subst e
  exact⟨h1,hL,h2,h3⟩
 ·obtain⟨o,es,ep,ho,r⟩:=hm
  exact⟨o,es,ep,k _ o (Ne.symm hL) ho,r⟩
 ·refine (I.hok b u e).stay (λc v hc q=>k c v ?_ q) (λ_ q=>q) λ_ _ q=>q
  rcases hc with z|z
  ·rw[z];exact nit b u e
  ·exact nit c _ z
theorem aA.tok (I:aA X ai σ H s)(t:Nat):aA X ai σ H { s with toks:=t }:=I.un (h':=s.heap) (t':=t) Un.refl I.hok
theorem aA.kept {t':Nat}(I:aA X ai σ H s)(k:∀b u,s.heap.get? b=some u->h'.get? b=some u):aA X ai σ H { s with heap:=h',toks:=t' }:=I.un (Un.kept k) (I.hok.kept k)
theorem aA.laid {a:ax}{o:HO}{t':Nat}(I:aA X ai σ H s)(k:∀b u,s.heap.get? b=some u->h'.get? b=some u)(hp:s.heap.objs.size<=a)(new:bK X.prog X.w (upd H a o) h' a o) :
  aA X ai σ (upd H a o) { s with heap:=h',toks:=t' }:=I.un (Un.laid k hp (I.hok.fresh hp)) (I.hok.laid k hp new)
theorem aA.write {x e:ax}{o:HO}{t':Nat}(I:aA X ai σ H s)(mu:kD (H x))(he:e=x∨H e=some (.own x))(k:∀b u,b≠e->s.heap.get? b=some u->h'.get? b=some u)(heo:∃u,h'.get? e=some u)(new:bK X.prog X.w (upd H x o) h' x o):aA X ai σ (upd H x o) { s with heap:=h',toks:=t' }:=I.un (Un.write mu he k heo) (I.hok.write mu he k heo new)
theorem aA.weak {σ':List (Option V)}(I:aA X ai σ H s)(hl:σ'.length=σ.length)(w:∀(i:Nat) v,σ'[i]? = some (some v)->σ[i]? = some (some v)):aA X ai σ' H s:=
 ⟨I.ok,I.os,I.bare,I.base,let ⟨m,hn,hl'⟩:=I.loc;⟨m,hn,λi x v e1 e2 e3=>hl' i x v e1 (w i v e2) e3⟩,I.cell,I.free,I.freeC,I.pin,I.hok,hl.trans I.len⟩
theorem aA.pins_of {pins':List (ax×Obj)}(I:aA X ai σ H s)(h:∀p∈pins',s.heap.get? p.1=some p.2/\H p.1=none/\p.1≠X.env.locals/\p.1∉X.fs/\∀v,p.2.data≠.cell v):aA X pins' σ H s:=
 ⟨I.ok,I.os,I.bare,I.base,I.loc,I.cell,I.free,I.freeC,λp hp=>(az8.mp hp).elim (λz=>I.pin p (az5 _ z)) (h p),I.hok,I.len⟩
theorem sZ {N:List Str}(hN:N.Nodup){i j:Nat}{x:Str}(a:N[i]? = some x)(b:N[j]? = some x):i=j:=by
 obtain⟨h1,e1⟩:=ay2.mp a
 obtain⟨h2,e2⟩:=ay2.mp b
 exact (List.getElem_inj hN).mp (e1.trans e2.symm)
theorem t0 {M:Model}{A:az}{E:av->aw->Prop}{i:Nat}{x:Str}{v:V}{u:av}{Q:Unit->aw->Prop}(I:aA X ai σ H s)(hN:X.N.Nodup)(hi:X.N[i]? = some x)(hx:eR X.env.scope x)(r:aP v u)(h:∀s',aA X ai (σ.set i (some v)) H s'->(∃a,Heap.SameBut a s.heap s'.heap/\(a=X.env.locals∨X.env.cells.lookup x=some a))->Q () s')(hf:X.fn x=true∨X.env.scope.names.lookup x=some .local:=by first|exact .inl rfl|exact .inr rfl|assumption):wpAny M A (storeName X.env x u) Q E s:=by
 obtain⟨m,hn,hl⟩:=id I.loc
 have hcls:(X.env.scope.kind==.class||(X.env.scope.kind==.module&&X.env.locals != X.env.globals))=false:=by rw[I.ok.kind];rfl
 have hiσ:i<σ.length:=by rw[I.len];exact (ay2.mp hi).1
 have cne:=I.cne;have tracked:∀{a:ax}{h':Heap},(∃o,s.heap.get? a=some o/\H a=none)->Heap.SameBut a s.heap h'->bG X.prog X.w H h':=λ{a h'} ha hs b ob e=>by
  obtain⟨_,_,hfree⟩:=ha
  refine (I.hok b ob e).stay (λc w' hc q=>(hs.2 c ?_).trans q) (λ_ q=>q) λ_ _ q=>q
  rintro rfl;rcases hc with rfl|hc
  ·rw[hfree]at e;cases e
  ·rw[hfree]at hc;cases hc
 rcases hx with hk|hk
 ·refine wpAny_storeName_local hk hn (λh' hn' hs=>?_) hcls
  obtain⟨oL,_,_,hoL,_⟩:=id hn
  refine h _ ⟨I.ok,I.os,I.bare,⟨λb o e n hb hx=>?_,λb o e n hb hx=>?_,I.base.free,λb o e hx=>?_,I.base.tups,I.base.frzs,I.base.tbls⟩,⟨_,hn',λj y v' e1 e2 e3=>?_⟩,λy c e=>?_,I.free,I.freeC,λp hp=>?_,tracked ⟨oL,hoL,I.free⟩ hs,by simpa using I.len⟩ ⟨_,hs,.inl rfl⟩
  ·exact (hs.2 b (ay9 (av9 (aw3 e) I.ok.above))).trans (I.base.keep b o e n hb hx)
  ·obtain⟨sl,e1⟩:=I.base.slot b o e n hb hx
   exact⟨sl,(hs.2 b (ay9 (av9 (aw3 e) I.ok.above))).trans e1⟩
  ·obtain⟨o',e1⟩:=I.base.there b o e hx
   exact⟨o',(hs.2 b (ay9 (av9 (aw3 e) I.ok.above))).trans e1⟩
  ·by_cases hj:j=i
   ·subst hj
    rw[hi]at e1;cases e1;rw[aA6 hiσ]at e2;cases e2
    exact⟨u,r,.inl ⟨hk,by simp⟩⟩
   ·rw[ay6 (Ne.symm hj)]at e2
    obtain⟨u',r',q⟩:=hl j y v' e1 e2 e3
    refine⟨u',r',?_⟩;rcases q with⟨k,e⟩|⟨k,c,e,z⟩
    ·refine .inl ⟨k,?_⟩
     have:y≠x:=λe=>hj (sZ hN e1 (e▸hi))
     simp[this,e]
    ·exact .inr ⟨k,c,e,z.sameBut hs (cne y c e)⟩
  ·obtain⟨w',z⟩:=I.cell y c e
   exact⟨w',z.sameBut hs (cne y c e)⟩
  ·obtain⟨e,n,ne,nf,d⟩:=I.pin p hp
   exact⟨(hs.2 p.1 ne).trans e,n,ne,nf,d⟩
 ·have hfn:X.fn x=true:=by
   rcases hf with z|z
   ·exact z
   ·rw[z]at hk;cases hk
  obtain⟨c,hc⟩:=I.ok.has x (.inl hk)
  obtain⟨w',z⟩:=I.cell x c hc
  refine wpAny_storeName_cell I.ok.kind hk hc z (λh' hc' hs=>?_)
  obtain⟨oc,hoc,hocd⟩:=id z
  refine h { s with heap:=h' } ⟨I.ok,I.os,I.bare,⟨λb o e n hb hx=>?_,λb o e n hb hx=>?_,I.base.free,λb o e hx=>?_,I.base.tups,I.base.frzs,I.base.tbls⟩,⟨m,hn.sameBut hs (Ne.symm (cne x c hc)),λj y v' e1 e2 e3=>?_⟩,λy c' e=>?_,I.free,I.freeC,λp hp=>?_,tracked ⟨oc,hoc,I.freeC x c hc⟩ hs,by simpa using I.len⟩ ⟨c,hs,.inr hc⟩
  ·exact (hs.2 b (ay9 (av9 (aw3 e) (I.ok.cab x c hfn hc)))).trans (I.base.keep b o e n hb hx)
  ·obtain⟨sl,e1⟩:=I.base.slot b o e n hb hx
   exact⟨sl,(hs.2 b (ay9 (av9 (aw3 e) (I.ok.cab x c hfn hc)))).trans e1⟩
  ·obtain⟨o',e1⟩:=I.base.there b o e hx
   exact⟨o',(hs.2 b (ay9 (av9 (aw3 e) (I.ok.cab x c hfn hc)))).trans e1⟩
  ·by_cases hj:j=i
   ·subst hj
    rw[hi]at e1;cases e1;rw[aA6 hiσ]at e2;cases e2
    exact⟨u,r,.inr ⟨.inl hk,c,hc,hc'⟩⟩
   ·rw[ay6 (Ne.symm hj)]at e2
    obtain⟨u',r',q⟩:=hl j y v' e1 e2 e3
    refine⟨u',r',?_⟩;rcases q with q|⟨k,c',e,z'⟩
    ·exact .inl q
    ·refine .inr ⟨k,c',e,z'.sameBut hs ?_⟩
     rintro rfl;exact hj (sZ hN e1 (I.ok.inj _ _ _ e hc▸hi))
  ·by_cases hcc:c'=c
   ·subst hcc;exact⟨_,hc'⟩
   ·obtain⟨w2,z2⟩:=I.cell y c' e
    exact⟨w2,z2.sameBut hs hcc⟩
  ·obtain⟨e,n,ne,nf,d⟩:=I.pin p hp
   refine⟨(hs.2 p.1 ?_).trans e,n,ne,nf,d⟩;intro q;rw[q,hoc]at e;have q':oc=p.2:=ax7 e;exact d w' (by rw[<- q'];exact hocd)
theorem t5 {M:Model}{A:az}{E:av->aw->Prop}{i:Nat}{x:Str}{v:V}{u:av}{Q:Unit->aw->Prop}(I:aA X ai σ H s)(hN:X.N.Nodup)(hi:X.N[i]? = some x)(hx:eR X.env.scope x)(r:aP v u)(h:∀s',aA X ai (σ.set i (some v)) H s'->Q () s')(hf:X.fn x=true∨X.env.scope.names.lookup x=some .local:=by first|exact .inl rfl|exact .inr rfl|assumption):wpAny M A (storeName X.env x u) Q E s:=
 t0 I hN hi hx r (λs' I' _=>h s' I') hf
theorem aA.call' {s':aw}{ch:List ax}(I:aA X ai σ H s)(ho:s'.os=s.os)(u:Un (bN X.stack) ch H H' s.heap s'.heap)(hok:bG X.prog X.w H' s'.heap)(hg:AllBare s'.gens)(hch:∀b∈ch,(b∈X.ex∨X.s₀.heap.objs.size<=b)/\b≠X.env.locals/\(∀x c,X.env.cells.lookup x=some c->c≠b)/\∀p∈X.pn++ai,p.1≠b):aA X ai σ H' s':=by
 obtain⟨h',g',d',t',o'⟩:=s'
 have e:o'=s.os:=ho;subst e;exact I.call (g':=g') (t':=t') (d':=d') u hok hg hch
end
noncomputable abbrev XK:=av->Option ax->Hp->Prop
noncomputable abbrev St:=List (Option V)
noncomputable abbrev VK:=V->Hp->Prop
noncomputable abbrev TE:=St->Hp->VK->Prop
noncomputable abbrev TT:=St->Hp->(Bool->Hp->Prop)->Prop
noncomputable abbrev TA:=St->Hp->(List V->Hp->Prop)->Prop
structure cX where
 nx:St->Hp->Prop
 rt:VK
 bk:St->Hp->Prop:=λ_ _=>False
 ct:St->Hp->Prop:=λ_ _=>False
noncomputable abbrev TS:=cX->St->Hp->Prop
noncomputable def EP (X:Cx)(ai:List (ax×Obj))(σ:St)(Q:VK)(u:av)(s':aw):Prop:=∃v H',aA X ai σ H' s'/\aP v u/\Q v H'
noncomputable def TP (X:Cx)(ai:List (ax×Obj))(σ:St)(Q:Bool->Hp->Prop)(b:Bool)(s':aw):Prop:=∃H',aA X ai σ H' s'/\Q b H'
noncomputable def AP (X:Cx)(ai:List (ax×Obj))(σ:St)(Q:List V->Hp->Prop)(us:List av)(s':aw):Prop:=∃vs H',aA X ai σ H' s'/\aM vs us/\Q vs H'
noncomputable def SP (X:Cx)(ai:List (ax×Obj))(D:cX)(f:Flow)(s':aw):Prop:=
 match f with
 |.next=>∃σ' H',aA X ai σ' H' s'/\D.nx σ' H'
 |.brk=>∃σ' H',aA X ai σ' H' s'/\D.bk σ' H'
 |.cont=>∃σ' H',aA X ai σ' H' s'/\D.ct σ' H'
 |.ret u=>∃v σ' H',aA X ai σ' H' s'/\aP v u/\D.rt v H'
noncomputable def PE (X:Cx)(e:Expr)(t:TE):Prop:=
 ∀(ai:List (ax×Obj)) (s:aw) (σ:St) (H:Hp) (Q:VK),aA X ai σ H s->t σ H Q->wpAny (model X.prog X.w) X.A (eval e X.env) (EP X ai σ Q) X.xe s
noncomputable def PT (X:Cx)(e:Expr)(t:TT):Prop:=
 ∀(ai:List (ax×Obj)) (s:aw) (σ:St) (H:Hp) (Q:Bool->Hp->Prop),aA X ai σ H s->t σ H Q->wpAny (model X.prog X.w) X.A (isTrue e X.env (eval e X.env)) (TP X ai σ Q) X.xe s
noncomputable def PW (X:Cx)(e:Expr)(t:TT):Prop:=
 ∀(whole:Sem av) (ai:List (ax×Obj)) (s:aw) (σ:St) (H:Hp) (Q:Bool->Hp->Prop),aA X ai σ H s->t σ H Q->wpAny (model X.prog X.w) X.A (isTrue e X.env whole) (TP X ai σ Q) X.xe s
theorem PW.pt {X:Cx}{e:Expr}{t:TT}(h:PW X e t):PT X e t:=h _
noncomputable def PA (X:Cx)(es:List Expr)(t:TA):Prop:=
 ∀(pos:Pos) (ai:List (ax×Obj)) (s:aw) (σ:St) (H:Hp) (Q:List V->Hp->Prop),aA X ai σ H s->t σ H Q->wpAny (model X.prog X.w) X.A (spliced (backTo pos (starEach es X.env))) (AP X ai σ Q) X.xe s
noncomputable def PS (X:Cx)(st:Stmt)(t:TS):Prop:=
 ∀(ai:List (ax×Obj)) (s:aw) (σ:St) (H:Hp) (D:cX),aA X ai σ H s->t D σ H->wpAny (model X.prog X.w) X.A (exec st X.env) (SP X ai D) X.xe s
noncomputable def cM (X:Cx)(st:List Stmt)(t:TS):Prop:=
 ∀(ai:List (ax×Obj)) (s:aw) (σ:St) (H:Hp) (D:cX),aA X ai σ H s->t D σ H->wpAny (model X.prog X.w) X.A (execs st X.env) (SP X ai D) X.xe s
theorem aL {α:Type}{t:Sem α}{Q Q':α->aw->Prop}{M:Model}{A:az}{E:av->aw->Prop}{s:aw}(h:wpAny M A t Q E s)(hQ:∀a s,Q a s->Q' a s):wpAny M A t Q' E s:=az6 h hQ λ_ _ x=>x
section
variable {X:Cx}
theorem bin {a b:Expr}{ta tb:TE}(ha:PE X a ta)(hb:PE X b tb){ai:List (ax×Obj)}{s:aw}{σ:St}{H:Hp}{R:V->V->Hp->Prop}(I:aA X ai σ H s)(h:ta σ H λx H1=>tb σ H1 λy H2=>R x y H2){α:Type}{Q:α->aw->Prop}{f:av->av->Sem α}(hf:∀v u s2 x y H2,aA X ai σ H2 s2->aP x v->aP y u->R x y H2->wpAny (model X.prog X.w) X.A (f v u) Q X.xe s2) :
  wpAny (model X.prog X.w) X.A (eval a X.env) (λv s₁=>wpAny (model X.prog X.w) X.A (eval b X.env) (λu s₂=>wpAny (model X.prog X.w) X.A (f v u) Q X.xe s₂) X.xe s₁) X.xe s:=by
 refine aL (ha ai s σ H _ I h) λv s1 ⟨x,H1,I1,r1,q1⟩=>?_
 refine aL (hb ai s1 σ H1 _ I1 q1) λu s2 ⟨y,H2,I2,r2,q2⟩=>?_
 exact hf v u s2 x y H2 I2 r1 r2 q2
noncomputable def cI (i:Nat):TE:=λσ H Q=>∃v,σ[i]? = some (some v)/\Q v H
noncomputable def tC (v:V):TE:=λ_ H Q=>Q v H
theorem gB {i:Nat}{x:Str}{pos:Pos}(hN:X.N[i]? = some x)(hv:dL X.env.scope x)(hd:(x==("__debug__":Str))=false:=by decide)(hcd:(x==("__classdict__":Str))=false:=by decide):PE X (.Name x pos) (cI i):=by
 intro ai s σ H Q I h
 obtain⟨v,e,h⟩:=h
 obtain⟨m,hn,hl⟩:=I.loc
 obtain⟨u,r,l⟩:=hl i x v hN e hv
 have fin:EP X ai σ Q u s:=⟨v,H,I,r,h⟩;rcases l with⟨hk,hm⟩|⟨hk,c,hc,hcell⟩
 ·exact wpAny_Name (wpAny_loadName_local I.ok.kind hk hn hm fin) hd
 ·rcases hk with hk|hk
  ·exact wpAny_Name (wpAny_loadName_cell I.ok.kind hk hc hcell fin) hd
  ·exact wpAny_Name (wpAny_loadName_free I.ok.kind hk hc hcell fin hcd) hd
theorem C4 {i j pos}:PE X (.Constant (.int i) j pos) (tC (.int i)):=λ_ _ _ H _ I h=>wpAny_Constant_int ⟨.int i,H,I.tok _,⟨_,rfl⟩,h⟩
theorem C5 {b j pos}:PE X (.Constant (.bool b) j pos) (tC (.bl b)):=λ_ _ _ H _ I h=>Constant_bool ⟨.bl b,H,I,rfl,h⟩
theorem C6 {x j pos}:PE X (.Constant (.str x) j pos) (tC (.str x)):=λ_ _ _ H _ I h=>Calls.Constant_str ⟨.str x,H,I.tok _,⟨_,rfl⟩,h⟩
noncomputable def Gl (X:Cx)(x:Str):Prop:=X.env.kindOf x=some .globalImplicit
theorem mH {E:av->aw->Prop}{ai:List (ax×Obj)}{s:aw}{σ:St}{H:Hp}{x:Str}{u:av}{pos:Pos}{Q:av->aw->Prop}(I:aA X ai σ H s)(hg:Gl X x)(hm:X.mg x=some u)(h:Q u s)(hd:(x==("__debug__":Str))=false:=by decide):wpAny (model X.prog X.w) X.A (eval (.Name x pos) X.env) Q E s:=
 Calls.Name_function_global I.ok.kind hg (Calls.loadGlobal_global (by rw[I.ok.glob];exact I.mod.glob.keeps I.bk) hm h) hd
theorem mI {E:av->aw->Prop}{ai:List (ax×Obj)}{s:aw}{σ:St}{H:Hp}{x:Str}{u:av}{pos:Pos}{Q:av->aw->Prop}(I:aA X ai σ H s)(hg:Gl X x)(hm:X.mg x=none)(hv:bootBuiltins x=some u)(h:Q u s)(hn:x≠"__name__":=by decide)(hd:(x==("__debug__":Str))=false:=by decide):wpAny (model X.prog X.w) X.A (eval (.Name x pos) X.env) Q E s:=by
 obtain⟨mb,h1,h2⟩:=I.mod.blt
 exact Calls.Name_function_global I.ok.kind hg (Calls.loadGlobal_builtin (by rw[I.ok.glob];exact I.mod.glob.keeps I.bk) hm (by rw[I.ok.blt];exact h1.keeps I.bk) ((h2 x hn).trans hv) h) hd
theorem C7 {x:Str}{v:V}{u:av}{pos:Pos}(hg:Gl X x)(hm:X.mg x=some u)(r:aP v u)(hd:(x==("__debug__":Str))=false:=by decide):PE X (.Name x pos) (tC v):=
 λ_ _ _ H _ I h=>mH I hg hm ⟨v,H,I,r,h⟩ hd
variable {a b:Expr}{ta tb:TE}{pos:Pos}
noncomputable def PC (X:Cx)(op:CmpOp)(a b:Expr)(t:TE):Prop:=
 ∀(ai:List (ax×Obj)) (s:aw) (σ:St) (H:Hp) (Q:VK),aA X ai σ H s->t σ H Q->
  wpAny (model X.prog X.w) X.A (eval a X.env) (λv s₁=>wpAny (model X.prog X.w) X.A (eval b X.env) (λu s₂=>wpAny (model X.prog X.w) X.A (compareOp op v u) (EP X ai σ Q) X.xe s₂) X.xe s₁) X.xe s
noncomputable def tB (t:TE):TT:=λσ H Q=>t σ H λx H1=>∃c,x = .bl c/\Q c H1
theorem t6 {op:CmpOp}{t:TE}(h:PC X op a b t)(h1:behindInMarks op b=false:=by first|exact nobehind _ (by decide) (by decide)|rfl):PT X (.Compare a [op] [b] pos) (tB t):=by
 intro ai s σ H Q I hw;refine wpAny_isTrue_Compare1 (aL (h ai s σ H _ I hw) λv s1 h1=>aL h1 λu s2 h2=>aL h2 λc s3 ⟨x,H1,I1,r1,q1⟩=>?_) h1
 obtain⟨d,rfl,q⟩:=q1
 cases r1;exact aE6 ⟨H1,I1,q⟩
variable {tA tB':TT}{rest:List Expr}
noncomputable def t7 (t u:TT):TT:=λσ H Q=>t σ H λc H1=>if c=true then Q true H1 else u σ H1 Q
theorem C8 (ha:PT X a tA):PW X (.BoolOp .Or [a] pos) tA:=by
 intro wh ai s σ H Q I h;refine isTrue_or (aL (ha ai s σ H Q I h) λc s1 e=>?_);cases c with
 |false=>exact isTrue_or_nil e
 |true=>exact e
theorem C9 (ha:PT X a tA)(hb:PW X (.BoolOp .Or (b::rest) pos) tB'):PW X (.BoolOp .Or (a::b::rest) pos) (t7 tA tB'):=by
 intro wh ai s σ H Q I h;refine isTrue_or (aL (ha ai s σ H _ I h) λc s1 ⟨H1,I1,q1⟩=>?_);cases c with
 |true=>exact⟨H1,I1,q1⟩
 |false=>exact hb wh ai s1 σ H1 Q I1 q1
noncomputable def t8 (ta tb:TE):TE:=λσ H Q=>ta σ H λx H1=>∃c,x = .bl c/\if c=true then tb σ H1 Q else Q (.bl false) H1
theorem D5 {op}{t:TE}(h:PE X a t):PE X (.BoolOp op [a] pos) t:=λai s σ H Q I hw=>BoolOp_one (h ai s σ H Q I hw)
theorem E1 (ha:PE X a ta)(hb:PE X (.BoolOp .And (b::rest) pos) tb):PE X (.BoolOp .And (a::b::rest) pos) (t8 ta tb):=by
 intro ai s σ H Q I h;refine BoolOp_and (aL (ha ai s σ H _ I h) λv s1 ⟨x,H1,I1,r1,q1⟩=>?_)
 obtain⟨c,rfl,q1⟩:=q1
 cases r1;refine aE6 ?_;cases c with
 |true=>exact hb ai s1 σ H1 Q I1 q1
 |false=>exact⟨.bl false,H1,I1,rfl,q1⟩
end
noncomputable def aX (K:ad)(H:Hp)(a:ax)(xs:List V):Prop:=
 Rd H a (.lst xs) ∨
  ∃(o:Obj) (its:Array av) (n:Nat),K.lookup a=some o/\o.cls = .type "list"/\o.dict=none/\o.data = .seq its n/\its.size<=sizeLine/\aM xs its.toList
noncomputable def aQ (K:ad)(H:Hp)(a:ax)(xs:List V):Prop:=
 Rd H a (.tup xs) ∨
  ∃(o:Obj) (its:Array av) (n:Nat),K.lookup a=some o/\o.cls = .type "tuple"/\o.data = .seq its n/\its.size<=sizeLine/\aM xs its.toList
noncomputable def E2:av->Option V
 |.none=>some .non
 |.bool b=>some (.bl b)
 |.int i _=>some (.int i)
 |.str x _=>some (.str x)
 |.bytes b _=>some (.byt b)
 |.float b _=>some (.flt b)
 |.ref a=>some (.ref a)
 |.type n=>some (.ty n)
 |_=>none
theorem aP.abs {x:V}{u:av}(r:aP x u):E2 u=some x:=by
 cases x with
 |non=>cases r;rfl
 |bl _=>cases r;rfl
 |int _=>obtain⟨t,rfl⟩:=r;rfl
 |str _=>obtain⟨t,rfl⟩:=r;rfl
 |byt _=>obtain⟨t,rfl⟩:=r;rfl
 |flt _=>obtain⟨t,rfl⟩:=r;rfl
 |ref _=>cases r;rfl
 |ty _=>cases r;rfl
theorem aP.inj {x y:V}{u:av}(r:aP x u)(q:aP y u):x=y:=ax7 (r.abs.symm.trans q.abs)
theorem aM.inj:∀{xs ys:List V}{us:List av},aM xs us->aM ys us->xs=ys
 |_,_,_,.nil,.nil=>rfl
 |_,_,_,.cons r t,.cons r' t'=>by rw[r.inj r',aM.inj t t']
section
variable {X:Cx}{ai:List (ax×Obj)}{σ:St}{H:Hp}{s:aw}{a:ax}{xs ys:List V}
theorem aX.of {K:ad}(h:H a=some (.lst xs)):aX K H a xs:=.inl (.inl h)
theorem aQ.of {K:ad}(h:H a=some (.tup xs)):aQ K H a xs:=.inl (.inl h)
theorem aA.list (I:aA X ai σ H s)(h:aX X.K H a xs):∃its:List av,aM xs its/\PlainL s.heap a its.toArray/\xs.length<=sizeLine:=by
 rcases h with h|⟨o,its,n,hk,hc,hd,hs,hz,r⟩
 ·obtain⟨z,its,n,r,e⟩:=h.ok I.hok
  exact⟨its,r,⟨_,n,e,rfl,rfl,rfl⟩,z⟩
 ·refine⟨its.toList,r,⟨o,n,I.kIn a o hk,hc,hd,by simpa using hs⟩,?_⟩
  have e:=r.length;simp only[Array.length_toList]at e;omega
theorem aA.tuple (I:aA X ai σ H s)(h:aQ X.K H a xs):∃its:List av,aM xs its/\IsTup s.heap a its.toArray/\xs.length<=sizeLine:=by
 rcases h with h|⟨o,its,n,hk,hc,hs,hz,r⟩
 ·obtain⟨z,its,r,p,_⟩:=h.ok I.hok
  exact⟨its,r,p,z⟩
 ·refine⟨its.toList,r,⟨o,I.kIn a o hk,hc,n,by simpa using hs⟩,?_⟩
  have e:=r.length;simp only[Array.length_toList]at e;omega
theorem aA.list_inj (I:aA X ai σ H s)(h:aX X.K H a xs)(h':aX X.K H a ys):xs=ys:=by
 obtain⟨its,r,⟨o,n,e,_,_,d⟩,_⟩:=I.list h
 obtain⟨its',r',⟨o',n',e',_,_,d'⟩,_⟩:=I.list h'
 rw[e]at e';cases e';rw[d]at d';injection d' with d1 _
 have:its=its':=by simpa using congrArg Array.toList d1
 subst this;exact r.inj r'
theorem aA.tuple_inj (I:aA X ai σ H s)(h:aQ X.K H a xs)(h':aQ X.K H a ys):xs=ys:=by
 obtain⟨its,r,⟨o,e,_,n,d⟩,_⟩:=I.tuple h
 obtain⟨its',r',⟨o',e',_,n',d'⟩,_⟩:=I.tuple h'
 rw[e]at e';cases e';rw[d]at d';injection d' with d1 _
 have:its=its':=by simpa using congrArg Array.toList d1
 subst this;exact r.inj r'
end
noncomputable abbrev Cx.wish (X:Cx)(E:av->aw->Prop):Cx:={ X with xe:=E }
noncomputable abbrev Cx.nox (X:Cx):Cx:=X.wish λ_ _=>False
theorem Cx.Ok.wish {X:Cx}(ok:X.Ok)(E:av->aw->Prop):(X.wish E).Ok:=
 ⟨ok.mod,ok.kind,ok.glob,ok.blt,ok.above,ok.inj,ok.has,ok.cab,ok.hd,ok.frames,ok.stk,ok.exf,ok.bs,ok.bsz,ok.noex,ok.exfs,ok.funs,ok.frf⟩
theorem Cx.Ok.unwish {X:Cx}{E:av->aw->Prop}(ok:(X.wish E).Ok):X.Ok:=
 ⟨ok.mod,ok.kind,ok.glob,ok.blt,ok.above,ok.inj,ok.has,ok.cab,ok.hd,ok.frames,ok.stk,ok.exf,ok.bs,ok.bsz,ok.noex,ok.exfs,ok.funs,ok.frf⟩
section
variable {X:Cx}{ai:List (ax×Obj)}{σ:St}{H:Hp}{s:aw}{E:av→aw→Prop}
theorem aA.wish (I:aA X ai σ H s)(E:av->aw->Prop):aA (X.wish E) ai σ H s:=⟨I.ok.wish E,I.os,I.bare,I.base,I.loc,I.cell,I.free,I.freeC,I.pin,I.hok,I.len⟩
theorem aA.unwish (I:aA (X.wish E) ai σ H s):aA X ai σ H s:=⟨I.ok.unwish,I.os,I.bare,I.base,I.loc,I.cell,I.free,I.freeC,I.pin,I.hok,I.len⟩
theorem SP.unwish {D:cX}{f:Flow}{s':aw}(h:SP (X.wish E) ai D f s'):SP X ai D f s':=by
 cases f with
 |next=>obtain⟨σ',H',I,q⟩:=h;exact⟨σ',H',I.unwish,q⟩
 |brk=>obtain⟨σ',H',I,q⟩:=h;exact⟨σ',H',I.unwish,q⟩
 |cont=>obtain⟨σ',H',I,q⟩:=h;exact⟨σ',H',I.unwish,q⟩
 |ret u=>obtain⟨v,σ',H',I,r,q⟩:=h;exact⟨v,σ',H',I.unwish,r,q⟩
theorem cM.nox {st:List Stmt}{t:TS}(h:cM X.nox st t):cM X st t:=λai s σ H D I hw=>
 az6 (h ai s σ H D (I.wish _) hw) (λ_ _ q=>q.unwish) λ_ _ z=>False.elim z
end
section
variable {X:Cx}{st:Stmt}{rest:List Stmt}{t u:TS}{e:Expr}{te:TE}{pos:Pos}
noncomputable def t9:TS:=λD σ H=>D.nx σ H
noncomputable def tD (t u:TS):TS:=λD σ H=>t { D with nx:=u D } σ H
theorem E3:cM X [] t9:=λ_ _ σ H _ I h=>wpAny_execs_nil ⟨σ,H,I,h⟩
theorem E4 (h1:PS X st t)(h2:cM X rest u):cM X (st::rest) (tD t u):=by
 intro ai s σ H D I h;refine wpAny_execs_cons (aL (h1 ai s σ H { D with nx:=u D } I h) λf s1 q=>?_);cases f with
 |next=>
  obtain⟨σ',H',I',q⟩:=q
  exact h2 ai s1 σ' H' D I' q
 |ret v=>exact q
 |brk=>exact q
 |cont=>exact q
theorem eG (h1:PS X st t):cM X [st] t:=by
 intro ai s σ H D I h;refine wpAny_execs_cons (aL (h1 ai s σ H D I h) λf s1 q=>?_);cases f with
 |next=>exact wpAny_execs_nil q
 |ret v=>exact q
 |brk=>exact q
 |cont=>exact q
theorem aA.quiet {ai:List (ax×Obj)}{σ:St}{H:Hp}{s:aw}(I:aA X ai σ H s):interactive X.env=false:=by simp[interactive,I.ok.kind]
noncomputable def kE (te:TE):TS:=λD σ H=>te σ H λ_ H1=>D.nx σ H1
theorem mJ (he:PE X e te)(hs:swapsWith e none pos.line X.env=pure false:=by rfl):PS X (.Expr e pos) (kE te):=by
 intro ai s σ H D I h;exact wpAny_Expr_any (aL (he ai s σ H _ I h) λv s1 ⟨x,H1,I1,r1,q1⟩=>⟨σ,H1,I1,q1⟩) I.quiet hs
noncomputable def oT (te:TE):TS:=λD σ H=>te σ H D.rt
theorem tE (he:PE X e te):PS X (.Return (some e) pos) (oT te):=by
 intro ai s σ H D I h;exact wpAny_Return_some (aL (he ai s σ H _ I h) λv s1 ⟨x,H1,I1,r1,q1⟩=>⟨x,σ,H1,I1,r1,q1⟩)
noncomputable def mK (c:TT)(t u:TS):TS:=λD σ H=>c σ H λb H1=>if b=true then t D σ H1 else u D σ H1
theorem kF {c:Expr}{a b:List Stmt}{tc:TT}(hc:PT X c tc)(ha:cM X a t)(hb:cM X b u):PS X (.If c a b pos) (mK tc t u):=by
 intro ai s σ H D I h;refine wpAny_If (aL (hc ai s σ H _ I h) λd s1 ⟨H1,I1,q1⟩=>?_);cases d with
 |true=>exact ha ai s1 σ H1 D I1 q1
 |false=>exact hb ai s1 σ H1 D I1 q1
end
noncomputable abbrev TG:=V->St->Hp->(St->Hp->Prop)->Prop
noncomputable abbrev iE:=List V->St->Hp->(St->Hp->Prop)->Prop
noncomputable def PG (X:Cx)(target:Expr)(t:TG):Prop:=
 ∀(ai:List (ax×Obj)) (s:aw) (σ:St) (H:Hp) (v:V) (u:av) (Q:St->Hp->Prop),aA X ai σ H s->aP v u->t v σ H Q->
  wpAny (model X.prog X.w) X.A (assign target X.env u) (λ_ s'=>∃σ' H',aA X ai σ' H' s'/\Q σ' H') X.xe s
noncomputable def mL (X:Cx)(ts:List Expr)(t:iE):Prop:=
 ∀(ai:List (ax×Obj)) (s:aw) (σ:St) (H:Hp) (vs:List V) (us:List av) (Q:St->Hp->Prop),aA X ai σ H s->aM vs us->t vs σ H Q->
  wpAny (model X.prog X.w) X.A (assignInOrder ((assignEach ts X.env).map (·.2)) us) (λ_ s'=>∃σ' H',aA X ai σ' H' s'/\Q σ' H') X.xe s
section
variable {X:Cx}{pos:Pos}
noncomputable def cQ (i:Nat):TG:=λv σ H Q=>Q (σ.set i (some v)) H
theorem j9 {i:Nat}{x:Str}(hN:X.N.Nodup)(hi:X.N[i]? = some x)(hx:eR X.env.scope x)(hf:X.fn x=true∨X.env.scope.names.lookup x=some .local:=by first|exact .inl rfl|exact .inr rfl|assumption):PG X (.Name x pos) (cQ i):=by
 intro ai s σ H v u Q I r h;exact wpAny_assign_Name (t5 I hN hi hx r (λs' I'=>⟨_,H,I',h⟩) hf)
noncomputable def mM:iE:=λvs σ H Q=>vs = []/\Q σ H
noncomputable def iF (t:TG)(u:iE):iE:=λvs σ H Q=>∃v r,vs=v::r/\t v σ H λσ' H'=>u r σ' H' Q
theorem tF:mL X [] mM:=by
 intro ai s σ H vs us Q I r h
 obtain⟨e,h⟩:=h
 subst e;cases r;exact assignInOrder_nil ⟨σ,H,I,h⟩
theorem mO {e:Expr}{es:List Expr}{t:TG}{u:iE}(h1:PG X e t)(h2:mL X es u)(hs:(assignEach (e::es) X.env).map (·.2)=assign e X.env::(assignEach es X.env).map (·.2):=by rfl):mL X (e::es) (iF t u):=by
 intro ai s σ H vs us Q I r h
 obtain⟨v,vr,e1,h⟩:=h
 subst e1;cases r with
 |cons r rr=>
  rw[hs];refine assignInOrder_cons (aL (h1 ai s σ H _ _ _ I r h) λ_ s1 ⟨σ1,H1,I1,q1⟩=>?_);exact h2 ai s1 σ1 H1 _ _ Q I1 rr q1
noncomputable def mP (K:ad)(n:Nat)(t:iE):TG:=λv σ H Q=>∃a xs,v = .ref a/\aQ K H a xs/\xs.length=n/\t xs σ H Q
theorem tG {es:List Expr}{k:Nat}{t:iE}{n:Nat}(hc:X.calm=true)(h:mL X es t)(hn:(assignEach es X.env).length=n:=by rfl)(hst:(assignEach es X.env).findIdx? (·.1)=none:=by rfl):PG X (.Tuple es k pos) (mP X.K n t):=by
 intro ai s σ H v u Q I r hw
 obtain⟨a,xs,e1,hq,hl,hw⟩:=hw
 subst e1;cases r
 obtain⟨its,rv,ht,hz⟩:=I.tuple hq
 refine assign_Tuple_tuple (I.ok.hd hc) ht (by simp[hn,<- hl,rv.length]) hst λh' hx=>?_
 have I1:aA X ai σ H { s with heap:=h' }:=I.kept (t':=s.toks) λb o e=>hx b o (ay9 (aw3 e)) e
 exact h ai _ σ H xs _ Q I1 (by simpa using rv) hw
noncomputable def iG (te:TE)(g:TG):TS:=λD σ H=>te σ H λx H1=>g x σ H1 D.nx
theorem kG {i:Nat}{x:Str}{e:Expr}{te:TE}{pos':Pos}(hN:X.N.Nodup)(hi:X.N[i]? = some x)(hx:eR X.env.scope x)(he:PE X e te)(hs:swapsWith e (some (.Name x pos')) pos.line X.env=pure false:=by rfl)(hf:X.fn x=true∨X.env.scope.names.lookup x=some .local:=by first|exact .inl rfl|exact .inr rfl|assumption) :
  PS X (.Assign [.Name x pos'] e pos) (iG te (cQ i)):=by
 intro ai s σ H D I h;refine wpAny_Assign_Name (aL (he ai s σ H _ I h) λv s1 ⟨y,H1,I1,r1,q1⟩=>?_) hs;exact t5 I1 hN hi hx r1 (λs2 I2=>⟨_,H1,I2,q1⟩) hf
end
section
variable {X:Cx}{pos:Pos}
noncomputable def tH (c:TT)(tb:TS):TS:=λD σ H=>∃W:Nat->St->Hp->Prop,(∃m,W m σ H)/\∀m σ H,W m σ H->
 c σ H λb H1=>if b=true then ∃N:St->Hp->Prop,(∀σ' H',N σ' H'->∃m',m'<m/\W m' σ' H')/\tb { D with nx:=N,ct:=N,bk:=D.nx } σ H1 else D.nx σ H1
theorem E5 {c:Expr}{body:List Stmt}{tc:TT}{tb:TS}(hp:PassesOwn (model X.prog X.w) X.A X.env X.xe)(hc:PT X c tc)(hb:cM X body tb):PS X (.While c body [] pos) (tH tc tb):=by
 intro ai s σ H D I h
 obtain⟨W,⟨m0,w0⟩,turn⟩:=h
 refine wpAny_While (codeAny_whileLoop (λn s'=>∃σ' H',aA X ai σ' H' s'/\W n σ' H') ?_ m0 ⟨σ,H,I,w0⟩);rintro n s1 ⟨σ1,H1,I1,w1⟩;refine aE3 hp (aL (hc ai s1 σ1 H1 _ I1 (turn n σ1 H1 w1)) λb s2 ⟨H2,I2,q2⟩=>?_);cases b with
 |true=>
  obtain⟨N,hN,q2⟩:=q2
  rw[if_pos rfl];refine aE3 hp (aL (hb ai s2 σ1 H2 _ I2 q2) λf s3 q3=>?_);cases f with
  |next=>
   obtain⟨σ3,H3,I3,n3⟩:=q3
   obtain⟨m',hm,w3⟩:=hN σ3 H3 n3
   exact⟨m',hm,σ3,H3,I3,w3⟩
  |cont=>
   obtain⟨σ3,H3,I3,n3⟩:=q3
   obtain⟨m',hm,w3⟩:=hN σ3 H3 n3
   exact⟨m',hm,σ3,H3,I3,w3⟩
  |brk=>exact q3
  |ret v=>exact q3
 |false=>
  rw[if_neg aw9];exact wpAny_execs_nil ⟨σ1,H2,I2,q2⟩
end
structure It where
 go:Nat->Hp->Prop
 yld:Nat->Hp->V->Hp->Prop
 stop:Nat->Hp->Prop
noncomputable def gC (X:Cx)(ai:List (ax×Obj))(H:Hp)(b:ax):Prop:=
 H b=none/\b≠X.env.locals/\b∉X.fs/\(b∈X.ex∨X.s₀.heap.objs.size<=b)/\(∀x c,X.env.cells.lookup x=some c->c≠b)/\∀p∈X.pn++ai,p.1≠b
theorem aA.fpOk {X:Cx}{ai:List (ax×Obj)}{σ:St}{H H':Hp}{s:aw}{b:ax}(I:aA X ai σ H s)(hb:s.heap.objs.size<=b)(hn:H' b=none):gC X ai H' b:=by
 refine⟨hn,aB8 (av9 I.lt hb),I.nofs hb,.inr (ay7 I.sz hb),λx c e z=>?_,λp hp z=>?_⟩
 ·obtain⟨v,q⟩:=I.cell x c e
  exact absurd (av9 q.lt (by rw[z];exact hb)) (az9 _)
 ·exact absurd (av9 (aw3 (I.pin p hp).1) (by rw[z];exact hb)) (az9 _)
structure h8 (P:ay)(w:ba)(K:ad)(tg:Expr)(J:It)(fp:List ax)(it:ax)(tn:Nat->Heap->Prop):Prop where
 mem:it∈fp
 obj:∀i h,tn i h->∀b∈fp,∃o,h.get? b=some o/\∀v,o.data≠.cell v
 keep:∀i h h',tn i h->(∀b∈fp,∀o,h.get? b=some o->h'.get? b=some o)->tn i h'
 item:∀(X:Cx),X.prog=P->X.w=w->X.K=K->X.calm=true->∀(i:Nat) (ai:List (ax×Obj)) (s:aw) (σ:St) (H:Hp) (E:av->aw->Prop),aA X ai σ H s->(∀b∈fp,gC X ai H b)->tn i s.heap->J.go i H->
  wpAny (model P w) X.A (pyNext (.ref it)) (λr s1=>∃u,r=some u/\
   wpAny (model P w) X.A (letOwnedTupleGo tg (.ref it) u) (λ_ s2=>∃x H',aA X ai σ H' s2/\aP x u/\J.yld i H x H'/\tn (i+1) s2.heap/\∀b∈fp,H' b=none) E s1) E s
 done:∀(X:Cx),X.prog=P->X.w=w->X.K=K->X.calm=true->∀(i:Nat) (ai:List (ax×Obj)) (s:aw) (σ:St) (H:Hp) (E:av->aw->Prop),aA X ai σ H s->(∀b∈fp,gC X ai H b)->tn i s.heap->J.stop i H->
  wpAny (model P w) X.A (pyNext (.ref it)) (λr s1=>r=none/\aA X ai σ H s1) E s
 self:∀(A:az) (i:Nat) (s:aw) (Q:av->aw->Prop) (E:av->aw->Prop),tn i s.heap->Q (.ref it) s->wpAny (model P w) A (pyIter (.ref it)) Q E s
noncomputable abbrev TI:=St->Hp->(It->Hp->Prop)->Prop
noncomputable def tI (X:Cx)(ai:List (ax×Obj))(σ:St)(tg:Expr)(R:It->Hp->Prop)(itv:av)(s2:aw):Prop:=
 ∃(it:ax) (fp:List ax) (tn:Nat->Heap->Prop) (J:It) (H':Hp),itv = .ref it/\aA X ai σ H' s2/\h8 X.prog X.w X.K tg J fp it tn/\tn 0 s2.heap/\(∀b∈fp,gC X ai H' b)/\R J H'
noncomputable def PI (X:Cx)(tg iter:Expr)(wi:TI):Prop:=
 ∀(ai:List (ax×Obj)) (s:aw) (σ:St) (H:Hp) (R:It->Hp->Prop),aA X ai σ H s->wi σ H R->
  wpAny (model X.prog X.w) X.A (eval iter X.env) (λv s1=>wpAny (model X.prog X.w) X.A (pyIter v) (tI X ai σ tg R) X.xe s1) X.xe s
theorem mQ {M:Model}{A:az}{E:av->aw->Prop}{s:aw}{tg:Expr}{it:ax}{u:av}{o:Obj}{n:String}{vs:Array av}{Q:Unit->aw->Prop}(ho:s.heap.get? it=some o)(hc:o.cls = .type n)(hd:o.data = .fields vs)(hn:["enumerate","zip","dict_itemiterator","dict_reverseitemiterator","odict_iterator","itertools.zip_longest","itertools.pairwise"].contains n=false)(hQ:Q () s):wpAny M A (letOwnedTupleGo tg (.ref it) u) Q E s:=by
  unfold letOwnedTupleGo;cases tg<;>first
    |exact av8 hQ
    |(cases u<;>first
        |exact av8 hQ
        | (refine av3 (wpAny_load ho ?_)
           rw[hc,hd];show wpAny M A (if (["enumerate","zip","dict_itemiterator","dict_reverseitemiterator","odict_iterator","itertools.zip_longest","itertools.pairwise"].contains n&&vs[0]?==some (rawInt _))=true then _ else _) Q E s;rw[if_neg (by intro h;rw[hn,Bool.false_and]at h;cases h)]
           exact av8 hQ))
noncomputable def oU (K:ad)(a:ax):It:=
 ⟨λi H=>∃xs x,aX K H a xs/\xs[i]? = some x,λi H x H'=>H'=H/\∀xs,aX K H a xs->xs[i]? = some x,λi H=>∃xs,aX K H a xs/\xs.length<=i⟩
noncomputable def oV (K:ad)(a:ax):It:=
 ⟨λi H=>∃xs x,aQ K H a xs/\xs[i]? = some x,λi H x H'=>H'=H/\∀xs,aQ K H a xs->xs[i]? = some x,λi H=>∃xs,aQ K H a xs/\xs.length<=i⟩
noncomputable def mR (lo:Int)(n:Nat):It:=⟨λi _=>i<n,λi H x H'=>H'=H/\x = .int (lo+i),λi _=>n<=i⟩
theorem E6 {P:ay}{w:ba}{K:ad}{tg:Expr}(a it:ax):h8 P w K tg (oU K a) [it] it (λi h=>h.IsListIter it a i) where
 mem:=by simp
 obj:=λi h st b hb=>by
  have e:b=it:=by simpa using hb
  subst e
  obtain⟨o,e,c,d⟩:=st
  exact⟨o,e,λv z=>by rw[d]at z;cases z⟩
 keep:=λi h h' st k=>st.at λo e=>k it (by simp) o e
 item:=by
  intro X hP hw hK hc i ai s σ H E I hf st hg;subst hP hw hK
  obtain⟨xs,x,hq,hx⟩:=hg
  obtain⟨its,rv,p,hz⟩:=I.list hq
  obtain⟨u,hu,ru⟩:=rv.get hx
  obtain⟨f0,f1,f2,f3,f4,f5⟩:=hf it (by simp)
  refine wpAny_pyNext_list_item st p.isList (x:=u) (by simpa using hu) λh' st' sb=>?_
  have I1:aA X ai σ H { s with heap:=h' }:=I.turned (t':=s.toks) (λb o hb e=>(sb.2 b hb).trans e) f0 f1 f3 f4 f5
  obtain⟨o,e,c,d⟩:=id st'
  exact⟨u,rfl,mQ (s:={ s with heap:=h' }) e c d (by decide) ⟨x,H,I1,ru,⟨rfl,λys hy=>by rw[I.list_inj hy hq];exact hx⟩,st',λb hb=>(hf b hb).1⟩⟩
 done:=by
  intro X hP hw hK hc i ai s σ H E I hf st hg;subst hP hw hK
  obtain⟨xs,hq,hx⟩:=hg
  obtain⟨its,rv,p,hz⟩:=I.list hq
  obtain⟨f0,f1,f2,f3,f4,f5⟩:=hf it (by simp)
  have hl:=rv.length;exact wpAny_pyNext_list_end (I.ok.hd hc) st p.isList (by simp;omega) λh' eb=>⟨rfl,I.turned (t':=s.toks) (λb o hb e=>eb b o hb e) f0 f1 f3 f4 f5⟩
 self:=λ_ _ _ _ _ st h=>wpAny_pyIter_listiter st h
theorem E7 {P:ay}{w:ba}{K:ad}{tg:Expr}(a it:ax):h8 P w K tg (oV K a) [it] it (λi h=>h.IsTupleIter it a i) where
 mem:=by simp
 obj:=λi h st b hb=>by
  have e:b=it:=by simpa using hb
  subst e
  obtain⟨o,e,c,d⟩:=st
  exact⟨o,e,λv z=>by rw[d]at z;cases z⟩
 keep:=λi h h' st k=>st.at λo e=>k it (by simp) o e
 item:=by
  intro X hP hw hK hc i ai s σ H E I hf st hg;subst hP hw hK
  obtain⟨xs,x,hq,hx⟩:=hg
  obtain⟨its,rv,p,hz⟩:=I.tuple hq
  obtain⟨u,hu,ru⟩:=rv.get hx
  obtain⟨f0,f1,f2,f3,f4,f5⟩:=hf it (by simp)
  refine wpAny_pyNext_tuple_item st (show s.heap.IsTuple a its.toArray from p) (x:=u) (by simpa using hu) λh' st' sb=>?_
  have I1:aA X ai σ H { s with heap:=h' }:=I.turned (t':=s.toks) (λb o hb e=>(sb.2 b hb).trans e) f0 f1 f3 f4 f5
  obtain⟨o,e,c,d⟩:=id st'
  exact⟨u,rfl,mQ (s:={ s with heap:=h' }) e c d (by decide) ⟨x,H,I1,ru,⟨rfl,λys hy=>by rw[I.tuple_inj hy hq];exact hx⟩,st',λb hb=>(hf b hb).1⟩⟩
 done:=by
  intro X hP hw hK hc i ai s σ H E I hf st hg;subst hP hw hK
  obtain⟨xs,hq,hx⟩:=hg
  obtain⟨its,rv,p,hz⟩:=I.tuple hq
  obtain⟨f0,f1,f2,f3,f4,f5⟩:=hf it (by simp)
  have hl:=rv.length;exact wpAny_pyNext_tuple_end (I.ok.hd hc) st (show s.heap.IsTuple a its.toArray from p) (by simp;omega) λh' eb=>⟨rfl,I.turned (t':=s.toks) (λb o hb e=>eb b o hb e) f0 f1 f3 f4 f5⟩
 self:=λ_ _ _ _ _ st h=>wpAny_pyIter_tupleiter st h
theorem E8 {P:ay}{w:ba}{K:ad}{tg:Expr}(it:ax)(lo:Int)(n:Nat):h8 P w K tg (mR lo n) [it] it (λi h=>IsRangeIter h it (lo+(i:Nat)*1) ((n:Int)-(i:Nat)) 1) where
 mem:=by simp
 obj:=λi h st b hb=>by
  have e:b=it:=by simpa using hb
  subst e
  exact⟨_,st,λv z=>by
   have z':Data.fields _=Data.cell v:=z
   cases z'⟩
 keep:=λi h h' st k=>k it (by simp) _ st
 item:=by
  intro X hP hw hK hc i ai s σ H E I hf st hg;subst hP hw hK
  obtain⟨f0,f1,f2,f3,f4,f5⟩:=hf it (by simp)
  have W:=Walks.range (prog:=X.prog) (w:=X.w) (I.ok.hd hc) it lo 1 n;refine W.item i s _ _ hg st λv h' tk hv st' kk=>?_
  obtain⟨t,rfl⟩:=hv
  have I1:aA X ai σ H { s with heap:=h',toks:=tk }:=I.turned (λb o hb e=>kk b o (by simpa using hb) e) f0 f1 f3 f4 f5;refine⟨_,rfl,mQ (s:={ s with heap:=h',toks:=tk }) (n:="range_iterator") st' rfl rfl (by decide) ⟨.int (lo+i),H,I1,⟨t,?_⟩,⟨rfl,rfl⟩,st',λb hb=>(hf b hb).1⟩⟩;rw[Int.mul_one]
 done:=by
  intro X hP hw hK hc i ai s σ H E I hf st hg;subst hP hw hK
  obtain⟨f0,f1,f2,f3,f4,f5⟩:=hf it (by simp)
  exact wpAny_pyNext_range_end (I.ok.hd hc) st (by have:n<=i:=hg;omega) λh' eb=>⟨rfl,I.turned (t':=s.toks) (λb o hb e=>eb b o hb e) f0 f1 f3 f4 f5⟩
 self:=λ_ _ _ _ _ st h=>wpAny_pyIter_rangeiter st h
section
variable {X:Cx}{tg:Expr}
theorem E9 {ai:List (ax×Obj)}{σ:St}{H:Hp}{s:aw}{R:It->Hp->Prop}{E:av->aw->Prop}{lo hi:Int}{t u v:Tok}{tk:Nat}(I:aA X ai σ H s)(h1:-(2^62)<=lo)(h2:lo<2^62)(h3:-(2^62)<=hi)(h4:hi<2^62)(q:R (mR lo (hi-lo).toNat) H):wpAny (model X.prog X.w) X.A (pyIter (.ref s.heap.objs.size)) (tI X ai σ tg R) E { s with heap:=s.heap.push { cls:=.type "range",data:=.fields #[.int lo t,.int hi u,.int 1 v] },toks:=tk }:=by
 refine wpAny_pyIter_range (IsRange.new ..) (small_one h1 h2 h3 h4) ?_;have I1:aA X ai σ H { s with heap:=s.heap.push { cls:=.type "range",data:=.fields #[.int lo t,.int hi u,.int 1 v] },toks:=tk }:=I.kept λb o e=>av6 _ e
 refine⟨(s.heap.push { cls:=.type "range",data:=.fields #[.int lo t,.int hi u,.int 1 v] }).objs.size,[(s.heap.push { cls:=.type "range",data:=.fields #[.int lo t,.int hi u,.int 1 v] }).objs.size],_,_,H,rfl,
  I1.kept (t':=tk) λb o e=>av6 _ e,E8 _ lo (hi-lo).toNat,?_,λb hb=>?_,q⟩
 ·have e1:lo+((0:Nat):Int)*1=lo:=by simp
  have e2:(((hi-lo).toNat:Nat):Int)-((0:Nat):Int)=Builtin.Range.rangeSize lo hi 1:=by rw[rangeSize_one];split<;>omega
  show IsRangeIter _ _ (lo+((0:Nat):Int)*1) ((((hi-lo).toNat:Nat):Int)-((0:Nat):Int)) 1;rw[e1,e2];exact aw8 _ rfl
 ·have e:b=(s.heap.push { cls:=.type "range",data:=.fields #[.int lo t,.int hi u,.int 1 v] }).objs.size:=by simpa using hb
  subst e;exact I1.fpOk (aw5 _) (I1.hok.fresh (aw5 _))
noncomputable def tJ (ta:TA):TI:=λσ H R=>ta σ H λvs H1=>∃j:Int,vs = [.int j]/\-(2^62)<=j/\j<2^62/\R (mR 0 j.toNat) H1
theorem G0 {a:Expr}{ta:TA}{p pos:Pos}(hg:Gl X "range")(hm:X.mg "range" = none)(ha:PA X [a] ta)(hs:starEach [a] X.env = [(false,eval a X.env)]:=by rfl):PI X tg (.Call (.Name "range" p) [a] [] pos) (tJ ta):=by
 intro ai s σ H R I h;refine Call_ (mI I hg hm boot_range (PyProof.Rows.callWith_type1 (aL (ha pos ai s σ H _ I h) λus s1 ⟨vs,H1,I1,r1,q1⟩=>?_) hs rfl))
 obtain⟨j,e,q1,q2,q⟩:=q1
 subst e;cases r1 with
 |cons r rr=>
  cases rr
  obtain⟨t,rfl⟩:=r
  exact call_range_1 (E9 I1 (by omega) (by omega) q1 q2 (by simpa using q))
noncomputable def tK (wi:TI)(g:TG)(tb:TS):TS:=λD σ H=>wi σ H λJ H1=>∃W:Nat->Nat->St->Hp->Prop,(∃m,W 0 m σ H1)/\∀i m σ H,W i m σ H->
 (J.stop i H/\D.nx σ H)∨(J.go i H/\∃N:St->Hp->Prop,(∀σ' H',N σ' H'->∃m',m'<m/\W (i+1) m' σ' H')/\∀x H',J.yld i H x H'->g x σ H' λσ2 H2=>tb { D with nx:=N,ct:=N,bk:=D.nx } σ2 H2)
noncomputable def kH (fp:List ax)(h:Heap):List (ax×Obj):=fp.filterMap λb=>(h.get? b).map λo=>(b,o)
theorem mS {fp:List ax}{h:Heap}{b:ax}{o:Obj}(hb:b∈fp)(e:h.get? b=some o):(b,o)∈kH fp h:=List.mem_filterMap.mpr ⟨b,hb,by rw[e];rfl⟩
theorem G1 {fp:List ax}{h:Heap}{p:ax×Obj}(hp:p∈kH fp h):p.1∈fp/\h.get? p.1=some p.2:=by
 obtain⟨b,hb,e⟩:=List.mem_filterMap.mp hp
 cases q:h.get? b with
 |none=>rw[q]at e;cases e
 |some o=>
  rw[q]at e;have e':(b,o)=p:=ax7 e;subst e'
  exact⟨hb,q⟩
theorem aA.pinned {ai:List (ax×Obj)}{σ:St}{H:Hp}{s:aw}{fp:List ax}(I:aA X ai σ H s)(hf:∀b∈fp,gC X ai H b)(ho:∀b∈fp,∃o,s.heap.get? b=some o/\∀v,o.data≠.cell v):aA X (ai++kH fp s.heap) σ H s:=
 I.pins_of λp hp=>(az8.mp hp).elim (λz=>I.pin p (ax4 _ z)) λz=>by
  obtain⟨hb,e⟩:=G1 z
  obtain⟨f0,f1,f2,_⟩:=hf p.1 hb
  obtain⟨o,e',d⟩:=ho p.1 hb
  rw[e]at e';cases e'
  exact⟨e,f0,f1,f2,d⟩
theorem aA.unpinned {ai pl:List (ax×Obj)}{σ:St}{H:Hp}{s:aw}(I:aA X (ai++pl) σ H s):aA X ai σ H s:=I.pins_of λp hp=>I.pin p (ax4 _ (az5 _ hp))
theorem G2 {iter:Expr}{body:List Stmt}{wi:TI}{g:TG}{tb:TS}{pos:Pos}(hp:PassesOwn (model X.prog X.w) X.A X.env X.xe)(hc:X.calm=true)(hi:PI X tg iter wi)(hg:PG X tg g)(hb:cM X body tb)(hs:∀x,foldedSetIterable iter X.env x=pure x:=by intro _;rfl):PS X (.For tg iter body [] pos) (tK wi g tb):=by
 intro ai s σ H D I h;refine wpAny_For (aL (hi ai s σ H _ I h) λv s1 h1=>aL h1 λitv s2 h2=>?_) hs
 obtain⟨it,fp,tn,J,H2,e,I2,T,st2,f2,W,⟨m0,w0⟩,turn⟩:=h2
 subst e;have stat:∀{H':Hp},(∀b∈fp,H' b=none)->∀b∈fp,gC X ai H' b:=λhn b hb=>⟨hn b hb,(f2 b hb).2⟩
 refine codeAny_forLoop_any (λn s'=>∃i σ' H',aA X ai σ' H' s'/\tn i s'.heap/\(∀b∈fp,H' b=none)/\W i n σ' H') ?_ m0 ⟨0,σ,H2,I2,st2,λb hb=>(f2 b hb).1,w0⟩;rintro n s3 ⟨i,σ3,H3,I3,st3,fr3,w3⟩;rcases turn i n σ3 H3 w3 with⟨stop,qn⟩|⟨go,N,hN,step⟩
 ·refine aE3 hp (aL (T.done X rfl rfl rfl hc i ai s3 σ3 H3 X.xe I3 (stat fr3) st3 stop) λr s4 ⟨hr,I4⟩=>?_)
  subst hr;exact wpAny_execs_nil ⟨σ3,H3,I4,qn⟩
 ·refine aE3 hp (aL (T.item X rfl rfl rfl hc i ai s3 σ3 H3 X.xe I3 (stat fr3) st3 go) λr s4 ⟨u,hr,h4⟩=>?_)
  subst hr;refine aE3 hp (aL h4 λ_ s5 ⟨x,H5,I5,r5,y5,st5,fr5⟩=>?_);have I5':=I5.pinned (stat fr5) (T.obj _ _ st5);refine aE3 hp (aL (hg _ s5 σ3 H5 x u _ I5' r5 (step x H5 y5)) λ_ s6 ⟨σ6,H6,I6,q6⟩=>?_);refine aE3 hp (aL (hb _ s6 σ6 H6 _ I6 q6) λf s7 q7=>?_);have again:∀{σ7:St}{H7:Hp},aA X (ai++kH fp s5.heap) σ7 H7 s7->N σ7 H7->∃m,m<n/\∃i σ' H',aA X ai σ' H' s7/\tn i s7.heap/\(∀b∈fp,H' b=none)/\W i m σ' H':=λ{σ7 H7} I7 n7=>by
   obtain⟨m',hm,w7⟩:=hN σ7 H7 n7
   refine⟨m',hm,i+1,σ7,H7,I7.unpinned,T.keep _ _ _ st5 λb hb o e=>(I7.pin (b,o) (ax4 _ (ax4 _ (mS hb e)))).1,λb hb=>?_,w7⟩
   obtain⟨o,e,d⟩:=T.obj _ _ st5 b hb
   exact (I7.pin (b,o) (ax4 _ (ax4 _ (mS hb e)))).2.1
  cases f with
  |next=>obtain⟨σ7,H7,I7,n7⟩:=q7;exact again I7 n7
  |cont=>obtain⟨σ7,H7,I7,n7⟩:=q7;exact again I7 n7
  |brk=>obtain⟨σ7,H7,I7,q7⟩:=q7;exact⟨σ7,H7,I7.unpinned,q7⟩
  |ret v=>obtain⟨x7,σ7,H7,I7,r7,q7⟩:=q7;exact⟨x7,σ7,H7,I7.unpinned,r7,q7⟩
end
noncomputable abbrev R2:=V->V->Hp->VK->Prop
noncomputable def bV (X:Cx)(f:av->av->Sem av)(r:R2):Prop:=
 ∀(ai:List (ax×Obj)) (s:aw) (σ:St) (H:Hp) (x y:V) (v u:av) (Q:VK),aA X ai σ H s->aP x v->aP y u->r x y H Q->
  wpAny (model X.prog X.w) X.A (f v u) (EP X ai σ Q) X.xe s
noncomputable def oW (X:Cx)(f:av->Sem av)(r:V->Hp->VK->Prop):Prop:=
 ∀(ai:List (ax×Obj)) (s:aw) (σ:St) (H:Hp) (x:V) (v:av) (Q:VK),aA X ai σ H s->aP x v->r x H Q->
  wpAny (model X.prog X.w) X.A (f v) (EP X ai σ Q) X.xe s
noncomputable def d9 (X:Cx)(f:av)(r:List V->Hp->VK->Prop):Prop:=
 ∀(ai:List (ax×Obj)) (s:aw) (σ:St) (H:Hp) (xs:List V) (us:List av) (Q:VK),aA X ai σ H s->aM xs us->r xs H Q->
  wpAny (model X.prog X.w) X.A (call f us) (EP X ai σ Q) X.xe s
noncomputable def G3 (X:Cx)(r:V->Hp->(Bool->Hp->Prop)->Prop):Prop:=
 ∀(ai:List (ax×Obj)) (s:aw) (σ:St) (H:Hp) (x:V) (v:av) (Q:Bool->Hp->Prop),aA X ai σ H s->aP x v->r x H Q->
  wpAny (model X.prog X.w) X.A (truthy v) (TP X ai σ Q) X.xe s
noncomputable def kI (r:R2)(ta tb:TE):TE:=λσ H Q=>ta σ H λx H1=>tb σ H1 λy H2=>r x y H2 Q
noncomputable def G4 (r:V->Hp->VK->Prop)(ta:TE):TE:=λσ H Q=>ta σ H λx H1=>r x H1 Q
noncomputable def rI (C:Int->Int->Prop)(g:Int->Int->V):R2:=λx y H Q=>∃i j,x = .int i/\y = .int j/\C i j/\Q (g i j) H
noncomputable def eS (g:Int->Int->V):R2:=λx y H Q=>∃i j,x = .int i/\y = .int j/\Q (g i j) H
noncomputable def rU (g:Int->V):V->Hp->VK->Prop:=λx H Q=>∃i,x = .int i/\Q (g i) H
section
variable {X:Cx}{a b c:Expr}{ta tb tc:TE}{pos:Pos}
theorem oX (ha:PE X a ta)(hb:PE X b tb){ai:List (ax×Obj)}{s:aw}{σ:St}{H:Hp}{R:V->V->Hp->Prop}(I:aA X ai σ H s)(h:ta σ H λx H1=>tb σ H1 λy H2=>R x y H2){Q:av->aw->Prop}{f:av->av->Sem av}(hf:∀v u s2 x y H2,aA X ai σ H2 s2->aP x v->aP y u->R x y H2->wpAny (model X.prog X.w) X.A (f v u) Q X.xe s2) :
  wpAny (model X.prog X.w) X.A (eval a X.env) (λv s₁=>wpAny (model X.prog X.w) X.A (eval b X.env) (λu s₂=>wpAny (model X.prog X.w) X.A (f v u) Q X.xe s₂) X.xe s₁) X.xe s:=by
 refine aL (ha ai s σ H _ I h) λv s1 ⟨x,H1,I1,r1,q1⟩=>?_
 refine aL (hb ai s1 σ H1 _ I1 q1) λu s2 ⟨y,H2,I2,r2,q2⟩=>?_
 exact hf v u s2 x y H2 I2 r1 r2 q2
theorem G5 {op:Operator}{r:R2}(ho:bV X (binaryOp op) r)(ha:PE X a ta)(hb:PE X b tb):PE X (.BinOp a op b pos) (kI r ta tb):=by
 intro ai s σ H Q I h;exact wpAny_BinOp (oX ha hb I h λv u s2 x y H2 I2 rx ry q=>ho ai s2 σ H2 x y v u Q I2 rx ry q)
theorem G6 {op:UnaryOp}{r:V->Hp->VK->Prop}(ho:oW X (unaryOp op) r)(ha:PE X a ta):PE X (.UnaryOp op a pos) (G4 r ta):=by
 intro ai s σ H Q I h;exact UnaryOp_ (aL (ha ai s σ H _ I h) λv s1 ⟨x,H1,I1,r1,q1⟩=>ho ai s1 σ H1 x v Q I1 r1 q1)
theorem kJ {f:av->av->Sem av}{C:Int->Int->Prop}{g:Int->Int->Int}(rule:∀(i j:Int) (t u:Tok) (s:aw) (Q:av->aw->Prop) (E:av->aw->Prop),C i j->Q (.int (g i j) s.toks) { s with toks:=s.toks+1 }->wpAny (model X.prog X.w) X.A (f (.int i t) (.int j u)) Q E s) :
  bV X f (rI C λi j=>.int (g i j)):=by
 intro ai s σ H x y v u Q I rx ry h
 obtain⟨i,j,rfl,rfl,hc,q⟩:=h
 obtain⟨t,rfl⟩:=rx
 obtain⟨t',rfl⟩:=ry
 exact rule i j t t' s _ _ hc ⟨.int (g i j),H,I.tok _,⟨_,rfl⟩,q⟩
theorem mT {f:av->av->Sem av}{g:Int->Int->Int}(rule:∀(i j:Int) (t u:Tok) (s:aw) (Q:av->aw->Prop) (E:av->aw->Prop),Q (.int (g i j) s.toks) { s with toks:=s.toks+1 }->wpAny (model X.prog X.w) X.A (f (.int i t) (.int j u)) Q E s) :
  bV X f (eS λi j=>.int (g i j)):=by
 intro ai s σ H x y v u Q I rx ry h
 obtain⟨i,j,rfl,rfl,q⟩:=h
 obtain⟨t,rfl⟩:=rx
 obtain⟨t',rfl⟩:=ry
 exact rule i j t t' s _ _ ⟨.int (g i j),H,I.tok _,⟨_,rfl⟩,q⟩
theorem mU {f:av->av->Sem av}{g:Int->Int->Bool}(rule:∀(i j:Int) (t u:Tok) (s:aw) (Q:av->aw->Prop) (E:av->aw->Prop),Q (.bool (g i j)) s->wpAny (model X.prog X.w) X.A (f (.int i t) (.int j u)) Q E s) :
  bV X f (eS λi j=>.bl (g i j)):=by
 intro ai s σ H x y v u Q I rx ry h
 obtain⟨i,j,rfl,rfl,q⟩:=h
 obtain⟨t,rfl⟩:=rx
 obtain⟨t',rfl⟩:=ry
 exact rule i j t t' s _ _ ⟨.bl (g i j),H,I,rfl,q⟩
noncomputable def oY (i j:Int):Prop:=0<j/\j<1073741824
noncomputable def oZ (i j:Int):Prop:=0<=j/\j<=1000000/\i.natAbs<2^64
theorem G7 (k:Nat):(0:Int)<=2^k:=by
 rw[two_pow_cast];exact Int.natCast_nonneg _
theorem G8:bV X (binaryOp .Add) (eS λi j=>.int (i+j)):=mT λ_ _ _ _ _ _ _ q=>add_int q
theorem G9:bV X (binaryOp .Sub) (eS λi j=>.int (i-j)):=mT λ_ _ _ _ _ _ _ q=>sub_int q
theorem J0:bV X (binaryOp .FloorDiv) (rI oY λi j=>.int (i/j)):=kJ λi j _ _ _ _ _ hc q=>by
 have h1:(0:Int)<j:=hc.1;have h2:j<1073741824:=hc.2;exact floordiv_int (by omega) (by rw[Int.fdiv_eq_ediv_of_nonneg i (by omega)];exact q) (.inl (PyProof.noPylong_small (by omega)))
theorem J1:bV X (binaryOp .Mod) (rI (λ_ j=>0<j) λi j=>.int (i%j)):=kJ λi j _ _ _ _ _ hc q=>by
 have h1:(0:Int)<j:=hc;exact mod_int' (by omega) (by rw[Int.fmod_eq_emod_of_nonneg i (by omega)];exact q)
theorem J2:bV X (binaryOp .LShift) (rI oZ λi j=>.int (i*2^j.toNat)):=kJ λ_ _ _ _ _ _ _ hc q=>lshift_int_small hc.1 hc.2.1 hc.2.2 q
theorem J3:bV X (binaryOp .RShift) (rI (λ_ j=>0<=j) λi j=>.int (i/2^j.toNat)):=kJ λi j _ _ _ _ _ hc q=>
 rshift_int hc (by rw[Int.fdiv_eq_ediv_of_nonneg i (G7 _)];exact q)
theorem J4:bV X (binaryOp .BitAnd) (eS λi j=>.int (Builtin.bitAnd i j)):=mT λ_ _ _ _ _ _ _ q=>and_int q
theorem J5:bV X (binaryOp .BitOr) (eS λi j=>.int (Builtin.bitOr i j)):=mT λ_ _ _ _ _ _ _ q=>or_int q
theorem J6 {f:av->Sem av}{g:Int->Int}(rule:∀(i:Int) (t:Tok) (s:aw) (Q:av->aw->Prop) (E:av->aw->Prop),Q (.int (g i) s.toks) { s with toks:=s.toks+1 }->wpAny (model X.prog X.w) X.A (f (.int i t)) Q E s) :
  oW X f (rU λi=>.int (g i)):=by
 intro ai s σ H x v Q I rx h
 obtain⟨i,rfl,q⟩:=h
 obtain⟨t,rfl⟩:=rx
 exact rule i t s _ _ ⟨.int (g i),H,I.tok _,⟨_,rfl⟩,q⟩
theorem J7:oW X (unaryOp .USub) (rU λi=>.int (-i)):=J6 λ_ _ _ _ _ q=>neg_int q
end
noncomputable def tL:V->V->Bool
 |.non,.non=>true|.non,.int _=>true|.int _,.non=>true|.non,.bl _=>true|.bl _,.non=>true|.non,.str _=>true|.str _,.non=>true
 |.int _,.int _=>true|.bl _,.bl _=>true|.str _,.str _=>true|.byt _,.byt _=>true
 |.int _,.str _=>true|.str _,.int _=>true|.bl _,.str _=>true|.str _,.bl _=>true
 |_,_=>false
noncomputable def tM:R2:=λx y H Q=>tL x y=true/\Q (.bl (decide (x=y))) H
noncomputable def tN:R2:=λx y H Q=>tL x y=true/\Q (.bl (!decide (x=y))) H
theorem tO {i j:Int}:decide (V.int i=V.int j)=(i==j):=by
 rw[aE4];simp
theorem tP {i j:Bool}:decide (V.bl i=V.bl j)=(i==j):=by
 rw[aE4];simp
theorem tQ {i j:Str}:decide (V.str i=V.str j)=(i==j):=by
 rw[aE4];simp
theorem tR {i j:Array UInt8}:decide (V.byt i=V.byt j)=(i.toList==j.toList):=by
 rw[aE4];cases i;cases j;simp
section
variable {X:Cx}{a b c:Expr}{ta tb tc:TE}{pos:Pos}
theorem bO {ai:List (ax×Obj)}{σ:St}{H:Hp}{s:aw}{Q:VK}{k k':Bool}(I:aA X ai σ H s)(q:Q (.bl k) H)(e:k=k'):EP X ai σ Q (.bool k') s:=by
 subst e
 exact⟨.bl k,H,I,rfl,q⟩
theorem tS:bV X (compareOp .Eq) tM:=by
 intro ai s σ H x y v u Q I rx ry h
 obtain⟨hs,q⟩:=h
 cases x with
 |non=>
  cases rx;cases y with
  |non=>cases ry;exact PySem.EqNone.eq_none_none (bO I q (by simp))
  |bl j=>cases ry;exact PySem.EqNone.eq_none_bool (bO I q (by simp))
  |int j=>obtain⟨t',rfl⟩:=ry;exact PySem.EqNone.eq_none_int (bO I q (by simp))
  |str j=>obtain⟨t',rfl⟩:=ry;exact PySem.EqNone.eq_none_str (bO I q (by simp))
  |_=>exact absurd (show false=true from hs) aw9
 |bl i=>
  cases rx;cases y with
  |non=>cases ry;exact PySem.EqNone.eq_bool_none (bO I q (by simp))
  |bl j=>cases ry;exact eq_bool (bO I q tP)
  |str j=>obtain⟨t',rfl⟩:=ry;exact PySem.EqMixed.eq_bool_str (bO I q (by simp))
  |_=>exact absurd (show false=true from hs) aw9
 |int i=>
  obtain⟨t,rfl⟩:=rx
  cases y with
  |non=>cases ry;exact PySem.EqNone.eq_int_none (bO I q (by simp))
  |int j=>obtain⟨t',rfl⟩:=ry;exact eq_int (bO I q tO)
  |str j=>obtain⟨t',rfl⟩:=ry;exact PySem.EqMixed.eq_int_str (bO I q (by simp))
  |_=>exact absurd (show false=true from hs) aw9
 |str i=>
  obtain⟨t,rfl⟩:=rx
  cases y with
  |non=>cases ry;exact PySem.EqNone.eq_str_none (bO I q (by simp))
  |bl j=>cases ry;exact PySem.EqMixed.eq_str_bool (bO I q (by simp))
  |int j=>obtain⟨t',rfl⟩:=ry;exact PySem.EqMixed.eq_str_int (bO I q (by simp))
  |str j=>obtain⟨t',rfl⟩:=ry;exact eq_str (bO I q tQ)
  |_=>exact absurd (show false=true from hs) aw9
 |byt i=>
  obtain⟨t,rfl⟩:=rx
  cases y with
  |byt j=>obtain⟨t',rfl⟩:=ry;exact PySem.W.eq_bytes (bO I q tR)
  |_=>exact absurd (show false=true from hs) aw9
 |_=>cases y<;>exact absurd (show false=true from hs) aw9
theorem J8:bV X (compareOp .NotEq) tN:=by
 intro ai s σ H x y v u Q I rx ry h
 obtain⟨hs,q⟩:=h
 cases x with
 |non=>
  cases rx;cases y with
  |non=>cases ry;exact PySem.EqNone.ne_none_none (bO I q (by simp))
  |bl j=>cases ry;exact PySem.EqNone.ne_none_bool (bO I q (by simp))
  |int j=>obtain⟨t',rfl⟩:=ry;exact PySem.EqNone.ne_none_int (bO I q (by simp))
  |str j=>obtain⟨t',rfl⟩:=ry;exact PySem.EqNone.ne_none_str (bO I q (by simp))
  |_=>exact absurd (show false=true from hs) aw9
 |bl i=>
  cases rx;cases y with
  |non=>cases ry;exact PySem.EqNone.ne_bool_none (bO I q (by simp))
  |bl j=>cases ry;exact ne_bool (bO I q (congrArg not tP))
  |str j=>obtain⟨t',rfl⟩:=ry;exact PySem.EqMixed.ne_bool_str (bO I q (by simp))
  |_=>exact absurd (show false=true from hs) aw9
 |int i=>
  obtain⟨t,rfl⟩:=rx
  cases y with
  |non=>cases ry;exact PySem.EqNone.ne_int_none (bO I q (by simp))
  |int j=>obtain⟨t',rfl⟩:=ry;exact ne_int (bO I q (congrArg not tO))
  |str j=>obtain⟨t',rfl⟩:=ry;exact PySem.EqMixed.ne_int_str (bO I q (by simp))
  |_=>exact absurd (show false=true from hs) aw9
 |str i=>
  obtain⟨t,rfl⟩:=rx
  cases y with
  |non=>cases ry;exact PySem.EqNone.ne_str_none (bO I q (by simp))
  |bl j=>cases ry;exact PySem.EqMixed.ne_str_bool (bO I q (by simp))
  |int j=>obtain⟨t',rfl⟩:=ry;exact PySem.EqMixed.ne_str_int (bO I q (by simp))
  |str j=>obtain⟨t',rfl⟩:=ry;exact ne_str (bO I q (congrArg not tQ))
  |_=>exact absurd (show false=true from hs) aw9
 |byt i=>
  obtain⟨t,rfl⟩:=rx
  cases y with
  |byt j=>obtain⟨t',rfl⟩:=ry;exact PySem.W.ne_bytes (bO I q (congrArg not tR))
  |_=>exact absurd (show false=true from hs) aw9
 |_=>cases y<;>exact absurd (show false=true from hs) aw9
theorem J9:bV X (compareOp .Lt) (eS λi j=>.bl (decide (i<j))):=mU λ_ _ _ _ _ _ _ q=>lt_int q
theorem K0:bV X (compareOp .LtE) (eS λi j=>.bl (decide (i<=j))):=mU λ_ _ _ _ _ _ _ q=>le_int q
theorem K1:bV X (compareOp .Gt) (eS λi j=>.bl (decide (j<i))):=mU λ_ _ _ _ _ _ _ q=>gt_int q
theorem K2:bV X (compareOp .GtE) (eS λi j=>.bl (decide (j<=i))):=mU λ_ _ _ _ _ _ _ q=>ge_int q
theorem iH (b:Expr){op:CmpOp}(h:op≠.In:=by decide)(h2:op≠.NotIn:=by decide):behindInMarks op b=false:=by
 have e1:(op==CmpOp.In)=false:=by cases op<;>first|rfl|exact absurd rfl h
 have e2:(op==CmpOp.NotIn)=false:=by cases op<;>first|rfl|exact absurd rfl h2
 cases b<;>simp[behindInMarks,e1,e2]
theorem K3 {op:CmpOp}{r:R2}(ho:bV X (compareOp op) r)(ha:PE X a ta)(hb:PE X b tb)(hm:behindInMarks op b=false):PE X (.Compare a [op] [b] pos) (kI r ta tb):=by
 intro ai s σ H Q I h;exact wpAny_Compare1 (oX ha hb I h λv u s2 x y H2 I2 rx ry q=>ho ai s2 σ H2 x y v u Q I2 rx ry q) hm
noncomputable def K4 (t:TE):TT:=λσ H Q=>t σ H λx H'=>∃k,x = .bl k/\Q k H'
theorem K5 {op:CmpOp}{r:R2}(ho:bV X (compareOp op) r)(ha:PE X a ta)(hb:PE X b tb)(hm:behindInMarks op b=false):PT X (.Compare a [op] [b] pos) (K4 (kI r ta tb)):=by
 intro ai s σ H Q I h
 refine wpAny_isTrue_Compare1 (aL (ha ai s σ H _ I h) λv s1 ⟨x,H1,I1,r1,q1⟩=>aL (hb ai s1 σ H1 _ I1 q1) λu s2 ⟨y,H2,I2,r2,q2⟩=>
  aL (ho ai s2 σ H2 x y v u _ I2 r1 r2 q2) λc s3 ⟨z,H3,I3,r3,k,e,q3⟩=>?_) hm
 subst e;cases r3;exact aE6 ⟨H3,I3,q3⟩
noncomputable def p5 (K:ad)(x:V)(H:Hp)(k:Bool):Prop:=
 match x with
 |.non=>k=false
 |.bl b=>k=b
 |.int i=>k=(i != 0)
 |.str y=>y.length<=sizeLine/\k=((y.length:Int) != 0)
 |.byt y=>y.size<=sizeLine/\k=((y.size:Int) != 0)
 |.ref p=>(∃xs,aX K H p xs/\k = !xs.isEmpty)∨(∃xs,aQ K H p xs/\k = !xs.isEmpty)∨∃kvs,H p=some (.dK kvs)/\k = !kvs.isEmpty
 |_=>False
theorem K6 {κ:Type}{kvs:List (κ×V)}{vs:List (κ×av)}(r:KV kvs vs):(!vs.isEmpty) = !kvs.isEmpty:=by
 cases r<;>rfl
theorem tT {xs:List V}{its:List av}(r:aM xs its):(!its.toArray.isEmpty) = !xs.isEmpty:=by
 cases r<;>simp
theorem kK:(sizeLine:Nat)<2^63:=by rw[sizeLine_eq];decide
theorem K7:G3 X (λx H Q=>∃k,p5 X.K x H k/\Q k H):=by
 intro ai s σ H x v Q I rx h
 obtain⟨k,e,q⟩:=h
 have hl:=kK;have hs:sizeLine=16777216:=sizeLine_eq;cases x with
 |non=>
  cases rx;have e':k=false:=e;subst e';exact truthy_none ⟨H,I,q⟩
 |bl b=>
  cases rx;have e':k=b:=e;subst e';exact aE6 ⟨H,I,q⟩
 |int i=>
  obtain⟨t,rfl⟩:=rx
  have e':k=(i != 0):=e;subst e';exact PySem.P.truthy_int ⟨H,I,q⟩
 |str y=>
  obtain⟨t,rfl⟩:=rx
  obtain⟨hy,e'⟩:y.length<=sizeLine/\k=((y.length:Int) != 0):=e
  subst e';exact PySem.P.truthy_str (by omega) ⟨H,I.tok _,q⟩
 |byt y=>
  obtain⟨t,rfl⟩:=rx
  obtain⟨hy,e'⟩:y.size<=sizeLine/\k=((y.size:Int) != 0):=e
  subst e';exact PySem.W.truthy_bytes (by omega) ⟨H,I.tok _,q⟩
 |ref p=>
  cases rx;have e':(∃xs,aX X.K H p xs/\k = !xs.isEmpty)∨(∃xs,aQ X.K H p xs/\k = !xs.isEmpty)∨∃kvs,H p=some (.dK kvs)/\k = !kvs.isEmpty:=e
  rcases e' with⟨xs,hx,e'⟩|⟨xs,hx,e'⟩|⟨kvs,hx,e'⟩
  ·subst e'
   obtain⟨its,r,pl,hz⟩:=I.list hx
   have ao:=r.length;exact wpAny_truthy_list pl.isList (by simp only[av7];omega) ⟨H,I.tok _,by rw[tT r];exact q⟩
  ·subst e'
   obtain⟨its,r,pl,hz⟩:=I.tuple hx
   have ao:=r.length;exact truthy_tuple pl (by simp only[av7];omega) ⟨H,I.tok _,by rw[tT r];exact q⟩
  ·subst e'
   obtain⟨hz,hS,vs,r,m⟩:kvs.length<=sizeLine/\(p==sysModules)=false/\∃vs,KV kvs vs/\s.heap.DictOf (mF X.prog X.w) p vs:=I.hok p _ hx
   have ao:kvs.length=vs.length:=Paired.length r;exact wpAny_truthy_dict hS m (by omega) ⟨H,I.tok _,by rw[K6 r];exact q⟩
 |_=>exact (show False from e).elim
theorem K8 (ha:PE X a ta)(he:∀whole,isTrue a X.env whole=(do let v <- whole;standAt a.pos;holding [v] (truthy v))) :
  PT X a (λσ H Q=>ta σ H λx H'=>∃k,p5 X.K x H' k/\Q k H'):=by
 intro ai s σ H Q I h;exact isTrue_plain (aL (ha ai s σ H _ I h) λv s1 ⟨x,H1,I1,r1,q1⟩=>K7 ai s1 σ H1 x v Q I1 r1 q1) (he _)
theorem iI {x:V}{us:List av}(r:aM [x] us):∃u,us = [u]/\aP x u:=by
 cases r with
 |cons r1 r2=>cases r2;exact⟨_,rfl,r1⟩
theorem K9 {x y:V}{us:List av}(r:aM [x,y] us):∃u w',us = [u,w']/\aP x u/\aP y w':=by
 cases r with
 |cons r1 r2=>
  cases r2 with
  |cons r3 r4=>cases r4;exact⟨_,_,rfl,r1,r3⟩
end
theorem g8.some_of {v:V}{o:Option av}(r:g8 (some v) o):∃u,o=some u/\aP v u:=by
 cases o with
 |none=>exact (show False from r).elim
 |some u=>exact⟨u,rfl,r⟩
structure bE (k:Nat)(A:az):Prop where
 hd:A.handled=none
 dp:A.depth+3*k+5<recursionLimit
 un:A.units+16*k+200<cLine
theorem bE.mono {j k:Nat}{A:az}(r:bE k A)(h:j<=k):bE j A:=⟨r.hd,by have:=r.dp;omega,by have:=r.un;omega⟩
theorem bE.deeper {k:Nat}{A:az}(r:bE (k+1) A)(env:Env):bE k (A.deeper env):=
 ⟨r.hd,by have:=r.dp;show A.depth+1+3*k+5<_;omega,by have:=r.un;show A.units+3+16*k+200<_;omega⟩
theorem bE.depth {k:Nat}{A:az}(r:bE k A):A.depth<recursionLimit:=by have:=r.dp;omega
theorem bE.units {k:Nat}{A:az}(r:bE k A):A.units+64<cLine:=by have:=r.un;omega
noncomputable def iJ:TA:=λ_ H Q=>Q [] H
noncomputable def eI (ta:TE)(tr:TA):TA:=λσ H Q=>ta σ H λx H1=>tr σ H1 λxs H2=>Q (x::xs) H2
section
variable {X:Cx}{e:Expr}{es:List Expr}{te:TE}{t:TA}{pos:Pos}
theorem jC:PA X [] iJ:=λ_ _ _ _ H Q I h=>Calls.spliced_nil ⟨[],H,I,.nil,h⟩
theorem eT (ha:PE X e te)(hr:PA X es t)(hs:starEach (e::es) X.env=(false,eval e X.env)::starEach es X.env:=by rfl):PA X (e::es) (eI te t):=by
 intro pos ai s σ H Q I h;rw[hs];show wpAny _ _ (spliced ((false,eval e X.env)::backTo pos (starEach es X.env))) _ _ s;refine Calls.spliced_cons (aL (ha ai s σ H _ I h) λu s1 ⟨x,H1,I1,r1,q1⟩=>?_);exact aL (hr pos ai s1 σ H1 _ I1 q1) λus s2 ⟨xs,H2,I2,r2,q2⟩=>⟨x::xs,H2,I2,.cons r1 r2,q2⟩
noncomputable def tU (t:TA):TE:=λσ H Q=>t σ H λxs H1=>xs.length<=sizeLine/\∀p,H1 p=none->Q (.ref p) (upd H1 p (.tup xs))
noncomputable def tV (t:TA):TE:=λσ H Q=>t σ H λxs H1=>xs.length<=sizeLine/\∀p,H1 p=none->Q (.ref p) (upd H1 p (.lst xs))
theorem L0 {x1}(h:PA X es t):PE X (.Tuple es x1 pos) (tU t):=by
 intro ai s σ H Q I hq;refine wpAny_Tuple_spliced (aL (h pos ai s σ H _ I hq) λus s1 ⟨xs,H1,I1,r,z,q⟩=>⟨by rw[<- r.length];exact z,?_⟩);have hf:H1 s1.heap.objs.size=none:=I1.hok.fresh (aw5 _);refine⟨.ref s1.heap.objs.size,upd H1 s1.heap.objs.size (.tup xs),I1.laid (t':=s1.toks) (λb u e=>av6 _ e) (aw5 _) ?_,rfl,q _ hf⟩
 exact⟨z,us,r,⟨_,aw8 _ rfl,rfl,_,rfl⟩,g9.new _ _ rfl⟩
theorem L1 (h:PA X es t):PE X (.List es pos) (tV t):=by
 intro ai s σ H Q I hq;refine wpAny_List_spliced (aL (h pos ai s σ H _ I hq) λus s1 ⟨xs,H1,I1,r,z,q⟩=>⟨by rw[<- r.length];exact z,?_⟩);have hf:H1 s1.heap.objs.size=none:=I1.hok.fresh (aw5 _);refine⟨.ref s1.heap.objs.size,upd H1 s1.heap.objs.size (.lst xs),I1.laid (t':=s1.toks) (λb u e=>av6 _ e) (aw5 _) ?_,rfl,q _ hf⟩
 exact⟨z,us,0,r,aw8 _ rfl⟩
end
noncomputable abbrev Sp:=List V->Hp->VK->XK->Prop
noncomputable abbrev dC:=List Env->Hp->aw->XK->av->aw->Prop
structure kM (P:ay)(w:ba)(K:ad)(mg:Str->Option av)(base:Heap)(A:az)(outer:List Env)(s:aw)(H:Hp):Prop where
 frames:A.frames=some outer
 mod:Mod K mg base
 bs:∀b o,base.get? b=some o->s.heap.get? b=some o/\H b=none
 bsz:base.objs.size<=s.heap.objs.size
 funs:s.heap.FunFrames base outer
 frf:∀b∈bN outer,H b=none
 hok:bG P w H s.heap
 bare:AllBare s.gens
noncomputable def CE (outer:List Env)(P:ay)(w:ba)(H:Hp)(s:aw)(Q:VK)(u:av)(s':aw):Prop:=
 ∃v H',s'.os=s.os/\AllBare s'.gens/\Un (bN outer) [] H H' s.heap s'.heap/\bG P w H' s'.heap/\aP v u/\Q v H'
noncomputable def CR (CX:dC)(outer:List Env)(P:ay)(w:ba)(H:Hp)(s:aw)(Q:VK)(E:XK)(r:Result)(s':aw):Prop:=
 match r with
 |.ok (.ret u)=>CE outer P w H s Q u s'
 |.ok _=>False
 |.error e=>CX outer H s E e s'
structure cE (P:ay)(w:ba)(K:ad)(mg:Str->Option av)(base:Heap)(CX:dC)(k:Nat)(f:ax)(fd:FuncData)(ps:List Str)(sp:Sp):Prop where
 len:∀vs H Q E,sp vs H Q E->vs.length=ps.length
 run:∀(A:az) (outer:List Env) (s:aw) (H:Hp) (args:Args) (us:List av) (vs:List V) (Q:VK) (E:XK),bE k A->kM P w K mg base A outer s H->BindsTo s fd args (ps.zip us)->aM vs us->sp vs H Q E->
  codeAny (model P w) A (.call (.ref f) args) (CR CX outer P w H s Q E) s
theorem cE.imp {P:ay}{w:ba}{K:ad}{mg:Str->Option av}{base:Heap}{CX:dC}{k:Nat}{f:ax}{fd:FuncData}{ps:List Str}{sp sp':Sp}(F:cE P w K mg base CX k f fd ps sp)(h:∀vs H Q E,sp' vs H Q E->sp vs H Q E):cE P w K mg base CX k f fd ps sp':=
 ⟨λvs H Q E q=>F.len vs H Q E (h _ _ _ _ q),λA outer s H args us vs Q E hr he hb hv hs=>F.run A outer s H args us vs Q E hr he hb hv (h _ _ _ _ hs)⟩
section
variable {X:Cx}{ai:List (ax×Obj)}{σ:St}{H:Hp}{s s':aw}
theorem aA.env0 (I:aA X ai σ H s):kM X.prog X.w X.K X.mg X.base X.A X.stack s H:=
 ⟨I.ok.frames,I.ok.mod,I.bs,ay7 I.ok.bsz I.sz,I.stack,I.stkFree,I.hok,I.bare⟩
theorem aA.after {Q:VK}{u:av}(I:aA X ai σ H s)(h:CE X.stack X.prog X.w H s Q u s'):EP X ai σ Q u s':=by
 obtain⟨v,H',os,bare,un,hok,r,q⟩:=h
 obtain⟨hh,g,d,t,os'⟩:=s'
 obtain rfl:os'=s.os:=os
 exact⟨v,H',I.call (h':=hh) (g':=g) (d':=d) (t':=t) (ch:=[]) un hok bare (λb z=>absurd z (by simp)),r,q⟩
end
noncomputable def jD (sp:Sp)(dvs:List V)(E:XK)(t:TA):TE:=λσ H Q=>t σ H λvs H1=>sp (vs++dvs) H1 Q E
noncomputable def fM (K:ad)(fd:FuncData)(ps:List Str)(ds:List av):Prop:=
 ∀(s:aw) (us:List av),K.In s.heap->(us++ds).length=ps.length->BindsTo s fd ⟨us,[]⟩ (ps.zip (us++ds))
theorem fM.all {K:ad}{fd:FuncData}{ps:List Str}(h:∀us:List av,us.length=ps.length->bindArgs fd ⟨us,[]⟩=pure (ps.zip us)):fM K fd ps []:=λs us _ hl=>by
 rw[aE5]at hl ⊢;exact .of_eq (h us hl)
noncomputable def iK (CX:dC)(X:Cx)(E:XK):Prop:=∀(ai:List (ax×Obj)) (σ:St) (H:Hp) (s:aw) (e:av) (s':aw),aA X ai σ H s->CX X.stack H s E e s'->X.xe e s'
section
variable {X:Cx}{CX:dC}{k:Nat}{f C:ax}{fd:FuncData}{ps:List Str}{sp:Sp}{dvs:List V}{ds:List av}{E:XK}{x m:Str}{p pos aj:Pos}{e o:Expr}{es:List Expr}{ta:TE}{t:TA}
theorem tW {ai:List (ax×Obj)}{σ:St}{H:Hp}{s:aw}{Q:VK}{us:List av}{vs:List V}(F:cE X.prog X.w X.K X.mg X.base CX k f fd ps sp)(hr:bE k X.A)(hb:fM X.K fd ps ds)(hd:aM dvs ds)(hx:iK CX X E)(I:aA X ai σ H s)(r:aM vs us)(h:sp (vs++dvs) H Q E):wpAny (model X.prog X.w) X.A (call (.ref f) us) (EP X ai σ Q) X.xe s:=by
 have r2:aM (vs++dvs) (us++ds):=r.append hd;have hl:(us++ds).length=ps.length:=by rw[<- r2.length];exact F.len _ _ _ _ h
 refine wpAny_call (codeAny_mono (F.run X.A X.stack s H ⟨us,[]⟩ (us++ds) (vs++dvs) Q E hr I.env0 (hb s us I.kIn hl) r2 h) λr s' hq=>?_);cases r with
 |error e=>exact hx ai σ H s e s' I hq
 |ok fl=>
  cases fl with
  |ret u=>exact I.after hq
  |next=>exact False.elim hq
  |brk=>exact False.elim hq
  |cont=>exact False.elim hq
theorem kN (F:cE X.prog X.w X.K X.mg X.base CX k f fd ps sp)(hr:bE k X.A)(hg:Gl X x)(hm:X.mg x=some (.ref f))(hk:PySem.W.keepIn X.K (.ref f)=true)(hb:fM X.K fd ps ds)(hd:aM dvs ds)(hx:iK CX X E)(ha:PA X (e::es) t)(hdb:(x==("__debug__":Str))=false:=by decide)(he:starEach (e::es) X.env=(false,eval e X.env)::starEach es X.env:=by rfl)(hpl:(backTo pos (starEach es X.env)).any (·.1)=false:=by rfl) :
  PE X (.Call (.Name x p) (e::es) [] pos) (jD sp dvs E t):=by
 intro ai s σ H Q I h;refine wpAny_Call_Name_kw (mH I hg hm ?_ hdb);refine PySem.W.callWith_K (h₀:=X.base) I.ok.mod.kin hk (aL (ha pos ai s σ H _ I h) λus s1 ⟨vs,H1,I1,r,q⟩=>⟨I1.kIn,?_⟩) he hpl;exact tW F hr hb hd hx I1 r q
end
noncomputable def PK (X:Cx)(kws:List Keyword)(t:TA):Prop:=
 ∀(pos:Pos) (ai:List (ax×Obj)) (s:aw) (σ:St) (H:Hp) (Q:List V->Hp->Prop),aA X ai σ H s->t σ H Q->wpAny (model X.prog X.w) X.A (evalAll ((backToKw pos (keywordEach kws X.env)).map (·.2))) (AP X ai σ Q) X.xe s
structure FnScope (N P:List Str)(sc:Scope):Prop where
 kind:sc.kind = .function
 co:sc.isCoroutine=false
 gen:sc.isGenerator=false
 nd:N.Nodup
 pre:N.take P.length=P
 par:∀x∈P,sc.names.lookup x=some .local∨sc.names.lookup x=some .cell
 nofree:∀y∈sc.names,y.2≠.free
theorem tX {kindOf:Str->Option NameKind}{x:Str}:∀{binds:List (Str×av)}{m:Str->Option av},(∀v,(x,v)∉binds)->bindL kindOf binds m x=m x
 |[],_,_=>rfl
 |(n,v)::r,m,h=>by
  unfold bindL;rw[tX λw hw=>h w (aw4 _ hw)];split
  ·have:x≠n:=by rintro rfl;exact h v av5
   simp[this]
  ·rfl
theorem tY {kindOf:Str->Option NameKind}{x:Str}:∀{binds:List (Str×av)}{m:Str->Option av},(∀v,(x,v)∉binds)->bindC kindOf binds m x=m x
 |[],_,_=>rfl
 |(n,v)::r,m,h=>by
  unfold bindC;rw[tY λw hw=>h w (aw4 _ hw)];split
  ·rfl
  ·have:x≠n:=by rintro rfl;exact h v av5
   simp[this]
theorem tZ {kindOf:Str->Option NameKind}{x:Str}{v:av}:∀{P:List Str}{vs:List av}{i:Nat}{m:Str->Option av},P.Nodup->P[i]? = some x->vs[i]? = some v->kindOf x=some .local->
  bindL kindOf (P.zip vs) m x=some v
 |[],_,_,_,_,h,_,_=>by simp at h
 |_::_,[],_,_,_,_,h,_=>by simp at h
 |p::P,w::vs,0,m,nd,h1,h2,hk=>by
  simp at h1 h2;subst h1;subst h2;show bindL kindOf ((p,w)::P.zip vs) m p=_;unfold bindL;rw[tX λv hv=>(aA3.mp nd).1 (List.of_mem_zip hv).1,if_pos hk];simp
 |p::P,w::vs,i+1,m,nd,h1,h2,hk=>by
  show bindL kindOf ((p,w)::P.zip vs) m x=_;unfold bindL;exact tZ (i:=i) (aA3.mp nd).2 (by simpa using h1) (by simpa using h2) hk
theorem u0 {kindOf:Str->Option NameKind}{x:Str}{v:av}:∀{P:List Str}{vs:List av}{i:Nat}{m:Str->Option av},P.Nodup->P[i]? = some x->vs[i]? = some v->kindOf x≠some .local->
  bindC kindOf (P.zip vs) m x=some v
 |[],_,_,_,_,h,_,_=>by simp at h
 |_::_,[],_,_,_,_,h,_=>by simp at h
 |p::P,w::vs,0,m,nd,h1,h2,hk=>by
  simp at h1 h2;subst h1;subst h2;show bindC kindOf ((p,w)::P.zip vs) m p=_;unfold bindC;rw[tY λv hv=>(aA3.mp nd).1 (List.of_mem_zip hv).1,if_neg hk];simp
 |p::P,w::vs,i+1,m,nd,h1,h2,hk=>by
  show bindC kindOf ((p,w)::P.zip vs) m x=_;unfold bindC;exact u0 (i:=i) (aA3.mp nd).2 (by simpa using h1) (by simpa using h2) hk
noncomputable def dM (N:List Str)(vs:List V):St:=vs.map some++List.replicate (N.length-vs.length) none
noncomputable def bS (CX:dC)(P:ay)(w:ba)(K:ad)(mg:Str->Option av)(base:Heap)(N:List Str)(qual:Str)(scope:Scope)(f:ax)(cd:av)(A:az)(outer:List Env)(s:aw)(H:Hp)(E:XK):Cx where
 prog:=P
 w:=w
 K:=K
 mg:=mg
 base:=base
 A:=A.deeper (envOfC qual scope s.heap.objs.size f cd)
 N:=N
 s₀:=s
 H₀:=H
 env:=envOfC qual scope s.heap.objs.size f cd
 outer:=outer
 stack:=envOfC qual scope s.heap.objs.size f cd::outer
 ex:=[]
 calm:=true
 fn:=λ_=>true
 pn:=[]
 xe:=λe s'=>wpAny (model P w) (A.deeper (envOfC qual scope s.heap.objs.size f cd)) (leaving (envOfC qual scope s.heap.objs.size f cd) e) (λ_ s''=>CX outer H s E e s'') (λe' s''=>CX outer H s E e' s'') s'
theorem u3 {sc:Scope}{n:Nat}{x:Str}(h:sc.names.lookup x=some .cell):∃c,(cellsFrom n sc.names []).lookup x=some c:=by
 have q:=PySem.W.cellsFrom_some sc.names n [] (.inl h);exact Option.isSome_iff_exists.mp q
theorem u4 {CX:dC}{P:ay}{w:ba}{K:ad}{mg:Str->Option av}{base:Heap}{N ps:List Str}{qual:Str}{scope:Scope}{f:ax}{cd:av}{A:az}{outer:List Env}{s s1:aw}{H:Hp}{E:XK}{us:List av}{vs:List V}(S:FnScope N ps scope)(hd:A.handled=none)(e0:kM P w K mg base A outer s H)(hl:vs.length=ps.length)(r:aM vs us)(x:InCallC s s.heap.objs.size (bindL (envOfC qual scope s.heap.objs.size f cd).kindOf (ps.zip us) λ_=>none) (cellsFrom (s.heap.objs.size+1) scope.names []) (bindC (envOfC qual scope s.heap.objs.size f cd).kindOf (ps.zip us) λ_=>none) s1) :
  aA (bS CX P w K mg base N qual scope f cd A outer s H E) [] (dM N vs) H s1:=by
 have hpl:ps.length<=N.length:=by have:=congrArg List.length S.pre;rw[List.length_take]at this;omega
 obtain⟨h1,tk,rfl,hk⟩:=x.done
 have noA:∀b:ax,b∉(bS CX P w K mg base N qual scope f cd A outer s H E).ex:=λb z=>absurd (show b∈([]:List ax) from z) (by simp)
 refine⟨⟨e0.mod,S.kind,rfl,rfl,aw5 _,λy z c h1 h2=>?_,λy hy=>?_,λy c _ h=>?_,λ_=>hd,Around.frames_deeper e0.frames,.inr ⟨rfl,rfl⟩,λb z=>absurd z (noA b),e0.bs,e0.bsz,λb _ _=>noA b,λb z=>absurd z (noA b),e0.funs,e0.frf⟩,
  rfl,e0.bare,Un.kept hk,⟨_,x.toInCall.ns,λi y v h1 h2 h3=>?_⟩,λy c h=>⟨_,x.cell y c h⟩,e0.hok.fresh (aw5 _),λy c h=>?_,λp hp=>absurd (show p∈([]:List (ax×Obj)) from hp) (by simp),e0.hok.kept hk,?_⟩
 ·exact name_of_addr x.apart (az1 h1) (az1 h2)
 ·have hy:scope.names.lookup y=some .cell∨scope.names.lookup y=some .free:=hy
  rcases hy with hy|hy
  ·exact u3 hy
  ·exact absurd rfl (S.nofree _ (az1 hy))
 ·exact aE7 (x.above y c (az1 h))
 ·have hi:i<vs.length:=by
   unfold dM at h2;by_cases hi:i<vs.length
   ·exact hi
   ·rw[List.getElem?_append_right (by simpa using hi)]at h2
    rw[List.getElem?_replicate]at h2;split at h2<;>cases h2
  have ha:vs[i]? = some v:=by
   unfold dM at h2;rw[List.getElem?_append_left (by simpa using hi),ax6]at h2;cases e:vs[i]? with
   |none=>rw[e]at h2;cases h2
   |some a=>rw[e]at h2;cases h2;rfl
  obtain⟨u,hu,rv⟩:=r.get ha
  have hp:ps[i]? = some y:=by
   rw[<- S.pre,List.getElem?_take_of_lt (by omega)];exact h1
  have ndP:ps.Nodup:=by rw[<- S.pre];exact S.nd.sublist (List.take_sublist _ _)
  refine⟨u,rv,?_⟩;rcases S.par y (aD5 hp) with k|k
  ·exact .inl ⟨k,tZ ndP hp hu k⟩
  ·obtain⟨c,e⟩:=u3 (n:=s.heap.objs.size+1) k
   refine .inr ⟨.inl k,c,e,?_⟩;have q:=x.cell y c e;rw[u0 ndP hp hu (by show scope.names.lookup y≠_;rw[k];decide)]at q;exact q
 ·exact e0.hok.fresh (aE7 (x.above y c (az1 h)))
 ·unfold dM
  show _=N.length;rw[ay1,av4,List.length_replicate];omega
theorem p6 {CX:dC}{P:ay}{w:ba}{K:ad}{mg:Str->Option av}{base:Heap}{k:Nat}{f:ax}{name qual:Str}{params:Arguments}{body:List Stmt}{scope:Scope}{dV kV doc pm cdv ct oc:av}{an od:Option ax}{osl:Array (Option av)}{N ps:List Str}{sp:Sp}(lk:K.lookup f=some ⟨oc,od,.func (PySem.W.fnOf name qual params body scope dV kV doc pm an cdv ct),osl⟩)(hcd:PySem.W.codeIn K cdv qual=true)(S:FnScope N ps scope)(len:∀vs H Q E,sp vs H Q E->vs.length=ps.length)(hbody:∀(A:az) (outer:List Env) (s:aw) (H:Hp) (vs:List V) (Q:VK) (E:XK),bE k (A.deeper (envOfC qual scope s.heap.objs.size f cdv))->sp vs H Q E->
   ∃t,cM (bS CX P w K mg base N qual scope f cdv A outer s H E) body t/\t { nx:=λ_ H'=>Q .non H',rt:=Q } (dM N vs) H) :
  cE P w K mg base CX (k+1) f (PySem.W.fnOf name qual params body scope dV kV doc pm an cdv ct) ps sp:=by
 refine⟨len,λA outer s H args us vs Q E hr e0 hb r hsp=>?_⟩;have hl:=len _ _ _ _ hsp;have KX:K.In s.heap:=e0.mod.kin.keeps λb o e=>(e0.bs b o e).1
 have lim:s.heap.NoLimit:=e0.mod.nolimit.keeps λb o e=>(e0.bs b o e).1
 have hkind:∀y∈ps.zip us,scope.names.lookup y.1=some .local∨(scope.names.lookup y.1=some .cell/\((cellsFrom (s.heap.objs.size+1) scope.names []).lookup y.1).isSome=true):=λ⟨n,v⟩ hy=>by
  rcases S.par n (List.of_mem_zip hy).1 with q|q
  ·exact .inl q
  ·exact .inr ⟨q,PySem.W.cellsFrom_some _ _ _ (.inl q)⟩
 refine codeAny_call_function hr.depth (KX _ _ lk) rfl S.co S.gen rfl (PySem.W.codeRec_of KX hcd) (hb _ _ _ _ ?_);refine wpAny_newFunctionEnv_cells S.kind hkind λenv he s1 x=>?_
 subst he;refine⟨lim.keeps x.toInCall.keep,codeAny_func ?_⟩
 obtain⟨t,ht,hq⟩:=hbody A outer s H vs Q E (hr.deeper _) hsp
 have I:aA (bS CX P w K mg base N qual scope f cdv A outer s H E) [] (dM N vs) H s1:=u4 S hr.hd e0 hl r x;refine az6 (ht [] s1 (dM N vs) H _ I hq) (λfl s' hs=>?_) λe s' hs=>hs
 have fin:∀{σ':St}{H':Hp}{v:V}{u:av},aA (bS CX P w K mg base N qual scope f cdv A outer s H E) [] σ' H' s'->aP v u->Q v H'->CE outer P w H s Q u s':=
  λ{σ' H' v u} J rv q=>⟨v,H',J.os,J.bare,J.base,J.hok,rv,q⟩
 cases fl with
 |ret u=>
  obtain⟨v,σ',H',J,rv,q⟩:=hs
  exact fin J rv q
 |next=>
  obtain⟨σ',H',J,q⟩:=hs
  exact fin (v:=V.non) (u:=Value.none) J rfl q
 |brk=>
  obtain⟨_,_,_,q⟩:=hs
  exact False.elim q
 |cont=>
  obtain⟨_,_,_,q⟩:=hs
  exact False.elim q
section
variable {X:Cx}{x:Str}{p pos:Pos}{e:Expr}{es:List Expr}{t:TA}{id T:String}{r:List V→Hp→VK→Prop}
noncomputable def p8 (r:List V->Hp->VK->Prop)(t:TA):TE:=λσ H Q=>t σ H λvs H1=>r vs H1 Q
theorem L3 (hc:d9 X (.builtin id) r)(hg:Gl X x)(hm:X.mg x=none)(hv:bootBuiltins x=some (.builtin id))(ha:PA X (e::es) t)(hn:x≠"__name__":=by decide)(hdb:(x==("__debug__":Str))=false:=by decide)(he:starEach (e::es) X.env=(false,eval e X.env)::starEach es X.env:=by rfl)(hpl:(backTo pos (starEach es X.env)).any (·.1)=false:=by rfl):PE X (.Call (.Name x p) (e::es) [] pos) (p8 r t):=by
 intro ai s σ H Q I h;refine wpAny_Call_Name_kw (mI I hg hm hv ?_ hn hdb);exact PyProof.Rows.callWith_builtin1 (aL (ha pos ai s σ H _ I h) λus s1 ⟨vs,H1,I1,r1,q1⟩=>hc ai s1 σ H1 vs us Q I1 r1 q1) he hpl
theorem L4 (hc:d9 X (.type T) r)(hg:Gl X x)(hm:X.mg x=none)(hv:bootBuiltins x=some (.type T))(ha:PA X (e::es) t)(hn:x≠"__name__":=by decide)(hdb:(x==("__debug__":Str))=false:=by decide)(he:starEach (e::es) X.env=(false,eval e X.env)::starEach es X.env:=by rfl)(hpl:(backTo pos (starEach es X.env)).any (·.1)=false:=by rfl):PE X (.Call (.Name x p) (e::es) [] pos) (p8 r t):=by
 intro ai s σ H Q I h;refine wpAny_Call_Name_kw (mI I hg hm hv ?_ hn hdb);exact PyProof.Rows.callWith_type1 (aL (ha pos ai s σ H _ I h) λus s1 ⟨vs,H1,I1,r1,q1⟩=>hc ai s1 σ H1 vs us Q I1 r1 q1) he hpl
end
end L2
namespace HT
open PySem PyProof.Rows
noncomputable def bX:ag->ag->Bool
 |[],[]=>false
 |[],_::_=>true
 |_::_,[]=>false
 |x::xs,y::ys=>if x=y then bX xs ys else decide (x<y)
theorem mV (x y:Int)(xs ys:ag):bX (x::xs) (y::ys)=if x=y then bX xs ys else decide (x<y):=rfl
theorem L5:bX [] []=false:=rfl
theorem L6 (y:Int)(ys:ag):bX [] (y::ys)=true:=rfl
theorem L7 (x:Int)(xs:ag):bX (x::xs) []=false:=rfl
theorem u5 (A:az)(s:aw)(a:Int)(t:Tok)(c:Int)(u:Tok):∃e,SeqAt.EqAt A s (.int a t) (.int c u) e/\(e=true↔a=c):=
 ⟨(a==c),SeqAt.EqAt.int_int a t c u,by simp⟩
theorem u6 (A:az)(s:aw)(a:Int)(t:Tok)(c:Int)(u:Tok)(prog:ay)(w:ba)(E:av->aw->Prop)(Q:av->aw->Prop)(h:Q (.bool (decide (a<c))) s) :
  wpAny (model prog w) A (richCompare .Lt (.int a t) (.int c u)) Q E s:=
 (PyProof.Rows.lt_int h:wpAny (model prog w) A (compareOp .Lt (.int a t) (.int c u)) Q E s)
section
open PySem.SeqAt
open PySem.AutoSeq1 (wpAny_loadPart')
open PySem.MeetsSeq PySem.MeetsSeq2 PySem.MeetsSeq3
theorem L8 (l b:ax)(items items2:Array av)(n n2:Nat)(dd dd2:Option ax)(sl sl2:Array (Option av))(ns ms:ag)(hi:IntsAre items.toList ns)(hj:IntsAre items2.toList ms) :
  Meets (Builtin.«tuple.__lt__» ⟨[.ref l,.ref b],[]⟩)
   (λ_ R s=>s.heap.get? l=some { cls:=.type "tuple",dict:=dd,data:=.seq items n,slots:=sl }/\s.heap.get? b=some { cls:=.type "tuple",dict:=dd2,data:=.seq items2 n2,slots:=sl2 }/\
    R (.ok (.ret (.bool (bX ns ms)))) s):=
 .of_wp λprog w A R s h=>by
  obtain⟨hp,g,d,tk,os⟩:=s;obtain⟨hl,hb,h⟩:=h
  have f2:=AutoSeq1.sub_tuple_tuple;have z1:items.size=ns.length:=by rw[<- hi.length];simp
  have z2:items2.size=ms.length:=by rw[<- hj.length];simp
  wp_walk using wpAny_loadPart' hl,wpAny_loadPart' hb,wpAny_forIn_list _ (λrest b s'=>b.1=none/\s'=⟨hp,g,d,tk,os⟩/\∃(vs ws:List av) (ns' ms':ag),rest=vs.zip ws/\
   IntsAre vs ns'/\IntsAre ws ms'/\ns'.length+items2.size=ms'.length+items.size/\R (.ok (.ret (.bool (bX ns' ms')))) ⟨hp,g,d,tk,os⟩) _
  case turn=>
   rintro⟨y,x⟩ rest b s' ⟨hb',rfl,vs,ws,ns',ms',hz,hvi,hwi,ao,hR⟩
   cases hvi with
   |nil=>rw[List.zip_nil_left]at hz;cases hz
   |cons a t hvi'=>
    cases hwi with
    |nil=>rw[List.zip_nil_right]at hz;cases hz
    |cons c u hwi'=>
     rw[aC8]at hz;injection hz with hyx hrest
     injection hyx with hy hx
     subst hy hx;rw[mV]at hR;simp only[aC9]at ao
     obtain⟨e,he,hiff⟩:=u5 A.in1 ⟨hp,g,d,tk,os⟩ a t c u
     refine av3 (he prog w _ _ ?_);cases e with
     |true=>
      rw[if_pos (hiff.mp rfl)]at hR
      wp_walk
      exact⟨rfl,rfl,_,_,_,_,hrest,hvi',hwi',by omega,hR⟩
     |false=>
      rw[if_neg (λq=>absurd (hiff.mpr q) aw9)]at hR;have hri:=u6 A.in1 ⟨hp,g,d,tk,os⟩ a t c u prog w
      wp_walk using hri
      exact⟨_,rfl,by simpa using hR⟩
  case fin=>
   rintro⟨b1,b2⟩ s' ⟨hb',rfl,vs,ws,ns',ms',hz,hvi,hwi,ao,hR⟩
   simp only at hb';subst hb';have hv:bX ns' ms'=decide (items.size<items2.size):=by
    cases hvi with
    |nil=>
     cases hwi with
     |nil=>
      simp only[List.length_nil]at ao;rw[L5];exact (aw1 (by omega)).symm
     |cons c u hw=>
      simp only[List.length_nil,aC9]at ao;rw[L6];exact (ay5 (by omega)).symm
    |cons a t hv=>
     cases hwi with
     |nil=>
      simp only[List.length_nil,aC9]at ao;rw[L7];exact (aw1 (by omega)).symm
     |cons c u hw=>
      rw[aC8]at hz;cases hz
   rw[hv]at hR
   wp_walk
   exact⟨_,rfl,by simpa[Builtin.Tuple.tupleCompareSizes] using hR⟩
  case h=>
   exact⟨rfl,rfl,items.toList,items2.toList,ns,ms,rfl,hi,hj,by omega,h⟩
end
section
variable {prog:ay}{w:ba}{A:az}{E:av→aw→Prop}{s:aw}
theorem L9 {l b:ax}{items items2:Array av}{ns ms:ag}{Q:av->aw->Prop}(hl:IsTup s.heap l items)(hb:IsTup s.heap b items2)(hi:IntsAre items.toList ns)(hj:IntsAre items2.toList ms)(hu:A.units<cLine)(h:Q (.bool (bX ns ms)) s):wpAny (model prog w) A (compareOp .Lt (.ref l) (.ref b)) Q E s:=by
 obtain⟨⟨cls,dd,data,sl⟩,ho,hc,n,hd⟩:=id hl
 obtain⟨⟨cls2,dd2,data2,sl2⟩,ho2,hc2,n2,hd2⟩:=id hb
 simp only at hc hd hc2 hd2;subst hc hd hc2 hd2;exact richCompare_meets_room (op:=.Lt) ⟨_,ho,rfl⟩ ⟨_,ho2,rfl⟩ PySem.F.slot_tuple_lt PySem.F.entry_tuple_lt (PySem.F.args_tuple_lt_2 _ _) (L8 l b items items2 n n2 dd dd2 sl sl2 ns ms hi hj)
  ⟨ho,ho2,show Value.bool (bX ns ms)≠Value.notImplemented/\Q (.bool (bX ns ms)) s from ⟨(λx=>nomatch x),h⟩⟩ hu
theorem M0 {t b:ax}{vs ws:List av}{Q:av->aw->Prop}(ht:IsTup s.heap t vs.toArray)(hb:IsTup s.heap b ws.toArray)(hv:vs≠[])(h1:ws = []->Q (.ref t) s)(h2:ws≠[]->Q (.ref s.heap.objs.size) { s with heap:=s.heap.push { cls:=.type "tuple",data:=.seq (vs++ws).toArray } })(hsz:vs.length+ws.length<=sizeLine):wpAny (model prog w) A (binaryOp .Add (.ref t) (.ref b)) Q E s:=by
 obtain⟨⟨cls,dd,data,sl⟩,ho,hc,n,hd⟩:=id ht
 obtain⟨⟨cls2,dd2,data2,sl2⟩,ho2,hc2,n2,hd2⟩:=id hb
 simp only at hc hd hc2 hd2;subst hc hd hc2 hd2;have e:vs.toArray++ws.toArray=(vs++ws).toArray:=by simp
 by_cases hw:ws = []
 ·exact concat_meets ⟨_,ho,rfl⟩ ⟨_,ho2,rfl⟩ noFill_tuple_add seq_tuple_add PySem.F.slot_tuple_add PySem.F.entry_tuple_add (PySem.F.args_tuple_add_2 _ _)
   (tuple_addW1 t b vs.toArray ws.toArray n n2 dd dd2 sl sl2 (by simpa using hv) (by simp[hw])) ⟨ho,ho2,h1 hw⟩
 ·refine concat_meets ⟨_,ho,rfl⟩ ⟨_,ho2,rfl⟩ noFill_tuple_add seq_tuple_add PySem.F.slot_tuple_add PySem.F.entry_tuple_add (PySem.F.args_tuple_add_2 _ _)
   (tuple_addW2 t b vs.toArray ws.toArray n n2 dd dd2 sl sl2 (by simpa using hv) (by simpa using hw) (by rw[av7,av7];exact hsz)) ⟨ho,ho2,?_⟩
  rw[e];exact h2 hw
end
end HT
namespace L2
open PySem PySem.Spec PyProof.Rows
noncomputable abbrev TO:=St->Hp->(Option Int->Hp->Prop)->Prop
theorem jE {ns:ag}:∀{us:List av},aM (ns.map V.int) us->IntsAre us ns:=by
 induction ns with
 |nil=>intro us r;rw[List.map_nil]at r;cases r;exact .nil
 |cons n ns ih=>
  intro us r;rw[ax2]at r;cases r with
  |cons r1 r2=>
   obtain⟨t,e⟩:=r1
   subst e;exact .cons n t (ih r2)
section
variable {X:Cx}{e:Expr}{te:TE}{lo hi:Option Expr}{tl th:TO}{pos p2:Pos}
noncomputable def M3 (K:ad):R2:=λx y H Q=>∃a b xs ys,x = .ref a/\y = .ref b/\aQ K H a xs/\aQ K H b ys/\xs≠[]/\xs.length+ys.length<=sizeLine/\
 (ys = []->Q (.ref a) H)/\(ys≠[]->∀p,H p=none->Q (.ref p) (upd H p (.tup (xs++ys))))
theorem aM.nil_iff {xs:List V}{us:List av}(r:aM xs us):us = []↔xs = []:=by
 cases r with
 |nil=>simp
 |cons _ _=>simp
theorem M4:bV X (binaryOp .Add) (M3 X.K):=by
 intro ai s σ H x y v u Q I rx ry h
 obtain⟨a,b,xs,ys,rfl,rfl,ha,hb,hx,hz,q1,q2⟩:=h
 cases rx;cases ry
 obtain⟨its,r1,p1,_⟩:=I.tuple ha
 obtain⟨aq,r2,p2,_⟩:=I.tuple hb
 refine HT.M0 p1 p2 (λz=>hx (r1.nil_iff.mp z)) (λz=>⟨.ref a,H,I,rfl,q1 (r2.nil_iff.mp z)⟩) (λz=>?_) (by rw[<- r1.length,<- r2.length];exact hz);refine⟨.ref s.heap.objs.size,_,I.laid (t':=s.toks) (o:=.tup (xs++ys)) (λb ob q=>av6 _ q) (aw5 _) ?_,rfl,q2 (λw=>z (r2.nil_iff.mpr w)) _ (I.hok.fresh (aw5 _))⟩
 exact⟨by rw[ay1];exact hz,_,r1.append r2,IsTup.new _ _,g9.new _ _ rfl⟩
end
noncomputable def gK (n:Nat)(i:Int):Option Nat:=if 0<=i then (if i<n then some i.toNat else none) else if -(n:Int)<=i then some (i+n).toNat else none
noncomputable def atI {α:Type}(xs:List α)(i:Int):Option α:=(gK xs.length i).bind λj=>xs[j]?
theorem M5 {n:Nat}{i:Int}{j:Nat}(h:gK n i=some j):seqIndex? i n=some j/\j<n/\-(n:Int)<=i/\i<n:=by
 unfold gK at h;by_cases h0:0<=i
 ·rw[if_pos h0]at h
  by_cases h1:i<n
  ·rw[if_pos h1]at h
   have e:i.toNat=j:=ax7 h
   exact⟨by rw[seqIndex_of h0 h1,e],by omega,by omega,h1⟩
  ·rw[if_neg h1]at h;cases h
 ·rw[if_neg h0]at h
  by_cases h1:-(n:Int)<=i
  ·rw[if_pos h1]at h
   have e:(i+n).toNat=j:=ax7 h
   exact⟨by rw[seqIndex_neg (by omega) h1,e],by omega,h1,by omega⟩
  ·rw[if_neg h1]at h;cases h
theorem p9 {α:Type}{xs:List α}{i:Int}{v:α}(h:atI xs i=some v):∃j,seqIndex? i xs.length=some j/\xs[j]? = some v/\j<xs.length/\-(xs.length:Int)<=i/\i<xs.length:=by
 unfold atI at h;cases e:gK xs.length i with
 |none=>rw[e]at h;cases h
 |some j=>
  rw[e]at h
  obtain⟨h1,h2,h3,h4⟩:=M5 e
  exact⟨j,h1,h,h2,h3,h4⟩
theorem u7 {α:Type}{xs:List α}{j:Nat}{v:α}(h:xs[j]? = some v):atI xs (j:Int)=some v:=by
 have hj:j<xs.length:=(ay2.mp h).1;have e:gK xs.length (j:Int)=some j:=by
  unfold gK;rw[if_pos (by omega),if_pos (by omega)];simp
 unfold atI;rw[e];exact h
theorem M6 {α:Type}(xs:List α)(v:α):atI (xs++[v]) (-1)=some v:=by
 have hl:(xs++[v]).length=xs.length+1:=by simp
 have e:gK (xs++[v]).length (-1)=some xs.length:=by
  unfold gK;rw[hl,if_neg (by decide),if_pos (by omega)];congr 1;omega
 unfold atI;rw[e];show (xs++[v])[xs.length]? = some v;simp
noncomputable def u8 (b:Expr):Prop:=∀o i,subscripted b false o i=operate [o,i] (getItem o i)
noncomputable def gL (X:Cx)(r:R2):Prop:=
 ∀(value slice:Expr) (ai:List (ax×Obj)) (s:aw) (σ:St) (H:Hp) (x y:V) (v u:av) (Q:VK),aA X ai σ H s->aP x v->aP y u->r x y H Q->
  subscripted slice false v u=operate [v,u] (getItem v u)->wpAny (model X.prog X.w) X.A (subscriptTail value slice v u) (EP X ai σ Q) X.xe s
noncomputable def u9 (X:Cx)(id:String)(r:V->List V->Hp->VK->Prop):Prop:=
 ∀(ai:List (ax×Obj)) (s:aw) (σ:St) (H:Hp) (x:V) (xs:List V) (v:av) (us:List av) (Q:VK),aA X ai σ H s->aP x v->aM xs us->r x xs H Q->
  wpAny (model X.prog X.w) X.A (call (.builtin id) (v::us)) (EP X ai σ Q) X.xe s
section
variable {X:Cx}{a b:Expr}{ta tb:TE}{pos:Pos}
theorem gL.or {r r':R2}(h:gL X r)(h':gL X r'):gL X (λx y H Q=>r x y H Q∨r' x y H Q):=by
 intro value slice ai s σ H x y v u Q I rx ry q hs;rcases q with q|q
 ·exact h value slice ai s σ H x y v u Q I rx ry q hs
 ·exact h' value slice ai s σ H x y v u Q I rx ry q hs
theorem M7 {r:R2}(hr:gL X r)(ha:PE X a ta)(hb:PE X b tb)(hs:u8 b):PE X (.Subscript a b pos) (kI r ta tb):=by
 intro ai s σ H Q I h;exact Subscript_ (oX ha hb I h λv u s2 x y H2 I2 rx ry q=>hr a b ai s2 σ H2 x y v u Q I2 rx ry q (hs _ _))
noncomputable def uA (K:ad):R2:=λx y H Q=>∃p xs i v,x = .ref p/\y = .int i/\aX K H p xs/\atI xs i=some v/\Q v H
noncomputable def uB (K:ad):R2:=λx y H Q=>∃p xs i v,x = .ref p/\y = .int i/\aQ K H p xs/\atI xs i=some v/\Q v H
noncomputable def uC:R2:=λx y H Q=>∃z i c,x = .str z/\y = .int i/\z.length<=sizeLine/\atI z.cps.toList i=some c/\Q (.str ⟨#[c]⟩) H
theorem M8:gL X (uA X.K):=by
 intro value slice ai s σ H x y v u Q I rx ry h hs
 obtain⟨p,xs,i,z,rfl,rfl,hq,he,q⟩:=h
 cases rx
 obtain⟨t,rfl⟩:=ry
 obtain⟨its,r,pl,hz⟩:=I.list hq
 obtain⟨j,h1,h2,h3,h4,h5⟩:=p9 he
 obtain⟨w,ew,rw'⟩:=r.get h2
 have hl:=r.length;have hn:=kK;have fin:EP X ai σ Q w s:=⟨z,H,I,rw',q⟩;by_cases h0:0<=i
 ·have hj:i.toNat=j:=by
   rw[seqIndex_of h0 h5]at h1;exact ax7 h1
  exact item_listR pl.isList h0 (by omega) (by rw[hj];simpa using ew) fin hs
 ·have hj:(i+(its.toArray.size:Int)).toNat=j:=by
   rw[seqIndex_neg (by omega) h4]at h1;rw[av7,<- hl];exact ax7 h1
  exact subscriptTail_builtinR (x:=w) pl.isList.typeIs slot_list_getitem.lookup
   (wpAny_getItem_list_neg (Q:=λr s'=>r=w/\EP X ai σ Q r s') pl.isList (by omega) (by rw[av7]<;>omega) (by omega) (by rw[hj];simpa using ew) ⟨rfl,fin⟩) hs
theorem M9:gL X (uB X.K):=by
 intro value slice ai s σ H x y v u Q I rx ry h hs
 obtain⟨p,xs,i,z,rfl,rfl,hq,he,q⟩:=h
 cases rx
 obtain⟨t,rfl⟩:=ry
 obtain⟨its,r,pl,hz⟩:=I.tuple hq
 obtain⟨j,h1,h2,h3,h4,h5⟩:=p9 he
 obtain⟨w,ew,rw'⟩:=r.get h2
 have hl:=r.length;have hn:=kK;have fin:EP X ai σ Q w s:=⟨z,H,I,rw',q⟩;exact subscriptTail_builtinR (x:=w) pl.typeIs slot_tuple_getitem.lookup
  (getItem_tuple (j:=j) (Q:=λr s'=>r=w/\EP X ai σ Q r s') pl (by omega) (by omega) (by rw[av7,<- hl];exact h1) (by simpa using ew) ⟨rfl,fin⟩) hs
theorem N0:gL X uC:=by
 intro value slice ai s σ H x y v u Q I rx ry h hs
 obtain⟨z,i,c,rfl,rfl,hz,he,q⟩:=h
 obtain⟨t,rfl⟩:=rx
 obtain⟨t',rfl⟩:=ry
 obtain⟨j,h1,h2,h3,h4,h5⟩:=p9 he
 have hl:z.cps.toList.length=z.length:=by simp[Str.length]
 rw[hl]at h1 h4 h5;have hn:=kK
 exact tail_any (typeIs_str s z t) slot_str_getitem.lookup (getItem_str (c:=c) (by
  have e1:decide (i < -(2^63:Int))=false:=aw1 (by omega);have e2:decide (i >= 2^63)=false:=aw1 (by omega)
  rw[e1,e2,Bool.or_false]) (by rw[h1];simpa using h2) ⟨.str ⟨#[c]⟩,H,I.tok _,⟨_,rfl⟩,q⟩) hs
noncomputable def uD (K:ad):R2:=λx y H Q=>uA K x y H Q∨uB K x y H Q∨uC x y H Q
theorem N1:gL X (uD X.K):=M8.or (M9.or N0)
theorem N2:d9 X (.builtin "len") (λxs H Q=>∃p ys,xs = [.ref p]/\(aX X.K H p ys∨aQ X.K H p ys)/\Q (.int ys.length) H):=by
 intro ai s σ H xs us Q I r h
 obtain⟨p,ys,rfl,hq,q⟩:=h
 obtain⟨u,rfl,rx⟩:=iI r
 cases rx;have hn:=kK;rcases hq with hq|hq
 ·obtain⟨its,r',pl,hz⟩:=I.list hq
  have ao:=r'.length;exact Calls.call_len_list pl.isList (by simp only[av7]<;>omega) ⟨.int ys.length,H,I.tok _,⟨s.toks+1,by rw[av7,ao]⟩,q⟩
 ·obtain⟨its,r',pl,hz⟩:=I.tuple hq
  have ao:=r'.length;exact len_tuple pl (by simp only[av7]<;>omega) ⟨.int ys.length,H,I.tok _,⟨s.toks+1,by rw[av7,ao]⟩,q⟩
theorem d9.or {f:av}{r r':List V->Hp->VK->Prop}(h:d9 X f r)(h':d9 X f r'):d9 X f (λxs H Q=>r xs H Q∨r' xs H Q):=by
 intro ai s σ H xs us Q I rs q;rcases q with q|q
 ·exact h ai s σ H xs us Q I rs q
 ·exact h' ai s σ H xs us Q I rs q
theorem N3:d9 X (.type "tuple") (λxs H Q=>∃p ys,xs = [.ref p]/\((aX X.K H p ys/\∀l,H l=none->Q (.ref l) (upd H l (.tup ys)))∨(aQ X.K H p ys/\Q (.ref p) H))):=by
 intro ai s σ H xs us Q I r h
 obtain⟨p,ys,rfl,h⟩:=h
 obtain⟨u,rfl,rx⟩:=iI r
 cases rx;rcases h with⟨hq,q⟩|⟨hq,q⟩
 ·obtain⟨its,r',pl,hz⟩:=I.list hq
  have ao:=r'.length;refine call_tuple_list pl.isList (λh' kp=>?_) (by simp only[av7]<;>omega);have I1:aA X ai σ H { s with heap:=h' }:=I.kept (t':=s.toks) kp;have I2:aA X ai σ (upd H h'.objs.size (.tup ys)) { s with heap:=h'.push { cls:=.type "tuple",data:=.seq its.toArray } }:=
   I1.laid (t':=s.toks) (λb o e=>av6 _ e) (aw5 _) (show bK X.prog X.w _ _ _ (.tup ys) from ⟨hz,its,r',IsTup.new _ _,g9.new _ _ rfl⟩)
  exact⟨.ref h'.objs.size,_,I2,rfl,q _ (I1.hok.fresh (aw5 _))⟩
 ·obtain⟨its,r',pl,hz⟩:=I.tuple hq
  exact call_tuple_same pl ⟨.ref p,H,I,rfl,q⟩
noncomputable def kO (K:ad)(T:String)(x:V)(H:Hp):Prop:=match x with
 |.str _=>T="str"
 |.int _=>T="int"
 |.ref p=>(T="list"/\∃xs,aX K H p xs)∨(T="tuple"/\∃o,K.lookup p=some o/\o.cls = .type "tuple"/\o.dict=none) ∨
   (T="dict"/\((∃kvs,H p=some (.dK kvs))∨∃kvs,H p=some (.dT kvs)))∨(T="set"/\∃S n,H p=some (.set S n))
 |_=>False
theorem uE {ai:List (ax×Obj)}{σ:St}{H:Hp}{s:aw}{T:String}{x:V}{v:av}(I:aA X ai σ H s)(r:aP x v)(ty:kO X.K T x H) :
  s.TypeIs v T/\∀a,v = .ref a->∃ob,s.heap.get? a=some ob/\ob.dict=none:=by
 cases x with
 |str z=>
  obtain⟨t,rfl⟩:=r
  cases (show T="str" from ty)
  exact⟨typeIs_str s z t,λ_ e=>nomatch e⟩
 |int i=>
  obtain⟨t,rfl⟩:=r
  cases (show T="int" from ty)
  exact⟨typeIs_int s i t,λ_ e=>nomatch e⟩
 |ref p=>
  cases r;rcases ty with⟨rfl,xs,hq⟩|⟨rfl,o,hk,hc,hd⟩|⟨rfl,hk⟩|⟨rfl,S,n,hk⟩
  ·obtain⟨its,_,pl,_⟩:=I.list hq
   refine⟨pl.isList.typeIs,λa e=>?_⟩;cases e
   obtain⟨o,n,e,c,hd,_⟩:=pl
   exact⟨o,e,hd⟩
  ·refine⟨⟨o,I.kIn p o hk,hc⟩,λa e=>?_⟩
   cases e
   exact⟨o,I.kIn _ o hk,hd⟩
  ·have z:∃o,s.heap.get? p=some o/\o.ExactDict:=by
    rcases hk with⟨kvs,hk⟩|⟨kvs,hk⟩
    ·obtain⟨_,_,_,_,o,_,_,e,ex,_⟩:=I.hok p _ hk
     exact⟨o,e,ex⟩
    ·obtain⟨_,_,_,_,o,_,_,e,ex,_⟩:=I.hok p _ hk
     exact⟨o,e,ex⟩
   obtain⟨o,e,ex⟩:=z
   refine⟨⟨o,e,ex.1⟩,λa e2=>?_⟩;cases e2
   exact⟨o,e,ex.2.1⟩
  ·obtain⟨o,_,_,_,e,ex,_⟩:=I.hok p _ hk
   refine⟨⟨o,e,ex.1⟩,λa e2=>?_⟩;cases e2
   exact⟨o,e,ex.2.1⟩
 |_=>exact False.elim ty
noncomputable def uF (K:ad)(T:String)(r:V->List V->Hp->VK->Prop)(to:TE):TE:=λσ H Q=>to σ H λx H1=>kO K T x H1/\r x [] H1 Q
noncomputable def uG (K:ad)(T:String)(r:V->List V->Hp->VK->Prop)(to:TE)(t:TA):TE:=λσ H Q=>to σ H λx H1=>kO K T x H1/\t σ H1 λxs H2=>r x xs H2 Q
variable {o e:Expr}{es:List Expr}{to:TE}{t:TA}{name:Str}{aj am:Pos}{T id:String}{r:V→List V→Hp→VK→Prop}
theorem N4 (pa:PlainAttrs T)(slot:Slot T name id)(hty:typeOf (.builtin id)=pure (.type "method_descriptor"))(hm:u9 X id r)(ho:PE X o to)(hbase:attributeBase o name X.env (eval o X.env)=eval o X.env:=by rfl)(hline:(aj.endLine==am.line)=true:=by rfl):PE X (.Call (.Attribute o name aj) [] [] am) (uF X.K T r to):=by
 intro ai s σ H Q I h;refine wpAny_Call_method0_late hbase hline (aL (ho ai s σ H _ I h) λv s1 ⟨x,H1,I1,r1,ty,q1⟩=>?_)
 obtain⟨h1,h2⟩:=uE I1 r1 ty
 exact⟨T,id,pa,slot,hty,h1,h2,Calls.callWith_builtin rfl (PySem.evalArgs_none (hm ai s1 σ H1 x [] v [] Q I1 r1 .nil q1))⟩
theorem N5 (pa:PlainAttrs T)(slot:Slot T name id)(hty:typeOf (.builtin id)=pure (.type "method_descriptor"))(hm:u9 X id r)(ho:PE X o to)(ha:PA X (e::es) t)(hbase:attributeBase o name X.env (eval o X.env)=eval o X.env:=by rfl)(hfew:((backTo am (starEach (e::es) X.env)).all (λx=>!x.1)&&(backToKw am (keywordEach [] X.env)).all (λx=>x.1.isSome)
  &&decide ((e::es).length+([]:List Keyword).length+(if ([]:List Keyword).isEmpty then 0 else 1)<30))=true:=by rfl)(hline:(aj.endLine==am.line)=true:=by rfl)(hs:starEach (e::es) X.env=(false,eval e X.env)::starEach es X.env:=by rfl)(ar:(backTo am (starEach es X.env)).any (·.1)=false:=by rfl) :
  PE X (.Call (.Attribute o name aj) (e::es) [] am) (uG X.K T r to t):=by
 intro ai s σ H Q I h;refine wpAny_Call_method_late hbase hfew hline rfl (aL (ho ai s σ H _ I h) λv s1 ⟨x,H1,I1,r1,ty,q1⟩=>?_)
 obtain⟨h1,h2⟩:=uE I1 r1 ty
 refine⟨T,id,pa,slot,hty,h1,h2,?_⟩;have hA:=ha am ai s1 σ H1 _ I1 q1;rw[hs]at hA ⊢;refine Calls.callWith_builtin (by show (false||(backTo am (starEach es X.env)).any (·.1))=false;rw[ar]<;>rfl) (Calls.evalArgs_plain ?_);exact aL hA λus s2 ⟨vs,H2,I2,r2,q2⟩=>hm ai s2 σ H2 x vs v us Q I2 r1 r2 q2
end
noncomputable def kP (X:Cx)(id:String)(r:V->List V->Hp->VK->Prop):Prop:=
 ∀(ai:List (ax×Obj)) (s:aw) (σ:St) (H:Hp) (x:V) (xs:List V) (v:av) (us:List av) (Q:VK),aA X ai σ H s->aP x v->aM xs us->r x xs H Q->
  wpAny (model X.prog X.w) X.A (call (.builtin id) (v::us)) (EP X ai σ Q) X.xe s
theorem aM.one {x:V}{us:List av}(h:aM [x] us):∃u,us = [u]/\aP x u:=by
 cases h with
 |cons r t=>
  cases t
  exact⟨_,rfl,r⟩
theorem aM.two {x y:V}{us:List av}(h:aM [x,y] us):∃u v,us = [u,v]/\aP x u/\aP y v:=by
 cases h with
 |cons r t=>
  cases t with
  |cons q t=>
   cases t
   exact⟨_,_,rfl,r,q⟩
theorem aM.zero:∀{us:List av},aM [] us->us = []
 |_,.nil=>rfl
theorem aM.dropLast {xs:List V}{us:List av}(h:aM xs us):aM xs.dropLast us.dropLast:=by
 induction h with
 |nil=>exact .nil
 |cons r t ih=>
  cases t with
  |nil=>exact .nil
  |cons q t'=>exact .cons r ih
theorem aM.rep {xs:List V}{us:List av}(h:aM xs us):∀k:Nat,aM (List.replicate k xs).flatten (List.replicate k us).flatten
 |0=>.nil
 |k+1=>by
  rw[aB0,aB0,aE8,aE8];exact aM.append h (aM.rep h k)
theorem N6 {α:Type}(l:List α):l.eraseIdx (l.length-1)=l.dropLast:=by
 induction l with
 |nil=>rfl
 |cons a r ih=>
  cases r with
  |nil=>rfl
  |cons b r=>
   have e:(a::b::r).length-1=((b::r).length-1)+1:=by
    have h1:(a::b::r).length=r.length+2:=rfl;have h2:(b::r).length=r.length+1:=rfl;omega
   rw[e,List.eraseIdx_cons_succ,ih]
   all_goals rfl
theorem uH (its:List av):∀(k:Nat) (acc:List av),
  List.foldl (λx1 x2=>x1++x2) acc.toArray (List.replicate k its.toArray)=(acc++(List.replicate k its).flatten).toArray
 |0,acc=>by simp
 |k+1,acc=>by
  have e:acc.toArray++its.toArray=(acc++its).toArray:=by simp
  have e2:(acc++its)++(List.replicate k its).flatten=acc++(List.replicate (k+1) its).flatten:=by
   rw[aB0,aE8,List.append_assoc]
  rw[<- e2,<- uH its k (acc++its),<- e,aB0,List.foldl_cons]
section
variable {X:Cx}{ai:List (ax×Obj)}{σ:St}{H:Hp}{s:aw}{l b:ax}{xs ys zs:List V}
theorem aA.lset {its its':List av}{n:Nat}{f:Array av->Array av}{t':Nat}(I:aA X ai σ H s)(hH:H l=some (.lst xs))(e:s.heap.get? l=some { cls:=.type "list",data:=.seq its.toArray n })(hf:f its.toArray=its'.toArray)(hv:aM ys its')(hz:ys.length<=sizeLine) :
  aA X ai σ (upd H l (.lst ys)) { s with heap:=s.heap.update l (Obj.mapSeq f),toks:=t' }:=by
 have q:=PySem.IsL.update e f;rw[hf]at q;refine I.write (x:=l) (e:=l) (by rw[hH];exact trivial) (.inl rfl) (λb' u hb hu=>(Heap.get?_update_other s.heap (Obj.mapSeq f) (Ne.symm hb)).trans hu) ⟨_,q⟩ ?_
 exact⟨hz,its',_,hv,q⟩
theorem aA.lstM (I:aA X ai σ H s)(hH:H l=some (.lst xs)):xs.length<=sizeLine/\∃(its:List av) (n:Nat),aM xs its/\xs.length=its.length/\s.heap.get? l=some { cls:=.type "list",data:=.seq its.toArray n }:=by
 obtain⟨z,its,n,r,e⟩:=I.hok l _ hH
 exact⟨z,its,n,r,r.length,e⟩
theorem uI {n:Nat}(h:n<=sizeLine):Builtin.List.listTooLong n=false:=by
 unfold Builtin.List.listTooLong;exact aw1 (by omega)
end
section
variable {X:Cx}
noncomputable def N7:V->List V->Hp->VK->Prop:=λx vs H Q=>∃l xs y,x = .ref l/\vs = [y]/\H l=some (.lst xs)/\xs.length<sizeLine/\Q .non (upd H l (.lst (xs++[y])))
theorem N8:kP X "list.append" N7:=by
 intro ai s σ H x vs v us Q I rx rv h
 obtain⟨l,xs,y,rfl,rfl,hH,hz,q⟩:=h
 cases rx
 obtain⟨u,rfl,ru⟩:=rv.one
 obtain⟨z,its,n,r,hl,e⟩:=I.lstM hH
 refine call_meets F.slot_list_append ⟨_,e,rfl⟩ F.entry_list_append (F.args_list_append_2 _ _) (PySem.list_append l its.toArray n u (by rw[av7];omega)) ⟨e,?_⟩;refine⟨.non,_,I.lset (its':=its++[u]) hH e (by simp) (r.append (.cons ru .nil)) ?_,rfl,q⟩;rw[ay1,List.length_singleton];omega
noncomputable def uJ:V->List V->Hp->VK->Prop:=λx vs H Q=>∃l b xs zs,x = .ref l/\vs = [.ref b]/\H l=some (.lst xs)/\H b=some (.lst zs)/\xs.length+zs.length<=sizeLine/\Q .non (upd H l (.lst (xs++zs)))
theorem N9:kP X "list.extend" uJ:=by
 intro ai s σ H x vs v us Q I rx rv h
 obtain⟨l,b,xs,zs,rfl,rfl,hH,hB,hz,q⟩:=h
 cases rx
 obtain⟨u,rfl,ru⟩:=rv.one
 cases ru
 obtain⟨z,its,n,r,hl,e⟩:=I.lstM hH
 obtain⟨z2,aq,n2,r2,hl2,e2⟩:=I.lstM hB
 have hsz:its.toArray.size+aq.toArray.size<=sizeLine:=by rw[av7,av7];omega
 have hlong:¬(!its.toArray.isEmpty&&Builtin.List.listTooLong (its.toArray.size+aq.toArray.size))=true:=by
  rw[uI hsz,Bool.and_false];exact aw9
 refine call_meets F.slot_list_extend ⟨_,e,rfl⟩ F.entry_list_extend (F.args_list_extend_2 _ _)
  (AutoSeq1.list_extend_list_list_0 l its.toArray n b aq.toArray n2 hlong (by rw[av7];omega) (by omega)) ⟨e,e2,?_⟩
 refine⟨.non,_,I.lset (its':=its++aq) hH e (by simp) (r.append r2) ?_,rfl,q⟩;rw[ay1];omega
noncomputable def uK:V->List V->Hp->VK->Prop:=λx vs H Q=>∃l xs y,x = .ref l/\vs = []/\H l=some (.lst xs)/\xs[xs.length-1]? = some y/\Q y (upd H l (.lst xs.dropLast))
theorem O0:kP X "list.pop" uK:=by
 intro ai s σ H x vs v us Q I rx rv h
 obtain⟨l,xs,y,rfl,rfl,hH,hy,q⟩:=h
 cases rx;have hus:=rv.zero;subst hus
 obtain⟨z,its,n,r,hl,e⟩:=I.lstM hH
 obtain⟨u,hu,ru⟩:=r.get hy
 have hy':its.toArray[its.toArray.size-1]? = some u:=by
  show its.toArray[its.length-1]? = some u;rw[<- Array.getElem?_toList,<- hl];exact hu
 refine call_meets F.slot_list_pop ⟨_,e,rfl⟩ F.entry_list_pop (F.args_list_pop_1 _) (MeetsSeq.list_pop_last l its.toArray n u hy' (by rw[av7];omega)) ⟨e,?_⟩;refine⟨y,_,I.lset (its':=its.dropLast) hH e ?_ r.dropLast ?_,ru,q⟩
 ·show its.toArray.eraseIdxIfInBounds (its.toArray.size-1)=its.dropLast.toArray
  rw[av7,List.eraseIdxIfInBounds_toArray,N6]
 ·rw[List.length_dropLast]
  omega
theorem O1 {α:Type}(xs:List α)(k:Nat):(List.replicate k xs).flatten.length=k*xs.length:=by
 induction k with
 |zero=>simp
 |succ k ih=>rw[aB0,aE8,ay1,ih,Nat.succ_mul,Nat.add_comm]
end
section
variable {κ:Type}[DecidableEq κ]
noncomputable def eJ (kvs:List (κ×V))(k:κ):Option V:=(kvs.find? λkv=>decide (kv.1=k)).map (·.2)
noncomputable def dN (kvs:List (κ×V))(k:κ)(v:V):List (κ×V):=
 if (kvs.any λkv=>decide (kv.1=k))=true then kvs.map (λkv=>if kv.1=k then (kv.1,v) else kv) else kvs++[(k,v)]
theorem pA {p:κ×V}{r:List (κ×V)}{k:κ}(e:p.1=k):eJ (p::r) k=some p.2:=by simp[eJ,az0,e]
theorem pB {p:κ×V}{r:List (κ×V)}{k:κ}(e:¬p.1=k):eJ (p::r) k=eJ r k:=by simp[eJ,az0,e]
theorem uL (k:κ):∀kvs:List (κ×V),(kvs.any λkv=>decide (kv.1=k))=(eJ kvs k).isSome
 |[]=>rfl
 |p::r=>by
  rw[List.any_cons];by_cases e:p.1=k
  ·simp only[pA e,ay5 e,Bool.true_or,Option.isSome_some]
  ·rw[pB e,aw1 e,Bool.false_or];exact uL k r
theorem uM (kvs:List (κ×V))(k:κ)(v:V):(dN kvs k v).length<=kvs.length+1:=by
 unfold dN;split
 ·rw[av4];omega
 ·rw[ay1,aC9,List.length_nil];omega
theorem g8.isSome_eq {o:Option V}{u:Option av}(r:g8 o u):o.isSome=u.isSome:=by
 cases o with
 |none=>cases u with
  |none=>rfl
  |some _=>exact (show False from r).elim
 |some _=>cases u with
  |none=>exact (show False from r).elim
  |some _=>rfl
theorem KV.val {kvs:List (κ×V)}{vs:List (κ×av)}(r:KV kvs vs)(k:κ):g8 (eJ kvs k) (valueAt vs k):=by
 unfold KV at r
 induction r with
 |nil=>exact True.intro
 |@cons p q ps qs h t ih=>
  obtain⟨h1,h2⟩:=h
  by_cases e:p.1=k
  ·have e':q.1=k:=h1.symm.trans e
   have b:valueAt (q::qs) k=some q.2:=by simp[valueAt,az0,e']
   rw[pA e,b];exact h2
  ·have e':¬q.1=k:=λz=>e (h1.trans z)
   have b:valueAt (q::qs) k=valueAt qs k:=by simp[valueAt,az0,e']
   rw[pB e,b];exact ih
theorem KV.any {kvs:List (κ×V)}{vs:List (κ×av)}(r:KV kvs vs)(k:κ):(kvs.any λkv=>decide (kv.1=k))=vs.any λkv=>decide (kv.1=k):=by
 unfold KV at r
 induction r with
 |nil=>rfl
 |cons h t ih=>rw[List.any_cons,List.any_cons,ih,h.1]
theorem KV.repl {kvs:List (κ×V)}{vs:List (κ×av)}(r:KV kvs vs)(k:κ){y:V}{u:av}(ry:aP y u) :
  KV (kvs.map λkv=>if kv.1=k then (kv.1,y) else kv) (vs.map λkv=>if kv.1=k then (kv.1,u) else kv):=by
 unfold KV at r ⊢
 induction r with
 |nil=>exact .nil
 |@cons p q ps qs h t ih=>
  rw[ax2,ax2];refine .cons ?_ ih
  obtain⟨h1,h2⟩:=h
  by_cases e:p.1=k
  ·rw[if_pos e,if_pos (h1.symm.trans e)];exact⟨h1,ry⟩
  ·rw[if_neg e,if_neg (λz=>e (h1.trans z))];exact⟨h1,h2⟩
theorem KV.put {kvs:List (κ×V)}{vs:List (κ×av)}(r:KV kvs vs)(k:κ){y:V}{u:av}(ry:aP y u):KV (dN kvs k y) (stored vs k u):=by
 unfold dN stored;rw[r.any k];by_cases e:(vs.any λkv=>decide (kv.1=k))=true
 ·rw[if_pos e,if_pos e];exact r.repl k ry
 ·rw[if_neg e,if_neg e];exact Paired.snoc r ⟨rfl,ry⟩
theorem KV.length {kvs:List (κ×V)}{vs:List (κ×av)}(r:KV kvs vs):kvs.length=vs.length:=Paired.length r
end
section
variable {P:ay}{w:ba}{H:Hp}{h:Heap}{a:ax}
theorem pC {u:HO}(ok:bG P w H h)(e:Rd H a u):bK P w H h a u:=e.ok ok
theorem O2 {kvs:List (bJ×V)}(ok:bG P w H h)(e:Rd H a (.dK kvs)):kvs.length<=sizeLine/\(a==sysModules)=false/\∃vs,KV kvs vs/\h.DictOf (mF P w) a vs:=
 show bK P w H h a (.dK kvs) from pC ok e
end
section
variable {X:Cx}{ai:List (ax×Obj)}{σ:St}{H:Hp}{s:aw}{a:ax}{y v:V}{u r:av}{o:Option V}{A:az}{E:av→aw→Prop}
theorem aA.big (I:aA X ai σ H s):sysModules<s.heap.objs.size:=by
 have h:mainGlobals<s.heap.objs.size:=(I.mod.glob.keeps I.bk).lt;exact Nat.lt_trans (by decide) h
theorem pD {h':Heap}{t':Nat}{ob:HO}(I:aA X ai σ H s)(mu:kD (H a))(hs:Heap.SameBut a s.heap h')(he:∃q,h'.get? a=some q)(new:bK X.prog X.w (upd H a ob) h' a ob) :
  aA X ai σ (upd H a ob) { s with heap:=h',toks:=t' }:=
 I.write (x:=a) (e:=a) mu (.inl rfl) (λb q hb z=>(hs.2 b hb).trans z) he new
end
section
variable {X:Cx}{ai:List (ax×Obj)}{σ:St}{H:Hp}{s:aw}{a:ax}{kvs:List (bJ×V)}{k:bJ}{u:av}{A:az}{E:av→aw→Prop}
theorem O3 {Q:av->aw->Prop}(I:aA X ai σ H s)(e:Rd H a (.dK kvs))(h:∀t s',aA X ai σ H s'->Q (.int kvs.length t) s'):wpAny (model X.prog X.w) A (call (.builtin "len") [.ref a]) Q E s:=by
 obtain⟨z,hd,vs,rel,dd⟩:=O2 I.hok e
 refine call_len_dict hd dd (by rw[<- rel.length];rw[sizeLine_eq]at z;omega) ?_;rw[<- rel.length];exact h _ _ (I.tok _)
end
noncomputable def pE (i:Expr):Prop:=∀ov iv,subscripted i false ov iv=operate [ov,iv] (getItem ov iv)
theorem O4 {prog:ay}{w:ba}{A:az}{E:av->aw->Prop}{s:aw}{env:Env}{value slice:Expr}{pos:Pos}{T id:String}{Q:av->aw->Prop}(hl:typeLookup (.type T) "__getitem__" = pure (some (.builtin id)))(hs:pE slice)(h:wpAny (model prog w) A (eval value env) (λo s₁=>wpAny (model prog w) A (eval slice env) (λi s₂=>s₂.TypeIs o T/\wpAny (model prog w) A (getItem o i) Q E s₂) E s₁) E s) :
  wpAny (model prog w) A (eval (.Subscript value slice pos) env) Q E s:=by
 refine Subscript_ (az6 h (λo s₁ h₁=>az6 h₁ (λi s₂ h₂=>?_) λ_ _ x=>x) λ_ _ x=>x)
 obtain⟨hT,h₂⟩:=h₂
 unfold subscriptTail;refine av3 ?_;rw[getitemInPython_of_ne hT.not_modules];refine av3 (wpAny_specialOf hT hl ?_);have fin:wpAny (model prog w) A (subscripted slice false o i) (λr s₃=>wpAny (model prog w) A (letTemporaryGo value o r >>= λ_=>pure r) Q E s₃) E s₂:=by
  rw[hs o i];exact wpAny_operating (az6 h₂ (λr s₃ h₃=>av3 (wpAny_letTemporaryGo (av8 h₃))) λ_ _ x=>x)
 first
  |exact av8 (av3 fin)
  |exact av3 (av8 (av3 fin))
  |exact av3 fin
structure M1 (X:Cx)(o:Expr)(m:Str)(aj:Pos)(e:Expr)(am:Pos):Prop where
 base:attributeBase o m X.env (eval o X.env)=eval o X.env
 few:((backTo am (starEach [e] X.env)).all (λx=>!x.1)&&(backToKw am (keywordEach [] X.env)).all (λx=>x.1.isSome)
 &&decide (([e]:List Expr).length+([]:List Keyword).length+(if ([]:List Keyword).isEmpty then 0 else 1)<30))=true
 line:(aj.endLine==am.line)=true
 trees:backTo am (starEach [e] X.env) = [(false,eval e X.env)]
structure M2 (X:Cx)(o:Expr)(m:Str)(aj:Pos)(e f:Expr)(am:Pos):Prop where
 base:attributeBase o m X.env (eval o X.env)=eval o X.env
 few:((backTo am (starEach [e,f] X.env)).all (λx=>!x.1)&&(backToKw am (keywordEach [] X.env)).all (λx=>x.1.isSome)
 &&decide (([e,f]:List Expr).length+([]:List Keyword).length+(if ([]:List Keyword).isEmpty then 0 else 1)<30))=true
 line:(aj.endLine==am.line)=true
 trees:backTo am (starEach [e,f] X.env) = [(false,eval e X.env),(false,eval f X.env)]
end L2
namespace Att
open PySem PySem.W PySem.Calls PyProof.Rows
theorem O5 {P:Params}{h:Heap}:∀(ns:ag) (vs:List av),WellAll P h vs (ns.map WData.int)->IntsAre vs ns:=by
 intro ns
 induction ns with
 |nil=>
  intro vs w;rw[List.map_nil]at w;cases w;exact .nil
 |cons n ns ih=>
  intro vs w;rw[ax2]at w;cases w with
  |cons a b=>
   cases a;exact .cons _ _ (ih _ b)
theorem uN {l:OpenLaw}{n:Nat}(hn:l.most=some n){P:Params}{h:Heap}{args:List WData}{vals:List av}(hpre:l.row.toRowW.claim.pre args=true)(hwl:WellAll P h vals args) :
  ∃a vs ns,vals = [Value.ref a]/\args = [WData.list (ns.map WData.int)]/\h.get? a=some { cls:=.type "list",data:=.seq vs.toArray }/\IntsAre vs ns/\ns.length<=n:=by
 have hsh:WShape.hasAll [] args [.list .int]=true:=(pre_splitW hpre).1;have hc:l.pre.holds [] { args:=args }=true:=(pre_splitW hpre).2
 obtain⟨d,r,rfl,h1,h2⟩:=hasAllW_cons hsh
 obtain rfl:=hasAllW_nil h2
 obtain⟨xs,rfl,h3⟩:=hasW_list h1
 obtain⟨ns,rfl⟩:=items_int h3
 have ao:ns.length<=n:=by
  unfold OpenLaw.pre at hc;have h4:(WTm.not (.lt (.lit (.int (n:Int))) (.len (.arg 0)))).holds [] { args:=[.list (ns.map .int)] }=true:=by
   have h4:=(holds_andW hc).1;rw[hn]at h4;exact h4
  have h5:=condW_of h4 (w_not (w_lt w_lit (w_len_list (w_arg rfl))));rw[av4]at h5;refine Nat.le_of_not_lt λq=>?_
  have q':(n:Int)<((ns.length:Nat):Int):=by omega
  first
   |(rw[ay5 q']at h5;exact absurd h5 (by decide))
   |(simp at h5;omega)
 cases hwl with
 |cons w1 w2=>
  cases w2;cases w1 with
  |list ho hall=>exact⟨_,_,ns,rfl,rfl,ho,O5 ns _ hall,ao⟩
theorem uO (l:OpenLaw)(args:List WData):l.row.toRowW.claim.post args (.bool true) args=true:=
 postW_of (r:=l.row.toRowW) (X:=(true==true))
  (show WShape.has [] (.bool true) .bool=true by first|rfl|decide|simp[WShape.has,WShape.arms,WShape.armsAll])
  (show (WTm.eq .res (.lit (.bool true))).value [] { args:=args,res:=some (.bool true),after:=args }=some (.bool (true==true)) from w_eq_bool (w_res rfl) w_lit) rfl
theorem av1 {l:OpenLaw}{n:Nat}{q:ay}{loose:List Str}{XP:(Str->Option av)->Heap->Prop}{YP:ba->Heap->Prop}{d:DefRec}{x:Str}(hn:l.most=some n)(hdf:d.params.defaults = [])(hbind:∀pm cd doc v:av,bindArgs (docDef d.name d.params d.body d.scope pm cd doc) ⟨[v],[]⟩=pure [(x,v)])(hx:d.scope.names.lookup x=some .local∨d.scope.names.lookup x=some .cell)(hk:d.scope.kind = .function)(hco:d.scope.isCoroutine=false)(hgen:d.scope.isGenerator=false)(body:∀(w:ba) (s₀ s₁ s:aw) (mg mb:Str->Option av) (fa:ax) (o:Obj) (pm cd doc:av) (a:ax) (vs:List av) (ns:ag),
   Ground q loose [] XP w s₀ mg mb s₁.heap->YP w s₁.heap->
   s₁.heap.get? fa=some o->o.data = .func (docDef d.name d.params d.body d.scope pm cd doc)->s₁.heap.CodeRec cd d.name->mg d.name=some (.ref fa)->
   s₁.heap.get? a=some { cls:=.type "list",data:=.seq vs.toArray }->IntsAre vs ns->ns.length<=n->
   s.gens = #[]->s.os=s₁.os->
   Fr s₁.heap s₁.heap.objs.size s.heap (bindL (envOfC d.name d.scope s₁.heap.objs.size fa cd).kindOf [(x,.ref a)] λ_=>none)->
   Cl s₁.heap.objs.size (cellsFrom (s₁.heap.objs.size+1) d.scope.names []) s.heap (bindC (envOfC d.name d.scope s₁.heap.objs.size fa cd).kindOf [(x,.ref a)] λ_=>none)->
   wpAny (model l.prog w) (callerA.deeper (envOfC d.name d.scope s₁.heap.objs.size fa cd)) (execs d.body (envOfC d.name d.scope s₁.heap.objs.size fa cd))
    (λf s'=>f = .ret (.bool true)/\OldK s₁.heap s'.heap/\s'.os=s₁.os/\AllBare s'.gens) (λ_ _=>False) s) :
  WalkO q loose XP YP l.row.toRowW d [] (λf vs=>PySem.call f vs):=by
 intro w s₀ s₁ mg mb G Y fa o pm cd doc dV kV ho hd hcd hD hmg hg args vals as hpre hlay hrd hwl hlo;obtain rfl:dV = .none:=Dflts.none hD hdf;obtain rfl:kV = .none:=Dflts.noKw hD
 obtain⟨a,vs,ns,rfl,rfl,hobj,hints,ao⟩:=uN hn hpre hwl
 refine enter_call ?_;refine call_cells_ret (o:=o) (by rw[depth_caller];decide) ho (fd_plain hd) G.T.nolimit hcd (hbind pm cd doc (.ref a)) (λy hy=>?_) (λh₁ tk F X=>?_) hco hgen hk
 ·obtain rfl:y=(x,Value.ref a):=aw2.mp hy
  rcases hx with e|e
  ·exact .inl e
  ·exact .inr ⟨e,cellsFrom_some _ _ _ (.inl e)⟩
 ·refine az6 (body w s₀ s₁ { s₁ with heap:=h₁,toks:=tk } mg mb fa o pm cd doc a vs ns G Y ho (fd_plain hd) hcd hmg hobj hints ao hg rfl F X) (λf s' hq=>?_) (λ_ _ hq=>hq)
  obtain⟨rfl,h2,h3,h4⟩:=hq
  exact⟨.inl ⟨.bool true,.bool true,[],rfl,λ_=>rfl,.bool true,uO l _,λ_=>⟨List.Pairwise.nil,λ_ hm=>(nomatch hm)⟩⟩,h2,h3,h4⟩
theorem O6 {l:OpenLaw}{n:Nat}{q:ay}{loose:List Str}{XP:(Str->Option av)->Heap->Prop}{YP:ba->Heap->Prop}{d:DefRec}(hn:l.most=some n)(hdf:d.params.defaults = [])(call:∀(w:ba) (s₀ s₁:aw) (mg mb:Str->Option av) (fa:ax) (o:Obj) (pm cd doc:av) (a:ax) (vs:List av) (ns:ag),
   Ground q loose [] XP w s₀ mg mb s₁.heap->YP w s₁.heap->
   s₁.heap.get? fa=some o->o.data = .func (docDef d.name d.params d.body d.scope pm cd doc)->s₁.heap.CodeRec cd d.name->mg d.name=some (.ref fa)->
   s₁.heap.get? a=some { cls:=.type "list",data:=.seq vs.toArray }->IntsAre vs ns->ns.length<=n->s₁.gens = #[]->
   codeAny (model l.prog w) callerA (.call (.ref fa) ⟨[.ref a],[]⟩) (λr s'=>r = .ok (.ret (.bool true))/\OldK s₁.heap s'.heap/\s'.os=s₁.os/\AllBare s'.gens) s₁) :
  WalkO q loose XP YP l.row.toRowW d [] (λf vs=>PySem.call f vs):=by
 intro w s₀ s₁ mg mb G Y fa o pm cd doc dV kV ho hd hcd hD hmg hg args vals as hpre hlay hrd hwl hlo;obtain rfl:dV = .none:=Dflts.none hD hdf;obtain rfl:kV = .none:=Dflts.noKw hD
 obtain⟨a,vs,ns,rfl,rfl,hobj,hints,ao⟩:=uN hn hpre hwl
 refine enter_call (codeAny_mono (call w s₀ s₁ mg mb fa o pm cd doc a vs ns G Y ho (fd_plain hd) hcd hmg hobj hints ao hg) λr s' hq=>?_)
 obtain⟨rfl,h2,h3,h4⟩:=hq
 exact⟨.inl ⟨.bool true,.bool true,[],rfl,λ_=>rfl,.bool true,uO l _,λ_=>⟨List.Pairwise.nil,λ_ hm=>(nomatch hm)⟩⟩,h2,h3,h4⟩
end Att
namespace L2
open PySem PySem.Spec PyProof.Rows
theorem uP:∀{vs:List av}{ns:ag},IntsAre vs ns->aM (ns.map V.int) vs
 |_,_,.nil=>.nil
 |_,_,.cons n t h=>.cons ⟨t,rfl⟩ (uP h)
noncomputable def bH (s:Stmt):Arguments:=match s with
 |.FunctionDef _ a _ _ _ _ _ _ _ _=>a
 |_=>{ posonlyargs:=[],args:=[],vararg:=none,kwonlyargs:=[],kw_defaults:=[],kwarg:=none,defaults:=[] }
noncomputable def b8 (s:Stmt):List Stmt:=match s with
 |.FunctionDef _ _ b _ _ _ _ _ _ _=>b
 |_=>[]
noncomputable def aJ (s:Stmt):Scope:=match s with
 |.FunctionDef _ _ _ _ _ _ sc _ _ _=>sc
 |_=>{ kind:=.function,names:=[],isGenerator:=false,isCoroutine:=false }
noncomputable abbrev bT:dC:=λ_ _ _ _ _ _=>False
noncomputable abbrev E0:XK:=λ_ _ _=>False
theorem jF {X:Cx}:iK bT X E0:=λ_ _ _ _ _ _ _ h=>h.elim
structure bM (K:ad)(x qual:Str)(st:Stmt)(f:ax)(fd:FuncData):Prop where
 ex:∃(oc:av) (od:Option ax) (kV doc pm:av) (an:Option ax) (cdv ct:av) (osl:Array (Option av)),
  fd=PySem.W.fnOf x qual (bH st) (b8 st) (aJ st) .none kV doc pm an cdv ct/\K.lookup f=some ⟨oc,od,.func fd,osl⟩/\PySem.W.codeIn K cdv qual=true
 kp:PySem.W.keepIn K (.ref f)=true
section
variable {P:ay}{w:ba}{K:ad}{mg:Str→Option av}{base:Heap}
theorem bM.ok {x qual:Str}{st:Stmt}{f:ax}{fd:FuncData}{N ps:List Str}{k:Nat}{sp:Sp}(F:bM K x qual st f fd)(S:FnScope N ps (aJ st))(len:∀vs H Q E,sp vs H Q E->vs.length=ps.length)(hbody:∀(cdv:av) (A:az) (outer:List Env) (s:aw) (H:Hp) (vs:List V) (Q:VK) (E:XK),bE k (A.deeper (envOfC qual (aJ st) s.heap.objs.size f cdv))->sp vs H Q E->
   ∃t,cM (bS bT P w K mg base N qual (aJ st) f cdv A outer s H E).nox (b8 st) t/\t { nx:=λ_ H'=>Q .non H',rt:=Q } (dM N vs) H):cE P w K mg base bT (k+1) f fd ps sp:=by
 obtain⟨oc,od,kV,doc,pm,an,cdv,ct,osl,rfl,lk,hcd⟩:=F.ex
 refine p6 lk hcd S len λA outer s H vs Q E hr hsp=>?_
 obtain⟨t,h,q⟩:=hbody cdv A outer s H vs Q E hr hsp
 exact⟨t,h.nox,q⟩
theorem bM.binds {x qual:Str}{st:Stmt}{f:ax}{fd:FuncData}{ps:List Str}(F:bM K x qual st f fd)(h:∀(kV doc pm:av) (an:Option ax) (cdv ct:av) (us:List av),us.length=ps.length->bindArgs (PySem.W.fnOf x qual (bH st) (b8 st) (aJ st) .none kV doc pm an cdv ct) ⟨us,[]⟩=pure (ps.zip us)):fM K fd ps []:=by
 obtain⟨oc,od,kV,doc,pm,an,cdv,ct,osl,rfl,lk,hcd⟩:=F.ex
 exact .all (h kV doc pm an cdv ct)
theorem cY {x qual:Str}{st:Stmt}{f:ax}{oc:av}{od an:Option ax}{osl:Array (Option av)}{kV doc pm cdv ct:av}(l:K.lookup f=some ⟨oc,od,.func (PySem.W.fnOf x qual (bH st) (b8 st) (aJ st) .none kV doc pm an cdv ct),osl⟩)(c:PySem.W.codeIn K cdv qual=true)(k:PySem.W.keepIn K (.ref f)=true):bM K x qual st f (PySem.W.fnOf x qual (bH st) (b8 st) (aJ st) .none kV doc pm an cdv ct):=⟨⟨oc,od,kV,doc,pm,an,cdv,ct,osl,rfl,l,c⟩,k⟩
end
theorem O7 {n:Nat}(h:n<=1000):n<sizeLine:=Nat.lt_of_le_of_lt h (by decide)
section
variable {X:Cx}
theorem pv (i:Nat){x:Str}{pos:Pos}(hN:X.N[i]? = some x:=by rfl)(hv:dL X.env.scope x:=by first|exact Or.inl rfl|exact Or.inr (Or.inl rfl)|exact Or.inr (Or.inr rfl))(hd:(x==("__debug__":Str))=false:=by decide)(hcd:(x==("__classdict__":Str))=false:=by decide):PE X (.Name x pos) (cI i):=gB hN hv hd hcd
theorem O8:d9 X (.builtin "len") (λxs H Q=>∃a kvs,xs = [V.ref a]/\H a=some (.dK kvs)/\Q (.int kvs.length) H):=by
 intro ai s σ H xs us Q I r h
 obtain⟨a,kvs,rfl,ha,q⟩:=h
 obtain⟨u,rfl,ru⟩:=iI r
 cases ru;exact O3 I (.inl ha) λt s' I'=>⟨.int kvs.length,H,I',⟨t,rfl⟩,q⟩
end
theorem cF {A B:Prop}(h:B):if false=true then A else B:=by
 rw[if_neg aw9];exact h
theorem bY {A B:Prop}(h:A):if true=true then A else B:=by
 rw[if_pos rfl];exact h
noncomputable def aI (H H':Hp):Prop:=∀b o,H b=some o->H' b=some o
theorem aI.refl (H:Hp):aI H H:=λ_ _ h=>h
theorem aI.trans {H H1 H2:Hp}(a:aI H H1)(b:aI H1 H2):aI H H2:=λc o h=>b c o (a c o h)
theorem aI.free {H H':Hp}(e:aI H H'){l:ax}(h:H' l=Option.none):H l=Option.none:=by
 cases q:H l with
 |none=>rfl
 |some o=>
  rw[e l o q]at h;cases h
noncomputable def cZ (cells:List (Str×ax)):List (Str×NameKind)->List (Str×ax)->List (Str×ax)
 |[],cs=>cs
 |(n,k)::r,cs=>cZ cells r (if k==.free then (n,(cells.lookup n).getD 0)::cs else cs)
theorem pF {env:Env}:∀(ns:List (Str×NameKind)) (cs:List (Str×ax)),(∀x∈ns,x.2 = .free->∃c,env.cells.lookup x.1=some c)->
  (forIn ns cs (λ(x:Str×NameKind) r=>(match x with
   |(name,kind)=>if (kind==.free)=true then (do let y <- cellOf env name;pure (ForInStep.yield ((name,y)::r))) else pure (ForInStep.yield r)):_->_->Sem _))=(pure (cZ env.cells ns cs):Sem (List (Str×ax)))
 |[],cs,_=>by rw[List.forIn_nil];rfl
 |(n,k)::r,cs,h=>by
  rw[List.forIn_cons];have hr:∀x∈r,x.2 = .free->∃c,env.cells.lookup x.1=some c:=λx hx=>h x (aw4 _ hx)
  cases hk:(k==NameKind.free) with
  |true=>
   have e:k = .free:=by simpa using hk
   obtain⟨c,hc⟩:=h (n,k) av5 e
   simp only[hk,if_true];have e1:cellOf env n=pure c:=by unfold cellOf;rw[hc]
   rw[e1];show ((pure c >>= λy=>pure (ForInStep.yield ((n,y)::cs))) >>= _:Sem _)=_;rw[pure_bind,pure_bind]
   have:=pF (env:=env) r ((n,c)::cs) hr
   refine this.trans ?_;unfold cZ;simp only[hk,if_true,hc,Option.getD_some];cases r<;>rfl
  |false=>
   simp only[hk,ax5,aB3];rw[pure_bind]
   have:=pF (env:=env) r cs hr
   refine this.trans ?_
   conv=>rhs;unfold cZ
   simp only[hk,ax5,aB3]
theorem uQ {scope:Scope}{env:Env}(h:∀x∈scope.names,x.2 = .free->∃c,env.cells.lookup x.1=some c):closureFor scope env=pure (cZ env.cells scope.names []):=by
 have e:=pF (env:=env) scope.names [] h;unfold closureFor;rw[show (pure (cZ env.cells scope.names []):Sem (List (Str×ax)))=(pure (cZ env.cells scope.names []) >>= pure) by rw[pure_bind]];rw[<- e]
theorem mW {cells:List (Str×ax)}:∀(ns:List (Str×NameKind)) (cs:List (Str×ax)) {x:Str}{c:ax},(∀y∈ns,y.2 = .free->∃c,cells.lookup y.1=some c)->
  (∀x c,cs.lookup x=some c->cells.lookup x=some c)->(cZ cells ns cs).lookup x=some c->cells.lookup x=some c
 |[],cs,x,c,_,hc,h=>hc x c h
 |(n,k)::r,cs,x,c,hn,hc,h=>by
  unfold cZ at h;have hr:∀y∈r,y.2 = .free->∃c,cells.lookup y.1=some c:=λy hy=>hn y (aw4 _ hy)
  cases hk:(k==NameKind.free) with
  |false=>
   simp only[hk,ax5,aB3]at h;exact mW r cs hr hc h
  |true=>
   simp only[hk,if_true]at h;refine mW r _ hr (λy d e=>?_) h
   obtain⟨c0,h0⟩:=hn (n,k) av5 (by simpa using hk)
   have h0:cells.lookup n=some c0:=h0;rw[h0]at e;rw[az4]at e;by_cases hyn:y=n
   ·subst hyn
    simp only[aA7,Option.getD_some]at e;rw[h0];exact e
   ·have:(y==n)=false:=aE0.mpr hyn
    simp only[this]at e;exact hc y d e
theorem pG {cells:List (Str×ax)}:∀(ns:List (Str×NameKind)) (cs:List (Str×ax)) {x:Str},((x,NameKind.free)∈ns∨∃c,cs.lookup x=some c)->∃c,(cZ cells ns cs).lookup x=some c
 |[],cs,x,h=>by
  rcases h with h|h
  ·simp at h
  ·exact h
 |(n,k)::r,cs,x,h=>by
  unfold cZ;refine pG r _ ?_;rcases h with h|⟨c,h⟩
  ·rcases aw6.mp h with e|e
   ·cases e
    exact .inr ⟨_,by simp[az4];rfl⟩
   ·exact .inl e
  ·right
   cases hk:(k==NameKind.free) with
   |false=>exact⟨c,by simpa[hk] using h⟩
   |true=>
    simp only[if_true];rw[az4];by_cases hxn:(x==n)=true
    ·simp only[hxn];exact⟨_,rfl⟩
    ·simp only[Bool.eq_false_iff.mpr hxn];exact⟨c,h⟩
theorem mX {env:Env}:∀{names:List (Str×NameKind)}{x:Str}{k:NameKind},(names.map λ(n,k)=>if (k==NameKind.free&&env.scope.kind==.function&&env.kindOf n==some .cell) then (n,NameKind.cell) else (n,k)).lookup x=some k->
  names.lookup x=some k∨(names.lookup x=some .free/\k = .cell)
 |[],_,_,h=>by simp at h
 |(n,q)::r,x,k,h=>by
  have ih:=@mX env r x k;rw[ax2]at h;by_cases hx:(x==n)=true
  ·have e:x=n:=by simpa using hx
   subst e;by_cases hc:(q==NameKind.free&&env.scope.kind==.function&&env.kindOf x==some .cell)=true
   ·simp only[hc,if_true,az4,aA7]at h
    have hq:q = .free:=by simp at hc;exact hc.1.1
    exact .inr ⟨by simp[az4,hq],(ax7 h).symm⟩
   ·simp only[hc,ax5,aB3,az4,aA7]at h
    exact .inl (by simp[az4];exact ax7 h)
  ·have hx':(x==n)=false:=Bool.eq_false_iff.mpr hx
   have h':(r.map λ(n,k)=>if (k==NameKind.free&&env.scope.kind==.function&&env.kindOf n==some .cell) then (n,NameKind.cell) else (n,k)).lookup x=some k:=by
    by_cases hc:(q==NameKind.free&&env.scope.kind==.function&&env.kindOf n==some .cell)=true
    ·simp only[hc,if_true,az4,hx']at h;exact h
    ·simp only[hc,ax5,aB3,az4,hx']at h;exact h
   simp only[az4,hx'];exact ih h'
noncomputable def eL (fr:List (Option Nat))(σ:St):St:=fr.map λo=>o.bind λj=>(σ[j]?).join
noncomputable def Wk (σ₁ σ₂:St):Prop:=σ₁.length=σ₂.length/\∀(i:Nat) v,σ₁[i]? = some (some v)->σ₂[i]? = some (some v)
theorem gM:∀(ns:List (Str×NameKind)) (n:Nat) (cs:List (Str×ax)),cellsFrom n ns cs=cellsFrom n ns []++cs
 |[],_,_=>rfl
 |(x,k)::r,n,cs=>by
  unfold cellsFrom;split
  ·rw[gM r (n+1) ((x,n)::cs),gM r (n+1) [(x,n)]];simp
  ·exact gM r n cs
theorem pH:∀(ns:List (Str×NameKind)) (n:Nat) {x:Str}{c:ax},(x,c)∈cellsFrom n ns []->(x,NameKind.cell)∈ns
 |[],_,_,_,h=>by simp[cellsFrom]at h
 |(y,k)::r,n,x,c,h=>by
  unfold cellsFrom at h;split at h
  ·rename_i hk
   rw[gM]at h;rcases az8.mp h with z|z
   ·exact aw4 _ (pH r _ z)
   ·rw[aw2]at z
    cases z
    have:k = .cell:=by simpa using hk
    rw[this];exact av5
  ·exact aw4 _ (pH r _ h)
theorem mY:∀(ns:List (Str×NameKind)) (n:Nat) {x:Str},(x,NameKind.cell)∈ns->∃c,(x,c)∈cellsFrom n ns []
 |(y,k)::r,n,x,h=>by
  unfold cellsFrom;rcases aw6.mp h with z|z
  ·cases z
   rw[if_pos (by rfl),gM]
   exact⟨n,ax4 _ (by simp)⟩
  ·split
   ·obtain⟨c,hc⟩:=mY r (n+1) z
    rw[gM]
    exact⟨c,az5 _ hc⟩
   ·exact mY r n z
theorem pI {α:Type}:∀{l:List (Str×α)}{x:Str}{c:α},(x,c)∈l->∃d,l.lookup x=some d
 |(y,v)::r,x,c,h=>by
  rw[az4];cases hb:x==y with
  |true=>exact⟨v,rfl⟩
  |false=>
   rcases aw6.mp h with z|z
   ·cases z;simp at hb
   ·exact pI z
theorem mZ {α:Type}{x:Str}:∀(l r:List (Str×α)),(l++r).lookup x=(match l.lookup x with|some v=>some v|none=>r.lookup x)
 |[],_=>rfl
 |(y,v)::l,r=>by
  rw[List.cons_append,az4,az4];cases hb:x==y with
  |true=>rfl
  |false=>exact mZ l r
noncomputable def eU (X:Cx)(scope:Scope)(C:ax):List (Str×ax):=cellsFrom (C+1) scope.names (cZ X.env.cells scope.names [])
theorem iL {X:Cx}{scope:Scope}{C:ax}{x:Str}{c:ax}(h:(eU X scope C).lookup x=some c) :
  (x,c)∈cellsFrom (C+1) scope.names []∨((∀d,(x,d)∉cellsFrom (C+1) scope.names [])/\(cZ X.env.cells scope.names []).lookup x=some c):=by
 unfold eU at h;rw[gM,mZ]at h;cases e:(cellsFrom (C+1) scope.names []).lookup x with
 |some v=>rw[e]at h;cases h;exact .inl (az1 e)
 |none=>
  rw[e]at h;refine .inr ⟨λd hd=>?_,h⟩
  obtain⟨d',z⟩:=pI hd
  rw[e]at z;cases z
theorem O9 {X:Cx}{scope:Scope}{C:ax}{x:Str}{c:ax}(hn:(x,NameKind.cell)∉scope.names)(h:(cZ X.env.cells scope.names []).lookup x=some c):(eU X scope C).lookup x=some c:=by
 unfold eU;rw[gM,mZ];cases e:(cellsFrom (C+1) scope.names []).lookup x with
 |some v=>exact absurd (pH _ _ (az1 e)) hn
 |none=>exact h
theorem uR {X:Cx}{scope:Scope}{C:ax}{x:Str}(h:(x,NameKind.cell)∈scope.names∨∃c,(cZ X.env.cells scope.names []).lookup x=some c):∃c,(eU X scope C).lookup x=some c:=by
 unfold eU;rw[gM,mZ];cases e:(cellsFrom (C+1) scope.names []).lookup x with
 |some v=>exact⟨v,rfl⟩
 |none=>
  rcases h with h|h
  ·obtain⟨c,hc⟩:=mY scope.names (C+1) h
   obtain⟨d,hd⟩:=pI hc
   rw[e]at hd;cases hd
  ·exact h
noncomputable def bU (X:Cx)(scope:Scope)(N:List Str)(s:aw)(H:Hp)(C:ax)(fp:List ax)(E:av->aw->Prop):Cx:=
 { X with N:=N,s₀:=s,H₀:=H,env:=compEnvC scope (eU X scope C) C X.env,outer:=X.stack,ex:=fp,fn:=λx=>scope.names.lookup x==some .cell,pn:=[],xe:=E }
structure dD (X:Cx)(scope:Scope)(N:List Str)(fr:List (Option Nat)):Prop where
 kind:scope.kind = .function
 own:∀y∈scope.names,y.2 = .cell->scope.names.lookup y.1=some .cell
 names:∀y∈scope.names,y.2 = .local->scope.names.lookup y.1=some .local
 free:∀y∈scope.names,y.2 = .free->X.env.scope.names.lookup y.1=some .cell∨X.env.scope.names.lookup y.1=some .free
 len:fr.length=N.length
 from_:∀(i j:Nat),fr[i]? = some (some j)->∃x,N[i]? = some x/\X.N[j]? = some x/\scope.names.lookup x=some .free
section
variable {X:Cx}{ai:List (ax×Obj)}{σ:St}{H:Hp}{s:aw}{scope:Scope}{N:List Str}{fr:List (Option Nat)}
theorem dD.cells (S:dD X scope N fr)(I:aA X ai σ H s):∀y∈scope.names,y.2 = .free->∃c,X.env.cells.lookup y.1=some c:=λy hy hk=>I.ok.has y.1 (S.free y hy hk)
theorem P3 {C D:ax}{fp:List ax}{E:av->aw->Prop}{h1:Heap}{tk:Nat}{m:Str->Option av}(S:dD X scope N fr)(I:aA X ai σ H s)(hf:∀b∈fp,gC X ai H b)(hfl:∀b∈fp,b<s.heap.objs.size)(hD:s.heap.objs.size<=D)(hC:s.heap.objs.size<=C)(hDC:D<C)(old:∀b o,s.heap.get? b=some o->h1.get? b=some o)(hns:h1.Ns C m)(hacc:h1.get? D=some { cls:=.type "list",data:=.seq #[] 0 })(hco:CellsOk h1 (C+1) (cellsFrom (C+1) scope.names [])) :
  aA (bU X scope N s H C fp E) [] (eL fr σ) (upd H D (.lst [])) { s with heap:=h1,toks:=tk }:=by
 have hHD:H D=none:=I.hok.fresh hD;have cl:=S.cells I;have cs:∀{x:Str}{c:ax},(cZ X.env.cells scope.names []).lookup x=some c->X.env.cells.lookup x=some c:=λ{x c} h=>mW scope.names [] cl (λ_ _ z=>by simp at z) h
 have clt:∀{x:Str}{c:ax},X.env.cells.lookup x=some c->c<s.heap.objs.size:=λ{x c} h=>by obtain⟨v,z⟩:=I.cell x c h;exact z.lt
 have nge:∀{x:Str}{c:ax},(x,c)∈cellsFrom (C+1) scope.names []->C<c:=λ{x c} h=>(hco.empty x c h).2
 refine⟨⟨I.ok.mod,?_,I.ok.glob,I.ok.blt,hC,?_,?_,?_,I.ok.hd,I.ok.frames,.inl rfl,?_,I.bs,ay7 I.ok.bsz I.sz,?_,?_,I.stack,I.stkFree⟩,rfl,I.bare,Un.laid old hD hHD,⟨m,hns,?_⟩,?_,?_,?_,λp hp=>absurd (show p∈([]:List (ax×Obj)) from hp) (by simp),?_,?_⟩
 ·exact S.kind
 ·intro x y c h1 h2
  rcases iL h1 with a|⟨_,a⟩<;>rcases iL h2 with b|⟨_,b⟩
  ·exact name_of_addr hco.apart a b
  ·exact absurd (av9 (Nat.lt_trans (nge a) (clt (cs b))) hC) (az9 _)
  ·exact absurd (av9 (Nat.lt_trans (nge b) (clt (cs a))) hC) (az9 _)
  ·exact I.ok.inj x y c (cs a) (cs b)
 ·intro x hx
  have hx:(relabel scope X.env).names.lookup x=some .cell∨(relabel scope X.env).names.lookup x=some .free:=hx;have fin:(x,NameKind.free)∈scope.names->∃c,(eU X scope C).lookup x=some c:=λz=>uR (.inr (pG scope.names [] (.inl z)))
  rcases hx with hx|hx
  ·rcases mX hx with z|z
   ·exact uR (.inl (az1 z))
   ·exact fin (az1 z.1)
  ·rcases mX hx with z|z
   ·exact fin (az1 z)
   ·exact absurd z.2 (by decide)
 ·intro x c hx h
  have hx:(scope.names.lookup x==some NameKind.cell)=true:=hx;have hx:scope.names.lookup x=some .cell:=by simpa using hx
  rcases iL h with a|⟨a,_⟩
  ·exact ay7 hC (aE7 (nge a))
  ·obtain⟨d,hd⟩:=mY scope.names (C+1) (az1 hx)
   exact absurd hd (a d)
 ·intro b hb
  refine⟨ay9 (av9 (hfl b hb) hC),λx c e=>?_⟩;rcases iL e with a|⟨_,a⟩
  ·exact aB8 (Nat.lt_trans (av9 (hfl b hb) hC) (nge a))
  ·exact (hf b hb).2.2.2.2.1 x c (cs a)
 ·intro b o e hb
  rcases (hf b hb).2.2.2.1 with z|z
  ·exact I.ok.noex b o e z
  ·exact absurd (av9 (aw3 e) (ay7 I.ok.bsz z)) (az9 _)
 ·intro b hb z
  rcases aw6.mp (I.stkSub b z) with e|e
  ·exact (hf b hb).2.1 e
  ·exact (hf b hb).2.2.1 e
 ·intro i x v e1 e2 e3
  have e2:(fr.map λo=>o.bind λj=>(σ[j]?).join)[i]? = some (some v):=e2;rw[ax6]at e2;cases ef:fr[i]? with
  |none=>rw[ef]at e2;cases e2
  |some o=>
   rw[ef]at e2;cases o with
   |none=>cases e2
   |some j=>
    have e2:some ((σ[j]?).join)=some (some v):=e2;have ej:σ[j]? = some (some v):=by
     cases q:σ[j]? with
     |none=>rw[q]at e2;cases e2
     |some w=>rw[q]at e2;cases w with
      |none=>cases e2
      |some w=>cases e2;rfl
    obtain⟨y,a1,a2,a4⟩:=S.from_ i j ef
    have e1:N[i]? = some x:=e1;rw[e1]at a1;cases a1;have a3:(x,NameKind.free)∈scope.names:=az1 a4;have vis:dL X.env.scope x:=(S.free _ a3 rfl).elim (λz=>.inr (.inl z)) λz=>.inr (.inr z)
    obtain⟨m0,hn0,hl0⟩:=I.loc
    obtain⟨u,r,l⟩:=hl0 j x v a2 ej vis
    refine⟨u,r,.inr ⟨?_,?_⟩⟩
    ·have e3:(relabel scope X.env).names.lookup x=some .local∨(relabel scope X.env).names.lookup x=some .cell∨(relabel scope X.env).names.lookup x=some .free:=e3
     rcases e3 with z|z|z
     ·rcases mX z with y|y
      ·rw[a4]at y;cases y
      ·exact absurd y.2 (by decide)
     ·exact .inl z
     ·exact .inr z
    ·obtain⟨c,hc⟩:=pG (cells:=X.env.cells) scope.names [] (x:=x) (.inl a3)
     refine⟨c,O9 (λz=>by have:=S.own _ z rfl;rw[a4]at this;cases this) hc,?_⟩;have hc':=cs hc;have S1:=S.free (x,.free) a3 rfl;rcases l with⟨k,_⟩|⟨_,c2,hc2,z⟩
     ·have k:X.env.scope.names.lookup x=some .local:=k
      rcases S1 with q|q<;>(have q:X.env.scope.names.lookup x=_:=q;rw[k]at q;cases q)
     ·rw[hc']at hc2;cases hc2
      obtain⟨oc,ho,hd⟩:=z
      exact⟨oc,old c oc ho,hd⟩
 ·intro x c e
  rcases iL e with a|⟨_,a⟩
  ·exact⟨_,(hco.empty x c a).1⟩
  ·obtain⟨v,oc,ho,hd⟩:=I.cell x c (cs a)
   exact⟨v,oc,old c oc ho,hd⟩
 ·show upd H D (.lst []) C=none
  rw[aK (aB8 hDC)];exact I.hok.fresh hC
 ·intro x c e
  show upd H D (.lst []) c=none;rcases iL e with a|⟨_,a⟩
  ·rw[aK (aB8 (Nat.lt_trans hDC (nge a)))];exact I.hok.fresh (ay7 hC (aE7 (nge a)))
  ·have q:=cs a
   rw[aK (ay9 (av9 (clt q) hD))];exact I.freeC x c q
 ·exact I.hok.laid old hD ⟨aG0 _,[],0,.nil,hacc⟩
 ·show (eL fr σ).length=N.length
  unfold eL;rw[av4];exact S.len
end
noncomputable def iM (X:Cx)(ifs:List Expr)(t:TT):Prop:=
 ∀(ai:List (ax×Obj)) (s:aw) (σ:St) (H:Hp) (Q:Bool->Hp->Prop),aA X ai σ H s->t σ H Q->
  wpAny (model X.prog X.w) X.A (forIn ifs true λc r=>if r=true then do let ok <- isTrue c X.env (eval c X.env);pure (ForInStep.yield ok) else pure (ForInStep.yield r)) (TP X ai σ Q) X.xe s
noncomputable def uS:TT:=λ_ H Q=>Q true H
theorem P4 {X:Cx}:iM X [] uS:=λ_ _ _ H _ I h=>wpAny_tests_nil ⟨H,I,h⟩
theorem P5 {X:Cx}{c:Expr}{t:TT}(h:PT X c t):iM X [c] t:=λai s σ H Q I hq=>wpAny_tests_one (h ai s σ H Q I hq)
section
variable {prog:ay}{w:ba}{A:az}
noncomputable def pJ (prog:ay)(w:ba)(A:az)(elt tg:Expr)(ifs:List Expr)(it acc:av)(env:Env)(lost:av->aw->Prop)(stop next:aw->Prop)(s:aw):Prop:=
 let M:=model prog w
 let tests:Sem Bool:=forIn ifs true λc r=>if r=true then do let ok <- isTrue c env (eval c env);pure (ForInStep.yield ok) else pure (ForInStep.yield r)
 let put:aw->Prop:=wpAny M A (eval elt env) (λx=>wpAny M A (call (.builtin "list.append") [acc,x]) (λ_=>next) lost) lost
 let taken:av->aw->Prop:=λv=>wpAny M A (letOwnedTupleGo tg it v) (λ_=>wpAny M A (assign tg env v) (λ_=>wpAny M A tests (λok s'=>if ok=true then put s' else next s') lost) lost) lost
 wpAny M A (pyNext it) (λr s'=>match r with
  |none=>stop s'
  |some v=>taken v s') lost s
theorem P6 {R:Result->aw->Prop}{s:aw}{elt tg iter:Expr}{ifs:List Expr}{scope:Scope}{pos:Pos}{it acc:av}{env:Env}(I:Nat->aw->Prop)(turn:∀n s,I n s->pJ prog w A elt tg ifs it acc env (notedBy (model prog w) A env λe=>R (.error e)) (R (.ok .next)) (λs'=>∃m,m<n/\I m s') s)(n:Nat)(h:I n s) :
  codeAny (model prog w) A (.compLoop (.ListComp elt [⟨tg,iter,ifs,0⟩] scope pos) 0 it acc env) R s:=by
 apply codeAny_loop rfl I _ n h;intro k s1 h1
 change wpAny _ A ((compTurn _ 0 it acc env).onRaise (λx=>do noteFrame x env;theTreesLotGoes x)) _ _ s1
 apply wpAny_noted;rw[compTurn_list];have t:=turn k s1 h1;unfold pJ at t;apply av3;apply wpAny_standAt;apply av3;refine az6 t (λr s2 h2=>?_) λ_ _ z=>z
 cases r with
 |none=>exact av8 h2
 |some v=>
  apply av3;refine az6 h2 (λ_ s3 h3=>?_) λ_ _ z=>z
  apply av3;refine az6 h3 (λ_ s4 h4=>?_) λ_ _ z=>z
  apply av3;refine az6 h4 (λok s5 h5=>?_) λ_ _ z=>z
  cases ok with
  |false=>exact av8 ⟨rfl,h5⟩
  |true=>
   apply av3;apply av3;refine az6 h5 (λx s6 h6=>?_) λ_ _ z=>z
   apply av3;exact az6 h6 (λ_ s7 h7=>av8 (av8 ⟨rfl,h7⟩)) λ_ _ z=>z
end
noncomputable def uT (g:TG)(tc:TT)(te:TE)(σ0:St)(J:It)(D:ax)(Q:VK)(W:Nat->Nat->List V->Hp->Prop):Prop:=
 ∀i m acc H',W i m acc H'->H' D=some (.lst acc)/\((J.stop i H'/\Q (.ref D) H')∨(J.go i H'/\∀x H2,J.yld i H' x H2->g x σ0 H2 λσ2 H3=>Wk σ0 σ2/\tc σ2 H3 λb H4=>
  if b=true then te σ2 H4 λv H5=>H5 D=some (.lst acc)/\acc.length<sizeLine/\∃m',m'<m/\W (i+1) m' (acc++[v]) (upd H5 D (.lst (acc++[v]))) else ∃m',m'<m/\W (i+1) m' acc H4))
section
variable {M:Model}{A:az}{E:av→aw→Prop}{s:aw}
theorem P7 {scope:Scope}{globals:ax}{cl:List (Str×ax)}{qual:Str}{func:Option ax}{code:av}{builtins:ax}{outer:Env}{Q:Env->aw->Prop}(hQ:∀h',h'.Ns s.heap.objs.size (λ_=>none)->(∀b o,s.heap.get? b=some o->h'.get? b=some o)->CellsOk h' (s.heap.objs.size+1) (cellsFrom (s.heap.objs.size+1) scope.names [])->
   Q (newEnv scope s.heap.objs.size globals (cellsFrom (s.heap.objs.size+1) scope.names cl) qual func code (some outer) builtins) { s with heap:=h' }) :
  wpAny M A (newFunctionEnv scope globals cl [] qual func code (some outer) builtins) Q E s:=by
 simp only[newFunctionEnv,Option.isSome_some,if_true];refine av3 (wpAny_alloc ?_);refine av3 (wpAny_layCells _ (λname kind cells=>by cases hkc:kind==NameKind.cell<;>simp[hkc]) _ _ _ _ ?_);have ok:=cellsFrom_ok scope.names (s.heap.push { cls:=.type "dict",data:=.dict #[] }) (s.heap.objs.size+1) [] ⟨λ_ _ hm=>(nomatch hm),List.Pairwise.nil⟩ (by rw[aC0];exact aw5 _);rw[aC0]at ok;rw[show ({ s with heap:=s.heap.push { cls:=.type "dict",data:=.dict #[] } }:aw).heap.objs.size=s.heap.objs.size+1 from aC0 ..];rw[List.forIn_nil];refine av3 (av8 (av8 (hQ _ ((Heap.Ns.new s.heap (.type "dict")).keeps (pushCells_keeps _ _)) (λb o e=>pushCells_keeps _ _ b o (av6 _ e)) ok)))
end
section
variable {X:Cx}{ai:List (ax×Obj)}{σ:St}{H:Hp}{s:aw}{scope:Scope}{N:List Str}{fr:List (Option Nat)}{tg iter elt:Expr}{ifs:List Expr}{pos:Pos}{wi:TI}{g:TG}{tc:TT}{te:TE}
structure kQ (X:Cx)(scope:Scope)(N:List Str)(tg:Expr)(ifs:List Expr)(elt:Expr)(s:aw)(H:Hp)(g:TG)(tc:TT)(te:TE):Prop where
 tg:∀(C:ax) (fp:List ax),PG (bU X scope N s H C fp λ_ _=>False) tg g
 ifs:∀(C:ax) (fp:List ax),iM (bU X scope N s H C fp λ_ _=>False) ifs tc
 elt:∀(C:ax) (fp:List ax),PE (bU X scope N s H C fp λ_ _=>False) elt te
theorem P8 {C:ax}{fp:List ax}{E:av->aw->Prop}{pins':List (ax×Obj)}{σ':St}{H':Hp}{s':aw}(I:aA X ai σ H s)(hf:∀b∈fp,gC X ai H b)(I':aA (bU X scope N s H C fp E) pins' σ' H' s'):aA X ai σ H' s':=
 I.call' (ch:=fp) I'.os I'.base I'.hok I'.bare λb hb=>⟨(hf b hb).2.2.2.1,(hf b hb).2.1,(hf b hb).2.2.2.2.1,(hf b hb).2.2.2.2.2⟩
theorem uU {Rr:av->ax->Result->aw->Prop}{J:It}{fp:List ax}{it:ax}{tn:Nat->Heap->Prop}{Q:VK}(hc:X.calm=true)(S:dD X scope N fr)(B:kQ X scope N tg ifs elt s H g tc te)(I:aA X ai σ H s)(T:h8 X.prog X.w X.K tg J fp it tn)(hst:tn 0 s.heap)(hf:∀b∈fp,gC X ai H b)(h:∀D,H D=none->∃W:Nat->Nat->List V->Hp->Prop,(∃m,W 0 m [] (upd H D (.lst [])))/\uT g tc te (eL fr σ) J D Q W)(hend:∀(D C:ax) (s':aw) (H':Hp) (m:Str->Option av),s.heap.objs.size<=C->s.heap.objs.size<=D->aA X ai σ H' s'->s'.heap.Ns C m->H' C=none->Q (.ref D) H'->Rr (.ref D) C (.ok .next) s') :
  wpAny (model X.prog X.w) X.A (newList []) (λacc s₃=>wpAny (model X.prog X.w) X.A (newFunctionEnv scope X.env.globals (cZ X.env.cells scope.names []) [] X.env.qual none .none (some X.env)) (λcenv s₄=>
   codeAny (model X.prog X.w) X.A (.compStart (.ListComp elt [⟨tg,iter,ifs,0⟩] scope pos) 0 (.ref it) acc { cenv with scope:=relabel scope X.env }) (Rr acc cenv.locals) s₄) X.xe s₃) X.xe s:=by
 refine aC1 (P7 (λh₁ hns₁ keep₁ hco₁=>?_));dsimp only at hns₁ keep₁ hco₁ ⊢;generalize hH2:s.heap.push { cls:=.type "list",dict:=none,data:=.seq ([]:List av).toArray }=H2 at hns₁ keep₁ hco₁ ⊢;have hC:H2.objs.size=s.heap.objs.size+1:=by rw[<- hH2,aC0]
 have hDC:s.heap.objs.size<H2.objs.size:=by rw[hC];exact Nat.lt_succ_self _
 have hCle:s.heap.objs.size<=H2.objs.size:=by rw[hC];exact Nat.le_succ _
 have old:∀b o,s.heap.get? b=some o->h₁.get? b=some o:=λb o e=>keep₁ b o (hH2▸av6 _ e)
 have hacc:h₁.get? s.heap.objs.size=some { cls:=.type "list",data:=.seq #[] 0 }:=keep₁ _ _ (hH2▸aw8 _ rfl);have hfl:∀b∈fp,b<s.heap.objs.size:=λb hb=>by obtain⟨o,e,_⟩:=T.obj _ _ hst b hb;exact aw3 e
 obtain⟨W,⟨m0,w0⟩,turn⟩:=h s.heap.objs.size (I.hok.fresh (aw5 _))
 have st1:tn 0 h₁:=T.keep _ _ _ hst λb _ o e=>old b o e
 have fr0:∀b∈fp,upd H s.heap.objs.size (.lst []) b=none:=λb hb=>by rw[aK (ay9 (hfl b hb))];exact (hf b hb).1
 have stat:∀{H':Hp},(∀b∈fp,H' b=none)->∀b∈fp,gC (bU X scope N s H H2.objs.size fp λ_ _=>False) [] H' b:=λ{H'} hn b hb=>by
  have f:=hf b hb;refine⟨hn b hb,ay9 (av9 (hfl b hb) hCle),λz=>?_,.inl hb,λx c e=>(iL e).elim (λz=>aB8 (Nat.lt_trans (av9 (hfl b hb) hCle) (hco₁.empty x c z).2)) λz=>f.2.2.2.2.1 x c (mW scope.names [] (S.cells I) (λ_ _ z=>by simp at z) z.2),λp hp=>absurd (show p∈([]:List (ax×Obj)) from hp) (by simp)⟩;rcases aw6.mp (I.stkSub b z) with e|e
  ·exact f.2.1 e
  ·exact f.2.2.1 e
 generalize hX:bU X scope N s H H2.objs.size fp (λ_ _=>False)=Y at stat;have I0:aA Y [] (eL fr σ) (upd H s.heap.objs.size (.lst [])) { s with heap:=h₁ }:=hX▸P3 S I hf hfl (aw5 _) hCle hDC old hns₁ hacc hco₁;have bt:PG Y tg g:=hX▸B.tg H2.objs.size fp;have bi:iM Y ifs tc:=hX▸B.ifs H2.objs.size fp;have be:PE Y elt te:=hX▸B.elt H2.objs.size fp;have eP:Y.prog=X.prog:=by rw[<- hX];rfl
 have ew:Y.w=X.w:=by rw[<- hX];rfl
 have eK:Y.K=X.K:=by rw[<- hX];rfl
 have eA:Y.A=X.A:=by rw[<- hX];rfl
 have eE:Y.env=compEnvC scope (eU X scope H2.objs.size) H2.objs.size X.env:=by rw[<- hX];rfl
 have eX:Y.xe=λ_ _=>False:=by rw[<- hX];rfl
 have ec:Y.calm=true:=by rw[<- hX];exact hc
 have never:∀{E:av->aw->Prop} (e:av) (s':aw),Y.xe e s'->E e s':=λ{E} e s' z=>by rw[eX]at z;exact z.elim
 have out:∀{pins' σ' H' s'},aA Y pins' σ' H' s'->aA X ai σ H' s':=λ{_ _ _ _} I'=>P8 (C:=H2.objs.size) (E:=λ_ _=>False) (scope:=scope) (N:=N) I hf (hX▸I')
 have loop:codeAny (model X.prog X.w) X.A (.compLoop (.ListComp elt [⟨tg,iter,ifs,0⟩] scope pos) 0 (.ref it) (.ref s.heap.objs.size) (compEnvC scope (eU X scope H2.objs.size) H2.objs.size X.env))
   (Rr (.ref s.heap.objs.size) H2.objs.size) { s with heap:=h₁ }:=by
  refine P6 (λn s'=>∃i acc H',aA Y [] (eL fr σ) H' s'/\tn i s'.heap/\(∀b∈fp,H' b=none)/\W i n acc H') ?_ m0 ⟨0,[],_,I0,st1,fr0,w0⟩;rintro n s3 ⟨i,acc,H3,I3,st3,fr3,w3⟩;unfold pJ;dsimp only
  obtain⟨hD3,step⟩:=turn i n acc H3 w3
  rcases step with⟨stop,qn⟩|⟨go,step⟩
  ·have z:=T.done Y eP ew eK ec i [] s3 _ H3 (notedBy (model X.prog X.w) X.A (compEnvC scope (eU X scope H2.objs.size) H2.objs.size X.env) λe s'=>Rr (.ref s.heap.objs.size) H2.objs.size (.error e) s') I3 (stat fr3) st3 stop
   rw[eA]at z;refine aL z λr s4 ⟨hr,I4⟩=>?_
   subst hr
   obtain⟨m4,hn4,_⟩:=I4.loc
   rw[eE]at hn4;have f4:=I4.free;rw[eE]at f4;exact hend _ _ s4 H3 m4 hCle (aw5 _) (out I4) hn4 f4 qn
  ·have z:=T.item Y eP ew eK ec i [] s3 _ H3 (notedBy (model X.prog X.w) X.A (compEnvC scope (eU X scope H2.objs.size) H2.objs.size X.env) λe s'=>Rr (.ref s.heap.objs.size) H2.objs.size (.error e) s') I3 (stat fr3) st3 go
   rw[eA]at z;refine aL z λr s4 ⟨u,hr,h4⟩=>?_
   subst hr;refine aL h4 λ_ s5 ⟨x,H5,I5,r5,y5,st5,fr5⟩=>?_
   have I5':=I5.pinned (stat fr5) (T.obj _ _ st5);have q1:=bt _ s5 _ H5 x u _ I5' r5 (step x H5 y5);rw[eP,ew,eA,eE]at q1;refine az6 q1 (λ_ s6 ⟨σ6,H6,I6,wk,q6⟩=>?_) never;have q2:=bi _ s6 σ6 H6 _ I6 q6;rw[eP,ew,eA,eE]at q2;refine az6 q2 (λb s7 ⟨H7,I7,q7⟩=>?_) never;have again:∀{H8:Hp}{s8:aw}{acc':List V},aA Y ([]++kH fp s5.heap) σ6 H8 s8->(∃m',m'<n/\W (i+1) m' acc' H8)->∃m,m<n/\∃i acc H',aA Y [] (eL fr σ) H' s8/\tn i s8.heap/\(∀b∈fp,H' b=none)/\W i m acc H':=λ{H8 s8 acc'} I8 n8=>by
    obtain⟨m',hm,w8⟩:=n8
    refine⟨m',hm,i+1,acc',H8,(I8.unpinned).weak wk.1 wk.2,T.keep _ _ _ st5 λb hb o e=>(I8.pin (b,o) (ax4 _ (ax4 _ (mS hb e)))).1,λb hb=>?_,w8⟩
    obtain⟨o,e,d⟩:=T.obj _ _ st5 b hb
    exact (I8.pin (b,o) (ax4 _ (ax4 _ (mS hb e)))).2.1
   cases b with
   |false=>
    rw[if_neg aw9]at q7 ⊢;exact again I7 q7
   |true=>
    rw[if_pos rfl]at q7 ⊢;have q3:=be _ s7 σ6 H7 _ I7 q7;rw[eP,ew,eA,eE]at q3;refine az6 q3 (λv s8 ⟨y,H8,I8,r8,hD8,hz8,q8⟩=>?_) never;have q4:=N8 _ s8 σ6 H8 (.ref s.heap.objs.size) [y] (.ref s.heap.objs.size) [v] (λ_ H9=>∃m',m'<n/\W (i+1) m' (acc++[y]) H9) I8 rfl (.cons r8 .nil) ⟨_,_,_,rfl,rfl,hD8,hz8,q8⟩;rw[eP,ew,eA]at q4;exact az6 q4 (λ_ s9 ⟨_,H9,I9,_,q9⟩=>again I9 q9) never
 exact codeAny_compStart_list loop (T.self _ 0 _ _ _ st1 loop)
end
section
variable {X:Cx}{scope:Scope}{N:List Str}{fr:List (Option Nat)}{tg iter elt:Expr}{ifs:List Expr}{pos:Pos}{wi:TI}{g:TG}{tc:TT}{te:TE}
theorem aA.drop {ai:List (ax×Obj)}{σ:St}{H H':Hp}{s s':aw}{C:ax}{h':Heap}(I0:aA X ai σ H s)(hC:s.heap.objs.size<=C){σ':St}(I:aA X ai σ' H' s')(hn:H' C=none)(sb:Heap.SameBut C s'.heap h'):aA X ai σ' H' { s' with heap:=h' }:=by
 refine I.turned (t':=s'.toks) (it:=C) (λb o hb e=>(sb.2 b hb).trans e) hn (aB8 (av9 I0.lt hC)) (.inr (ay7 I0.sz hC)) (λx c e z=>?_) λp hp z=>?_
 ·obtain⟨v,q⟩:=I0.cell x c e
  exact absurd (av9 q.lt (by rw[z];exact hC)) (az9 _)
 ·exact absurd (av9 (aw3 (I0.pin p hp).1) (by rw[z];exact hC)) (az9 _)
variable {gh:Hp→TG}{tch:Hp→TT}{teh:Hp→TE}
noncomputable def pK (wi:TI)(fr:List (Option Nat))(gh:Hp->TG)(tch:Hp->TT)(teh:Hp->TE):TE:=λσ H Q=>wi σ H λJ H1=>∀D,H1 D=none->
 ∃W:Nat->Nat->List V->Hp->Prop,(∃m,W 0 m [] (upd H1 D (.lst [])))/\uT (gh H1) (tch H1) (teh H1) (eL fr σ) J D Q W
theorem pL (hc:X.calm=true)(S:dD X scope N fr)(hi:PI X tg iter wi)(B:∀(s:aw) (H:Hp),kQ X scope N tg ifs elt s H (gh H) (tch H) (teh H))(hs:∀x,foldedSetIterable iter X.env x=pure x:=by intro _;rfl):PE X (.ListComp elt [⟨tg,iter,ifs,0⟩] scope pos) (pK wi fr gh tch teh):=by
 intro ai s σ H Q I h;rw[eval_ListComp];refine wpAny_comprehension_free (use:=none) rfl hs (uQ (S.cells I)) S.kind S.names (aL (hi ai s σ H _ I h) λv s1 h1=>aL h1 λitv s2 h2=>?_)
 obtain⟨it,fp,tn,J,H2,e,I2,T,st2,f2,hW⟩:=h2
 subst e;refine uU (Rr:=λacc C=>compPost (model X.prog X.w) X.A X.xe none (EP X ai σ Q) acc C) hc S (B _ _) I2 T st2 f2 hW ?_;intro D C s' H' m hC hD I' hns hHC q
 exact⟨m,hns,λh' sb=>⟨.ref D,H',I2.drop hC I' hHC sb,rfl,q⟩⟩
theorem P9 {i:Nat}{x:Str}{px spos:Pos}(hc:X.calm=true)(S:dD X scope N fr)(hi:PI X tg iter wi)(B:∀(s:aw) (H:Hp),kQ X scope N tg ifs elt s H (gh H) (tch H) (teh H))(hN:X.N.Nodup)(hix:X.N[i]? = some x)(hx:X.env.scope.names.lookup x=some .local)(hsw:swapsWith (.ListComp elt [⟨tg,iter,ifs,0⟩] scope pos) (some (.Name x px)) spos.line X.env=pure true)(hs:∀x,foldedSetIterable iter X.env x=pure x:=by intro _;rfl) :
  PS X (.Assign [.Name x px] (.ListComp elt [⟨tg,iter,ifs,0⟩] scope pos) spos) (iG (pK wi fr gh tch teh) (cQ i)):=by
 intro ai s σ H D I h;rw[exec_Assign_Name_used _ _ _ _ hsw];refine av3 (wpAny_standAt (av3 ?_));show wpAny _ _ (do let _ <- comprehension (.ListComp elt [⟨tg,iter,ifs,0⟩] scope pos) scope X.env _ (newList []) false (eval iter X.env) (some (assign (.Name x px) X.env))) _ _ s
 refine av3 (az6 (wpAny_comprehension_free (Q:=λ_ s'=>SP X ai D .next s') (use:=some (assign (.Name x px) X.env)) rfl hs (uQ (S.cells I)) S.kind S.names (aL (hi ai s σ H _ I h) λv s1 h1=>aL h1 λitv s2 h2=>?_))
  (λ_ s' hq=>av8 (av8 hq)) λ_ _ e=>e)
 obtain⟨it,fp,tn,J,H2,e,I2,T,st2,f2,hW⟩:=h2
 subst e;refine uU (Rr:=λacc C=>compPost (model X.prog X.w) X.A X.xe (some (assign (.Name x px) X.env)) (λ_ s'=>SP X ai D .next s') acc C) hc S (B _ _) I2 T st2 f2 hW ?_;intro D' C s' H' m hC hD I' hns hHC q;refine wpAny_assign_Name (t0 I' hN hix (.inl hx) (v:=.ref D') rfl (λs'' I'' sb=>?_) (.inr hx))
 obtain⟨a,sb,ha⟩:=sb
 have hCa:C≠a:=by
  rcases ha with z|z
  ·rw[z];exact aB8 (av9 I2.lt hC)
  ·intro e;subst e
   obtain⟨v,q⟩:=I2.cell x _ z
   exact absurd (av9 q.lt hC) (az9 _)
 exact⟨m,hns.sameBut sb hCa,λh' sb'=>⟨_,H',I2.drop hC I'' hHC sb',q⟩⟩
end
theorem cT {H:Hp}{p:ax}(h:H p=none)(o:HO):aI H (upd H p o):=λb u q=>by rw[aK (cS q h)];exact q
end L2
namespace Srt
open PySem PySem.W PyProof.Rows
noncomputable abbrev G (p:Array Nat)(i:Nat):Nat:=p.getD i 0
noncomputable def PP (n:Nat)(p:Array Nat):Prop:=p.toList.Perm (List.range n)
structure Q0 (c:Nat->Nat->Bool):Prop where
 asym:∀{i j},c i j=true->c j i=false
 ntr:∀{i j k},c i j=false->c j k=false->c i k=false
end Srt
namespace Raw
open PySem PySem.W PySem.Calls PyProof.Rows
noncomputable def kR (h:Heap)(d:ax)(es:Array DictEntry)(ep:Nat):Prop:=∃o,h.get? d=some o/\o.ExactDict/\o.data = .dict es ep
theorem kR.ty {s:aw}{d:ax}{es:Array DictEntry}{ep:Nat}(x:kR s.heap d es ep):s.TypeIs (.ref d) "dict":=x.elim λo y=>⟨o,y.1,y.2.1.1⟩
section
variable {prog:ay}{w:ba}{A:az}{E:av→aw→Prop}{s:aw}{d it:ax}{es:Array DictEntry}{ep i:Nat}
theorem made (far:(d==sysModules)=false)(x:kR s.heap d es ep){Q:av->aw->Prop}(q:Q (.ref s.heap.objs.size) { s with heap:=s.heap.push { cls:=.type "dict_keyiterator",data:=.fields #[.ref d,.int 0 0,.int es.size 0,.int ep 0] } }):wpAny (model prog w) A (pyIter (.ref d)) Q E s:=by
 have T:=x.ty
 obtain⟨o,e1,e2,e3⟩:=x
 apply wpAny_pyIter_slot T PySem.F.slot_dict_iter;apply aE1 PySem.F.slot_dict_iter T PySem.F.entry_dict_iter _ (PySem.F.args_dict_iter_1 _);simp only[Builtin.«dict.__iter__»,Builtin.Dict.dictSlotNone];apply av3;apply av3;apply wpAny_notOrdered_dict T;apply av8
 change wpAny _ _ (Builtin.Dict.showsAll d >>= _) _ _ s
 have far':Builtin.Dict.showsAll d=pure ():=by
  unfold Builtin.Dict.showsAll;simp only[far,ax5,aB3]
 rw[far',pure_bind];apply av3;apply wpAny_dictEntries e1 e3;apply av3;apply wpAny_dictEpoch e1 e3;apply av3;refine aC1 (av8 ?_);refine⟨.ref s.heap.objs.size,rfl,"dict_keyiterator",_,⟨_,aw8 _ rfl,rfl⟩,PySem.F.slot_dict_keyiterator_next.lookup,?_⟩;simpa only[rawInt] using q
theorem turn (hh:A.handled=none)(hi:s.heap.IsKeyIter it d i es.size ep)(x:kR s.heap d es ep){Q:Option av->aw->Prop}(yes:∀(lt:i<es.size) h',h'.IsKeyIter it d (i+1) es.size ep->Heap.SameBut it s.heap h'->Q (some es[i].key) { s with heap:=h' })(no:es.size<=i->∀h',Heap.ExtBut it s.heap h'->Q none { s with heap:=h' }):wpAny (model prog w) A (pyNext (.ref it)) Q E s:=by
 have T:=hi.typeIs
 obtain⟨oi,f1,f2,f3⟩:=hi
 obtain⟨o,e1,e2,e3⟩:=x
 have slot:=PySem.F.slot_dict_keyiterator_next;have plain:Builtin.Dict_items.ownsTuple "dict_keyiterator" = false:=by decide
 have isref:(Value.ref d==Value.none)=false:=rfl;have nn:¬(i:Int)<0:=by omega
 unfold pyNext;apply av3;apply wpAny_attempt;apply aD7 (name:=Str.ofString "__next__") T slot;apply aE1 slot T PySem.F.entry_dict_keyiterator_next _ (PySem.F.args_dict_keyiterator_next_1 _);apply av3;apply av8;apply av3;apply av3;apply av3
 first
  |apply wpAny_typeNameOfWhole_keyiter T
  |apply wpAny_typeNameOf_keyiter T
 apply av8;apply av3;apply wpAny_fieldsOf f1 f3;simp only[plain,ax5,aB3]
 change wpAny _ _ (if (Value.ref d==Value.none)=true then _ else _) _ _ s
 have adr:Builtin.Dict_items.addrOf (Value.ref d)=pure d:=rfl;simp only[isref,ax5,aB3,adr,pure_bind];apply av3;apply wpAny_dictEntries e1 e3;simp only[bne_self_eq_false,ax5,aB3];apply av3;apply wpAny_dictEpoch e1 e3;simp only[bne_self_eq_false,ax5,aB3];apply av8;simp only[nn,aB3,aE9];by_cases lt:i<es.size
 ·simp only[Array.getElem?_eq_getElem lt]
  apply av3;apply av3
  first
   |apply wpAny_typeNameOfWhole_keyiter T
   |apply wpAny_typeNameOf_keyiter T
  apply av8;apply av3;apply wpAny_isOneOf_keyiter T
  change wpAny _ _ (setField (.ref it) 1 (rawInt ((i:Int)+1)) >>= _) _ _ s
  apply av3;refine wpAny_setField f1 f3 (by simp) ?_;have again:(s.heap.update it (Obj.mapFields (·.setIfInBounds 1 (rawInt ((i:Int)+1))))).IsKeyIter it d (i+1) es.size ep:=by
   refine⟨_,Heap.get?_update_self _ f1 (Obj.isFreed_of_fields (Obj.data_mapFields f3 _)),?_,?_⟩
   ·rw[Obj.cls_mapFields];exact f2
   ·rw[Obj.data_mapFields f3];simp[rawInt]
  apply av3;apply wpAny_holding;apply av3;refine wpAny_isOneOf_keyiter (s:={ s with heap:=s.heap.update it (Obj.mapFields (·.setIfInBounds 1 (rawInt ((i:Int)+1)))) }) again.typeIs ?_
  change wpAny _ _ (pure es[i].key) _ _ _
  apply av8;apply av8
  exact⟨es[i].key,rfl,av8 (yes lt _ again (Heap.SameBut.update ..))⟩
 ·have ge:es.size<=i:=Nat.le_of_not_lt lt
  simp only[Array.getElem?_eq_none ge];apply av3;apply av3
  first
   |apply wpAny_typeNameOfWhole_keyiter T
   |apply wpAny_typeNameOf_keyiter T
  apply av8
  change wpAny _ _ (setField (.ref it) 0 .none >>= _) _ _ s
  apply av3;refine wpAny_setField f1 f3 (by simp) ?_;apply av3;simp only[newExc,newTuple];apply av3;refine aC1 ?_ (by size_fits);apply av3;refine wpAny_of_eq (a:=Value.none) (by first|rfl|(simp only[firstArgMember];rfl)) ?_;refine aC1 ?_ (by size_fits);unfold raiseNew;apply av3;apply wpAny_handled;have quiet:A.in1.handled=none:=hh;rw[quiet];refine wpAny_throw ?_;apply av3;refine wpAny_isInstance (T:="StopIteration") (b:=true) ⟨_,aw8 _ rfl,rfl⟩ isSubtype_stop ?_;exact av8 (no ge _ (((Heap.SameBut.update ..).extBut.push _).push _))
end
end Raw
namespace L2
open PySem PySem.Spec PyProof.Rows
noncomputable def uV (outer:List (Str×NameKind))(XN:List Str)(names:List (Str×NameKind))(N:List Str)(fr:List (Option Nat)):Bool:=
 names.all (λy=>!(y.2==.cell)||names.lookup y.1==some .cell)&&names.all (λy=>!(y.2==.local)||names.lookup y.1==some .local) &&
 names.all (λy=>!(y.2==.free)||(outer.lookup y.1==some .cell||outer.lookup y.1==some .free))&&fr.length==N.length &&
 (fr.zip N).all (λp=>match p.1 with
  |none=>true
  |some j=>XN[j]?==some p.2&&names.lookup p.2==some .free)
theorem dD.of {X:Cx}{scope:Scope}{N:List Str}{fr:List (Option Nat)}(hk:scope.kind = .function)(h:uV X.env.scope.names X.N scope.names N fr=true):dD X scope N fr:=by
 unfold uV at h;simp only[aw7]at h
 obtain⟨⟨⟨⟨h1,h2⟩,h3⟩,h4⟩,h5⟩:=h
 refine⟨hk,λy hy e=>?_,λy hy e=>?_,λy hy e=>?_,by simpa using h4,λi j e=>?_⟩
 ·have:=ax0.mp h1 y hy
  rw[e]at this;simpa using this
 ·have:=ax0.mp h2 y hy
  rw[e]at this;simpa using this
 ·have:=ax0.mp h3 y hy
  rw[e]at this;simpa using this
 ·have hl:fr.length=N.length:=by simpa using h4
  have hi:i<fr.length:=(ay2.mp e).1;have m:(some j,N[i]'(by omega))∈fr.zip N:=by
   have:(fr.zip N)[i]? = some (some j,N[i]'(by omega)):=by
    rw[List.getElem?_zip_eq_some]
    exact⟨e,by simp⟩
   exact aD5 this
  have:=ax0.mp h5 _ m
  simp only[aw7,beq_iff_eq]at this
  exact⟨N[i]'(by omega),by simp,this.1,this.2⟩
noncomputable def uW (ls:aa)(k:Int):ag:=ls.flatMap λl=>(if l.1=k then [l.2] else [])++(if l.2=k then [l.1] else [])
theorem Q1 {α:Type}{xs:List α}{i:Int}{v:α}(h0:0<=i)(h:xs[i.toNat]? = some v):atI xs i=some v:=by
 have:=u7 h
 rwa [show ((i.toNat:Nat):Int)=i by omega]at this
theorem iN {n:Nat}(h:n<=16000000):n<sizeLine:=by rw[sizeLine_eq];omega
theorem uX {K:ad}{H:Hp}{p:ax}{xs:List V}(h:aX K H p xs):kO K "list" (.ref p) H:=.inl ⟨rfl,xs,h⟩
end L2
namespace Zp
open PySem PyProof.Rows
section
variable {prog:ay}{w:ba}{A:az}{E:av→aw→Prop}{s:aw}
theorem Q2 {it t:ax}{i:Nat}{items:Array av}{x:av}{Q:av->aw->Prop}(hi:s.heap.IsTupleIter it t i)(ht:s.heap.IsTuple t items)(hx:items[i]? = some x)(q:∀h',h'.IsTupleIter it t (i+1)->Heap.SameBut it s.heap h'->Q x { s with heap:=h' }):wpAny (model prog w) A (Builtin.SmallTypes.nextOf (.ref it)) Q E s:=by
 have T:=hi.typeIs
 obtain⟨o,e1,e2,e3⟩:=hi
 obtain⟨u,f1,_,k,f3⟩:=ht
 have slot:=PySem.F.slot_tuple_iterator_next;have isref:(Value.ref t==Value.none)=false:=rfl;unfold Builtin.SmallTypes.nextOf;apply av3;apply aD7 (name:=Str.ofString "__next__") T slot;apply aE1 slot T PySem.F.entry_tuple_iterator_next _ (PySem.F.args_tuple_iterator_next_1 _)
 change wpAny _ _ (field (.ref it) 0 >>= _) _ _ s
 apply av3;refine aF0 e1 e3 (x:=.ref t) rfl ?_
 change wpAny _ _ (if (Value.ref t==Value.none)=true then _ else _) _ _ s
 simp only[isref,ax5,aB3]
 change wpAny _ _ (field (.ref it) 1 >>= _) _ _ s
 apply av3;refine aF0 e1 e3 (x:=.int i 0) rfl ?_
 change wpAny _ _ (seqItems? (.ref t) >>= _) _ _ s
 apply av3;apply aF6 f1 f3;simp only[aE9,hx];apply av3;refine wpAny_setField e1 e3 (by simp) ?_;apply av8;refine⟨x,rfl,av8 (q _ ⟨_,Heap.get?_update_self _ e1 (Obj.isFreed_of_fields (Obj.data_mapFields e3 _)),?_,?_⟩ (Heap.SameBut.update ..))⟩
 ·rw[Obj.cls_mapFields];exact e2
 ·rw[Obj.data_mapFields e3];simp[rawInt]
theorem Q3 {it t:ax}{i:Nat}{items:Array av}{Q:av->aw->Prop}(hh:A.handled=none)(hi:s.heap.IsTupleIter it t i)(ht:s.heap.IsTuple t items)(hx:items[i]? = none)(q:∀h' e,Heap.ExtBut it s.heap h'->(∃o,h'.get? e=some o/\o.cls = .type "StopIteration")->E (.ref e) { s with heap:=h' }):wpAny (model prog w) A (Builtin.SmallTypes.nextOf (.ref it)) Q E s:=by
 have T:=hi.typeIs
 obtain⟨o,e1,e2,e3⟩:=hi
 obtain⟨u,f1,_,k,f3⟩:=ht
 have slot:=PySem.F.slot_tuple_iterator_next;have isref:(Value.ref t==Value.none)=false:=rfl;unfold Builtin.SmallTypes.nextOf;apply av3;apply aD7 (name:=Str.ofString "__next__") T slot;apply aE1 slot T PySem.F.entry_tuple_iterator_next _ (PySem.F.args_tuple_iterator_next_1 _)
 change wpAny _ _ (field (.ref it) 0 >>= _) _ _ s
 apply av3;refine aF0 e1 e3 (x:=.ref t) rfl ?_
 change wpAny _ _ (if (Value.ref t==Value.none)=true then _ else _) _ _ s
 simp only[isref,ax5,aB3]
 change wpAny _ _ (field (.ref it) 1 >>= _) _ _ s
 apply av3;refine aF0 e1 e3 (x:=.int i 0) rfl ?_
 change wpAny _ _ (seqItems? (.ref t) >>= _) _ _ s
 apply av3;apply aF6 f1 f3;simp only[aE9,hx];apply av3;apply wpAny_rule;apply av3;refine wpAny_setField e1 e3 (by simp) ?_;apply av3;simp only[newExc,newTuple];apply av3;refine aC1 ?_ (by size_fits);apply av3;refine wpAny_of_eq (a:=Value.none) (by first|rfl|(simp only[firstArgMember];rfl)) ?_;refine aC1 ?_ (by size_fits);unfold raiseNew;apply av3;apply wpAny_handled;have quiet:A.in1.handled=none:=hh;rw[quiet];refine wpAny_throw ?_;exact q _ _ (((Heap.SameBut.update ..).extBut.push _).push _) ⟨_,aw8 _ rfl,rfl⟩
end
end Zp
namespace L2
open PySem PySem.Spec PyProof.Rows
theorem Q4 (l:ax)(items:Array av)(n:Nat)(b:ax)(items2:Array av)(n2:Nat)(dd:Option ax)(ss:Array (Option av))(h0:¬(!items.isEmpty&&Builtin.List.listTooLong (items.size+items2.size))=true)(h1:items.size<=sizeLine)(h2:items.size+items2.size<=sizeLine+1) :
  Meets (Builtin.«list.extend» ⟨[.ref l,.ref b],[]⟩) (λ_ R s=>s.heap.get? l=some { cls:=.type "list",dict:=none,data:=.seq items n,slots:=#[] }/\s.heap.get? b=some { cls:=.type "tuple",dict:=dd,data:=.seq items2 n2,slots:=ss }/\R (.ok (.ret Value.none)) { s with heap:=s.heap.update l (Obj.mapSeq λx=>x++items2),toks:=s.toks }):=
 .of_wp λprog w A R s h=>by
  obtain⟨hp,g,d,tk,os⟩:=s;obtain⟨hl,hb,h⟩:=h;have f2:=AutoSeq1.sub_tuple_tuple;have f3:=AutoSeq1.sub_list_list;have f4:=AutoSeq1.sub_tuple_list;have f5:=AutoSeq1.sub_list_tuple
  have hz':(items++items2).size<=sizeLine+1:=by rw[Array.size_append];exact h2
  wp_walk using (wpAny_updateSeq hl rfl (hz:=h1) (_hz':=hz')),AutoSeq1.wpAny_loadPart' hl,AutoSeq1.wpAny_loadPart' hb
  exact⟨_,rfl,h⟩
noncomputable def uY (K:ad):V->List V->Hp->VK->Prop:=λx vs H Q=>∃(l b:ax) (xs zs:List V),x = .ref l/\vs = [.ref b]/\H l=some (.lst xs)/\aQ K H b zs/\xs.length+zs.length<=sizeLine/\Q .non (upd H l (.lst (xs++zs)))
theorem Q5 {X:Cx}:kP X "list.extend" (uY X.K):=by
 intro ai s σ H x vs v us Q I rx rv h
 obtain⟨l,b,xs,zs,rfl,rfl,hH,hB,hz,q⟩:=h
 cases rx
 obtain⟨u,rfl,ru⟩:=rv.one
 cases ru
 obtain⟨z,its,n,r,hl,e⟩:=I.lstM hH
 obtain⟨aq,r2,⟨⟨cls,dd,data,ss⟩,e2,hc,n2,hd⟩,z2⟩:=I.tuple hB
 cases hc;cases hd;have hl2:=r2.length;have hsz:its.toArray.size+aq.toArray.size<=sizeLine:=by rw[av7,av7];omega
 have hlong:¬(!its.toArray.isEmpty&&Builtin.List.listTooLong (its.toArray.size+aq.toArray.size))=true:=by
  rw[uI hsz,Bool.and_false];exact aw9
 refine call_meets F.slot_list_extend ⟨_,e,rfl⟩ F.entry_list_extend (F.args_list_extend_2 _ _)
  (Q4 l its.toArray n b aq.toArray n2 dd ss hlong (by rw[av7];omega) (by omega)) ⟨e,e2,?_⟩
 refine⟨.non,_,I.lset (its':=its++aq) hH e (by simp) (r.append r2) ?_,rfl,q⟩;rw[ay1];omega
end L2
namespace L2
open PySem PySem.Spec PyProof.Rows PySem.W
structure aZ where
 qual:Str
 params:Arguments
 body:Expr
 scope:Scope
noncomputable abbrev pM (l:aZ)(pm cv ctv:av):FuncData:=kla_fn "<lambda>" l.qual l.params l.body l.scope [] pm cv ctv
noncomputable abbrev uZ (l:aZ)(pm cv ctv:av):Obj:={ cls:=.type "function",data:=.func (pM l pm cv ctv) }
noncomputable def eV (H:Hp)(f:ax)(l:aZ):Prop:=∃(pm ctv:av) (c:ax),H f=some (.frz (uZ l pm (.ref c) ctv) (.cd c l.qual))
theorem eV.same {H H':Hp}{f:ax}{l:aZ}(s:aI H H')(h:eV H f l):eV H' f l:=
 let ⟨pm,ctv,c,e1⟩:=h;⟨pm,ctv,c,s _ _ e1⟩
structure fN (base:Heap)(mg:Str->Option av)(P:ax):Prop where
 ex:base.BuiltinsAt mg P
section
variable {X:Cx}{ai:List (ax×Obj)}{σ:St}{H:Hp}{s:aw}{P:ax}{l:aZ}
theorem fN.at (B:fN X.base X.mg P)(I:aA X ai σ H s):s.heap.BuiltinsAt X.mg P:=
 let ⟨bm,o,h1,h2,h3,h4,h5,h6⟩:=B.ex;⟨bm,o,h1,h2,h3,h4,I.bk _ _ h5,h6⟩
theorem aA.table {t:Tok}{h':Heap}{tk:Nat}{qs qs':Array av}{c:ax}{oc:Obj}{vs:Array av}{tq:Tok}(I:aA X ai σ H s)(hP:H P=some (.tbl #[.str l.qual t]))(hx:Heap.ExtBut P s.heap h')(hge:s.heap.objs.size<=c)(hoc:h'.get? c=some oc)(hd:oc.data = .fields vs)(hv:vs[1]? = some (.str l.qual tq))(e:s.heap.get? P=some { cls:=.none,data:=.fields qs })(e':h'.get? P=some { cls:=.none,data:=.fields qs' })(tr:TriplesOk qs'.toList)(cs:∀(pos:Pos) (cv:av),codeAmong pos qs.toList=some cv->∃(c:ax) (q:Str) (t':Tok),cv = .ref c/\H c=some (.code q)/\#[.str l.qual t] = #[Value.str q t'])(new:∀(pos:Pos) (cv:av),codeAmong pos qs'.toList=some cv->codeAmong pos qs.toList=some cv∨cv = .ref c):aA X ai σ (upd H c (.code l.qual)) { s with heap:=h',toks:=tk }:=by
 have hn:H c=none:=I.hok.fresh hge;have cP:P≠c:=λz=>by rw[z,hn]at hP;cases hP
 have lt:∀{b o},s.heap.get? b=some o->b≠c:=λ{b o} g z=>absurd (aw3 g) (by rw[z];exact Nat.not_lt.mpr hge)
 have old:∀{b o},H b=some o->b≠c:=λ{b o} g z=>by rw[z,hn]at g;cases g
 refine I.un ⟨λb o g n _ _=>hx b o (λz=>by rw[z,hP]at n;cases n) g,λb o g n _ _=>⟨o.slots,hx b o (λz=>by rw[z,hP]at n;cases n) g⟩,λb o g n _=>by rw[aK (lt g)];exact n,λb o g _=>?_,λb xs g=>by rw[aK (old g)];exact g,λb o u g=>by rw[aK (old g)];exact g,λb ps g=>⟨#[],by rw[aK (old g),g];simp⟩⟩ λb u z=>?_
 ·by_cases hb:b=P
  ·subst hb;exact⟨_,e'⟩
  ·exact⟨o,hx b o hb g⟩
 ·by_cases hb:b=c
  ·subst hb;rw[bI]at z;cases z
   exact⟨oc,vs,tq,hoc,hd,hv⟩
  ·rw[aK hb]at z
   by_cases bP:b=P
   ·subst bP
    rw[hP]at z;cases z;refine⟨qs',e',tr,λpos cv h=>?_⟩;rcases new pos cv h with h|rfl
    ·obtain⟨c1,q,t',e1,e2,e3⟩:=cs pos cv h
     exact⟨c1,q,t',e1,by rw[aK (old e2)];exact e2,e3⟩
    ·exact⟨c,l.qual,t,rfl,bI,rfl⟩
   ·refine (I.hok b u z).stay (λc' v hc q=>hx c' v ?_ q) (λc' q=>by rw[aK (old q)];exact q) (λc' xs q=>by rw[aK (old q)];exact q) (λc' r q=>by rw[aK (old q)];exact q)
    rcases hc with rfl|hc
    ·exact bP
    ·intro w;rw[w,hP]at hc;cases hc
noncomputable def v0 (P:ax)(l:aZ):TE:=λ_ H Q=>(∃t:Tok,H P=some (.tbl #[.str l.qual t]))/\∀f H',aI H H'->H f=none->eV H' f l->Q (.ref f) H'
theorem Q6 {pos:Pos}{c:av}:∀{l:List av},TriplesOk l->TriplesOk (l++[rawInt pos.line,rawInt pos.col,c]):=by
 intro l h
 fun_induction TriplesOk l with
 |case1=>exact trivial
 |case2 a b c d e r ih=>exact ih h
 |case3=>exact h.elim
theorem Q7 {pos pos':Pos}{c cv:av}:∀{l:List av},TriplesOk l->codeAmong pos' (l++[rawInt pos.line,rawInt pos.col,c])=some cv->codeAmong pos' l=some cv∨cv=c:=by
 intro l h g
 fun_induction TriplesOk l with
 |case1=>
  simp only[List.nil_append,codeAmong,rawInt]at g;split at g
  ·exact .inr (ax7 g).symm
  ·cases g
 |case2 a b d e f r ih=>
  simp only[List.cons_append,codeAmong]at g ⊢;split
  ·rename_i hh
   rw[if_pos hh]at g;exact .inl g
  ·rename_i hh
   rw[if_neg hh]at g;exact ih h g
 |case3=>exact h.elim
theorem Q8 {params:Arguments}{body:Expr}{scope:Scope}{pos:Pos}{c0:ax}(hl:l=⟨X.env.qual++"<lambda>",params,body,scope⟩)(hcode:X.env.code = .ref c0)(hK:codeHdIn X.K c0 P=true)(B:fN X.base X.mg P)(hgP:mainGlobals≠P)(hdef:defaultsOf params X.env=([],[]):=by rfl)(hcl:closureFor scope X.env=pure []:=by rfl):PE X (.Lambda params body scope pos) (v0 P l):=by
 intro ai s σ H Q I ⟨⟨t,hP⟩,q⟩
 obtain⟨qs,e,tr,cs⟩:=(show bK X.prog X.w H s.heap P (.tbl #[.str l.qual t]) from I.hok P _ hP)
 have e0:s.heap.get? P=some (tabObj qs):=e;refine kla_eval hdef ?_;have lq:l.qual=X.env.qual++"<lambda>":=by rw[hl]
 cases hf:codeAmong pos qs.toList with
 |none=>
  refine kla_makeFunction hcl I.ok.glob (I.ok.mod.glob.keeps I.bk) hcode (codeHd_of_K I.kIn hK) e0 tr hf hgP (B.at I) λc' ctv h' tk hx hge hlt hrec htb=>?_
  obtain⟨c2,oc,vs,tq,ec,hoc,hd,hv⟩:=hrec
  cases ec;have hx2:Heap.ExtBut P s.heap h':=hx;have I1:aA X ai σ (upd H c' (.code l.qual)) { s with heap:=h',toks:=tk }:=I.table (l:=l) hP hx2 hge hoc hd (by rw[lq];exact hv) e htb (by rw[Array.toList_append];exact Q6 tr) cs λpos' cv h=>by
   rw[Array.toList_append]at h;exact Q7 tr h
  have fn:upd H c' (.code l.qual) h'.objs.size=none:=I1.hok.fresh (aw5 _);have cf:c'≠h'.objs.size:=ay9 hlt
  let fo:Obj:=kla_obj "<lambda>" (X.env.qual++"<lambda>") params body scope [] ((X.mg "__name__").getD .none) c' ctv
  have I2:aA X ai σ (upd (upd H c' (.code l.qual)) h'.objs.size (.frz fo (.cd c' l.qual))) { s with heap:=h'.push fo,toks:=tk }:=I1.laid (s:={ s with heap:=h',toks:=tk }) (a:=h'.objs.size) (o:=.frz fo (.cd c' l.qual)) (t':=tk) (λb o g=>av6 _ g) (aw5 _) ⟨aw8 _ rfl,⟨fo,aw8 _ rfl⟩,by rw[aK cf,bI]⟩;refine⟨.ref h'.objs.size,_,I2,rfl,q _ _ (λb o g=>?_) ?_ ⟨(X.mg "__name__").getD .none,ctv,c',by rw[bI,hl]⟩⟩
  ·have b1:b≠c':=λz=>by rw[z,I.hok.fresh hge]at g;cases g
   have b2:b≠h'.objs.size:=λz=>by
    have:=I.hok.lt g
    rw[z]at this;exact absurd (av9 (av9 this hge) (aE7 hlt)) (az9 _)
   rw[aK b2,aK b1];exact g
  ·cases z:H h'.objs.size with
   |none=>rfl
   |some u=>exact absurd (av9 (av9 (I.hok.lt z) hge) (aE7 hlt)) (az9 _)
 |some cv=>
  obtain⟨c,q',t',rfl,hc,eq⟩:=cs pos cv hf
  have hq:q'=l.qual:=by
   have:=congrArg (λa:Array av=>a[0]?) eq
   simp at this;exact this.1.symm
  subst hq;refine kla_makeFunctionHit hcl I.ok.glob (I.ok.mod.glob.keeps I.bk) hcode (codeHd_of_K I.kIn hK) e0 tr hf (B.at I) λctv h' tk k hsz=>?_
  have I1:aA X ai σ H { s with heap:=h',toks:=tk }:=I.kept k
  let fo:Obj:={ cls:=.type "function",data:=.func (kla_fn "<lambda>" (X.env.qual++"<lambda>") params body scope [] ((X.mg "__name__").getD .none) (.ref c) ctv) }
  have I2:aA X ai σ (upd H h'.objs.size (.frz fo (.cd c l.qual))) { s with heap:=h'.push fo,toks:=tk }:=I1.laid (s:={ s with heap:=h',toks:=tk }) (a:=h'.objs.size) (o:=.frz fo (.cd c l.qual)) (t':=tk) (λb o g=>av6 _ g) (aw5 _) ⟨aw8 _ rfl,⟨fo,aw8 _ rfl⟩,by rw[aK (λz=>by rw[z,I1.hok.fresh (aw5 _)]at hc;cases hc)];exact hc⟩;have fn:H h'.objs.size=none:=I1.hok.fresh (aw5 _);have old:∀{b o},H b=some o->b≠h'.objs.size:=λ{b o} g z=>by rw[z,fn]at g;cases g
  exact⟨.ref h'.objs.size,_,I2,rfl,q _ _ (λb o g=>by rw[aK (old g)];exact g) fn ⟨(X.mg "__name__").getD .none,ctv,c,by rw[bI,hl]⟩⟩
end
end L2
namespace L2
open PySem PySem.Spec PyProof.Rows
structure pN (P:ay)(w:ba)(K:ad)(mg:Str->Option av)(base:Heap)(CX:dC)(k:Nat)(l:aZ)(sp:Sp):Prop where
 run:∀(A:az) (outer:List Env) (s:aw) (H:Hp) (f:ax) (us:List av) (vs:List V) (Q:VK) (E:XK),bE k A->kM P w K mg base A outer s H->eV H f l->aM vs us->sp vs H Q E->
  codeAny (model P w) A (.call (.ref f) ⟨us,[]⟩) (CR CX outer P w H s Q E) s
theorem eV.at {P:ay}{w:ba}{H:Hp}{h:Heap}{f:ax}{l:aZ}(q:eV H f l)(ok:bG P w H h):∃(pm ctv:av) (c:ax),h.get? f=some (uZ l pm (.ref c) ctv)/\h.CodeRec (.ref c) l.qual:=by
 obtain⟨pm,ctv,c,e1⟩:=q
 have q1:=ok f _ e1
 obtain⟨oc,vs,t,g,d,e⟩:=(show bK P w H h c (.code l.qual) from ok c _ q1.2.2)
 exact⟨pm,ctv,c,q1.1,c,oc,vs,t,rfl,g,d,e⟩
theorem Q9 {CX:dC}{P:ay}{w:ba}{K:ad}{mg:Str->Option av}{base:Heap}{k:Nat}{l:aZ}{N ps:List Str}{sp:Sp}(S:FnScope N ps l.scope)(hb:∀(pm cv ctv:av) (us:List av),us.length=ps.length->bindArgs (pM l pm cv ctv) ⟨us,[]⟩=pure (ps.zip us))(len:∀vs H Q E,sp vs H Q E->vs.length=ps.length)(hbody:∀(A:az) (outer:List Env) (s:aw) (H:Hp) (f:ax) (cv:av) (vs:List V) (Q:VK) (E:XK),bE k (A.deeper (envOfC l.qual l.scope s.heap.objs.size f cv))->sp vs H Q E->
   ∃t,PE (bS CX P w K mg base N l.qual l.scope f cv A outer s H E) l.body t/\t (dM N vs) H Q) :
  pN P w K mg base CX (k+1) l sp:=by
 refine⟨λA outer s H f us vs Q E hr e0 hl r hsp=>?_⟩;have ao:=len _ _ _ _ hsp
 obtain⟨pm,ctv,c,ho,hcd⟩:=hl.at e0.hok
 have lim:s.heap.NoLimit:=e0.mod.nolimit.keeps λb o e=>(e0.bs b o e).1
 have hkind:∀y∈ps.zip us,l.scope.names.lookup y.1=some .local∨(l.scope.names.lookup y.1=some .cell/\((cellsFrom (s.heap.objs.size+1) l.scope.names []).lookup y.1).isSome=true):=λ⟨n,v⟩ hy=>by
  rcases S.par n (List.of_mem_zip hy).1 with q|q
  ·exact .inl q
  ·exact .inr ⟨q,PySem.W.cellsFrom_some _ _ _ (.inl q)⟩
 refine PySem.W.kla_callFunE hr.depth ho rfl S.co S.gen rfl hcd ?_;rw[hb pm (.ref c) ctv us (by rw[<- r.length];exact ao)];refine av8 (wpAny_newFunctionEnv_cells S.kind hkind λenv he s1 x=>?_);subst he;refine⟨lim.keeps x.toInCall.keep,PySem.W.kla_codeExpr ?_⟩
 obtain⟨t,ht,hq⟩:=hbody A outer s H f (.ref c) vs Q E (hr.deeper _) hsp
 have I:aA (bS CX P w K mg base N l.qual l.scope f (.ref c) A outer s H E) [] (dM N vs) H s1:=u4 S hr.hd e0 ao r x;refine az6 (ht [] s1 (dM N vs) H _ I hq) (λu s' hs=>?_) λe s' hs=>hs
 obtain⟨v,H',J,rv,q⟩:=hs
 exact⟨v,H',J.os,J.bare,J.base,J.hok,rv,q⟩
end L2
namespace Raw
open PySem PySem.W PySem.Calls PyProof.Rows
section
variable {prog:ay}{w:ba}{K:Type}[DecidableEq K]{knd:HeapKind prog w K}{A:az}{E:av→aw→Prop}{s:aw}{env:Env}
theorem R0 {k v:Expr}{pos:Pos}{Q:av->aw->Prop}(hu:knd.room A)(h:wpAny (model prog w) A (eval k env) (λkv s1=>wpAny (model prog w) A (eval v env) (λvv s2=>∃a κ,kv = .ref a/\knd.is s2.heap κ a/\s2.heap.DictOfH knd s.heap.objs.size []/\
   ∀h',h'.DictOfH knd s.heap.objs.size [(κ,a,vv)]->Heap.SameBut s.heap.objs.size s2.heap h'->Q (.ref s.heap.objs.size) { s2 with heap:=h',toks:=s2.toks+knd.draws κ }) E s1) E
   { s with heap:=s.heap.push { cls:=.type "dict",data:=.dict #[] } }):wpAny (model prog w) A (eval (.Dict [some k] [v] pos) env) Q E s:=by
 rw[arm_eval_Dict,zip_pairTrees [some k] [v] env pos rfl rfl,dictDisplay_pairs _ (by simp[pairTrees]) (by simp[pairTrees])];refine av3 (wpAny_standAt (av3 ?_));unfold subDict;refine av3 (wpAny_alloc ?_);refine av3 (wpAny_holding ?_);rw[if_pos (by simp[pairTrees])];refine av3 (pairTrees_cons_walk (az6 h (λkv s1 h1=>az6 h1 (λvv s2 h2=>pairTrees_nil_walk ?_) λ_ _ e=>e) λ_ _ e=>e))
 obtain⟨a,κ,rfl,hk,hm,hQ⟩:=h2
 refine wpAny_holding ?_;refine av3 ?_;rw[List.forIn_cons];refine av3 (av3 (wpAny_dictSet_heap (hsz:=by simp) hu hk hm λh' hm' hs'=>av8 ?_));dsimp only;rw[List.forIn_nil];exact av8 (av8 (av8 (av8 (hQ h' (by simpa[storedH,atKey] using hm') hs'))))
end
end Raw
namespace L2
open PySem PySem.Spec PyProof.Rows
noncomputable abbrev dX (H:Hp):List (List (Int×Bool)×V)->List (ae×ax×av)->Prop:=Paired λp q=>cL p.1=q.1/\dJ H p.1 q.2.1/\aP p.2 q.2.2
theorem dX.val {H:Hp}{kvs:List (List (Int×Bool)×V)}{xs:List (ae×ax×av)}(r:dX H kvs xs)(k:List (Int×Bool)):g8 (eJ kvs k) ((atKey xs (cL k)).map (·.2)):=by
 induction r with
 |nil=>exact True.intro
 |@cons p q ps qs h t ih=>
  obtain⟨h1,_,h2⟩:=h
  by_cases e:p.1=k
  ·have e':q.1=cL k:=by rw[<- h1,e]
   have b:atKey (q::qs) (cL k)=some q.2:=by simp[atKey,az0,e']
   rw[pA e,b];exact h2
  ·have e':¬q.1=cL k:=λz=>e (oS (h1.trans z))
   have b:atKey (q::qs) (cL k)=atKey qs (cL k):=by simp[atKey,az0,e']
   rw[pB e,b];exact ih
theorem dX.repl {H:Hp}{kvs:List (List (Int×Bool)×V)}{xs:List (ae×ax×av)}(r:dX H kvs xs)(k:List (Int×Bool)){y:V}{u:av}(ry:aP y u) :
  dX H (kvs.map λkv=>if kv.1=k then (kv.1,y) else kv) (xs.map (putAt (cL k) u)):=by
 induction r with
 |nil=>exact .nil
 |@cons p q ps qs h t ih=>
  rw[ax2,ax2];refine .cons ?_ ih
  obtain⟨h1,h2,h3⟩:=h
  unfold putAt;by_cases e:p.1=k
  ·rw[if_pos e,if_pos (by rw[<- h1,e])];exact⟨h1,h2,ry⟩
  ·rw[if_neg e,if_neg (λz=>e (oS (h1.trans z)))];exact⟨h1,h2,h3⟩
theorem dX.put {H:Hp}{kvs:List (List (Int×Bool)×V)}{xs:List (ae×ax×av)}(r:dX H kvs xs)(k:List (Int×Bool)){b:ax}{y:V}{u:av}(hb:dJ H k b)(ry:aP y u) :
  dX H (dN kvs k y) (storedH xs (cL k) b u):=by
 have e:(kvs.any λkv=>decide (kv.1=k))=(atKey xs (cL k)).isSome:=by
  rw[uL,(r.val k).isSome_eq,Option.isSome_map]
 unfold dN storedH;rw[e];by_cases q:(atKey xs (cL k)).isSome=true
 ·rw[if_pos q,if_pos q];exact r.repl k ry
 ·rw[if_neg q,if_neg q];exact Paired.snoc r ⟨rfl,hb,ry⟩
theorem dX.keeps {H H':Hp}{kvs:List (List (Int×Bool)×V)}{xs:List (ae×ax×av)}(r:dX H kvs xs)(ht:∀b ys,H b=some (.tup ys)->H' b=some (.tup ys)):dX H' kvs xs:=
 Paired.mapP r λ_ _ z=>⟨z.1,z.2.1.keeps ht,z.2.2⟩
section
variable {P:ay}{w:ba}{H:Hp}{h:Heap}{a:ax}
theorem n4 (P:ay)(w:ba)(k:Int)(v:av):(g4 P w).is k v=iD k v:=rfl
theorem R3 {c:ax}{p:Int×Bool}(ok:bG P w H h)(e:H c=some (.tup [.int p.1,.bl p.2])):IsTupleKey (g4 P w) h [p.1,if p.2 then 1 else 0] c:=by
 obtain⟨_,its,r,⟨o,h1,h2,n,h3⟩,_⟩:=(show bK P w H h c (.tup [.int p.1,.bl p.2]) from ok c _ e)
 refine⟨o,its.toArray,n,h1,h2,h3,?_⟩;cases r with
 |@cons _ v1 _ vs1 r1 t1=>
  cases t1 with
  |@cons _ v2 _ vs2 r2 t2=>
   cases t2
   obtain⟨t,rfl⟩:=(show ∃t,v1=Value.int p.1 t from r1)
   cases (show v2=Value.bool p.2 from r2);exact .cons (by rw[n4];simp[iD]) (.cons (by rw[n4];simp[iD]) .nil)
theorem jG {k:List (Int×Bool)}{b:ax}(ok:bG P w H h)(e:dJ H k b):(kC (g4 P w)).is h (cL k) b:=by
 obtain⟨us,e,r⟩:=e
 obtain⟨lz,its,rv,⟨o,h1,h2,n,h3⟩,nd⟩:=(show bK P w H h b (.tup us) from ok b _ e)
 refine⟨o,its.toArray,n,h1,h2,h3,?_⟩;show Paired _ _ its.toArray.toList;have e2:its.toArray.toList=its:=by simp
 rw[e2];clear h3 e2 e lz nd h1 h2
 induction r generalizing its with
 |nil=>cases rv;exact .nil
 |@cons p u ps us hd t ih=>
  cases rv with
  |@cons _ v _ vs r1 t1=>
   obtain⟨c,rfl,hc⟩:=hd
   cases (show v=Value.ref c from r1);exact .cons ⟨c,rfl,R3 ok hc⟩ (ih _ t1)
theorem jH {kvs:List (List (Int×Bool)×V)}(ok:bG P w H h)(e:Rd H a (.dA kvs)):kvs.length<=sizeLine/\(a==sysModules)=false/\
  ∃xs,dX H kvs xs/\h.DictOfH (kC (g4 P w)) a xs:=by
 obtain⟨z,y,xs,r,o,es,ep,h1,h2,h3,h4,h5⟩:=(show bK P w H h a (.dA kvs) from pC ok e)
 refine⟨z,y,xs,r,o,es,ep,h1,h2,h3,h4,λx hx=>?_,h5⟩;have all:∀{l:List (List (Int×Bool)×V)}{m:List (ae×ax×av)},dX H l m->∀x∈m,(kC (g4 P w)).is h x.1 x.2.1:=by
  intro l m q
  induction q with
  |nil=>intro x hx;exact nomatch hx
  |@cons p q ps qs hq t ih=>
   intro x hx;rcases aw6.mp hx with e|hx
   ·subst e
    rw[<- hq.1];exact jG ok hq.2.1
   ·exact ih x hx
 exact all r x hx
theorem kS {kvs:List (Int×V)}(ok:bG P w H h)(e:Rd H a (.dB kvs)):kvs.length<=sizeLine/\(a==sysModules)=false/\∃vs,KV kvs vs/\h.DictOf (g4 P w) a vs:=
 show bK P w H h a (.dB kvs) from pC ok e
end
noncomputable def iO (k:Int)(y:V):Prop:=y = .int k∨∃b:Bool,y = .bl b/\k=if b then 1 else 0
theorem iO.is {k:Int}{y:V}{u:av}{P:ay}{w:ba}(n:iO k y)(r:aP y u):(g4 P w).is k u=true:=by
 rcases n with rfl|⟨b,rfl,rfl⟩
 ·obtain⟨t,rfl⟩:=(show ∃t,u=Value.int k t from r)
  rw[n4];simp[iD]
 ·cases (show u=Value.bool b from r)
  rw[n4];simp[iD]
noncomputable def h9 (H:Hp)(a:ax)(y:V)(r:Option V):Prop:=
 (∃kvs k b,Rd H a (.dA kvs)/\y = .ref b/\dJ H k b/\r=eJ kvs k)∨∃kvs k,Rd H a (.dB kvs)/\iO k y/\r=eJ kvs k
noncomputable def v5 (H:Hp)(a:ax)(y v:V)(H':Hp):Prop:=
 (∃kvs k b,H a=some (.dA kvs)/\y = .ref b/\dJ H k b/\kvs.length<sizeLine/\H'=upd H a (.dA (dN kvs k v))) ∨
 ∃kvs k,H a=some (.dB kvs)/\iO k y/\kvs.length<sizeLine/\H'=upd H a (.dB (dN kvs k v))
section
variable {X:Cx}{ai:List (ax×Obj)}{σ:St}{H:Hp}{s:aw}{a:ax}{y v:V}{u r:av}{o:Option V}{A:az}{E:av→aw→Prop}
theorem R4 (I:aA X ai σ H s)(g:h9 H a y o):s.TypeIs (.ref a) "dict":=by
 rcases g with⟨kvs,k,b,e,_,_,_⟩|⟨kvs,k,e,_,_⟩
 ·obtain⟨_,_,xs,_,dd⟩:=jH I.hok e
  exact dd.typeIs
 ·obtain⟨_,_,vs,_,dd⟩:=kS I.hok e
  exact dd.typeIs
theorem R5 {Q:av->aw->Prop}(hu:A.units+16<cLine)(I:aA X ai σ H s)(g:h9 H a y (some v))(ry:aP y u)(h:∀w' s',aA X ai σ H s'->aP v w'->Q w' s') :
  wpAny (model X.prog X.w) A (getItem (.ref a) u) Q E s:=by
 rcases g with⟨kvs,k,b,e,ey,eb,l⟩|⟨kvs,k,e,ey,l⟩
 ·subst ey
  cases (show u=Value.ref b from ry)
  obtain⟨z,hd,xs,rel,dd⟩:=jH I.hok e
  obtain⟨w',hw,rw'⟩:=g8.some_of (v:=v) (o:=(atKey xs (cL k)).map (·.2)) (by rw[l];exact rel.val k)
  obtain⟨p,hp,hp2⟩:=Option.map_eq_some_iff.mp hw
  refine wpAny_getItem_heap (show A.units+1+8<cLine by omega) (jG I.hok eb) dd hp ?_;rw[hp2];exact h w' _ (I.tok _) rw'
 ·obtain⟨z,hd,vs,rel,dd⟩:=kS I.hok e
  obtain⟨w',hw,rw'⟩:=g8.some_of (v:=v) (o:=valueAt vs k) (by rw[l];exact rel.val k)
  exact wpAny_getItem_of (ey.is ry) dd.mapOf hw (h w' _ (I.tok _) rw')
theorem R6 {Q:av->aw->Prop}(hu:A.units+16<cLine)(I:aA X ai σ H s)(g:h9 H a y o)(ry:aP y u)(h:∀s',aA X ai σ H s'->Q (.bool o.isSome) s') :
  wpAny (model X.prog X.w) A (compareOp .In u (.ref a)) Q E s:=by
 rcases g with⟨kvs,k,b,e,ey,eb,l⟩|⟨kvs,k,e,ey,l⟩
 ·subst ey
  cases (show u=Value.ref b from ry)
  obtain⟨z,hd,xs,rel,dd⟩:=jH I.hok e
  refine wpAny_in_heap (show A.units+1+8<cLine by omega) (jG I.hok eb) hd dd ?_;have q:=(rel.val k).isSome_eq;rw[Option.isSome_map]at q;rw[<- q,<- l];exact h _ (I.tok _)
 ·obtain⟨z,hd,vs,rel,dd⟩:=kS I.hok e
  refine wpAny_in_of (ey.is ry) hd dd.mapOf ?_;rw[<- (rel.val k).isSome_eq,<- l];exact h _ (I.tok _)
theorem R7 {Q:av->aw->Prop}(hu:A.units+16<cLine)(I:aA X ai σ H s)(g:h9 H a y o)(ry:aP y u)(h:∀s',aA X ai σ H s'->Q (.bool (!o.isSome)) s') :
  wpAny (model X.prog X.w) A (compareOp .NotIn u (.ref a)) Q E s:=by
 rcases g with⟨kvs,k,b,e,ey,eb,l⟩|⟨kvs,k,e,ey,l⟩
 ·subst ey
  cases (show u=Value.ref b from ry)
  obtain⟨z,hd,xs,rel,dd⟩:=jH I.hok e
  refine wpAny_notIn_heap (show A.units+1+8<cLine by omega) (jG I.hok eb) hd dd ?_;have q:=(rel.val k).isSome_eq;rw[Option.isSome_map]at q;rw[<- q,<- l];exact h _ (I.tok _)
 ·obtain⟨z,hd,vs,rel,dd⟩:=kS I.hok e
  refine wpAny_notIn_of (ey.is ry) hd dd.mapOf ?_;rw[<- (rel.val k).isSome_eq,<- l];exact h _ (I.tok _)
theorem R8 {H':Hp}{Q:Unit->aw->Prop}(hu:A.units+16<cLine)(I:aA X ai σ H s)(g:v5 H a y v H')(ry:aP y u)(rv:aP v r)(h:∀s',aA X ai σ H' s'->Q () s') :
  wpAny (model X.prog X.w) A (setItem (.ref a) u r) Q E s:=by
 rcases g with⟨kvs,k,b,e,ey,eb,l,eH⟩|⟨kvs,k,e,ey,l,eH⟩
 ·subst ey eH
  cases (show u=Value.ref b from ry)
  obtain⟨z,hd,xs,rel,dd⟩:=jH I.hok (.inl e)
  have hz:xs.length<=sizeLine:=by rw[<- Paired.length rel];exact z
  have hl:(dN kvs k v).length<=sizeLine:=by have:=uM kvs k v;omega
  refine wpAny_setItem_heap (hsz:=hz) (show A.units+1+8<cLine by omega) (jG I.hok eb) dd λh' dd' hs=>h _ ?_
  obtain⟨q,es,ep,hq,h2,h3,h4,_,h5⟩:=dd'
  refine pD I (by rw[e];exact True.intro) hs ⟨q,hq⟩ ⟨hl,hd,_,(rel.put k eb rv).keeps λc ys ec=>?_,q,es,ep,hq,h2,h3,h4,h5⟩;rw[aK (sY ec e (λz=>nomatch z))];exact ec
 ·subst eH
  obtain⟨z,hd,vs,rel,dd⟩:=kS I.hok (.inl e)
  have hz:vs.length<=sizeLine:=by rw[<- rel.length];exact z
  have hl:(dN kvs k v).length<=sizeLine:=by have:=uM kvs k v;omega
  refine wpAny_setItem_pairs (hsz:=hz) (ey.is ry) dd λh' dd' hs=>h _ ?_
  have he:∃q,h'.get? a=some q:=let ⟨q,_,_,hq,_⟩:=dd';⟨q,hq⟩
  exact pD I (by rw[e];exact True.intro) hs he ⟨hl,hd,_,rel.put k rv,dd'⟩
end
noncomputable def v6 (td ty:TE):TE:=λσ H Q=>td σ H λx H1=>ty σ H1 λy H2=>∃a v,x = .ref a/\h9 H2 a y (some v)/\Q v H2
noncomputable def v7 (ty td:TE):TE:=λσ H Q=>ty σ H λy H1=>td σ H1 λx H2=>∃a o,x = .ref a/\h9 H2 a y o/\Q (.bl o.isSome) H2
noncomputable def v8 (ty td:TE):TE:=λσ H Q=>ty σ H λy H1=>td σ H1 λx H2=>∃a o,x = .ref a/\h9 H2 a y o/\Q (.bl (!o.isSome)) H2
noncomputable def jI (td ty tv:TE):TS:=λD σ H=>tv σ H λv H1=>td σ H1 λx H2=>ty σ H2 λy H3=>∃a H4,x = .ref a/\v5 H3 a y v H4/\D.nx σ H4
noncomputable def v9:TE:=λ_ H Q=>∀p,H p=none->Q (.ref p) (upd H p (.dA []))
noncomputable def vA:TE:=λ_ H Q=>∀p,H p=none->Q (.ref p) (upd H p (.dB []))
noncomputable def vB (tk tv:TE):TE:=λσ H Q=>∀p,H p=none->tk σ (upd H p (.dA [])) λx H1=>tv σ H1 λy H2=>H2 p=some (.dA [])/\∃b k,x = .ref b/\dJ H2 k b/\Q (.ref p) (upd H2 p (.dA [(k,y)]))
section
variable {X:Cx}{o i e value k v:Expr}{pos pos' tpos:Pos}{td ty tv tk:TE}
theorem R9 (hu:X.A.units+16<cLine)(ho:PE X o td)(hi:PE X i ty)(hs:pE i):PE X (.Subscript o i pos) (v6 td ty):=by
 intro ai s σ H Q I h;refine O4 PySem.F.slot_dict_getitem.lookup hs (aL (ho ai s σ H _ I h) λu s1 ⟨x,H1,I1,rx,q1⟩=>aL (hi ai s1 σ H1 _ I1 q1) λiv s2 ⟨y,H2,I2,ry,a,v,ex,g,q2⟩=>?_);subst ex;obtain rfl:u=Value.ref a:=rx
 exact⟨R4 I2 g,R5 hu I2 g ry λw' s3 I3 rw'=>⟨v,H2,I3,rw',q2⟩⟩
theorem S0 (hu:X.A.units+16<cLine)(hi:PE X i ty)(ho:PE X o td):PC X .In i o (v7 ty td):=by
 intro ai s σ H Q I h;refine aL (hi ai s σ H _ I h) λiv s1 ⟨y,H1,I1,ry,q1⟩=>aL (ho ai s1 σ H1 _ I1 q1) λu s2 ⟨x,H2,I2,rx,a,ov,ex,g,q2⟩=>?_
 subst ex;obtain rfl:u=Value.ref a:=rx;exact R6 hu I2 g ry λs3 I3=>⟨.bl ov.isSome,H2,I3,rfl,q2⟩
theorem S2 (hu:X.A.units+16<cLine)(hi:PE X i ty)(ho:PE X o td):PC X .NotIn i o (v8 ty td):=by
 intro ai s σ H Q I h;refine aL (hi ai s σ H _ I h) λiv s1 ⟨y,H1,I1,ry,q1⟩=>aL (ho ai s1 σ H1 _ I1 q1) λu s2 ⟨x,H2,I2,rx,a,ov,ex,g,q2⟩=>?_
 subst ex;obtain rfl:u=Value.ref a:=rx;exact R7 hu I2 g ry λs3 I3=>⟨.bl (!ov.isSome),H2,I3,rfl,q2⟩
theorem gN (hu:X.A.units+16<cLine)(ho:PE X o td)(hi:PE X i ty)(hv:PE X value tv)(hs:swapsWith value (some (.Subscript o i pos')) pos.line X.env=pure false) :
  PS X (.Assign [.Subscript o i pos'] value pos) (jI td ty tv):=by
 intro ai s σ H D I h;refine wpAny_Assign_Subscript (aL (hv ai s σ H _ I h) λr s1 ⟨v,H1,I1,rv,q1⟩=>aL (ho ai s1 σ H1 _ I1 q1) λu s2 ⟨x,H2,I2,rx,q2⟩=>aL (hi ai s2 σ H2 _ I2 q2) λiv s3 ⟨y,H3,I3,ry,a,H4,ex,g,q3⟩=>?_) hs;subst ex;obtain rfl:u=Value.ref a:=rx;exact R8 hu I3 g ry rv λs4 I4=>⟨σ,H4,I4,q3⟩
theorem vC {P:ay}{w:ba}{H:Hp}(h:Heap)(hb:sysModules<h.objs.size):bK P w H (h.push { cls:=.type "dict",data:=.dict #[] }) h.objs.size (.dA []):=
 ⟨aG0 _,aE0.mpr (Ne.symm (ay9 hb)),[],.nil,_,#[],0,aw8 _ rfl,⟨rfl,rfl,rfl⟩,rfl,rfl,aF8⟩
theorem S3 {P:ay}{w:ba}{H:Hp}(h:Heap)(hb:sysModules<h.objs.size):bK P w H (h.push { cls:=.type "dict",data:=.dict #[] }) h.objs.size (.dB []):=
 ⟨aG0 _,aE0.mpr (Ne.symm (ay9 hb)),[],.nil,Heap.DictOf.new h⟩
theorem S4:PE X (.Dict [] [] pos) v9:=λai s σ H Q I h=>
 wpAny_Dict_empty ⟨.ref s.heap.objs.size,_,I.laid (a:=s.heap.objs.size) (o:=.dA []) (t':=s.toks) (λ_ _ q=>av6 _ q) (aw5 _) (vC s.heap I.big),rfl,h _ (I.hok.fresh (aw5 _))⟩
theorem S5:PE X (.Dict [] [] pos) vA:=λai s σ H Q I h=>
 wpAny_Dict_empty ⟨.ref s.heap.objs.size,_,I.laid (a:=s.heap.objs.size) (o:=.dB []) (t':=s.toks) (λ_ _ q=>av6 _ q) (aw5 _) (S3 s.heap I.big),rfl,h _ (I.hok.fresh (aw5 _))⟩
theorem S6 (hu:X.A.units+16<cLine)(hk:PE X k tk)(hv:PE X v tv):PE X (.Dict [some k] [v] pos) (vB tk tv):=by
 intro ai s σ H Q I q;have hn:=I.hok.fresh (aw5 s.heap.objs.size);have I1:=I.laid (a:=s.heap.objs.size) (o:=.dA []) (h':=s.heap.push { cls:=.type "dict",data:=.dict #[] }) (t':=s.toks) (λ_ _ q=>av6 _ q) (aw5 _) (vC s.heap I.big);refine Raw.R0 (knd:=kC (g4 X.prog X.w)) (show X.A.units+8<cLine by omega) (aL (hk ai _ σ _ _ I1 (q _ hn)) λkv s1 ⟨x,H1,I2,rx,q1⟩=>aL (hv ai s1 σ H1 _ I2 q1) λvv s2 ⟨y,H2,I3,ry,e,b,κ,ex,nk,q2⟩=>?_);subst ex;obtain rfl:kv=Value.ref b:=rx
 obtain⟨z,hd,xs,rel,dd⟩:=jH I3.hok (.inl e)
 cases rel;refine⟨b,cL κ,rfl,jG I3.hok nk,dd,λh' dd' hs=>⟨.ref s.heap.objs.size,_,?_,rfl,q2⟩⟩
 obtain⟨ob,es,ep,hq,h2,h3,h4,_,h5⟩:=dd'
 refine pD I3 (by rw[e];exact True.intro) hs ⟨ob,hq⟩ ⟨by show (1:Nat)<=sizeLine;rw[sizeLine_eq];omega,hd,_,dX.keeps (.cons ⟨rfl,nk,ry⟩ .nil) λc ys ec=>?_,ob,es,ep,hq,h2,h3,h4,h5⟩;rw[aK (sY ec e (λz=>nomatch z))];exact ec
end
end L2
namespace PP
open PySem L2
inductive PV where
 |non|bl (b:Bool)|int (i:Int)|str (x:Str)|tup (xs:List PV)|lst (xs:List PV)
 |dK (kvs:List (bJ×PV))|dT (kvs:List (List bJ×PV))|scr (ns:ag)|kt (xs:List PV)|exc (c:Str)|fK (kvs:List (bJ×PV))|fT (kvs:List (List bJ×PV))|fL (xs:List PV)|fn (x:Str)|ob (a:ax)
 |lm (l:aZ)|dA (kvs:List (List (Int×Bool)×PV))|dB (kvs:List (Int×PV))|fA (kvs:List (List (Int×Bool)×PV))
mutual
noncomputable def flat:PV->Bool
 |.tup xs=>flats xs
 |.lst _=>false
 |.dK _=>false
 |.dT _=>false
 |.non=>true
 |.bl _=>true
 |.int _=>true
 |.str _=>true
 |.scr _=>true
 |.kt xs=>flats xs
 |.exc _=>true
 |.fK _=>false
 |.fT _=>false
 |.fL xs=>flats xs
 |.fn _=>true
 |.ob _=>true
 |.lm _=>true
 |.dA _=>false
 |.dB _=>false
 |.fA _=>false
noncomputable def flats:List PV->Bool
 |[]=>true
 |x::r=>flat x&&flats r
end
noncomputable def gO (K:ad)(H:Hp)(a:ax)(ns:ag):Prop:=(∃o,H a=some (.frz o (.lst (ns.map V.int)))) ∨
  ∃(o:Obj) (its:Array av) (n:Nat),K.lookup a=some o/\o.cls = .type "list"/\o.dict=none/\o.data = .seq its n/\its.size<=sizeLine/\aM (ns.map V.int) its.toList
noncomputable def kT (K:ad)(a:ax)(us:List V):Prop:=∃(o:Obj) (its:Array av) (n:Nat),K.lookup a=some o/\o.cls = .type "tuple"/\o.data = .seq its n/\its.size<=sizeLine/\aM us its.toList
mutual
inductive aE (K:ad)(M:ax->Prop)(H:Hp):V->PV->Prop
 |non:aE K M H .non .non
 |bl (b:Bool):aE K M H (.bl b) (.bl b)
 |int (i:Int):aE K M H (.int i) (.int i)
 |str (x:Str):aE K M H (.str x) (.str x)
 |tup {a:ax}{us:List V}{xs:List PV}:H a=some (.tup us)->Reps K M H us xs->aE K M H (.ref a) (.tup xs)
 |lst {a:ax}{us:List V}{xs:List PV}:M a->H a=some (.lst us)->Reps K M H us xs->aE K M H (.ref a) (.lst xs)
 |dK {a:ax}{kvs:List (bJ×V)}{ps:List (bJ×PV)}:M a->H a=some (.dK kvs)->kvs.map (·.1)=ps.map (·.1)->Reps K M H (kvs.map (·.2)) (ps.map (·.2))->aE K M H (.ref a) (.dK ps)
 |dT {a:ax}{kvs:List (List bJ×V)}{ps:List (List bJ×PV)}:M a->H a=some (.dT kvs)->kvs.map (·.1)=ps.map (·.1)->Reps K M H (kvs.map (·.2)) (ps.map (·.2))->aE K M H (.ref a) (.dT ps)
 |scr {a:ax}{ns:ag}:gO K H a ns->aE K M H (.ref a) (.scr ns)
 |kt {a:ax}{us:List V}{xs:List PV}:kT K a us->Reps K M H us xs->aE K M H (.ref a) (.kt xs)
 |exc {a C:ax}{o:Obj}{c:Str}:H a=some (.frz o (.own a))->PySem.W.nsIn K mainGlobals c=some (some (.ref C))->o.cls = .ref C->aE K M H (.ref a) (.exc c)
 |fK {a:ax}{o:Obj}{kvs:List (bJ×V)}{ps:List (bJ×PV)}:H a=some (.frz o (.dK kvs))->kvs.map (·.1)=ps.map (·.1)->Reps K M H (kvs.map (·.2)) (ps.map (·.2))->aE K M H (.ref a) (.fK ps)
 |fT {a:ax}{o:Obj}{kvs:List (List bJ×V)}{ps:List (List bJ×PV)}:H a=some (.frz o (.dT kvs))->kvs.map (·.1)=ps.map (·.1)->Reps K M H (kvs.map (·.2)) (ps.map (·.2))->aE K M H (.ref a) (.fT ps)
 |fL {a:ax}{o:Obj}{us:List V}{xs:List PV}:H a=some (.frz o (.lst us))->Reps K M H us xs->aE K M H (.ref a) (.fL xs)
 |fn {f:ax}{x:Str}:PySem.W.nsIn K mainGlobals x=some (some (.ref f))->aE K M H (.ref f) (.fn x)
 |ob {a:ax}:aE K M H (.ref a) (.ob a)
 |lm {f:ax}{l:aZ}:eV H f l->aE K M H (.ref f) (.lm l)
 |dA {a:ax}{kvs:List (List (Int×Bool)×V)}{ps:List (List (Int×Bool)×PV)}:M a->H a=some (.dA kvs)->kvs.map (·.1)=ps.map (·.1)->Reps K M H (kvs.map (·.2)) (ps.map (·.2))->aE K M H (.ref a) (.dA ps)
 |dB {a:ax}{kvs:List (Int×V)}{ps:List (Int×PV)}:M a->H a=some (.dB kvs)->kvs.map (·.1)=ps.map (·.1)->Reps K M H (kvs.map (·.2)) (ps.map (·.2))->aE K M H (.ref a) (.dB ps)
 |fA {a:ax}{o:Obj}{kvs:List (List (Int×Bool)×V)}{ps:List (List (Int×Bool)×PV)}:H a=some (.frz o (.dA kvs))->kvs.map (·.1)=ps.map (·.1)->Reps K M H (kvs.map (·.2)) (ps.map (·.2))->aE K M H (.ref a) (.fA ps)
inductive Reps (K:ad)(M:ax->Prop)(H:Hp):List V->List PV->Prop
 |nil:Reps K M H [] []
 |cons {v:V}{x:PV}{vs:List V}{xs:List PV}:aE K M H v x->Reps K M H vs xs->Reps K M H (v::vs) (x::xs)
end
noncomputable def pO:HO->Bool
 |.frz _ _=>true
 |_=>false
noncomputable def vD:HO->Bool
 |.frz _ u=>pO u
 |.ins _ _ _=>true
 |.ext _=>true
 |_=>false
noncomputable def S7:HO->Bool
 |.dA _=>true
 |.dB _=>true
 |_=>false
structure dO (M M':ax->Prop)(H H':Hp):Prop where
 lst:∀a us,M a->H a=some (.lst us)->M' a/\H' a=some (.lst us)
 dK:∀a kvs,M a->H a=some (.dK kvs)->M' a/\H' a=some (.dK kvs)
 dT:∀a kvs,M a->H a=some (.dT kvs)->M' a/\H' a=some (.dT kvs)
 tup:∀a us,H a=some (.tup us)->H' a=some (.tup us)
 frz:∀a o u,H a=some (.frz o u)->pO u=false->H' a=some (.frz o u)
 dA:∀a u,S7 u=true->M a->H a=some u->M' a/\H' a=some u
theorem gO.keep {K:ad}{H H':Hp}{a:ax}{ns:ag}(k:∀a o u,H a=some (.frz o u)->pO u=false->H' a=some (.frz o u))(h:gO K H a ns):gO K H' a ns:=
 h.elim (λ⟨o,e⟩=>.inl ⟨o,k _ _ _ e rfl⟩) .inr
mutual
theorem aE.keep {K:ad}{M M':ax->Prop}{H H':Hp}(k:dO M M' H H'):∀{v:V}{x:PV},aE K M H v x->aE K M' H' v x
 |_,_,.non=>.non
 |_,_,.bl b=>.bl b
 |_,_,.int i=>.int i
 |_,_,.str x=>.str x
 |_,_,.tup h r=>.tup (k.tup _ _ h) (Reps.keep k r)
 |_,_,.lst m h r=>.lst (k.lst _ _ m h).1 (k.lst _ _ m h).2 (Reps.keep k r)
 |_,_,.dK m h e r=>.dK (k.dK _ _ m h).1 (k.dK _ _ m h).2 e (Reps.keep k r)
 |_,_,.dT m h e r=>.dT (k.dT _ _ m h).1 (k.dT _ _ m h).2 e (Reps.keep k r)
 |_,_,.scr h=>.scr (h.keep k.frz)
 |_,_,.kt h r=>.kt h (Reps.keep k r)
 |_,_,.exc h e c=>.exc (k.frz _ _ _ h rfl) e c
 |_,_,.fK h e r=>.fK (k.frz _ _ _ h rfl) e (Reps.keep k r)
 |_,_,.fT h e r=>.fT (k.frz _ _ _ h rfl) e (Reps.keep k r)
 |_,_,.fL h r=>.fL (k.frz _ _ _ h rfl) (Reps.keep k r)
 |_,_,.fn h=>.fn h
 |_,_,.ob=>.ob
 |_,_,.lm h=>.lm (let ⟨pm,ctv,c,e1⟩:=h;⟨pm,ctv,c,k.frz _ _ _ e1 rfl⟩)
 |_,_,.dA m h e r=>.dA (k.dA _ _ rfl m h).1 (k.dA _ _ rfl m h).2 e (Reps.keep k r)
 |_,_,.dB m h e r=>.dB (k.dA _ _ rfl m h).1 (k.dA _ _ rfl m h).2 e (Reps.keep k r)
 |_,_,.fA h e r=>.fA (k.frz _ _ _ h rfl) e (Reps.keep k r)
theorem Reps.keep {K:ad}{M M':ax->Prop}{H H':Hp}(k:dO M M' H H'):∀{vs:List V}{xs:List PV},Reps K M H vs xs->Reps K M' H' vs xs
 |_,_,.nil=>.nil
 |_,_,.cons r t=>.cons (aE.keep k r) (Reps.keep k t)
end
mutual
theorem aE.flat {K:ad}{M M':ax->Prop}{H:Hp}{v:V}{x:PV}(f:flat x=true)(r:aE K M H v x):aE K M' H v x:=by
 cases r with
 |non=>exact .non
 |bl b=>exact .bl b
 |int i=>exact .int i
 |str x=>exact .str x
 |tup h r=>exact .tup h (Reps.flat (by unfold PP.flat at f;exact f) r)
 |lst m h r=>unfold PP.flat at f;cases f
 |dK m h e r=>unfold PP.flat at f;cases f
 |dT m h e r=>unfold PP.flat at f;cases f
 |scr h=>exact .scr h
 |kt h r=>exact .kt h (Reps.flat (by unfold PP.flat at f;exact f) r)
 |exc h e c=>exact .exc h e c
 |fK h e r=>unfold PP.flat at f;cases f
 |fT h e r=>unfold PP.flat at f;cases f
 |fL h r=>exact .fL h (Reps.flat (by unfold PP.flat at f;exact f) r)
 |fn h=>exact .fn h
 |ob=>exact .ob
 |lm h=>exact .lm h
 |dA m h e r=>unfold PP.flat at f;cases f
 |dB m h e r=>unfold PP.flat at f;cases f
 |fA h e r=>unfold PP.flat at f;cases f
theorem Reps.flat {K:ad}{M M':ax->Prop}{H:Hp}{vs:List V}{xs:List PV}(f:flats xs=true)(r:Reps K M H vs xs):Reps K M' H vs xs:=by
 cases r with
 |nil=>exact .nil
 |cons r t=>
  unfold PP.flats at f;rw[aw7]at f;exact .cons (aE.flat f.1 r) (Reps.flat f.2 t)
end
theorem dO.same {M M':ax->Prop}{H H':Hp}(s:aI H H')(m:∀a,M a->M' a):dO M M' H H':=
 ⟨λa _ h e=>⟨m a h,s _ _ e⟩,λa _ h e=>⟨m a h,s _ _ e⟩,λa _ h e=>⟨m a h,s _ _ e⟩,λ_ _ e=>s _ _ e,λ_ _ _ e _=>s _ _ e,λa _ _ h e=>⟨m a h,s _ _ e⟩⟩
theorem aE.same {K:ad}{M M':ax->Prop}{H H':Hp}{v:V}{x:PV}(r:aE K M H v x)(s:aI H H')(m:∀a,M a->M' a):aE K M' H' v x:=r.keep (.same s m)
theorem Reps.same {K:ad}{M M':ax->Prop}{H H':Hp}{v:List V}{x:List PV}(r:Reps K M H v x)(s:aI H H')(m:∀a,M a->M' a):Reps K M' H' v x:=r.keep (.same s m)
noncomputable def dE:HO->Bool
 |.lst _=>true
 |.dK _=>true
 |.dT _=>true
 |.dA _=>true
 |.dB _=>true
 |_=>false
theorem dO.upd {M M':ax->Prop}{H:Hp}{a:ax}{o o':HO}(h:H a=some o')(mu:dE o'=true)(m:∀b,M b->b≠a/\M' b):dO M M' H (upd H a o):=
 ⟨λb _ hb e=>⟨(m b hb).2,by rw[aK (m b hb).1];exact e⟩,λb _ hb e=>⟨(m b hb).2,by rw[aK (m b hb).1];exact e⟩,λb _ hb e=>⟨(m b hb).2,by rw[aK (m b hb).1];exact e⟩,
  λb _ e=>by rw[aK (λz=>by rw[z,h]at e;cases e;cases mu)];exact e,
  λb _ _ e _=>by rw[aK (λz=>by rw[z,h]at e;cases e;cases mu)];exact e,λb _ _ hb e=>⟨(m b hb).2,by rw[aK (m b hb).1];exact e⟩⟩
theorem Reps.length {K:ad}{M:ax->Prop}{H:Hp}:∀{vs:List V}{xs:List PV},Reps K M H vs xs->vs.length=xs.length
 |_,_,.nil=>rfl
 |_,_,.cons _ t=>congrArg (·+1) t.length
theorem Reps.get {K:ad}{M:ax->Prop}{H:Hp}:∀{vs:List V}{xs:List PV}{i:Nat}{v:V},Reps K M H vs xs->vs[i]? = some v->∃x,xs[i]? = some x/\aE K M H v x
 |_,_,_,_,.nil,e=>by simp at e
 |_,_,0,_,.cons r _,e=>by simp at e;subst e;exact⟨_,rfl,r⟩
 |_,_,i+1,v,.cons _ t,e=>by
  rw[aB4]at e
  obtain⟨x,h1,h2⟩:=t.get e
  exact⟨x,by rw[aB4];exact h1,h2⟩
theorem Reps.at {K:ad}{M:ax->Prop}{H:Hp}:∀{vs:List V}{xs:List PV}{i:Nat}{x:PV},Reps K M H vs xs->xs[i]? = some x->∃v,vs[i]? = some v/\aE K M H v x
 |_,_,_,_,.nil,e=>by simp at e
 |_,_,0,_,.cons r _,e=>by simp at e;subst e;exact⟨_,rfl,r⟩
 |_,_,i+1,v,.cons _ t,e=>by
  rw[aB4]at e
  obtain⟨x,h1,h2⟩:=t.at e
  exact⟨x,by rw[aB4];exact h1,h2⟩
theorem Reps.append {K:ad}{M:ax->Prop}{H:Hp}:∀{vs:List V}{xs:List PV}{us:List V}{ys:List PV},Reps K M H vs xs->Reps K M H us ys->Reps K M H (vs++us) (xs++ys)
 |_,_,_,_,.nil,s=>s
 |_,_,_,_,.cons r t,s=>.cons r (t.append s)
theorem Reps.take {K:ad}{M:ax->Prop}{H:Hp}:∀(n:Nat) {vs:List V}{xs:List PV},Reps K M H vs xs->Reps K M H (vs.take n) (xs.take n)
 |0,_,_,_=>by simp;exact .nil
 |_+1,_,_,.nil=>.nil
 |n+1,_,_,.cons r t=>.cons r (Reps.take n t)
theorem Reps.drop {K:ad}{M:ax->Prop}{H:Hp}:∀(n:Nat) {vs:List V}{xs:List PV},Reps K M H vs xs->Reps K M H (vs.drop n) (xs.drop n)
 |0,_,_,r=>r
 |_+1,_,_,.nil=>.nil
 |n+1,_,_,.cons _ t=>Reps.drop n t
noncomputable abbrev intz (ns:ag):List PV:=ns.map PV.int
theorem Reps.intz {K:ad}{M:ax->Prop}{H:Hp}:∀(ns:ag),Reps K M H (ns.map V.int) (intz ns)
 |[]=>.nil
 |n::r=>.cons (.int n) (Reps.intz r)
theorem Reps.ofInts {K:ad}{M:ax->Prop}{H:Hp}:∀{ns:ag}{us:List V},Reps K M H us (PP.intz ns)->us=ns.map V.int
 |[],_,.nil=>rfl
 |n::r,_,.cons q t=>by
  cases q;rw[Reps.ofInts t];rfl
theorem n5:∀(ns:ag),flats (intz ns)=true
 |[]=>rfl
 |n::r=>by show (flat (.int n)&&flats (intz r))=true;rw[n5 r];rfl
inductive Tg|rd|sh|nw|fr
inductive Slot|sh (g:Bool) (x:PV)|own (x:PV)|kp (g:Bool) (x:PV) (ks:List (ax×List PV×List PV))
noncomputable def Slot.val:Slot->PV
 |.sh _ x=>x
 |.own x=>x
 |.kp _ x _=>x
noncomputable def Slot.tag:Slot->Tg
 |.sh true _=>.nw
 |.sh false _=>.sh
 |.own _=>.rd
 |.kp _ _ _=>.nw
noncomputable abbrev bL:=List (Option Slot)
noncomputable def Ms (H0:Hp)(W:ax->Prop):Bool->ax->Prop
 |false,a=>¬W a
 |true,a=>¬W a/\H0 a=none
noncomputable def Mg (H0:Hp)(W:ax->Prop)(Hs:Hp):Tg->ax->Prop
 |.rd,_=>True
 |.sh,a=>¬W a
 |.nw,a=>¬W a/\H0 a=none
 |.fr,a=>Hs a=none
noncomputable def eW (K:ad)(M:ax->Prop)(H:Hp)(a:ax):PV->Prop
 |.lst xs=>∃us,H a=some (.lst us)/\Reps K M H us xs
 |.dK ps=>∃kvs,H a=some (.dK kvs)/\kvs.map (·.1)=ps.map (·.1)/\Reps K M H (kvs.map (·.2)) (ps.map (·.2))
 |.dT ps=>∃kvs,H a=some (.dT kvs)/\kvs.map (·.1)=ps.map (·.1)/\Reps K M H (kvs.map (·.2)) (ps.map (·.2))
 |.dA ps=>∃kvs,H a=some (.dA kvs)/\kvs.map (·.1)=ps.map (·.1)/\Reps K M H (kvs.map (·.2)) (ps.map (·.2))
 |.dB ps=>∃kvs,H a=some (.dB kvs)/\kvs.map (·.1)=ps.map (·.1)/\Reps K M H (kvs.map (·.2)) (ps.map (·.2))
 |_=>False
noncomputable def kL (l:ax)(us:List V):HO:=.ext λh=>us.length<=sizeLine/\∃(its:List av) (n:Nat),aM us its/\h.get? l=some { cls:=.type "list",data:=.seq its.toArray n }
noncomputable def iP (K:ad)(H0 H:Hp)(a:ax)(st un:List PV):Prop:=∃(C dx l1 l2:ax) (us1 us2:List V),PySem.W.nsIn K mainGlobals "Keeper" = some (some (.ref C))/\(H0 a=none/\H0 dx=none/\H0 l1=none/\H0 l2=none)/\l1≠l2/\H dx=some (.own a)/\
 H a=some (.ins C dx [("standing",.ref l1),("undone",.ref l2)])/\H l1=some (kL l1 us1)/\H l2=some (kL l2 us2)/\Reps K (λ_=>False) H us1 st/\Reps K (λ_=>False) H us2 un
theorem iP.keep {K:ad}{H0 H H':Hp}{a:ax}{st un:List PV}(k:dO (λ_=>False) (λ_=>False) H H')(f:∀b o,H b=some o->dE o=false->H' b=some o)(h:iP K H0 H a st un):iP K H0 H' a st un:=by
 obtain⟨C,dx,l1,l2,us1,us2,h1,h2,h3,h4,h5,h6,h7,r1,r2⟩:=h
 exact⟨C,dx,l1,l2,us1,us2,h1,h2,h3,f _ _ h4 rfl,f _ _ h5 rfl,f _ _ h6 rfl,f _ _ h7 rfl,r1.keep k,r2.keep k⟩
noncomputable def S8 (H:Hp)(a b:ax):Prop:=a≠b/\∀C D dx dy l1 l2 m1 m2,H a=some (.ins C dx [("standing",.ref l1),("undone",.ref l2)])->H b=some (.ins D dy [("standing",.ref m1),("undone",.ref m2)])->l1≠m1/\l1≠m2/\l2≠m1/\l2≠m2
noncomputable def eM (K:ad)(H0 H:Hp)(ks:List (ax×List PV×List PV)):Prop:=(∀k∈ks,iP K H0 H k.1 k.2.1 k.2.2)/\ks.Pairwise λk m=>S8 H k.1 m.1
theorem eM.keep {K:ad}{H0 H H':Hp}{ks:List (ax×List PV×List PV)}(k:dO (λ_=>False) (λ_=>False) H H')(f:∀b o,H b=some o->dE o=false->H' b=some o)(h:eM K H0 H ks):eM K H0 H' ks:=by
 refine⟨λx hx=>(h.1 x hx).keep k f,h.2.imp_of_mem λ{x y} hx hy r=>⟨r.1,λC D dx dy l1 l2 m1 m2 e1 e2=>?_⟩⟩
 obtain⟨C',dx',l1',l2',us1,us2,_,_,_,_,h5,_⟩:=h.1 x hx
 obtain⟨D',dy',m1',m2',ws1,ws2,_,_,_,_,g5,_⟩:=h.1 y hy
 have z1:=f _ _ h5 rfl;have z2:=f _ _ g5 rfl;rw[e1]at z1;rw[e2]at z2;cases z1;cases z2;exact r.2 _ _ _ _ _ _ _ _ h5 g5
theorem eM.same {K:ad}{H0 H H':Hp}{ks:List (ax×List PV×List PV)}(s:aI H H')(h:eM K H0 H ks):eM K H0 H' ks:=h.keep (.same s λ_ z=>z) λ_ _ e _=>s _ _ e
theorem eM.upd {K:ad}{H0 H:Hp}{c:ax}{o o':HO}{ks:List (ax×List PV×List PV)}(e:H c=some o')(mu:dE o'=true)(h:eM K H0 H ks):eM K H0 (upd H c o) ks:=
 h.keep (.upd e mu λ_ z=>z.elim) λb u e2 m2=>by rw[aK (λz=>by rw[z,e]at e2;cases e2;rw[mu]at m2;cases m2)];exact e2
noncomputable def n6 (K:ad)(H0:Hp)(W:ax->Prop)(H:Hp)(v:V):Slot->Prop
 |.sh g x=>aE K (Ms H0 W g) H v x
 |.own x=>∃a,v = .ref a/\W a/\eW K (Ms H0 W true) H a x
 |.kp g x ks=>(aE K (λ_=>False) H v x/\flat x=true)/\eM K (cond g H0 λ_=>none) H ks
structure PX (K:ad)(H0:Hp)(W:ax->Prop)(σ:St)(ρ:bL)(H:Hp):Prop where
 len:ρ.length=σ.length
 same:aI H0 H
 wm:∀a,W a->H0 a=none/\∃o,H a=some o/\dE o=true
 sl:∀(i:Nat) (m:Slot),ρ[i]? = some (some m)->∃v,σ[i]? = some (some v)/\n6 K H0 W H v m
 dis:∀(i j:Nat) (x y:PV) (a:ax),ρ[i]? = some (some (.own x))->ρ[j]? = some (some (.own y))->σ[i]? = some (some (.ref a))->σ[j]? = some (some (.ref a))->i=j
theorem eW.keep {K:ad}{M M':ax->Prop}{H H':Hp}{a:ax}(k:dO M M' H H')(ha:∀o,H a=some o->H' a=some o):∀{x:PV},eW K M H a x->eW K M' H' a x
 |.lst _,⟨us,e,r⟩=>⟨us,ha _ e,r.keep k⟩
 |.dK _,⟨us,e,q,r⟩=>⟨us,ha _ e,q,r.keep k⟩
 |.dT _,⟨us,e,q,r⟩=>⟨us,ha _ e,q,r.keep k⟩
 |.dA _,⟨us,e,q,r⟩=>⟨us,ha _ e,q,r.keep k⟩
 |.dB _,⟨us,e,q,r⟩=>⟨us,ha _ e,q,r.keep k⟩
theorem eW.at {K:ad}{M:ax->Prop}{H:Hp}{a:ax}:∀{x:PV},eW K M H a x->∃o,H a=some o/\dE o=true
 |.lst _,⟨us,e,r⟩=>⟨_,e,rfl⟩
 |.dK _,⟨us,e,q,r⟩=>⟨_,e,rfl⟩
 |.dT _,⟨us,e,q,r⟩=>⟨_,e,rfl⟩
 |.dA _,⟨us,e,q,r⟩=>⟨_,e,rfl⟩
 |.dB _,⟨us,e,q,r⟩=>⟨_,e,rfl⟩
theorem eW.rep {K:ad}{M M':ax->Prop}{H:Hp}{a:ax}(m:∀b,M b->M' b)(ha:M' a):∀{x:PV},eW K M H a x->aE K M' H (.ref a) x
 |.lst _,⟨us,e,r⟩=>.lst ha e (r.same (aI.refl _) m)
 |.dK _,⟨us,e,q,r⟩=>.dK ha e q (r.same (aI.refl _) m)
 |.dT _,⟨us,e,q,r⟩=>.dT ha e q (r.same (aI.refl _) m)
 |.dA _,⟨us,e,q,r⟩=>.dA ha e q (r.same (aI.refl _) m)
 |.dB _,⟨us,e,q,r⟩=>.dB ha e q (r.same (aI.refl _) m)
section
variable {K:ad}{H0:Hp}{W W':ax→Prop}{σ:St}{ρ:bL}{H H':Hp}
theorem PX.mono (p:PX K H0 W σ ρ H)(s:aI H H'):PX K H0 W σ ρ H':=by
 refine⟨p.len,p.same.trans s,λa h=>⟨(p.wm a h).1,let ⟨o,e,m⟩:=(p.wm a h).2;⟨o,s _ _ e,m⟩⟩,λi m h=>?_,p.dis⟩
 obtain⟨v,e,r⟩:=p.sl i m h
 refine⟨v,e,?_⟩;cases m with
 |sh g x=>exact aE.same r s λ_ z=>z
 |own x=>
  obtain⟨a,e1,e2,r⟩:=r
  exact⟨a,e1,e2,r.keep (.same s λ_ z=>z) λ_ z=>s _ _ z⟩
 |kp g x ks=>exact⟨⟨r.1.1.same s λ_ z=>z,r.1.2⟩,r.2.same s⟩
theorem PX.new (p:PX K H0 W σ ρ H){a:ax}(h:H a=none):¬W a/\H0 a=none:=
 ⟨λz=>(by obtain⟨_,o,e,_⟩:=p.wm a z;rw[h]at e;cases e),p.same.free h⟩
theorem Mg.back {g:Tg}{H1:Hp}(s:aI H H1){a:ax}(h:Mg H0 W H1 g a):Mg H0 W H g a:=by
 cases g with
 |fr=>exact s.free h
 |rd=>exact h
 |sh=>exact h
 |nw=>exact h
end
noncomputable abbrev PK:=PV->Tg->Prop
noncomputable abbrev aG:=bL->PK->Prop
noncomputable abbrev cB:=bL->(Bool->Prop)->Prop
noncomputable abbrev bQ:=bL->(List (PV×Tg)->Prop)->Prop
inductive fO (K:ad)(H0:Hp)(W:ax->Prop)(Hs H:Hp):List V->List (PV×Tg)->Prop
 |nil:fO K H0 W Hs H [] []
 |cons {v:V}{x:PV}{g:Tg}{vs:List V}{xs:List (PV×Tg)}:aE K (Mg H0 W Hs g) H v x->fO K H0 W Hs H vs xs->fO K H0 W Hs H (v::vs) ((x,g)::xs)
noncomputable def n9 (K:ad)(H0:Hp)(W:ax->Prop)(H:Hp)(Q:PK)(Q':VK):Prop:=∀v H' x g,aI H H'->aE K (Mg H0 W H g) H' v x->Q x g->Q' v H'
noncomputable def LE (X:Cx)(t:aG):TE:=λσ H Q'=>∃(W:ax->Prop) (ρ:bL) (Q:PK),PX X.K X.H₀ W σ ρ H/\t ρ Q/\n9 X.K X.H₀ W H Q Q'
noncomputable def LT (X:Cx)(t:cB):TT:=λσ H Q'=>∃(W:ax->Prop) (ρ:bL) (Q:Bool->Prop),PX X.K X.H₀ W σ ρ H/\t ρ Q/\∀b H',aI H H'->Q b->Q' b H'
noncomputable def LA (X:Cx)(t:bQ):TA:=λσ H Q'=>∃(W:ax->Prop) (ρ:bL) (Q:List (PV×Tg)->Prop),PX X.K X.H₀ W σ ρ H/\t ρ Q/\∀vs H' xs,aI H H'->fO X.K X.H₀ W H H' vs xs->Q xs->Q' vs H'
theorem fO.same {K:ad}{H0:Hp}{W:ax->Prop}{Hs Hs' H H':Hp}(s:aI H H')(b:aI Hs' Hs):∀{vs:List V}{xs:List (PV×Tg)},fO K H0 W Hs H vs xs->fO K H0 W Hs' H' vs xs
 |_,_,.nil=>.nil
 |_,_,.cons r t=>.cons (r.same s λ_ z=>Mg.back b z) (t.same s b)
theorem fO.any {K:ad}{H0:Hp}{W:ax->Prop}{Hs H:Hp}:∀{vs:List V}{xs:List (PV×Tg)},fO K H0 W Hs H vs xs->Reps K (λ_=>True) H vs (xs.map (·.1))
 |_,_,.nil=>.nil
 |_,_,.cons r t=>.cons (r.same (aI.refl _) λ_ _=>trivial) t.any
noncomputable def Nw:Tg->PV->Prop
 |.fr,_=>True
 |.nw,_=>True
 |_,x=>flat x=true
section
variable {K:ad}{H0 Hs H:Hp}{W:ax→Prop}{σ:St}{ρ:bL}
theorem Nw.rep {g:Tg}{x:PV}{v:V}(px:PX K H0 W σ ρ Hs)(n:Nw g x)(r:aE K (Mg H0 W Hs g) H v x):aE K (Ms H0 W true) H v x:=by
 cases g with
 |fr=>exact r.same (aI.refl _) λa z=>px.new z
 |nw=>exact r.same (aI.refl _) λa z=>z
 |sh=>exact r.flat n
 |rd=>exact r.flat n
theorem vE {v:V}{m:Slot}(r:n6 K H0 W H v m):aE K (Mg H0 W Hs m.tag) H v m.val:=by
 cases m with
 |sh g x=>
  cases g with
  |true=>exact aE.same r (aI.refl _) λ_ z=>z
  |false=>exact aE.same r (aI.refl _) λ_ z=>z
 |own x=>
  obtain⟨a,rfl,_,r⟩:=r
  exact r.rep (λ_ _=>trivial) trivial
 |kp g x ks=>exact r.1.1.flat r.1.2
end
section
variable {X:Cx}{σ:St}{H:Hp}{Q':VK}{ta tb:aG}
noncomputable def aC (i:Nat):aG:=λρ Q=>∃m,ρ[i]? = some (some m)/\Q m.val m.tag
noncomputable def qC (x:PV):aG:=λ_ Q=>Q x .fr
theorem S9 {i:Nat}(h:LE X (aC i) σ H Q'):cI i σ H Q':=by
 obtain⟨W,ρ,Q,px,⟨m,e,q⟩,k⟩:=h
 obtain⟨v,ev,r⟩:=px.sl i m e
 exact⟨v,ev,k v H _ _ (aI.refl _) (vE r) q⟩
theorem kU {x:PV}{v:V}(hr:∀M,aE X.K M H v x)(h:LE X (qC x) σ H Q'):tC v σ H Q':=by
 obtain⟨W,ρ,Q,px,q,k⟩:=h
 exact k v H _ _ (aI.refl _) (hr _) q
noncomputable def eY (X:Cx)(R:PV->Tg->PV->Tg->PK->Prop)(r:R2):Prop:=∀(W:ax->Prop) (Hs H:Hp) (u v:V) (x y:PV) (g g':Tg) (Q:PK) (Q':VK),aI Hs H->
 (∀a,Hs a=none->¬W a/\X.H₀ a=none)->aE X.K (Mg X.H₀ W Hs g) H u x->aE X.K (Mg X.H₀ W Hs g') H v y->R x g y g' Q->(∀w H' z gz,aI H H'->aE X.K (Mg X.H₀ W Hs gz) H' w z->Q z gz->Q' w H')->r u v H Q'
noncomputable def q2 (R:PV->Tg->PV->Tg->PK->Prop)(ta tb:aG):aG:=λρ Q=>ta ρ λx g=>tb ρ λy g'=>R x g y g' Q
theorem nA {R:PV->Tg->PV->Tg->PK->Prop}{r:R2}(c:eY X R r)(h:LE X (q2 R ta tb) σ H Q'):kI r (LE X ta) (LE X tb) σ H Q':=by
 obtain⟨W,ρ,Q,px,q,k⟩:=h
 refine⟨W,ρ,_,px,q,λu H1 x g s1 r1 q1=>⟨W,ρ,_,px.mono s1,q1,λv H2 y g' s2 r2 q2=>?_⟩⟩;exact c W H H2 u v x y g g' Q Q' (s1.trans s2) (λa z=>px.new z) (r1.same s2 λ_ z=>z) (r2.same (aI.refl _) λ_ z=>Mg.back s1 z) q2 λw H' z gz s3 r3 q3=>k w H' z gz ((s1.trans s2).trans s3) r3 q3
noncomputable def RI (C:Int->Int->Prop)(f:Int->Int->PV):PV->Tg->PV->Tg->PK->Prop:=λx _ y _ Q=>∃i j,x = .int i/\y = .int j/\C i j/\Q (f i j) .fr
noncomputable def cU (f:Int->Int->PV):PV->Tg->PV->Tg->PK->Prop:=λx _ y _ Q=>∃i j,x = .int i/\y = .int j/\Q (f i j) .fr
theorem kW {C:Int->Int->Prop}{f:Int->Int->Int}:eY X (RI C λi j=>.int (f i j)) (rI C λi j=>.int (f i j)):=by
 rintro W Hs H u v x y g g' Q Q' s n r1 r2 ⟨i,j,rfl,rfl,c,q⟩ k;cases r1;cases r2
 exact⟨i,j,rfl,rfl,c,k _ _ _ _ (aI.refl _) (.int _) q⟩
theorem nB {f:Int->Int->Int}:eY X (cU λi j=>.int (f i j)) (eS λi j=>.int (f i j)):=by
 rintro W Hs H u v x y g g' Q Q' s n r1 r2 ⟨i,j,rfl,rfl,q⟩ k;cases r1;cases r2
 exact⟨i,j,rfl,rfl,k _ _ _ _ (aI.refl _) (.int _) q⟩
theorem nC {f:Int->Int->Bool}:eY X (cU λi j=>.bl (f i j)) (eS λi j=>.bl (f i j)):=by
 rintro W Hs H u v x y g g' Q Q' s n r1 r2 ⟨i,j,rfl,rfl,q⟩ k;cases r1;cases r2
 exact⟨i,j,rfl,rfl,k _ _ _ _ (aI.refl _) (.bl _) q⟩
noncomputable def iQ (neg:Bool):PV->Tg->PV->Tg->PK->Prop:=λx _ y _ Q=>(∃i j,x = .int i/\y = .int j/\Q (.bl (if neg=true then !decide (i=j) else decide (i=j))) .fr)∨(∃i j,x = .bl i/\y = .bl j/\Q (.bl (if neg=true then !decide (i=j) else decide (i=j))) .fr)
theorem vF (i j:Int):decide (V.int i=V.int j)=decide (i=j):=by
 rw[aE4,aA0,aA0];exact⟨λz=>V.int.inj z,λz=>congrArg V.int z⟩
theorem vG (i j:Bool):decide (V.bl i=V.bl j)=decide (i=j):=by
 rw[aE4,aA0,aA0];exact⟨λz=>V.bl.inj z,λz=>congrArg V.bl z⟩
theorem vH:eY X (iQ false) tM:=by
 rintro W Hs H u v x y g g' Q Q' s n r1 r2 (⟨i,j,rfl,rfl,q⟩|⟨i,j,rfl,rfl,q⟩) k
 ·cases r1;cases r2
  exact⟨rfl,by rw[vF];exact k _ _ _ _ (aI.refl _) (.bl _) q⟩
 ·cases r1;cases r2
  exact⟨rfl,by rw[vG];exact k _ _ _ _ (aI.refl _) (.bl _) q⟩
theorem T0:eY X (iQ true) tN:=by
 rintro W Hs H u v x y g g' Q Q' s n r1 r2 (⟨i,j,rfl,rfl,q⟩|⟨i,j,rfl,rfl,q⟩) k
 ·cases r1;cases r2
  exact⟨rfl,by rw[vF];exact k _ _ _ _ (aI.refl _) (.bl _) q⟩
 ·cases r1;cases r2
  exact⟨rfl,by rw[vG];exact k _ _ _ _ (aI.refl _) (.bl _) q⟩
noncomputable def cC (t:aG):cB:=λρ Q=>t ρ λx _=>∃b,x = .bl b/\Q b
theorem pP {t:aG}{Q':Bool->Hp->Prop}(h:LT X (cC t) σ H Q'):LE X t σ H λx H'=>∃k,x = .bl k/\Q' k H':=by
 obtain⟨W,ρ,Q,px,q,k⟩:=h
 refine⟨W,ρ,_,px,q,?_⟩;rintro v H1 x g s r ⟨b,rfl,q⟩;cases r
 exact⟨b,rfl,k _ _ s q⟩
noncomputable def kX (t u:cB):cB:=λρ Q=>t ρ λc=>if c=true then Q true else u ρ Q
variable {t u:cB}{Qb:Bool→Hp→Prop}
theorem T1 (h:LT X (kX t u) σ H Qb):t7 (LT X t) (LT X u) σ H Qb:=by
 obtain⟨W,ρ,Q,px,q,k⟩:=h
 refine⟨W,ρ,_,px,q,λb H1 s1 q1=>?_⟩;cases b with
 |false=>exact cF ⟨W,ρ,Q,px.mono s1,by simpa using q1,λb H2 s2 q2=>k _ _ (s1.trans s2) q2⟩
 |true=>exact bY (k _ _ s1 (by simpa using q1))
noncomputable def pQ (ta tb:aG):aG:=λρ Q=>ta ρ λx _=>∃c,x = .bl c/\if c=true then tb ρ Q else Q (.bl false) .fr
theorem n9.back {K:ad}{H0:Hp}{W:ax->Prop}{H H1:Hp}{Q:PK}(k:n9 K H0 W H Q Q')(s:aI H H1):n9 K H0 W H1 Q Q':=λv H' x g s' r q=>k v H' x g (s.trans s') (r.same (aI.refl _) λ_ z=>Mg.back s z) q
theorem T2 (h:LE X (pQ ta tb) σ H Q'):t8 (LE X ta) (LE X tb) σ H Q':=by
 obtain⟨W,ρ,Q,px,q,k⟩:=h
 refine⟨W,ρ,_,px,q,?_⟩;rintro v H1 x g s1 r ⟨c,rfl,q⟩;cases r;refine⟨c,rfl,?_⟩;cases c with
 |true=>exact bY ⟨W,ρ,Q,px.mono s1,by simpa using q,k.back s1⟩
 |false=>exact cF (k _ _ _ _ s1 (.bl _) (by simpa using q))
noncomputable def aO:bQ:=λ_ Q=>Q []
noncomputable def aH (te:aG)(tr:bQ):bQ:=λρ Q=>te ρ λx g=>tr ρ λxs=>Q ((x,g)::xs)
variable {Qa:List V→Hp→Prop}{tr:bQ}
theorem T3 (h:LA X aO σ H Qa):iJ σ H Qa:=by
 obtain⟨W,ρ,Q,px,q,k⟩:=h
 exact k _ _ _ (aI.refl _) .nil q
theorem T4 (h:LA X (aH ta tr) σ H Qa):eI (LE X ta) (LA X tr) σ H Qa:=by
 obtain⟨W,ρ,Q,px,q,k⟩:=h
 refine⟨W,ρ,_,px,q,λv H1 x g s1 r1 q1=>⟨W,ρ,_,px.mono s1,q1,λvs H2 xs s2 r2 q2=>?_⟩⟩;exact k _ _ _ (s1.trans s2) (.cons (r1.same s2 λ_ z=>z) (r2.same (aI.refl _) s1)) q2
noncomputable def eZ (t:bQ):aG:=λρ Q=>t ρ λxs=>xs.length<=1000/\flats (xs.map (·.1))=true/\Q (.tup (xs.map (·.1))) .fr
noncomputable def pR (t:bQ):aG:=λρ Q=>t ρ λxs=>xs.length<=1000/\flats (xs.map (·.1))=true/\Q (.lst (xs.map (·.1))) .fr
theorem fO.length {K:ad}{H0:Hp}{W:ax->Prop}{Hs H:Hp}:∀{vs:List V}{xs:List (PV×Tg)},fO K H0 W Hs H vs xs->vs.length=xs.length
 |_,_,.nil=>rfl
 |_,_,.cons _ t=>congrArg (·+1) t.length
theorem pS {n:Nat}(h:n<=1000):n<=sizeLine:=aE7 (O7 h)
theorem T5 (h:LE X (eZ tr) σ H Q'):tU (LA X tr) σ H Q':=by
 obtain⟨W,ρ,Q,px,q,k⟩:=h
 refine⟨W,ρ,_,px,q,?_⟩;rintro vs H1 xs s1 r ⟨hl,n,q⟩;refine⟨by rw[r.length];exact pS hl,λp hp=>k _ _ _ .fr (s1.trans (cT hp _)) (.tup bI ?_) q⟩;exact (r.any.flat n).same (cT hp _) λ_ z=>z
theorem T6 (h:LE X (pR tr) σ H Q'):tV (LA X tr) σ H Q':=by
 obtain⟨W,ρ,Q,px,q,k⟩:=h
 refine⟨W,ρ,_,px,q,?_⟩;rintro vs H1 xs s1 r ⟨hl,n,q⟩;refine⟨by rw[r.length];exact pS hl,λp hp=>k _ _ _ .fr (s1.trans (cT hp _)) (.lst (s1.free hp) bI ?_) q⟩;exact (r.any.flat n).same (cT hp _) λ_ z=>z
noncomputable def dY (X:Cx)(R:List PV->(PV->Prop)->Prop)(r:List V->Hp->VK->Prop):Prop:=∀(H:Hp) (vs:List V) (xs:List PV) (Q:PV->Prop) (Q':VK),Reps X.K (λ_=>True) H vs xs->R xs Q->
 (∀w H' z,aI H H'->aE X.K (λa=>H a=none) H' w z->Q z->Q' w H')->r vs H Q'
noncomputable def aU (R:List PV->(PV->Prop)->Prop)(t:bQ):aG:=λρ Q=>t ρ λxs=>R (xs.map (·.1)) λz=>Q z .fr
theorem vI {R:List PV->(PV->Prop)->Prop}{r:List V->Hp->VK->Prop}(c:dY X R r)(h:LE X (aU R tr) σ H Q'):p8 r (LA X tr) σ H Q':=by
 obtain⟨W,ρ,Q,px,q,k⟩:=h
 refine⟨W,ρ,_,px,q,λvs H1 xs s1 r1 q1=>c H1 vs _ _ Q' r1.any q1 λw H' z s2 r2 q2=>k w H' z .fr (s1.trans s2) (r2.same (aI.refl _) λ_ z=>s1.free z) q2⟩
end
structure nD where
 nx:bL->Prop
 rt:PV->Prop
 bk:bL->Prop:=λ_=>False
 ct:bL->Prop:=λ_=>False
noncomputable abbrev aR:=nD->bL->Prop
noncomputable def Ev (W:ax->Prop)(H:Hp)(W':ax->Prop)(H':Hp):Prop:=∀b o,H b=some o->¬W b->vD o=false->H' b=some o/\¬W' b
theorem Ev.trans {W W1 W2:ax->Prop}{H H1 H2:Hp}(a:Ev W H W1 H1)(b:Ev W1 H1 W2 H2):Ev W H W2 H2:=λc o h n z=>let ⟨h1,n1⟩:=a c o h n z;b c o h1 n1 z
theorem Ev.same {W:ax->Prop}{H H':Hp}(s:aI H H'):Ev W H W H':=λc o h n _=>⟨s _ _ h,n⟩
theorem Ev.refl (W:ax->Prop)(H:Hp):Ev W H W H:=Ev.same (aI.refl _)
structure nE (X:Cx)(W:ax->Prop)(H:Hp)(D':nD)(D:cX):Prop where
 nx:∀W' σ' H' ρ',Ev W H W' H'->PX X.K X.H₀ W' σ' ρ' H'->D'.nx ρ'->D.nx σ' H'
 rt:∀v H' x,aI X.H₀ H'->aE X.K (λa=>X.H₀ a=none) H' v x->D'.rt x->D.rt v H'
 bk:∀W' σ' H' ρ',Ev W H W' H'->PX X.K X.H₀ W' σ' ρ' H'->D'.bk ρ'->D.bk σ' H'
 ct:∀W' σ' H' ρ',Ev W H W' H'->PX X.K X.H₀ W' σ' ρ' H'->D'.ct ρ'->D.ct σ' H'
theorem nE.step {X:Cx}{W W1:ax->Prop}{H H1:Hp}{D':nD}{D:cX}(k:nE X W H D' D)(e:Ev W H W1 H1):nE X W1 H1 D' D:=
 ⟨λW' σ' H' ρ' e'=>k.nx W' σ' H' ρ' (e.trans e'),k.rt,λW' σ' H' ρ' e'=>k.bk W' σ' H' ρ' (e.trans e'),λW' σ' H' ρ' e'=>k.ct W' σ' H' ρ' (e.trans e')⟩
noncomputable def LS (X:Cx)(t:aR):TS:=λD σ H=>∃(W:ax->Prop) (ρ:bL) (D':nD),PX X.K X.H₀ W σ ρ H/\t D' ρ/\nE X W H D' D
theorem eN {α:Type}{l:List α}{i j:Nat}{a b:α}(h:(l.set i a)[j]? = some b):(j=i/\i<l.length/\b=a)∨(j≠i/\l[j]? = some b):=by
 by_cases e:j=i
 ·subst e
  have hl:j<(l.set j a).length:=(ay2.mp h).1;rw[aB2]at hl;rw[aA6 hl]at h;exact .inl ⟨rfl,hl,(ax7 h).symm⟩
 ·rw[ay6 (Ne.symm e)]at h
  exact .inr ⟨e,h⟩
section
variable {K:ad}{H0:Hp}{W W':ax→Prop}{σ:St}{ρ:bL}{H H' Hs:Hp}
theorem PX.setSh {i:Nat}{v:V}{g:Bool}{x:PV}(p:PX K H0 W σ ρ H)(r:aE K (Ms H0 W g) H v x):PX K H0 W (σ.set i (some v)) (ρ.set i (some (.sh g x))) H:=by
 refine⟨by rw[aB2,aB2];exact p.len,p.same,p.wm,λj m h=>?_,λj k y z a h1 h2 h3 h4=>?_⟩
 ·rcases eN h with⟨rfl,hl,e⟩|⟨hne,h⟩
  ·cases e
   rw[p.len]at hl
   exact⟨v,aA6 hl,r⟩
  ·obtain⟨u,e,q⟩:=p.sl j m h
   exact⟨u,by rw[ay6 (Ne.symm hne)];exact e,q⟩
 ·rcases eN h1 with⟨_,_,e⟩|⟨n1,h1⟩
  ·cases e
  ·rcases eN h2 with⟨_,_,e⟩|⟨n2,h2⟩
   ·cases e
   ·rw[ay6 (Ne.symm n1)]at h3
    rw[ay6 (Ne.symm n2)]at h4;exact p.dis j k y z a h1 h2 h3 h4
noncomputable def jJ (W:ax->Prop)(a:ax):ax->Prop:=λb=>W b∨b=a
theorem nF {g:Bool}{a b:ax}(n:b≠a)(h:Ms H0 W g b):Ms H0 (jJ W a) g b:=by
 cases g with
 |true=>exact⟨λz=>z.elim h.1 n,h.2⟩
 |false=>exact λz=>z.elim h n
theorem PX.setOwn {i:Nat}{a:ax}{x:PV}(p:PX K H0 W σ ρ Hs)(s:aI Hs H)(ha:Hs a=none)(r:eW K (Ms H0 (jJ W a) true) H a x):PX K H0 (jJ W a) (σ.set i (some (.ref a))) (ρ.set i (some (.own x))) H:=by
 have old:∀b o,Hs b=some o->b≠a:=λb o e z=>by rw[z,ha]at e;cases e
 have kp:∀g,dO (Ms H0 W g) (Ms H0 (jJ W a) g) Hs H:=λg=>⟨λb _ m e=>⟨nF (old _ _ e) m,s _ _ e⟩,λb _ m e=>⟨nF (old _ _ e) m,s _ _ e⟩,λb _ m e=>⟨nF (old _ _ e) m,s _ _ e⟩,λ_ _ e=>s _ _ e,λ_ _ _ e _=>s _ _ e,λb _ _ m e=>⟨nF (old _ _ e) m,s _ _ e⟩⟩
 have wa:¬W a:=(p.new ha).1;refine⟨by rw[aB2,aB2];exact p.len,p.same.trans s,λb z=>?_,λj m h=>?_,λj k y z b h1 h2 h3 h4=>?_⟩
 ·rcases z with z|rfl
  ·obtain⟨h1,o,h2,h3⟩:=p.wm b z
   exact⟨h1,o,s _ _ h2,h3⟩
  ·exact⟨(p.new ha).2,r.at⟩
 ·rcases eN h with⟨rfl,hl,e⟩|⟨hne,h⟩
  ·cases e
   rw[p.len]at hl
   exact⟨_,aA6 hl,a,rfl,.inr rfl,r⟩
  ·obtain⟨u,e,q⟩:=p.sl j m h
   refine⟨u,by rw[ay6 (Ne.symm hne)];exact e,?_⟩;cases m with
   |sh g y=>exact aE.keep (kp g) q
   |own y=>
    obtain⟨b,e1,e2,q⟩:=q
    exact⟨b,e1,.inl e2,q.keep (kp true) λo z=>s _ _ z⟩
   |kp g c ks=>exact⟨⟨q.1.1.same s λ_ z=>z,q.1.2⟩,q.2.same s⟩
 ·have ne:∀{j:Nat}{y:PV},ρ[j]? = some (some (.own y))->σ[j]?≠some (some (.ref a)):=λ{j y} h1 h2=>by
   obtain⟨u,e,c,e1,e2,_⟩:=p.sl j _ h1
   rw[h2]at e;cases e;cases e1;exact wa e2
  rcases eN h1 with⟨e1,l1,_⟩|⟨n1,h1⟩
  ·rcases eN h2 with⟨e2,_,_⟩|⟨n2,h2⟩
   ·rw[e1,e2]
   ·rw[e1,aA6 (by rw[<- p.len];exact l1)]at h3
    rw[ay6 (Ne.symm n2)]at h4;cases h3;exact absurd h4 (ne h2)
  ·rw[ay6 (Ne.symm n1)]at h3
   rcases eN h2 with⟨e2,l2,_⟩|⟨n2,h2⟩
   ·rw[e2,aA6 (by rw[<- p.len];exact l2)]at h4
    cases h4;exact absurd h3 (ne h1)
   ·rw[ay6 (Ne.symm n2)]at h4
    exact p.dis j k y z b h1 h2 h3 h4
theorem Ev.own {a:ax}(s:aI Hs H)(ha:Hs a=none):Ev W Hs (jJ W a) H:=λb o e n _=>⟨s _ _ e,λz=>z.elim n λz=>by rw[z,ha]at e;cases e⟩
theorem hG {g:Bool}{a b:ax}(wa:W a)(h:Ms H0 W g b):b≠a:=by
 cases g with
 |true=>exact λz=>h.1 (by rw[z];exact wa)
 |false=>exact λz=>h (by rw[z];exact wa)
theorem PX.updOwn {i:Nat}{a:ax}{x y:PV}{o:HO}(p:PX K H0 W σ ρ H)(hi:ρ[i]? = some (some (.own x)))(ha:σ[i]? = some (some (.ref a)))(wa:W a)(mu:dE o=true)(r:eW K (Ms H0 W true) (upd H a o) a y) :
  PX K H0 W σ (ρ.set i (some (.own y))) (upd H a o):=by
 obtain⟨w0,o',e',mu'⟩:=p.wm a wa
 have kp:∀g,dO (Ms H0 W g) (Ms H0 W g) H (upd H a o):=λg=>.upd e' mu' λb m=>⟨hG wa m,m⟩
 refine⟨by rw[aB2];exact p.len,λb u e=>by rw[aK (λz=>by rw[z,w0]at e;cases e)];exact p.same _ _ e,λb z=>?_,λj m h=>?_,λj k y' z b h1 h2 h3 h4=>?_⟩
 ·by_cases e:b=a
  ·subst e;exact⟨w0,o,bI,mu⟩
  ·obtain⟨h1,o2,h2,h3⟩:=p.wm b z
   exact⟨h1,o2,by rw[aK e];exact h2,h3⟩
 ·rcases eN h with⟨rfl,hl,e⟩|⟨hne,h⟩
  ·cases e
   exact⟨_,ha,a,rfl,wa,r⟩
  ·obtain⟨u,e,q⟩:=p.sl j m h
   refine⟨u,e,?_⟩;cases m with
   |sh g y=>exact aE.keep (kp g) q
   |own y=>
    obtain⟨b,e1,e2,q⟩:=q
    have hb:b≠a:=λz=>by
     subst e1;rw[z]at e;exact hne (p.dis j i _ _ a h hi e ha)
    exact⟨b,e1,e2,q.keep (kp true) λo z=>by rw[aK hb];exact z⟩
   |kp g c ks=>exact⟨⟨q.1.1.keep (.upd e' mu' λ_ z=>z.elim),q.1.2⟩,q.2.upd e' mu'⟩
 ·have g1:∃y,ρ[j]? = some (some (.own y)):=by
   rcases eN h1 with⟨e,_,_⟩|⟨_,h⟩
   ·exact⟨x,by rw[e];exact hi⟩
   ·exact⟨_,h⟩
  have g2:∃y,ρ[k]? = some (some (.own y)):=by
   rcases eN h2 with⟨e,_,_⟩|⟨_,h⟩
   ·exact⟨x,by rw[e];exact hi⟩
   ·exact⟨_,h⟩
  obtain⟨y1,g1⟩:=g1
  obtain⟨y2,g2⟩:=g2
  exact p.dis j k y1 y2 b g1 g2 h3 h4
theorem Ev.upd {a:ax}{o:HO}(wa:W a):Ev W H W (upd H a o):=λb u e n _=>⟨by rw[aK (λz=>n (by rw[z];exact wa))];exact e,n⟩
noncomputable def jK (W:ax->Prop)(a:ax):ax->Prop:=λb=>W b/\b≠a
theorem vJ {g:Bool}{a b:ax}(h:Ms H0 W g b):Ms H0 (jK W a) g b:=by
 cases g with
 |true=>exact⟨λz=>h.1 z.1,h.2⟩
 |false=>exact λz=>h z.1
end
section
variable {X:Cx}{σ:St}{H:Hp}{D:cX}{te:aG}{t u:aR}
noncomputable def fB:aR:=λD ρ=>D.nx ρ
noncomputable def bC (t u:aR):aR:=λD ρ=>t { D with nx:=u D } ρ
theorem T7 (h:LS X fB D σ H):t9 D σ H:=by
 obtain⟨W,ρ,D',px,q,k⟩:=h
 exact k.nx W σ H ρ (Ev.refl _ _) px q
theorem T8 (h:LS X (bC t u) D σ H):tD (LS X t) (LS X u) D σ H:=by
 obtain⟨W,ρ,D',px,q,k⟩:=h
 exact⟨W,ρ,_,px,q,λW' σ' H' ρ' e px' q'=>⟨W',ρ',D',px',q',k.step e⟩,k.rt,k.bk,k.ct⟩
noncomputable def vK:Tg->PV->Bool
 |.fr,_=>true
 |.nw,_=>true
 |_,x=>flat x
noncomputable def vL:Tg->PV->Prop
 |.rd,x=>flat x=true
 |_,_=>True
theorem T9 {K:ad}{H0 Hs H:Hp}{W:ax->Prop}{σ:St}{ρ:bL}{g:Tg}{x:PV}{v:V}(px:PX K H0 W σ ρ Hs)(n:vL g x)(r:aE K (Mg H0 W Hs g) H v x):aE K (Ms H0 W (vK g x)) H v x:=by
 cases g with
 |fr=>exact Nw.rep (g:=.fr) px trivial r
 |nw=>exact Nw.rep (g:=.nw) px trivial r
 |sh=>
  show aE K (Ms H0 W (flat x)) H v x;cases e:flat x with
  |true=>exact r.flat e
  |false=>exact r.same (aI.refl _) λ_ z=>z
 |rd=>exact r.flat n
noncomputable def cG (i:Nat)(te:aG):aR:=λD ρ=>te ρ λx g=>vL g x/\D.nx (ρ.set i (some (.sh (vK g x) x)))
theorem vM {i:Nat}(h:LS X (cG i te) D σ H):iG (LE X te) (cQ i) D σ H:=by
 obtain⟨W,ρ,D',px,q,k⟩:=h
 refine⟨W,ρ,_,px,q,?_⟩;rintro v H1 x g s r ⟨n,q⟩;exact k.nx W _ H1 _ (Ev.same s) ((px.mono s).setSh (T9 px n r)) q
noncomputable def vN:PV->Bool
 |.lst xs=>flats xs
 |.dK ps=>flats (ps.map (·.2))
 |.dT ps=>flats (ps.map (·.2))
 |_=>false
theorem U0 {K:ad}{M:ax->Prop}{H:Hp}{v:V}{x:PV}(r:aE K M H v x)(o:vN x=true):∃a,v = .ref a/\M a/\∀M',eW K M' H a x:=by
 cases r with
 |lst m e r=>exact⟨_,rfl,m,λ_=>⟨_,e,r.flat o⟩⟩
 |dK m e q r=>exact⟨_,rfl,m,λ_=>⟨_,e,q,r.flat o⟩⟩
 |dT m e q r=>exact⟨_,rfl,m,λ_=>⟨_,e,q,r.flat o⟩⟩
 |_=>cases o
noncomputable def pT (i:Nat)(te:aG):aR:=λD ρ=>te ρ λx g=>g = .fr/\vN x=true/\D.nx (ρ.set i (some (.own x)))
theorem U1 {i:Nat}(h:LS X (pT i te) D σ H):iG (LE X te) (cQ i) D σ H:=by
 obtain⟨W,ρ,D',px,q,k⟩:=h
 refine⟨W,ρ,_,px,q,?_⟩;rintro v H1 x g s r ⟨rfl,o,q⟩
 obtain⟨a,rfl,m,w⟩:=U0 r o
 exact k.nx _ _ H1 _ (Ev.own s m) (px.setOwn s m (w _)) q
noncomputable def jL (te:aG):aR:=λD ρ=>te ρ λ_ _=>D.nx ρ
theorem U2 (h:LS X (jL te) D σ H):kE (LE X te) D σ H:=by
 obtain⟨W,ρ,D',px,q,k⟩:=h
 exact⟨W,ρ,_,px,q,λv H1 x g s r q=>k.nx W σ H1 ρ (Ev.same s) (px.mono s) q⟩
noncomputable def dP (te:aG):aR:=λD ρ=>te ρ λx g=>Nw g x/\D.rt x
theorem U3 (h:LS X (dP te) D σ H):oT (LE X te) D σ H:=by
 obtain⟨W,ρ,D',px,q,k⟩:=h
 refine⟨W,ρ,_,px,q,?_⟩;rintro v H1 x g s r ⟨n,q⟩;exact k.rt v H1 x (px.same.trans s) ((Nw.rep px n r).same (aI.refl _) λ_ z=>z.2) q
noncomputable def Slot.nw:Slot->Prop
 |.own _=>True
 |.kp _ _ _=>True
 |.sh true _=>True
 |.sh false x=>flat x=true
noncomputable def nG (i:Nat):aR:=λD ρ=>∃m,ρ[i]? = some (some m)/\m.nw/\D.rt m.val
theorem U4 {i:Nat}(h:LS X (nG i) D σ H):oT (cI i) D σ H:=by
 obtain⟨W,ρ,D',px,⟨m,hi,n,q⟩,k⟩:=h
 obtain⟨v,ev,r⟩:=px.sl i _ hi
 refine⟨v,ev,k.rt v H _ px.same ?_ q⟩;cases m with
 |own x=>
  obtain⟨a,rfl,wa,r⟩:=r
  exact r.rep (λ_ z=>z.2) (px.wm a wa).1
 |sh g x=>
  cases g with
  |true=>exact aE.same r (aI.refl _) λ_ z=>z.2
  |false=>exact aE.flat n r
 |kp g x ks=>exact r.1.1.flat r.1.2
noncomputable def fC (c:cB)(t u:aR):aR:=λD ρ=>c ρ λb=>if b=true then t D ρ else u D ρ
theorem U5 {c:cB}(h:LS X (fC c t u) D σ H):mK (LT X c) (LS X t) (LS X u) D σ H:=by
 obtain⟨W,ρ,D',px,q,k⟩:=h
 refine⟨W,ρ,_,px,q,λb H1 s q1=>?_⟩;cases b with
 |true=>exact bY ⟨W,ρ,D',px.mono s,by simpa using q1,k.step (Ev.same s)⟩
 |false=>exact cF ⟨W,ρ,D',px.mono s,by simpa using q1,k.step (Ev.same s)⟩
noncomputable def nH (c:cB)(tb:aR):aR:=λD ρ=>∃I:Nat->bL->Prop,(∃m,I m ρ)/\∀m ρ',I m ρ'->c ρ' λb=>if b=true then tb { D with nx:=λρ2=>∃m',m'<m/\I m' ρ2,ct:=λρ2=>∃m',m'<m/\I m' ρ2,bk:=D.nx } ρ' else D.nx ρ'
theorem U6 {c:cB}{tb:aR}(h:LS X (nH c tb) D σ H):tH (LT X c) (LS X tb) D σ H:=by
 obtain⟨W,ρ,D',px,⟨I,⟨m0,i0⟩,turn⟩,k⟩:=h
 refine⟨λm σ2 H2=>∃W2 ρ2,PX X.K X.H₀ W2 σ2 ρ2 H2/\Ev W H W2 H2/\I m ρ2,⟨m0,W,ρ,px,Ev.refl _ _,i0⟩,?_⟩;rintro m σ2 H2 ⟨W2,ρ2,px2,e2,i2⟩;refine⟨W2,ρ2,_,px2,turn m ρ2 i2,λb H3 s3 q3=>?_⟩;cases b with
 |true=>
  refine bY ⟨λσ4 H4=>∃W4 ρ4,PX X.K X.H₀ W4 σ4 ρ4 H4/\Ev W H W4 H4/\∃m',m'<m/\I m' ρ4,λσ4 H4 ⟨W4,ρ4,a,b,m',c,d⟩=>⟨m',c,W4,ρ4,a,b,d⟩,W2,ρ2,_,px2.mono s3,by simpa using q3,?_⟩;have e3:Ev W H W2 H3:=e2.trans (Ev.same s3)
  exact⟨λW' σ' H' ρ' e p q=>⟨W',ρ',p,e3.trans e,q⟩,k.rt,λW' σ' H' ρ' e p q=>k.nx W' σ' H' ρ' (e3.trans e) p q,λW' σ' H' ρ' e p q=>⟨W',ρ',p,e3.trans e,q⟩⟩
 |false=>exact cF (k.nx W2 σ2 H3 ρ2 (e2.trans (Ev.same s3)) (px2.mono s3) (by simpa using q3))
end
theorem lim {n:Nat}(h:n<=16000000):n<=sizeLine:=aE7 (iN h)
theorem aE.sqT {K:ad}{M:ax->Prop}{H:Hp}{v:V}{xs:List PV}(r:aE K M H v (.tup xs)):∃a us,v = .ref a/\H a=some (.tup us)/\Reps K M H us xs:=by
 cases r with
 |tup e r=>exact⟨_,_,rfl,e,r⟩
theorem aE.sqL {K:ad}{M:ax->Prop}{H:Hp}{v:V}{xs:List PV}(r:aE K M H v (.lst xs)):∃a us,v = .ref a/\M a/\H a=some (.lst us)/\Reps K M H us xs:=by
 cases r with
 |lst m e r=>exact⟨_,_,rfl,m,e,r⟩
theorem gO.sqL {K:ad}{H:Hp}{a:ax}{ns:ag}(h:gO K H a ns):aX K H a (ns.map V.int):=h.elim (λz=>.inl (.inr z)) .inr
noncomputable def jM:PV->Option (List PV)
 |.tup xs=>some xs
 |.lst xs=>some xs
 |.scr ns=>some (intz ns)
 |.kt xs=>some xs
 |.fL xs=>some xs
 |_=>none
theorem aE.seq {K:ad}{M:ax->Prop}{H:Hp}{v:V}{x:PV}{xs:List PV}(r:aE K M H v x)(e:jM x=some xs):∃a us,v = .ref a/\(aX K H a us∨aQ K H a us)/\Reps K M H us xs:=by
 cases r with
 |tup h r=>cases e;exact⟨_,_,rfl,.inr (aQ.of h),r⟩
 |lst m h r=>cases e;exact⟨_,_,rfl,.inl (aX.of h),r⟩
 |scr h=>cases e;exact⟨_,_,rfl,.inl h.sqL,Reps.intz _⟩
 |kt h r=>cases e;exact⟨_,_,rfl,.inr (.inr h),r⟩
 |fL h r=>cases e;exact⟨_,_,rfl,.inl (.inl (.inr ⟨_,h⟩)),r⟩
 |_=>cases e
section
variable {X:Cx}{σ:St}{H:Hp}{D:cX}{te ti to:aG}{t u:aR}{Q':VK}
theorem _root_.PP.PX.updL {K:ad}{H0:Hp}{W:ax->Prop}{σ:St}{ρ:bL}{H:Hp}{i:Nat}{a:ax}{x:PV}{us:List V}{ys:List PV}(p:PX K H0 W σ ρ H)(hi:ρ[i]? = some (some (.own x)))(ha:σ[i]? = some (some (.ref a)))(wa:W a)(r:Reps K (Ms H0 W true) (upd H a (.lst us)) us ys) :
  PX K H0 W σ (ρ.set i (some (.own (.lst ys)))) (upd H a (.lst us)):=p.updOwn hi ha wa rfl (y:=.lst ys) ⟨us,bI,r⟩
noncomputable def vO (K:ad):V->List V->Hp->VK->Prop:=λx vs H Q=>uJ x vs H Q∨uY K x vs H Q
noncomputable def pU (i:Nat)(te:aG):aR:=λD ρ=>∃xs,ρ[i]? = some (some (.own (.lst xs)))/\te ρ λy g=>∃ys,(y = .tup ys∨y = .lst ys)/\(Nw g y∨flats ys=true)/\xs.length+ys.length<=16000000/\D.nx (ρ.set i (some (.own (.lst (xs++ys)))))
theorem U7 {i:Nat}(h:LS X (pU i te) D σ H):kE (uG X.K "list" (vO X.K) (cI i) (eI (LE X te) iJ)) D σ H:=by
 obtain⟨W,ρ,D',px,⟨xs,hi,q⟩,k⟩:=h
 obtain⟨v,ev,a,rfl,wa,us,ea,r⟩:=px.sl i _ hi
 refine⟨_,ev,uX (aX.of ea),W,ρ,_,px,q,?_⟩;rintro w H1 y g s ry ⟨ys,hy,n,hl,q⟩;have ea1:=s _ _ ea;have key:∀(zs:List V),Reps X.K (Ms X.H₀ W true) H1 zs ys->D.nx σ (upd H1 a (.lst (us++zs))):=λzs rz=>by
  refine k.nx W σ _ _ ((Ev.same s).trans (Ev.upd wa)) ((px.mono s).updL hi ev wa ?_) q;exact ((r.same s λ_ z=>z).append rz).keep (.upd ea1 rfl λb m=>⟨hG wa m,m⟩)
 have lr:=r.length;rcases hy with rfl|rfl
 ·obtain⟨b,zs,rfl,eb,rz⟩:=ry.sqT
  have lz:=rz.length;refine .inr ⟨a,b,us,zs,rfl,rfl,ea1,aQ.of eb,lim (by omega),key zs ?_⟩;rcases n with n|n
  ·obtain⟨b',zs',e1,e2,rz'⟩:=(Nw.rep px n ry).sqT
   cases e1;rw[eb]at e2;cases e2;exact rz'
  ·exact rz.flat n
 ·obtain⟨b,zs,rfl,_,eb,rz⟩:=ry.sqL
  have lz:=rz.length;refine .inl ⟨a,b,us,zs,rfl,rfl,ea1,eb,lim (by omega),key zs ?_⟩;rcases n with n|n
  ·obtain⟨b',zs',e1,_,e2,rz'⟩:=(Nw.rep px n ry).sqL
   cases e1;rw[eb]at e2;cases e2;exact rz'
  ·exact rz.flat n
noncomputable def pV (i j:Nat):aR:=λD ρ=>∃xs y,ρ[i]? = some (some (.own (.lst (xs++[y]))))/\D.nx ((ρ.set i (some (.own (.lst xs)))).set j (some (.sh true y)))
theorem Reps.snoc_inv {K:ad}{M:ax->Prop}{H:Hp}{us:List V}{xs:List PV}{y:PV}(r:Reps K M H us (xs++[y])):∃vs v,us=vs++[v]/\Reps K M H vs xs/\aE K M H v y:=by
 have l:=r.length;have h1:=r.take xs.length;have h2:=r.drop xs.length;rw[List.take_left]at h1;rw[List.drop_left]at h2;generalize hd:us.drop xs.length=ds at h2;cases h2 with
 |cons q t=>
  cases t
  exact⟨_,_,by rw[<- hd,List.take_append_drop],h1,q⟩
theorem U8 {i j:Nat}(h:LS X (pV i j) D σ H):iG (uF X.K "list" uK (cI i)) (cQ j) D σ H:=by
 obtain⟨W,ρ,D',px,⟨xs,y,hi,q⟩,k⟩:=h
 obtain⟨v,ev,a,rfl,wa,us,ea,r⟩:=px.sl i _ hi
 obtain⟨vs,w,rfl,r1,ry⟩:=r.snoc_inv
 refine⟨_,ev,uX (aX.of ea),a,_,w,rfl,rfl,ea,by simp,?_⟩;rw[List.dropLast_concat];have kp:dO (Ms X.H₀ W true) (Ms X.H₀ W true) H (upd H a (.lst vs)):=.upd ea rfl λb m=>⟨hG wa m,m⟩
 exact k.nx W _ _ _ (Ev.upd wa) ((px.updL hi ev wa (r1.keep kp)).setSh (ry.keep kp)) q
end
theorem Reps.atI {K:ad}{M:ax->Prop}{H:Hp}{us:List V}{xs:List PV}{i:Int}{z:PV}(r:Reps K M H us xs)(h:L2.atI xs i=some z):∃v,L2.atI us i=some v/\aE K M H v z:=by
 unfold L2.atI at h ⊢;rw[r.length];cases e:gK xs.length i with
 |none=>rw[e]at h;cases h
 |some j=>rw[e]at h;exact r.at h
section
variable {X:Cx}{σ:St}{H:Hp}{Q':VK}{ta tb te:aG}{tr:bQ}
noncomputable def pW:PV->Tg->PV->Tg->PK->Prop:=λx g y _ Q=>∃xs i z,jM x=some xs/\y = .int i/\L2.atI xs i=some z/\Q z g
theorem U9:eY X pW (uD X.K):=by
 rintro W Hs H u v x y g g' Q Q' s n r1 r2 ⟨xs,i,z,e,rfl,hz,q⟩ k;cases r2
 obtain⟨a,us,rfl,hs,r⟩:=r1.seq e
 obtain⟨v,hv,rv⟩:=r.atI hz
 rcases hs with hs|hs
 ·exact .inl ⟨a,us,i,v,rfl,rfl,hs,hv,k v H z g (aI.refl _) rv q⟩
 ·exact .inr (.inl ⟨a,us,i,v,rfl,rfl,hs,hv,k v H z g (aI.refl _) rv q⟩)
noncomputable def kY:PV->Option Nat
 |.tup xs=>some xs.length
 |.lst xs=>some xs.length
 |.scr ns=>some ns.length
 |.dK ps=>some ps.length
 |.kt xs=>some xs.length
 |.fL xs=>some xs.length
 |_=>none
noncomputable def gQ:List PV->(PV->Prop)->Prop:=λxs Q=>∃x n,xs = [x]/\kY x=some n/\Q (.int n)
theorem Reps.one {K:ad}{M:ax->Prop}{H:Hp}{vs:List V}{x:PV}(r:Reps K M H vs [x]):∃v,vs = [v]/\aE K M H v x:=by
 cases r with
 |cons r t=>cases t;exact⟨_,rfl,r⟩
theorem Reps.two {K:ad}{M:ax->Prop}{H:Hp}{vs:List V}{x y:PV}(r:Reps K M H vs [x,y]):∃v w,vs = [v,w]/\aE K M H v x/\aE K M H w y:=by
 cases r with
 |cons r t=>
  obtain⟨w,rfl,q⟩:=t.one
  exact⟨_,_,rfl,r,q⟩
theorem V0:dY X gQ (λxs H Q=>(∃p ys,xs = [.ref p]/\(aX X.K H p ys∨aQ X.K H p ys)/\Q (.int ys.length) H)∨∃a kvs,xs = [V.ref a]/\H a=some (.dK kvs)/\Q (.int kvs.length) H):=by
 rintro H vs xs Q Q' r ⟨x,n,rfl,e,q⟩ k
 obtain⟨v,rfl,r1⟩:=r.one
 have fin:∀{m:Nat},m=n->Q' (.int m) H:=λ{m} z=>by rw[z];exact k _ _ _ (aI.refl _) (.int _) q
 cases r1 with
 |tup h r2=>cases e;exact .inl ⟨_,_,rfl,.inr (aQ.of h),fin r2.length⟩
 |lst m h r2=>cases e;exact .inl ⟨_,_,rfl,.inl (aX.of h),fin r2.length⟩
 |scr h=>cases e;exact .inl ⟨_,_,rfl,.inl h.sqL,fin (by rw[av4])⟩
 |kt h r2=>cases e;exact .inl ⟨_,_,rfl,.inr (.inr h),fin r2.length⟩
 |fL h r2=>cases e;exact .inl ⟨_,_,rfl,.inl (.inl (.inr ⟨_,h⟩)),fin r2.length⟩
 |dK m h e' r=>
  cases e;refine .inr ⟨_,_,rfl,h,fin ?_⟩
  have:=congrArg List.length e'
  rw[av4,av4]at this;exact this
 |_=>cases e
noncomputable def V1:PV->Option (List PV)
 |.kt _=>none
 |x=>jM x
noncomputable def vP:List PV->(PV->Prop)->Prop:=λxs Q=>∃x ys,xs = [x]/\V1 x=some ys/\flats ys=true/\Q (.tup ys)
theorem V2:dY X (λxs Q=>vP xs Q/\∀ns,xs≠[.scr ns]) (λxs H Q=>∃p ys,xs = [.ref p]/\((aX X.K H p ys/\∀l,H l=none->Q (.ref l) (upd H l (.tup ys)))∨(aQ X.K H p ys/\Q (.ref p) H))):=by
 rintro H vs xs Q Q' r ⟨⟨x,ys,rfl,e,f,q⟩,nsc⟩ k
 obtain⟨v,rfl,r1⟩:=r.one
 cases r1 with
 |tup h r2=>cases e;exact⟨_,_,rfl,.inr ⟨aQ.of h,k _ _ _ (aI.refl _) (.tup h (r2.flat f)) q⟩⟩
 |lst m h r2=>cases e;exact⟨_,_,rfl,.inl ⟨aX.of h,λl hl=>k _ _ _ (cT hl _) (.tup bI ((r2.flat f).same (cT hl _) λ_ z=>z)) q⟩⟩
 |scr h=>exact absurd rfl (nsc _)
 |fL h r2=>cases e;exact⟨_,_,rfl,.inl ⟨.inl (.inr ⟨_,h⟩),λl hl=>k _ _ _ (cT hl _) (.tup bI ((r2.flat f).same (cT hl _) λ_ z=>z)) q⟩⟩
 |_=>cases e
noncomputable abbrev b7:=List PV->(PV->Prop)->Prop
noncomputable def jN (K:ad)(p:b7):Sp:=λvs H Q _=>∃xs Qp,Reps K (λ_=>True) H vs xs/\p xs Qp/\∀v H' x,aI H H'->aE K (λa=>H a=none) H' v x->Qp x->Q v H'
theorem V3 {p:b7}{E:XK}(h:LE X (aU p tr) σ H Q'):jD (jN X.K p) [] E (LA X tr) σ H Q':=by
 obtain⟨W,ρ,Q,px,q,k⟩:=h
 refine⟨W,ρ,_,px,q,λvs H1 xs s1 r1 q1=>⟨_,_,by rw[aE5];exact r1.any,q1,λv H' x s2 r2 q2=>k v H' x .fr (s1.trans s2) (r2.same (aI.refl _) λ_ z=>s1.free z) q2⟩⟩
noncomputable def V4:PV->Option Bool
 |.non=>some false
 |.bl b=>some b
 |.int i=>some (i != 0)
 |.tup xs=>some (!xs.isEmpty)
 |.lst xs=>some (!xs.isEmpty)
 |.dK ps=>some (!ps.isEmpty)
 |_=>none
noncomputable def kZ (t:aG):cB:=λρ Q=>t ρ λx _=>∃b,V4 x=some b/\Q b
theorem pX {α β:Type}:∀{l:List α}{m:List β},l.length=m.length->l.isEmpty=m.isEmpty
 |[],[],_=>rfl
 |_::_,_::_,_=>rfl
theorem V5 {t:aG}{Qb:Bool->Hp->Prop}(h:LT X (kZ t) σ H Qb):LE X t σ H λx H'=>∃k,p5 X.K x H' k/\Qb k H':=by
 obtain⟨W,ρ,Q,px,q,k⟩:=h
 refine⟨W,ρ,_,px,q,?_⟩;rintro v H1 x g s r ⟨b,e,q⟩;refine⟨b,?_,k _ _ s q⟩;cases r with
 |non=>cases e;rfl
 |bl b=>cases e;rfl
 |int i=>cases e;rfl
 |str x=>cases e
 |tup h r=>cases e;exact .inr (.inl ⟨_,aQ.of h,by rw[pX r.length]⟩)
 |lst m h r=>cases e;exact .inl ⟨_,aX.of h,by rw[pX r.length]⟩
 |dK m h e' r=>
  cases e;refine .inr (.inr ⟨_,h,?_⟩)
  have:=congrArg List.length e'
  rw[av4,av4]at this;rw[pX this]
 |dT m h e' r=>cases e
 |scr h=>cases e
 |kt h r=>cases e
 |exc h e' c=>cases e
 |fK h e' r=>cases e
 |fT h e' r=>cases e
 |fL h r=>cases e
 |fn h=>cases e
 |ob=>cases e
 |lm h=>cases e
 |dA m h e' r=>cases e
 |dB m h e' r=>cases e
 |fA h e' r=>cases e
end
structure jO (K:ad)(H0:Hp)(W:ax->Prop)(g:Bool)(H1:Hp)(J:It)(xs:List PV):Prop where
 go:∀W' H' i,Ev W H1 W' H'->i<xs.length->J.go i H'
 yld:∀W' H' i v H2,Ev W H1 W' H'->J.yld i H' v H2->i<xs.length->aI H' H2/\∃x,xs[i]? = some x/\aE K (Ms H0 W' g) H2 v x
 stop:∀W' H',Ev W H1 W' H'->J.stop xs.length H'
noncomputable abbrev dQ:=bL->(List PV->Bool->Prop)->Prop
noncomputable def LI (X:Cx)(t:dQ):TI:=λσ H R=>∃(W:ax->Prop) (ρ:bL) (Q:List PV->Bool->Prop),PX X.K X.H₀ W σ ρ H/\t ρ Q/\∀J H1 xs g,aI H H1->jO X.K X.H₀ W g H1 J xs->Q xs g->R J H1
theorem Ev.keep {H0:Hp}{W W':ax->Prop}{H H':Hp}{g:Bool}(e:Ev W H W' H')(tw:∀a,W a->∃o,H a=some o/\dE o=true):dO (Ms H0 W g) (Ms H0 W' g) H H':=by
 have m:∀{a:ax}{o:HO},Ms H0 W g a->H a=some o->vD o=false->Ms H0 W' g a/\H' a=some o:=λ{a o} z h hk=>by
  cases g with
  |true=>
   obtain⟨h1,h2⟩:=e a _ h z.1 hk
   exact⟨⟨h2,z.2⟩,h1⟩
  |false=>
   obtain⟨h1,h2⟩:=e a _ h z hk
   exact⟨h2,h1⟩
 refine⟨λa _ z h=>m z h rfl,λa _ z h=>m z h rfl,λa _ z h=>m z h rfl,λa _ h=>(e a _ h (λz=>?_) rfl).1,λa _ _ h f=>(e a _ h (λz=>?_) f).1,λa u d z h=>m z h (by cases u<;>first|rfl|cases d)⟩
 ·obtain⟨o,h',mu⟩:=tw a z;rw[h]at h';cases h';cases mu
 ·obtain⟨o,h',mu⟩:=tw a z;rw[h]at h';cases h';cases mu
section
variable {X:Cx}{σ:St}{H:Hp}{te:aG}{tr:bQ}{R:It→Hp→Prop}
noncomputable def vQ (K:ad)(tl:TE):TI:=λσ H R=>tl σ H λx H1=>∃a,x = .ref a/\((∃xs,aX K H1 a xs/\R (oU K a) H1)∨(∃xs,aQ K H1 a xs/\R (oV K a) H1))
noncomputable def pY:Tg->List PV->Bool
 |.fr,_=>true
 |.nw,_=>true
 |_,xs=>flats xs
noncomputable def lA (te:aG):dQ:=λρ Q=>te ρ λx g=>∃xs,jM x=some xs/\(g = .rd->flat x=true)/\Q xs (pY g xs)
theorem pZ {K:ad}{H0:Hp}{W:ax->Prop}{g:Bool}{H1:Hp}{a:ax}{us:List V}{xs:List PV}(tw:∀a,W a->∃o,H1 a=some o/\dE o=true)(ha:∀W' H',Ev W H1 W' H'->aX K H' a us)(r:Reps K (Ms H0 W g) H1 us xs):jO K H0 W g H1 (oU K a) xs:=by
 have lr:=r.length;refine⟨λW' H' i e hi=>⟨us,us[i]'(by omega),ha W' H' e,by simp⟩,λW' H' i v H2 e y hi=>?_,λW' H' e=>⟨us,ha W' H' e,by omega⟩⟩
 obtain⟨rfl,y⟩:=y
 obtain⟨x,hx,rx⟩:=r.get (y us (ha W' _ e))
 exact⟨aI.refl _,x,hx,rx.keep (e.keep tw)⟩
theorem vR {K:ad}{H0:Hp}{W:ax->Prop}{g:Bool}{H1:Hp}{a:ax}{us:List V}{xs:List PV}(tw:∀a,W a->∃o,H1 a=some o/\dE o=true)(ha:∀W' H',Ev W H1 W' H'->aQ K H' a us)(r:Reps K (Ms H0 W g) H1 us xs):jO K H0 W g H1 (oV K a) xs:=by
 have lr:=r.length;refine⟨λW' H' i e hi=>⟨us,us[i]'(by omega),ha W' H' e,by simp⟩,λW' H' i v H2 e y hi=>?_,λW' H' e=>⟨us,ha W' H' e,by omega⟩⟩
 obtain⟨rfl,y⟩:=y
 obtain⟨x,hx,rx⟩:=r.get (y us (ha W' _ e))
 exact⟨aI.refl _,x,hx,rx.keep (e.keep tw)⟩
theorem iR {K:ad}{H0 Hs H:Hp}{W:ax->Prop}{σ:St}{ρ:bL}{g:Tg}{us:List V}{xs:List PV}(px:PX K H0 W σ ρ Hs)(hg:g = .rd->flats xs=true)(r:Reps K (Mg H0 W Hs g) H us xs):Reps K (Ms H0 W (pY g xs)) H us xs:=by
 cases g with
 |fr=>exact r.same (aI.refl _) λ_ z=>px.new z
 |nw=>exact r.same (aI.refl _) λ_ z=>z
 |sh=>
  show Reps K (Ms H0 W (flats xs)) H us xs;cases e:flats xs with
  |true=>exact r.flat e
  |false=>exact r.same (aI.refl _) λ_ z=>z
 |rd=>exact r.flat (hg rfl)
theorem V6 (h:LI X (lA te) σ H R):vQ X.K (LE X te) σ H R:=by
 obtain⟨W,ρ,Q,px,q,k⟩:=h
 refine⟨W,ρ,_,px,q,?_⟩;rintro v H1 x g s r ⟨xs,e,hg,q⟩;have px1:=px.mono s;have tw:∀a,W a->∃o,H1 a=some o/\dE o=true:=λa z=>(px1.wm a z).2
 cases r with
 |tup h r=>
  cases e;refine⟨_,rfl,.inr ⟨_,aQ.of h,k _ _ _ _ s (vR tw (λW' H' e=>aQ.of (e _ _ h (λz=>?_) rfl).1) (iR px (λz=>by have:=hg z;unfold flat at this;exact this) r)) q⟩⟩
  obtain⟨o,h',mu⟩:=tw _ z;rw[h]at h';cases h';cases mu
 |@lst a us xs' m h r=>
  cases e;have wa:¬W a:=by
   cases g with
   |fr=>exact (px.new m).1
   |nw=>exact m.1
   |sh=>exact m
   |rd=>have:=hg rfl;unfold flat at this;cases this
  exact⟨_,rfl,.inl ⟨_,aX.of h,k _ _ _ _ s (pZ tw (λW' H' e=>aX.of (e _ _ h wa rfl).1) (iR px (λz=>by have:=hg z;unfold flat at this;cases this) r)) q⟩⟩
 |scr h=>
  cases e;refine⟨_,rfl,.inl ⟨_,h.sqL,k _ _ _ _ s (pZ tw (λW' H' e=>(gO.keep (λa o u hz f=>(e _ _ hz (λz=>?_) f).1) h).sqL) (iR (g:=g) px (λz=>n5 _) (Reps.intz _))) q⟩⟩
  obtain⟨o,h',mu⟩:=tw _ z;rw[hz]at h';cases h';cases mu
 |kt h r=>
  cases e
  exact⟨_,rfl,.inr ⟨_,.inr h,k _ _ _ _ s (vR tw (λW' H' e=>.inr h) (iR px (λz=>by have:=hg z;unfold flat at this;exact this) r)) q⟩⟩
 |fL h r=>
  cases e;refine⟨_,rfl,.inl ⟨_,.inl (.inr ⟨_,h⟩),k _ _ _ _ s (pZ tw (λW' H' e=>.inl (.inr ⟨_,(e _ _ h (λz=>?_) rfl).1⟩)) (iR px (λz=>by have:=hg z;unfold flat at this;exact this) r)) q⟩⟩
  obtain⟨o,h',mu⟩:=tw _ z;rw[h]at h';cases h';cases mu
 |_=>cases e
noncomputable def gD (lo:Int)(n:Nat):List PV:=(List.range n).map λ(i:Nat)=>PV.int (lo+(i:Int))
theorem fP (lo:Int)(n:Nat):(gD lo n).length=n:=by unfold gD;rw[av4,aF2]
theorem qA {lo:Int}{n i:Nat}(h:i<n):(gD lo n)[i]? = some (.int (lo+i)):=by unfold gD;rw[ax6,List.getElem?_range h];rfl
noncomputable def lB (te:aG):dQ:=λρ Q=>te ρ λx _=>∃j:Int,x = .int j/\-1000000<=j/\j<=1000000/\Q (gD 0 j.toNat) true
theorem V7 {K:ad}{H0:Hp}{W:ax->Prop}{H1:Hp}(lo:Int)(n:Nat):jO K H0 W true H1 (mR lo n) (gD lo n):=by
 refine⟨λW' H' i e hi=>by rw[fP]at hi;exact hi,λW' H' i v H2 e y hi=>?_,λW' H' e=>by show n<=(gD lo n).length;rw[fP];exact aw5 _⟩;rw[fP]at hi
 obtain⟨rfl,rfl⟩:=y
 exact⟨aI.refl _,_,qA hi,.int _⟩
theorem V8 (h:LI X (lB te) σ H R):tJ (eI (LE X te) iJ) σ H R:=by
 obtain⟨W,ρ,Q,px,q,k⟩:=h
 refine⟨W,ρ,_,px,q,?_⟩;rintro v H1 x g s r ⟨j,rfl,h1,h2,q⟩;cases r
 exact⟨j,rfl,by omega,by omega,k _ _ _ _ s (V7 0 j.toNat) q⟩
end
noncomputable abbrev hI:=PV->Bool->bL->(bL->Prop)->Prop
noncomputable def lC (K:ad)(own:Nat->Prop)(p:hI)(t:TG):Prop:=∀(H0:Hp) (W:ax->Prop) (σ:St) (ρ:bL) (H:Hp) (v:V) (x:PV) (g:Bool) (Q:bL->Prop) (Q':St->Hp->Prop),
 PX K H0 W σ ρ H->aE K (Ms H0 W g) H v x->p x g ρ Q->(∀σ' ρ',PX K H0 W σ' ρ' H->(∀i,¬own i->σ'[i]? = σ[i]?)->σ'.length=σ.length->Q ρ'->Q' σ' H)->t v σ H Q'
noncomputable def fQ (i:Nat):hI:=λx g ρ Q=>Q (ρ.set i (some (.sh (g||flat x) x)))
theorem nI {K:ad}{H0 H:Hp}{W:ax->Prop}{v:V}{x:PV}{g:Bool}(r:aE K (Ms H0 W g) H v x):aE K (Ms H0 W (g||flat x)) H v x:=by
 cases g with
 |true=>exact r
 |false=>
  show aE K (Ms H0 W (flat x)) H v x;cases e:flat x with
  |true=>exact r.flat e
  |false=>exact r
theorem nJ (K:ad)(i:Nat):lC K (· = i) (fQ i) (cQ i):=by
 intro H0 W σ ρ H v x g Q Q' px r q k;exact k _ _ (px.setSh (nI r)) (λj hj=>by rw[ay6 (Ne.symm hj)]) (aB2 ..) q
noncomputable def jP (i j:Nat):hI:=λx g ρ Q=>∃y z,x = .tup [y,z]/\Q ((ρ.set i (some (.sh (g||flat y) y))).set j (some (.sh (g||flat z) z)))
theorem vS (K:ad)(i j:Nat):lC K (λk=>k=i∨k=j) (jP i j) (mP K 2 (iF (cQ i) (iF (cQ j) mM))):=by
 intro H0 W σ ρ H v x g Q Q' px r q k
 obtain⟨y,z,rfl,q⟩:=q
 obtain⟨a,us,rfl,h,r⟩:=r.sqT
 obtain⟨u1,u2,rfl,r1,r2⟩:=r.two
 refine⟨a,_,rfl,aQ.of h,rfl,u1,_,rfl,u2,_,rfl,rfl,k _ _ ((px.setSh (nI r1)).setSh (nI r2)) (λk hk=>?_) (by rw[aB2,aB2]) q⟩;rw[ay6 (λe=>hk (.inr e.symm)),ay6 (λe=>hk (.inl e.symm))]
section
variable {X:Cx}{σ:St}{H:Hp}{D:cX}
noncomputable def gR (ti:dQ)(p:hI)(tb:aR):aR:=λD ρ=>ti ρ λxs g=>∃I:Nat->bL->Prop,I 0 ρ/\(∀i x ρ',xs[i]? = some x->I i ρ'->p x g ρ' λρ2=>tb { D with nx:=I (i+1),ct:=I (i+1),bk:=D.nx } ρ2)/\∀ρ',I xs.length ρ'->D.nx ρ'
theorem V9 {ti:dQ}{p:hI}{g:TG}{tb:aR}{own:Nat->Prop}(hg:lC X.K own p g)(h:LS X (gR ti p tb) D σ H):tK (LI X ti) g (LS X tb) D σ H:=by
 obtain⟨W,ρ,D',px,q,k⟩:=h
 refine⟨W,ρ,_,px,q,?_⟩;rintro J H1 xs gb s it ⟨I,i0,turn,fin⟩;refine⟨λi m σ2 H2=>m=xs.length-i/\i<=xs.length/\∃W2 ρ2,PX X.K X.H₀ W2 σ2 ρ2 H2/\Ev W H1 W2 H2/\I i ρ2,⟨xs.length,by omega,aG0 _,W,ρ,px.mono s,Ev.refl _ _,i0⟩,?_⟩;rintro i m σ2 H2 ⟨rfl,hi,W2,ρ2,px2,e2,i2⟩;have e0:Ev W H W2 H2:=(Ev.same s).trans e2;by_cases hlt:i<xs.length
 ·refine .inr ⟨it.go W2 H2 i e2 hlt,λσ3 H3=>∃W3 ρ3,PX X.K X.H₀ W3 σ3 ρ3 H3/\Ev W H1 W3 H3/\I (i+1) ρ3,λσ3 H3 ⟨W3,ρ3,a,b,c⟩=>⟨xs.length-(i+1),by omega,rfl,hlt,W3,ρ3,a,b,c⟩,λv H3 y=>?_⟩
  obtain⟨s3,x,hx,rx⟩:=it.yld W2 H2 i v H3 e2 y hlt
  refine hg X.H₀ W2 σ2 ρ2 H3 v x gb _ _ (px2.mono s3) rx (turn i x ρ2 hx i2) λσ4 ρ4 px4 _ _ q4=>?_
  have e3:Ev W H1 W2 H3:=e2.trans (Ev.same s3);have e3':Ev W H W2 H3:=e0.trans (Ev.same s3)
  exact⟨W2,ρ4,_,px4,q4,λW' σ' H' ρ' e p q=>⟨W',ρ',p,e3.trans e,q⟩,k.rt,λW' σ' H' ρ' e p q=>k.nx W' σ' H' ρ' (e3'.trans e) p q,λW' σ' H' ρ' e p q=>⟨W',ρ',p,e3.trans e,q⟩⟩
 ·have e:i=xs.length:=by omega
  subst e;exact .inl ⟨it.stop W2 H2 e2,k.nx W2 σ2 H2 ρ2 e0 px2 (fin ρ2 i2)⟩
end
noncomputable def Slot.blk:Slot->Slot
 |.kp _ x ks=>.kp false x ks
 |.sh _ x=>.sh false x
 |.own x=>.sh false x
noncomputable def jQ (fr:List (Option Nat))(ρ:bL):bL:=fr.map λo=>o.bind λj=>(ρ[j]?).join.map Slot.blk
theorem iP.any {K:ad}{H0 H:Hp}{a:ax}{st un:List PV}(h:iP K H0 H a st un):iP K (λ_=>none) H a st un:=by
 obtain⟨C,dx,l1,l2,us1,us2,h1,h2,h⟩:=h
 exact⟨C,dx,l1,l2,us1,us2,h1,⟨rfl,rfl,rfl,rfl⟩,h⟩
theorem eM.any {K:ad}{H0 H:Hp}{ks:List (ax×List PV×List PV)}(h:eM K H0 H ks):eM K (λ_=>none) H ks:=⟨λk hk=>(h.1 k hk).any,h.2⟩
theorem Slot.blk_own {m:Slot}{x:PV}(h:m.blk = .own x):False:=by
 cases m<;>cases h
theorem W0 {K:ad}{H0 H1 H1' H':Hp}{W W':ax->Prop}{v:V}{m:Slot}(r:n6 K H0 W H1 v m)(k:dO (λ_=>False) (λ_=>False) H1 H')(f:∀b o,H1 b=some o->dE o=false->H' b=some o)(rv:aE K (λa=>¬W' a) H' v m.val):n6 K H1' W' H' v m.blk:=by
 cases m with
 |sh g x=>exact rv
 |own x=>exact rv
 |kp g x ks=>exact⟨⟨r.1.1.keep k,r.1.2⟩,r.2.any.keep k f⟩
noncomputable def iS (D:ax):ax->Prop:=λa=>a=D
theorem W5 {K:ad}{H0:Hp}{W:ax->Prop}{σ:St}{ρ:bL}{H1 H':Hp}{D:ax}{acc:List V}{fr:List (Option Nat)}(px:PX K H0 W σ ρ H1)(hD:H1 D=none)(s:aI H1 H')(ha:H' D=some (.lst acc)) :
  PX K H1 (iS D) (eL fr σ) (jQ fr ρ) H':=by
 have old:∀{a:ax}{o:HO},H1 a=some o->a≠D:=λ{a o} e z=>by rw[z,hD]at e;cases e
 refine⟨by unfold eL jQ;rw[av4,av4],s,λa z=>by cases z;exact⟨hD,_,ha,rfl⟩,λi m h=>?_,λi j x y a h1=>?_⟩
 ·unfold jQ at h
  rw[ax6]at h;cases ef:fr[i]? with
  |none=>rw[ef]at h;cases h
  |some o=>
   rw[ef]at h;cases o with
   |none=>cases h
   |some j=>
    have h:some ((ρ[j]?).join.map Slot.blk)=some (some m):=h;cases er:ρ[j]? with
    |none=>rw[er]at h;cases h
    |some o=>
     rw[er]at h;cases o with
     |none=>cases h
     |some m0=>
      cases h
      obtain⟨v,ev,r⟩:=px.sl j m0 er
      refine⟨v,?_,?_⟩
      ·unfold eL
       rw[ax6,ef];show some ((σ[j]?).join)=_;rw[ev];rfl
      ·have r':aE K (λ_=>True) H1 v m0.val:=(vE (Hs:=H1) r).same (aI.refl _) λ_ _=>trivial
       refine W0 r (.same s λ_ z=>z) (λ_ _ e _=>s _ _ e) ?_;exact r'.keep ⟨λa _ _ e=>⟨old e,s _ _ e⟩,λa _ _ e=>⟨old e,s _ _ e⟩,λa _ _ e=>⟨old e,s _ _ e⟩,λ_ _ e=>s _ _ e,λ_ _ _ e _=>s _ _ e,λa _ _ _ e=>⟨old e,s _ _ e⟩⟩
 ·unfold jQ at h1
  rw[ax6]at h1;cases ef:fr[i]? with
  |none=>rw[ef]at h1;cases h1
  |some o=>
   rw[ef]at h1;cases o with
   |none=>cases h1
   |some j=>
    have h1:some ((ρ[j]?).join.map Slot.blk)=some (some (Slot.own x)):=h1;cases er:ρ[j]? with
    |none=>rw[er]at h1;cases h1
    |some o=>
     rw[er]at h1;cases o with
     |none=>cases h1
     |some m0=>exact (Slot.blk_own (ax7 (ax7 h1))).elim
section
variable {X:Cx}{σ:St}{H:Hp}{Q':VK}
noncomputable abbrev _root_.L2.Cx.frm (X:Cx)(H1:Hp):Cx:={ X with H₀:=H1 }
noncomputable def gS (ti:dQ)(fr:List (Option Nat))(p:hI)(tc:cB)(te:aG):aG:=λρ Q=>ti ρ λxs g=>xs.length<=16000000/\∃I:Nat->List PV->Prop,I 0 []/\
 (∀i x acc,xs[i]? = some x->I i acc->p x false (jQ fr ρ) λρ2=>tc ρ2 λb=>if b=true then te ρ2 λy gy=>Nw gy y/\I (i+1) (acc++[y]) else I (i+1) acc)/\∀acc,I xs.length acc->Q (.lst acc) .fr
theorem nK {ti:dQ}{fr:List (Option Nat)}{p:hI}{g:TG}{tc:cB}{te:aG}{own:Nat->Prop}(hg:lC X.K own p g)(ho:∀i,own i->fr[i]? = some none)(h:LE X (gS ti fr p tc te) σ H Q') :
  pK (LI X ti) fr (λ_=>g) (λH1=>LT (X.frm H1) tc) (λH1=>LE (X.frm H1) te) σ H Q':=by
 obtain⟨W,ρ,Q,px,q,k⟩:=h
 refine⟨W,ρ,_,px,q,?_⟩;rintro J H1 xs gb s it ⟨hl,I,i0,turn,fin⟩ D hD;have px1:=px.mono s;refine⟨λi m acc H'=>m=xs.length-i/\i<=xs.length/\aI H1 H'/\H' D=some (.lst acc)/\∃ys,Reps X.K (Ms H1 (iS D) true) H' acc ys/\ys.length<=i/\I i ys,⟨xs.length,by omega,aG0 _,cT hD _,bI,[],.nil,aw5 _,i0⟩,?_⟩;rintro i m acc H' ⟨rfl,hi,sm,ha,ys,ry,hy,iy⟩;refine⟨ha,?_⟩;have ev:Ev W H1 (jJ W D) H':=Ev.own sm hD;by_cases hlt:i<xs.length
 ·refine .inr ⟨it.go _ H' i ev hlt,λv H2 y=>?_⟩
  obtain⟨s2,x,hx,rx⟩:=it.yld _ H' i v H2 ev y hlt
  have ha2:=s2 _ _ ha;have pxb:PX X.K H1 (iS D) (eL fr σ) (jQ fr ρ) H2:=W5 px1 hD (sm.trans s2) ha2;have rx':aE X.K (Ms H1 (iS D) false) H2 v x:=rx.same (aI.refl _) λa z=>by
   cases gb with
   |true=>exact λe=>z.1 (.inr e)
   |false=>exact λe=>z (.inr e)
  refine hg H1 (iS D) _ _ H2 v x false _ _ pxb rx' (turn i x ys hx iy) λσ2 ρ2 px2 hown ao q2=>⟨⟨ao.symm,λj w e=>?_⟩,?_⟩
  ·by_cases oj:own j
   ·have:=ho j oj
    unfold eL at e;rw[ax6,this]at e;cases e
   ·rw[hown j oj];exact e
  ·refine⟨iS D,ρ2,_,px2,q2,λb H4 s4 q4=>?_⟩
   have ha4:=s4 _ _ ha2;have sm4:=(sm.trans s2).trans s4;cases b with
   |false=>
    refine cF ⟨xs.length-(i+1),by omega,rfl,hlt,sm4,ha4,ys,ry.same (s2.trans s4) λ_ z=>z,by omega,by simpa using q4⟩
   |true=>
    refine bY ⟨iS D,ρ2,_,px2.mono s4,by simpa using q4,?_⟩;rintro w H5 y gy s5 ryy ⟨nw,q5⟩;have ha5:=s5 _ _ ha4;have lr:=ry.length;refine⟨ha5,iN (by omega),xs.length-(i+1),by omega,rfl,hlt,λb o e=>?_,bI,ys++[y],?_,by rw[ay1,List.length_singleton];omega,q5⟩
    ·rw[aK (λz=>by rw[z,hD]at e;cases e)]
     exact s5 _ _ (sm4 _ _ e)
    ·exact ((ry.same ((s2.trans s4).trans s5) λ_ z=>z).append (.cons (Nw.rep (px2.mono s4) nw ryy) .nil)).keep (.upd ha5 rfl λb m=>⟨m.1,m⟩)
 ·have e:i=xs.length:=by omega
  subst e;refine .inl ⟨it.stop _ H' ev,k _ H' _ .fr (s.trans sm) (.lst (s.free hD) ha (ry.same (aI.refl _) λ_ z=>s.free z.2)) (fin ys iy)⟩
noncomputable def fR:cB:=λ_ Q=>Q true
theorem W6 {Qb:Bool->Hp->Prop}(h:LT X fR σ H Qb):uS σ H Qb:=by
 obtain⟨W,ρ,Q,px,q,k⟩:=h
 exact k _ _ (aI.refl _) q
end
section
variable {κ:Type}[DecidableEq κ]
noncomputable def cN (ps:List (κ×PV))(k:κ):Option PV:=(ps.find? λp=>decide (p.1=k)).map (·.2)
noncomputable def dS (ps:List (κ×PV))(k:κ)(x:PV):List (κ×PV):=if (ps.any λp=>decide (p.1=k))=true then ps.map (λp=>if p.1=k then (p.1,x) else p) else ps++[(k,x)]
variable {K:ad}{M:ax→Prop}{H:Hp}
theorem iT (k:κ):∀{kvs:List (κ×V)}{ps:List (κ×PV)},kvs.map (·.1)=ps.map (·.1)->Reps K M H (kvs.map (·.2)) (ps.map (·.2))->(cN ps k=none->eJ kvs k=none)/\∀x,cN ps k=some x->∃v,eJ kvs k=some v/\aE K M H v x
 |[],[],_,_=>⟨λ_=>rfl,λx h=>by cases h⟩
 |[],_::_,e,_=>by cases e
 |_::_,[],e,_=>by cases e
 |(k1,v)::kvs,(k2,x)::ps,e,r=>by
  injection e with e1 e2
  have e1:k1=k2:=e1;subst e1;cases r with
  |cons r t=>
   obtain⟨h1,h2⟩:=iT k e2 t
   unfold cN eJ at h1 h2 ⊢;by_cases e:k1=k
   ·simp only[az0,e,decide_true,Option.map_some]
    exact⟨λz=>(by cases z),λy z=>(by cases z;exact⟨v,rfl,r⟩)⟩
   ·simp only[az0,e,decide_false]
    exact⟨h1,h2⟩
theorem W7 (k:κ){kvs:List (κ×V)}{ps:List (κ×PV)}(e:kvs.map (·.1)=ps.map (·.1)):(kvs.any λp=>decide (p.1=k))=ps.any λp=>decide (p.1=k):=by
 have h1:(kvs.any λp=>decide (p.1=k))=(kvs.map (·.1)).any λz=>decide (z=k):=by rw[List.any_map];rfl
 have h2:(ps.any λp=>decide (p.1=k))=(ps.map (·.1)).any λz=>decide (z=k):=by rw[List.any_map];rfl
 rw[h1,h2,e]
theorem vT (k:κ){w:V}{y:PV}(q:aE K M H w y):∀{kvs:List (κ×V)}{ps:List (κ×PV)},kvs.map (·.1)=ps.map (·.1)->Reps K M H (kvs.map (·.2)) (ps.map (·.2))->
  (kvs.map λkv=>if kv.1=k then (kv.1,w) else kv).map (·.1)=(ps.map λkv=>if kv.1=k then (kv.1,y) else kv).map (·.1)/\Reps K M H ((kvs.map λkv=>if kv.1=k then (kv.1,w) else kv).map (·.2)) ((ps.map λkv=>if kv.1=k then (kv.1,y) else kv).map (·.2))
 |[],[],_,_=>⟨rfl,.nil⟩
 |[],_::_,e,_=>by cases e
 |_::_,[],e,_=>by cases e
 |(k1,v)::kvs,(k2,x)::ps,e,r=>by
  injection e with e1 e2
  have e1:k1=k2:=e1;subst e1;cases r with
  |cons r t=>
   obtain⟨h1,h2⟩:=vT k q e2 t
   by_cases e:k1=k
   ·simp only[ax2,e,if_true]
    exact⟨by rw[h1],.cons q h2⟩
   ·simp only[ax2,e,aB3]
    exact⟨by rw[h1],.cons r h2⟩
theorem qB (k:κ){w:V}{y:PV}(q:aE K M H w y){kvs:List (κ×V)}{ps:List (κ×PV)}(e:kvs.map (·.1)=ps.map (·.1))(r:Reps K M H (kvs.map (·.2)) (ps.map (·.2))) :
  (dN kvs k w).map (·.1)=(dS ps k y).map (·.1)/\Reps K M H ((dN kvs k w).map (·.2)) ((dS ps k y).map (·.2)):=by
 unfold dN dS;rw[W7 k e];split
 ·exact vT k q e r
 ·rw[ay0,ay0,ay0,ay0,e]
  exact⟨rfl,r.append (.cons q .nil)⟩
end
section
variable {X:Cx}{σ:St}{H:Hp}{D:cX}{tk td te:aG}{Q':VK}
theorem vU {α β:Type}{o:Option α}{o':Option β}{P:β->α->Prop}(h1:o=none->o'=none)(h2:∀z,o=some z->∃u,o'=some u/\P u z):o'.isSome=o.isSome:=by
 cases o with
 |none=>rw[h1 rfl];rfl
 |some z=>obtain⟨u,e,_⟩:=h2 z rfl;rw[e];rfl
theorem jR {κ α β:Type}{l:List (κ×α)}{m:List (κ×β)}(e:l.map (·.1)=m.map (·.1)):l.length=m.length:=by
 have:=congrArg List.length e
 rw[av4,av4]at this;exact this
end
noncomputable def d0:Nat->PV->PV->Bool
 |_,.non,.non=>true
 |_,.bl a,.bl b=>a==b
 |_,.int a,.int b=>a==b
 |_,.str a,.str b=>a==b
 |n+1,.tup xs,.tup ys=>(xs.zip ys).all (λp=>d0 n p.1 p.2)&&xs.length==ys.length
 |n+1,.lst xs,.lst ys=>(xs.zip ys).all (λp=>d0 n p.1 p.2)&&xs.length==ys.length
 |n+1,.kt xs,.kt ys=>(xs.zip ys).all (λp=>d0 n p.1 p.2)&&xs.length==ys.length
 |_,_,_=>false
noncomputable def fD:Nat->PV->PV->Bool
 |_,.non,.non=>true
 |_,.bl _,.bl _=>true
 |_,.int _,.int _=>true
 |_,.str _,.str _=>true
 |_,.non,.int _=>true
 |_,.int _,.non=>true
 |n+1,.tup xs,.tup ys=>(xs.zip ys).all (λp=>fD n p.1 p.2)
 |n+1,.lst xs,.lst ys=>(xs.zip ys).all (λp=>fD n p.1 p.2)
 |n+1,.kt xs,.kt ys=>(xs.zip ys).all (λp=>fD n p.1 p.2)
 |_+1,.non,.tup _=>true
 |_+1,.tup _,.non=>true
 |_,_,_=>false
theorem W8 (n:Nat)(a b:Int):d0 n (.int a) (.int b)=(a==b):=by cases n<;>rfl
theorem vV (n:Nat):∀(a b:ag),((((intz a).zip (intz b)).all λp=>d0 n p.1 p.2)&&(intz a).length==(intz b).length)=decide (a=b)
 |[],[]=>rfl
 |[],_::_=>by simp
 |_::_,[]=>by simp
 |x::a,y::b=>by
  have ih:=vV n a b;simp only[ax2,aC8,List.all_cons,aC9,W8]at ih ⊢;by_cases e:x=y
  ·subst e
   have:((intz a).length+1==(intz b).length+1)=((intz a).length==(intz b).length):=by simp
   rw[this,aA7,Bool.true_and,ih];simp
  ·have:(x==y)=false:=aE0.mpr e
   rw[this,Bool.false_and,Bool.false_and];simp[e]
theorem W9 (n:Nat)(a b:ag):d0 (n+1) (.tup (intz a)) (.tup (intz b))=decide (a=b):=vV n a b
theorem vW (n:Nat):∀(a b:ag),(((intz a).zip (intz b)).all λp=>fD n p.1 p.2)=true
 |[],_=>by simp
 |_::_,[]=>by simp
 |x::a,y::b=>by
  simp only[ax2,aC8,List.all_cons,vW n a b,Bool.and_true];cases n<;>rfl
theorem X0 (n:Nat)(a b:ag):fD (n+1) (.tup (intz a)) (.tup (intz b))=true:=vW n a b
noncomputable def vX (ta:aG):aG:=λρ Q=>ta ρ λx _=>∃i,x = .int i/\Q (.int (-i)) .fr
noncomputable def bB (N:List Str)(xs:List PV):bL:=xs.map (λx=>some (.sh (flat x) x))++List.replicate (N.length-xs.length) none
noncomputable abbrev iU (ta tb:aG):aG:=q2 (cU λi j=>.int (i+j)) ta tb
noncomputable abbrev vY (ta tb:aG):aG:=q2 (cU λi j=>.int (i-j)) ta tb
noncomputable abbrev qD (ta tb:aG):aG:=q2 (RI oY λi j=>.int (i/j)) ta tb
noncomputable abbrev iV (ta tb:aG):aG:=q2 (RI (λ_ j=>0<j) λi j=>.int (i%j)) ta tb
noncomputable abbrev vZ (ta tb:aG):aG:=q2 (RI oZ λi j=>.int (i*2^j.toNat)) ta tb
noncomputable abbrev lD (ta tb:aG):aG:=q2 (cU λi j=>.bl (decide (i<j))) ta tb
noncomputable abbrev X1 (ta tb:aG):aG:=q2 (cU λi j=>.bl (decide (i<=j))) ta tb
noncomputable abbrev qE (ta tb:aG):aG:=q2 (cU λi j=>.bl (decide (j<i))) ta tb
noncomputable abbrev X2 (ta tb:aG):aG:=q2 (cU λi j=>.bl (decide (j<=i))) ta tb
noncomputable abbrev qF (ta tb:aG):aG:=q2 (iQ false) ta tb
noncomputable abbrev X3 (ta tb:aG):aG:=q2 (iQ true) ta tb
noncomputable abbrev dU (ta tb:aG):aG:=q2 pW ta tb
noncomputable def w4:List PV->(PV->Prop)->Prop:=λxs Q=>vP xs Q/\∀ns,xs≠[.scr ns]
noncomputable def QE (X:Cx)(e:Expr)(t:aG):Prop:=PE X e (LE X t)
noncomputable def QT (X:Cx)(e:Expr)(t:cB):Prop:=PT X e (LT X t)
noncomputable def QW (X:Cx)(e:Expr)(t:cB):Prop:=PW X e (LT X t)
noncomputable def QA (X:Cx)(es:List Expr)(t:bQ):Prop:=PA X es (LA X t)
noncomputable def QS (X:Cx)(st:Stmt)(t:aR):Prop:=PS X st (LS X t)
noncomputable def dW (X:Cx)(st:List Stmt)(t:aR):Prop:=cM X st (LS X t)
noncomputable def QI (X:Cx)(tg iter:Expr)(t:dQ):Prop:=PI X tg iter (LI X t)
section
variable {X:Cx}
theorem bR {e:Expr}{t t':TE}(h:PE X e t)(m:∀σ H Q,t' σ H Q->t σ H Q):PE X e t':=λai s σ H Q I q=>h ai s σ H Q I (m σ H Q q)
theorem nL {e:Expr}{t t':TT}(h:PT X e t)(m:∀σ H Q,t' σ H Q->t σ H Q):PT X e t':=λai s σ H Q I q=>h ai s σ H Q I (m σ H Q q)
theorem X4 {e:Expr}{t t':TT}(h:PW X e t)(m:∀σ H Q,t' σ H Q->t σ H Q):PW X e t':=λwh ai s σ H Q I q=>h wh ai s σ H Q I (m σ H Q q)
theorem w5 {e:List Expr}{t t':TA}(h:PA X e t)(m:∀σ H Q,t' σ H Q->t σ H Q):PA X e t':=λpos ai s σ H Q I q=>h pos ai s σ H Q I (m σ H Q q)
theorem d4 {e:Stmt}{t t':TS}(h:PS X e t)(m:∀D σ H,t' D σ H->t D σ H):PS X e t':=λai s σ H D I q=>h ai s σ H D I (m D σ H q)
theorem w6 {e:List Stmt}{t t':TS}(h:cM X e t)(m:∀D σ H,t' D σ H->t D σ H):cM X e t':=λai s σ H D I q=>h ai s σ H D I (m D σ H q)
theorem nM {tg e:Expr}{t t':TI}(h:PI X tg e t)(m:∀σ H R,t' σ H R->t σ H R):PI X tg e t':=λai s σ H R I q=>h ai s σ H R I (m σ H R q)
variable {a b c e o:Expr}{es rest:List Expr}{ta tb te to tk:aG}{tr:bQ}{tA tB' tc:cB}{pos p2 px:Pos}{st:Stmt}{sts:List Stmt}{t u:aR}
theorem qv (i:Nat){x:Str}{pos:Pos}(hN:X.N[i]? = some x:=by rfl)(hv:dL X.env.scope x:=by first|exact Or.inl rfl|exact Or.inr (Or.inl rfl)|exact Or.inr (Or.inr rfl))(hd:(x==("__debug__":Str))=false:=by decide)(hcd:(x==("__classdict__":Str))=false:=by decide):QE X (.Name x pos) (aC i):=bR (gB hN hv hd hcd) λ_ _ _=>S9
theorem aY {i j}:QE X (.Constant (.int i) j pos) (qC (.int i)):=bR C4 λ_ _ _=>kU λ_=>.int i
theorem iW {i j}:QE X (.Constant (.bool i) j pos) (qC (.bl i)):=bR C5 λ_ _ _=>kU λ_=>.bl i
theorem qG {i j}:QE X (.Constant (.str i) j pos) (qC (.str i)):=bR C6 λ_ _ _=>kU λ_=>.str i
theorem fU {op:Operator}{R:PV->Tg->PV->Tg->PK->Prop}{r:R2}(ho:bV X (binaryOp op) r)(cv:eY X R r)(ha:QE X a ta)(hb:QE X b tb):QE X (.BinOp a op b pos) (q2 R ta tb):=bR (G5 ho ha hb) λ_ _ _=>nA cv
theorem hU (ha:QE X a ta)(hb:QE X b tb):QE X (.BinOp a .Add b pos) (q2 (cU λi j=>.int (i+j)) ta tb):=fU G8 nB ha hb
theorem w9 (ha:QE X a ta)(hb:QE X b tb):QE X (.BinOp a .Sub b pos) (q2 (cU λi j=>.int (i-j)) ta tb):=fU G9 nB ha hb
theorem qH (ha:QE X a ta)(hb:QE X b tb):QE X (.BinOp a .FloorDiv b pos) (q2 (RI oY λi j=>.int (i/j)) ta tb):=fU J0 kW ha hb
theorem iX (ha:QE X a ta)(hb:QE X b tb):QE X (.BinOp a .Mod b pos) (q2 (RI (λ_ j=>0<j) λi j=>.int (i%j)) ta tb):=fU J1 kW ha hb
theorem qI (ha:QE X a ta)(hb:QE X b tb):QE X (.BinOp a .LShift b pos) (q2 (RI oZ λi j=>.int (i*2^j.toNat)) ta tb):=fU J2 kW ha hb
theorem X5 (ha:QE X a ta)(hb:QE X b tb):QE X (.BinOp a .RShift b pos) (q2 (RI (λ_ j=>0<=j) λi j=>.int (i/2^j.toNat)) ta tb):=fU J3 kW ha hb
theorem wA {op:CmpOp}{R:PV->Tg->PV->Tg->PK->Prop}{r:R2}(ho:bV X (compareOp op) r)(cv:eY X R r)(ha:QE X a ta)(hb:QE X b tb)(hm:behindInMarks op b=false):QE X (.Compare a [op] [b] pos) (q2 R ta tb):=bR (K3 ho ha hb hm) λ_ _ _=>nA cv
theorem lE {op:CmpOp}{R:PV->Tg->PV->Tg->PK->Prop}{r:R2}(ho:bV X (compareOp op) r)(cv:eY X R r)(ha:QE X a ta)(hb:QE X b tb)(hm:behindInMarks op b=false):QT X (.Compare a [op] [b] pos) (cC (q2 R ta tb)):=nL (K5 ho ha hb hm) λ_ _ _ h=>nA cv (pP h)
theorem X6 (ha:QE X a ta)(hb:QE X b tb):QE X (.Compare a [.LtE] [b] pos) (q2 (cU λi j=>.bl (decide (i<=j))) ta tb):=wA K0 nC ha hb (iH _)
theorem X7 (ha:QE X a ta)(hb:QE X b tb):QE X (.Compare a [.Eq] [b] pos) (q2 (iQ false) ta tb):=wA tS vH ha hb (iH _)
theorem lG (ha:QE X a ta)(hb:QE X b tb):QT X (.Compare a [.Lt] [b] pos) (cC (q2 (cU λi j=>.bl (decide (i<j))) ta tb)):=lE J9 nC ha hb (iH _)
theorem qJ (ha:QE X a ta)(hb:QE X b tb):QT X (.Compare a [.Gt] [b] pos) (cC (q2 (cU λi j=>.bl (decide (j<i))) ta tb)):=lE K1 nC ha hb (iH _)
theorem X8 (ha:QE X a ta)(hb:QE X b tb):QT X (.Compare a [.GtE] [b] pos) (cC (q2 (cU λi j=>.bl (decide (j<=i))) ta tb)):=lE K2 nC ha hb (iH _)
theorem wB (ha:QE X a ta)(hb:QE X b tb):QT X (.Compare a [.Eq] [b] pos) (cC (q2 (iQ false) ta tb)):=lE tS vH ha hb (iH _)
theorem X9 (ha:QE X a ta)(hb:QE X b tb):QT X (.Compare a [.NotEq] [b] pos) (cC (q2 (iQ true) ta tb)):=lE J8 T0 ha hb (iH _)
theorem nN (h:QE X e te)(he:∀whole,isTrue e X.env whole=(do let v <- whole;standAt e.pos;holding [v] (truthy v)):=by intro _;rfl):QT X e (kZ te):=nL (K8 h he) λ_ _ _ h=>V5 h
theorem Y0 (ha:QT X a tA):QW X (.BoolOp .Or [a] pos) tA:=C8 ha
theorem qK (ha:QT X a tA)(hb:QW X (.BoolOp .Or (b::rest) pos) tB'):QW X (.BoolOp .Or (a::b::rest) pos) (kX tA tB'):=X4 (C9 ha hb) λ_ _ _=>T1
theorem Y1 (h:QW X e tA):QT X e tA:=PW.pt h
theorem Y2 {op}(h:QE X a ta):QE X (.BoolOp op [a] pos) ta:=D5 h
theorem Y3 (ha:QE X a ta)(hb:QE X (.BoolOp .And (b::rest) pos) tb):QE X (.BoolOp .And (a::b::rest) pos) (pQ ta tb):=bR (E1 ha hb) λ_ _ _=>T2
theorem aN:QA X [] aO:=w5 jC λ_ _ _=>T3
theorem aF (ha:QE X e te)(hr:QA X es tr)(hs:starEach (e::es) X.env=(false,eval e X.env)::starEach es X.env:=by rfl):QA X (e::es) (aH te tr):=w5 (eT ha hr hs) λ_ _ _=>T4
theorem fE {x1}(h:QA X es tr):QE X (.Tuple es x1 pos) (eZ tr):=bR (L0 h) λ_ _ _=>T5
theorem Y4 (h:QA X es tr):QE X (.List es pos) (pR tr):=bR (L1 h) λ_ _ _=>T6
theorem d5 (ha:QE X a ta)(hb:QE X b tb)(hs:u8 b:=by exact λ_ _=>rfl):QE X (.Subscript a b pos) (q2 pW ta tb):=bR (M7 N1 ha hb hs) λ_ _ _=>nA U9
theorem nO {x:Str}{id:String}{R:List PV->(PV->Prop)->Prop}{r:List V->Hp->VK->Prop}(hc:d9 X (.builtin id) r)(cv:dY X R r)(hg:Gl X x)(hm:X.mg x=none)(hv:bootBuiltins x=some (.builtin id))(ha:QA X (e::es) tr)(hn:x≠"__name__":=by decide)(hdb:(x==("__debug__":Str))=false:=by decide)(he:starEach (e::es) X.env=(false,eval e X.env)::starEach es X.env:=by rfl)(hpl:(backTo pos (starEach es X.env)).any (·.1)=false:=by rfl):QE X (.Call (.Name x p2) (e::es) [] pos) (aU R tr):=bR (L3 hc hg hm hv ha hn hdb he hpl) λ_ _ _=>vI cv
theorem Y5 {x:Str}{T:String}{R:List PV->(PV->Prop)->Prop}{r:List V->Hp->VK->Prop}(hc:d9 X (.type T) r)(cv:dY X R r)(hg:Gl X x)(hm:X.mg x=none)(hv:bootBuiltins x=some (.type T))(ha:QA X (e::es) tr)(hn:x≠"__name__":=by decide)(hdb:(x==("__debug__":Str))=false:=by decide)(he:starEach (e::es) X.env=(false,eval e X.env)::starEach es X.env:=by rfl)(hpl:(backTo pos (starEach es X.env)).any (·.1)=false:=by rfl):QE X (.Call (.Name x p2) (e::es) [] pos) (aU R tr):=bR (L4 hc hg hm hv ha hn hdb he hpl) λ_ _ _=>vI cv
theorem fV:dW X [] fB:=w6 E3 λ_ _ _=>T7
theorem b9 (h1:QS X st t)(h2:dW X sts u):dW X (st::sts) (bC t u):=w6 (E4 h1 h2) λ_ _ _=>T8
theorem bD (h1:QS X st t):dW X [st] t:=eG h1
theorem cJ {i:Nat}{x:Str}(hN:X.N.Nodup)(he:QE X e te)(hi:X.N[i]? = some x:=by rfl)(hx:eR X.env.scope x:=by first|exact Or.inl rfl|exact Or.inr rfl)(hs:swapsWith e (some (.Name x p2)) pos.line X.env=pure false:=by rfl)(hf:X.fn x=true∨X.env.scope.names.lookup x=some .local:=by first|exact .inl rfl|exact .inr rfl) :
  QS X (.Assign [.Name x p2] e pos) (cG i te):=d4 (kG hN hi hx he hs hf) λ_ _ _=>vM
theorem Y6 {i:Nat}{x:Str}(hN:X.N.Nodup)(he:QE X e te)(hi:X.N[i]? = some x:=by rfl)(hx:eR X.env.scope x:=by first|exact Or.inl rfl|exact Or.inr rfl)(hs:swapsWith e (some (.Name x p2)) pos.line X.env=pure false:=by rfl)(hf:X.fn x=true∨X.env.scope.names.lookup x=some .local:=by first|exact .inl rfl|exact .inr rfl) :
  QS X (.Assign [.Name x p2] e pos) (pT i te):=d4 (kG hN hi hx he hs hf) λ_ _ _=>U1
theorem nQ (he:QE X e te)(hs:swapsWith e none pos.line X.env=pure false:=by rfl):QS X (.Expr e pos) (jL te):=d4 (mJ he hs) λ_ _ _=>U2
theorem dZ (he:QE X e te):QS X (.Return (some e) pos) (dP te):=d4 (tE he) λ_ _ _=>U3
theorem wC (i:Nat){x:Str}(hN:X.N[i]? = some x:=by rfl)(hv:dL X.env.scope x:=by first|exact Or.inl rfl|exact Or.inr (Or.inl rfl)|exact Or.inr (Or.inr rfl))(hd:(x==("__debug__":Str))=false:=by decide)(hcd:(x==("__classdict__":Str))=false:=by decide) :
  QS X (.Return (some (.Name x p2)) pos) (nG i):=d4 (tE (gB hN hv hd hcd)) λ_ _ _=>U4
theorem fW {sa sb:List Stmt}(hc:QT X c tc)(ha:dW X sa t)(hb:dW X sb u):QS X (.If c sa sb pos) (fC tc t u):=d4 (kF hc ha hb) λ_ _ _=>U5
theorem wD {body:List Stmt}(hp:PassesOwn (model X.prog X.w) X.A X.env X.xe)(hc:QT X c tc)(hb:dW X body t):QS X (.While c body [] pos) (nH tc t):=d4 (E5 hp hc hb) λ_ _ _=>U6
theorem Y7 {tg l:Expr}{tl:TE}(hl:PE X l tl):PI X tg l (vQ X.K tl):=by
 intro ai s σ H R I h;refine aL (hl ai s σ H _ I h) λv s1 ⟨x,H1,I1,r1,q1⟩=>?_
 obtain⟨a,e,q⟩:=q1
 subst e;cases r1;rcases q with⟨xs,hq,q⟩|⟨xs,hq,q⟩
 ·obtain⟨its,rv,p,hz⟩:=I1.list hq
  refine wpAny_pyIter_list p.isList ?_;refine⟨s1.heap.objs.size,[s1.heap.objs.size],_,_,H1,rfl,I1.kept (t':=s1.toks) λb o e=>av6 _ e,E6 a _,⟨_,aw8 _ rfl,rfl,rfl⟩,λb hb=>?_,q⟩;have e:b=s1.heap.objs.size:=by simpa using hb
  subst e;exact I1.fpOk (aw5 _) (I1.hok.fresh (aw5 _))
 ·obtain⟨its,rv,p,hz⟩:=I1.tuple hq
  refine wpAny_pyIter_tuple (show s1.heap.IsTuple a its.toArray from p) ?_;refine⟨s1.heap.objs.size,[s1.heap.objs.size],_,_,H1,rfl,I1.kept (t':=s1.toks) λb o e=>av6 _ e,E7 a _,⟨_,aw8 _ rfl,rfl,rfl⟩,λb hb=>?_,q⟩;have e:b=s1.heap.objs.size:=by simpa using hb
  subst e;exact I1.fpOk (aw5 _) (I1.hok.fresh (aw5 _))
theorem nR {tg l:Expr}(hl:QE X l te):QI X tg l (lA te):=nM (Y7 hl) λ_ _ _=>V6
theorem nT {tg:Expr}(hg:Gl X "range")(hm:X.mg "range" = none)(ha:QE X a ta)(hs:starEach [a] X.env = [(false,eval a X.env)]:=by rfl):QI X tg (.Call (.Name "range" p2) [a] [] pos) (lB ta):=nM (G0 hg hm (eT ha jC hs) hs) λ_ _ _=>V8
theorem wE {tg:Expr}{body:List Stmt}{ti:dQ}{p:hI}{g:TG}{own:Nat->Prop}(hp:PassesOwn (model X.prog X.w) X.A X.env X.xe)(hc:X.calm=true)(hi:QI X tg e ti)(hg:PG X tg g)(ht:lC X.K own p g)(hb:dW X body t)(hs:∀x,foldedSetIterable e X.env x=pure x:=by intro _;rfl):QS X (.For tg e body [] pos) (gR ti p t):=d4 (G2 hp hc hi hg hb hs) λ_ _ _=>V9 ht
end
section
variable {X:Cx}{ai:List (ax×Obj)}{σ:St}{H:Hp}{s:aw}{K:ad}{M M':ax→Prop}
theorem kT.inj {a:ax}{us ws:List V}(h:kT K a us)(h':kT K a ws):us=ws:=by
 obtain⟨o,its,n,e1,_,e2,_,v⟩:=h
 obtain⟨o',its',n',e1',_,e2',_,v'⟩:=h'
 rw[e1]at e1';cases e1';rw[e2]at e2';cases e2';exact v.inj v'
theorem Reps.self_of {n:Nat}(ih:∀{v:V}{x y:PV},aE K M H v x->aE K M' H v y->fD n x y=true->d0 n x y=true):∀{vs:List V}{xs ys:List PV},Reps K M H vs xs->Reps K M' H vs ys->((xs.zip ys).all λp=>fD n p.1 p.2)=true->(((xs.zip ys).all λp=>d0 n p.1 p.2)&&xs.length==ys.length)=true
 |_,_,_,.nil,.nil,_=>rfl
 |_,_,_,.cons r t,.cons r' t',o=>by
  simp only[aC8,List.all_cons,aw7]at o;have h1:=ih r r' o.1;have h2:=Reps.self_of ih t t' o.2;simp only[aC8,List.all_cons,h1,Bool.true_and,aC9]at h2 ⊢;rw[<- h2];congr 1;simp
theorem aE.self:∀(n:Nat) {v:V}{x y:PV},aE K M H v x->aE K M' H v y->fD n x y=true->d0 n x y=true:=by
 intro n
 induction n with
 |zero=>
  intro v x y r r' o;cases r with
  |non=>cases r';rfl
  |bl b=>cases r';exact aA7 b
  |int i=>cases r';exact aA7 i
  |str z=>cases r';exact aA7 z
  |_=>cases o
 |succ n ih=>
  intro v x y r r' o;cases r with
  |non=>cases r';rfl
  |bl b=>cases r';exact aA7 b
  |int i=>cases r';exact aA7 i
  |str z=>cases r';exact aA7 z
  |tup h rr=>
   cases r' with
   |tup h' rr'=>rw[h]at h';cases h';exact Reps.self_of ih rr rr' o
   |_=>cases o
  |lst _ h rr=>
   cases r' with
   |lst _ h' rr'=>rw[h]at h';cases h';exact Reps.self_of ih rr rr' o
   |_=>cases o
  |kt h rr=>
   cases r' with
   |kt h' rr'=>cases kT.inj h h';exact Reps.self_of ih rr rr' o
   |_=>cases o
  |_=>cases o
theorem Reps.self (n:Nat){vs:List V}{xs ys:List PV}(r:Reps K M H vs xs)(r':Reps K M' H vs ys)(o:((xs.zip ys).all λp=>fD n p.1 p.2)=true):(((xs.zip ys).all λp=>d0 n p.1 p.2)&&xs.length==ys.length)=true:=Reps.self_of (aE.self n) r r' o
theorem qL (n:Nat)(xs ys:List PV):(List.range (min xs.length ys.length)).all (λj=>d0 n (xs.getD j .non) (ys.getD j .non))=(xs.zip ys).all λp=>d0 n p.1 p.2:=by
 rw[aE4];simp only[ax0,aB7];constructor
 ·intro h p hp
  obtain⟨j,hj,e⟩:=List.getElem_of_mem hp
  have hj':j<min xs.length ys.length:=by simpa using hj
  have:=h j hj'
  rw[List.getElem_zip]at e;subst e;have h1:j<xs.length:=by omega
  have h2:j<ys.length:=by omega
  simpa[az3,h1,h2] using this
 ·intro h j hj
  have h1:j<xs.length:=by omega
  have h2:j<ys.length:=by omega
  have hz:j<(xs.zip ys).length:=by simp;omega
  have:=h _ (List.getElem_mem hz)
  rw[List.getElem_zip]at this;simpa[az3,h1,h2] using this
theorem Y8 (I:aA X ai σ H s):∀(n:Nat) {A:az}{v w:V}{x y:PV}{a b:av},A.units+n<cLine->aE X.K M H v x->aE X.K M' H w y->aP v a->aP w b->fD n x y=true->SeqAt.EqAt A s a b (d0 n x y):=by
 intro n
 induction n with
 |zero=>
  intro A v w x y a b hu rx ry ra rb o;cases rx with
  |non=>
   cases ra;cases ry with
   |non=>cases rb;exact SeqAt.EqAt.same _
   |int i=>obtain⟨t',rfl⟩:=rb;exact SeqAt.EqAt.none_int _ _
   |_=>cases o
  |bl i=>
   cases ra;cases ry with
   |bl j=>cases rb;exact SeqAt.EqAt.bool_bool _ _
   |_=>cases o
  |int i=>
   obtain⟨t,rfl⟩:=ra
   cases ry with
   |int j=>obtain⟨t',rfl⟩:=rb;exact SeqAt.EqAt.int_int _ _ _ _
   |non=>cases rb;exact SeqAt.EqAt.int_none _ _
   |_=>cases o
  |str i=>
   obtain⟨t,rfl⟩:=ra
   cases ry with
   |str j=>obtain⟨t',rfl⟩:=rb;exact SeqAt.EqAt.str_str _ _ _ _
   |_=>cases o
  |_=>cases o
 |succ n ih=>
  intro A v w x y a b hu rx ry ra rb o;have items:∀{us ws:List V}{xs ys:List PV}{its aq:List av},Reps X.K M H us xs->Reps X.K M' H ws ys->aM us its->aM ws aq->((xs.zip ys).all λp=>fD n p.1 p.2)=true->
    ∀j (h1:j<its.toArray.size) (h2:j<aq.toArray.size),SeqAt.EqAt A.in1 s its.toArray[j] aq.toArray[j] (d0 n (xs.getD j .non) (ys.getD j .non)):=λ{us ws xs ys its aq} r1 r2 v1 v2 ok j h1 h2=>by
   have l1:=v1.length;have l2:=v2.length;have m1:=r1.length;have m2:=r2.length;have k1:j<its.length:=by simpa using h1
   have k2:j<aq.length:=by simpa using h2
   have j1:j<us.length:=by omega
   have j2:j<ws.length:=by omega
   have i1:j<xs.length:=by omega
   have i2:j<ys.length:=by omega
   obtain⟨u,hu',ru⟩:=v1.get (ax3 j1)
   obtain⟨u2,hu2',ru2⟩:=v2.get (ax3 j2)
   obtain⟨x,hx,rx⟩:=r1.get (ax3 j1)
   obtain⟨y,hy,ry⟩:=r2.get (ax3 j2)
   have e1:its.toArray[j]=u:=by
    rw[ax3 k1]at hu';simpa using hu'
   have e2:aq.toArray[j]=u2:=by
    rw[ax3 k2]at hu2';simpa using hu2'
   have ok':fD n x y=true:=by
    rw[ax0]at ok;have hz:j<(xs.zip ys).length:=by simp;omega
    have:=ok _ (List.getElem_mem hz)
    rw[List.getElem_zip]at this;rw[ax3 i1]at hx;rw[ax3 i2]at hy;cases hx;cases hy;exact this
   rw[e1,e2];have g1:xs.getD j .non=x:=by rw[az3,hx];rfl
   have g2:ys.getD j .non=y:=by rw[az3,hy];rfl
   rw[g1,g2];exact ih (by show A.units+1+n<cLine;omega) rx ry ru ru2 ok'
  have huA:A.units<cLine:=by omega
  cases rx with
  |@kt p us xs h1 r1=>
   obtain⟨its,v1,p1,_⟩:=I.tuple (.inr h1)
   cases (show a=Value.ref p from ra);cases ry with
   |@kt p2 ws ys h2 r2=>
    obtain⟨aq,v2,p2',_⟩:=I.tuple (.inr h2)
    cases (show b=Value.ref p2 from rb);by_cases e:p=p2
    ·subst e
     have:=aE.self (K:=X.K) (M:=M) (M':=M') (n+1) (.kt h1 r1) (.kt h2 r2) o
     rw[this];exact SeqAt.EqAt.same _
    ·have:=SeqAt.RcAt.tuples p1 p2' huA (items r1 r2 v1 v2 o)
     refine .of_refs e ?_;have l1:=v1.length;have l2:=v2.length;have m1:=r1.length;have m2:=r2.length;rw[av7,av7,<- l1,<- l2,m1,m2,qL]at this;exact this
   |_=>cases o
  |@tup p us xs h1 r1=>
   obtain⟨its,v1,p1,_⟩:=I.tuple (aQ.of (K:=X.K) h1)
   cases (show a=Value.ref p from ra);cases ry with
   |@tup p2 ws ys h2 r2=>
    obtain⟨aq,v2,p2',_⟩:=I.tuple (aQ.of (K:=X.K) h2)
    cases (show b=Value.ref p2 from rb);by_cases e:p=p2
    ·subst e
     have:=aE.self (K:=X.K) (M:=M) (M':=M') (n+1) (.tup h1 r1) (.tup h2 r2) o
     rw[this];exact SeqAt.EqAt.same _
    ·have:=SeqAt.RcAt.tuples p1 p2' huA (items r1 r2 v1 v2 o)
     refine .of_refs e ?_;have l1:=v1.length;have l2:=v2.length;have m1:=r1.length;have m2:=r2.length;rw[av7,av7,<- l1,<- l2,m1,m2,qL]at this;exact this
   |non=>cases rb;exact SeqAt.EqAt.tuple_none p1 huA
   |_=>cases o
  |@lst p us xs _ h1 r1=>
   obtain⟨its,v1,p1,_⟩:=I.list (aX.of (K:=X.K) h1)
   cases (show a=Value.ref p from ra);cases ry with
   |@lst p2 ws ys _ h2 r2=>
    obtain⟨aq,v2,p2',_⟩:=I.list (aX.of (K:=X.K) h2)
    cases (show b=Value.ref p2 from rb);have l1:=v1.length;have l2:=v2.length;have m1:=r1.length;have m2:=r2.length;by_cases e:p=p2
    ·subst e
     rw[h1]at h2;cases h2
     have:=Reps.self n r1 r2 o
     show SeqAt.EqAt A s _ _ ((xs.zip ys).all (λp=>d0 n p.1 p.2)&&xs.length==ys.length);rw[this];exact SeqAt.EqAt.same _
    ·refine .of_refs e ?_
     by_cases hl:xs.length=ys.length
     ·have:=SeqAt.RcAt.lists p1.isList p2'.isList (by rw[av7,av7];omega) huA (items r1 r2 v1 v2 o)
      have hm:min xs.length ys.length=its.length:=by omega
      rw[av7,<- hm,qL]at this;show SeqAt.RcAt A s _ _ ((xs.zip ys).all (λp=>d0 n p.1 p.2)&&xs.length==ys.length);rw[show (xs.length==ys.length)=true by simpa using hl,Bool.and_true];exact this
     ·have:=SeqAt.RcAt.lists_lengths (A:=A) p1.isList p2'.isList (by rw[av7,av7];simp;omega) huA
      show SeqAt.RcAt A s _ _ ((xs.zip ys).all (λp=>d0 n p.1 p.2)&&xs.length==ys.length);rw[show (xs.length==ys.length)=false by simpa using hl,Bool.and_false];exact this
   |_=>cases o
  |non=>
   cases ra;cases ry with
   |non=>cases rb;exact SeqAt.EqAt.same _
   |int i=>obtain⟨t',rfl⟩:=rb;exact SeqAt.EqAt.none_int _ _
   |@tup p2 ws ys h2 r2=>
    obtain⟨aq,v2,p2',_⟩:=I.tuple (aQ.of (K:=X.K) h2)
    cases (show b=Value.ref p2 from rb);exact SeqAt.EqAt.none_tuple p2' huA
   |_=>cases o
  |bl i=>
   cases ra;cases ry with
   |bl j=>cases rb;exact SeqAt.EqAt.bool_bool _ _
   |_=>cases o
  |int i=>
   obtain⟨t,rfl⟩:=ra
   cases ry with
   |int j=>obtain⟨t',rfl⟩:=rb;exact SeqAt.EqAt.int_int _ _ _ _
   |non=>cases rb;exact SeqAt.EqAt.int_none _ _
   |_=>cases o
  |str i=>
   obtain⟨t,rfl⟩:=ra
   cases ry with
   |str j=>obtain⟨t',rfl⟩:=rb;exact SeqAt.EqAt.str_str _ _ _ _
   |_=>cases o
  |_=>cases o
end
structure Bt (mg:Str->Option av):Prop where
 len:mg "len" = none
 range:mg "range" = none
 tuple:mg "tuple" = none
 list:mg "list" = none
 sorted:mg "sorted" = none
 all:mg "all" = none
 any:mg "any" = none
 zip:mg "zip" = none
 min:mg "min" = none
 max:mg "max" = none
 sum:mg "sum" = none
 isinst:mg "isinstance" = none
 int:mg "int" = none
 bool:mg "bool" = none
 enum:mg "enumerate" = none
section
variable {X:Cx}{a b c e o:Expr}{es rest:List Expr}{ta tb te to tk:aG}{tr:bQ}{tA tB' tc:cB}{pos p2 px:Pos}{st:Stmt}{sts:List Stmt}{t u:aR}
theorem hV (B:Bt X.mg)(ha:QA X [e] tr)(hg:Gl X "len":=by rfl)(he:starEach [e] X.env=(false,eval e X.env)::starEach [] X.env:=by rfl)(hpl:(backTo pos (starEach [] X.env)).any (·.1)=false:=by rfl):QE X (.Call (.Name "len" p2) [e] [] pos) (aU gQ tr):=
 nO (N2.or O8) V0 hg B.len PySem.boot_len ha (he:=he) (hpl:=hpl)
theorem Y9 (B:Bt X.mg)(ha:QA X [e] tr)(hg:Gl X "tuple":=by rfl)(he:starEach [e] X.env=(false,eval e X.env)::starEach [] X.env:=by rfl)(hpl:(backTo pos (starEach [] X.env)).any (·.1)=false:=by rfl):QE X (.Call (.Name "tuple" p2) [e] [] pos) (aU w4 tr):=
 Y5 N3 V2 hg B.tuple PyProof.Rows.boot_tuple ha (he:=he) (hpl:=hpl)
theorem Z0 (ha:QE X a ta):QE X (.UnaryOp .USub a pos) (vX ta):=bR (G6 J7 ha) λσ H Q' h=>by
 obtain⟨W,ρ,Q,px,q,k⟩:=h
 refine⟨W,ρ,_,px,q,?_⟩;rintro v H1 x g s r ⟨i,rfl,q⟩;cases r
 exact⟨i,rfl,k _ _ _ .fr s (.int _) q⟩
end
end PP
namespace PP
open PySem L2 PyProof.Rows
section
variable {X:Cx}{a b c e o:Expr}{es rest:List Expr}{ta tb te to tk:aG}{tr:bQ}{tA tB' tc:cB}{pos p2 px:Pos}{st:Stmt}{sts:List Stmt}{t u:aR}
structure Df (P:ay)(w:ba)(K:ad)(mg:Str->Option av)(base:Heap)(k:Nat)(x:Str)(ps:List Str)(p:b7):Prop where
 ex:∃f fd,cE P w K mg base bT k f fd ps (jN K p)/\fM K fd ps []/\PySem.W.keepIn K (.ref f)=true/\mg x=some (.ref f)
theorem cV {k j:Nat}{x:Str}{ps:List Str}{p:b7}(d:Df X.prog X.w X.K X.mg X.base k x ps p)(hr:bE j X.A)(ha:QA X (e::es) tr)(hkj:k<=j:=by decide)(hg:Gl X x:=by rfl)(hdb:(x==("__debug__":Str))=false:=by decide)(he:starEach (e::es) X.env=(false,eval e X.env)::starEach es X.env:=by rfl)(hpl:(backTo pos (starEach es X.env)).any (·.1)=false:=by rfl):QE X (.Call (.Name x p2) (e::es) [] pos) (aU p tr):=by
 obtain⟨f,fd,F,b,kp,m⟩:=d.ex
 exact bR (kN F (hr.mono hkj) hg m kp b .nil jF ha hdb he hpl) λ_ _ _=>V3
theorem hZ {K:ad}{H:Hp}{N:List Str}{vs:List V}{xs:List PV}(r:Reps K (λ_=>True) H vs xs):PX K H (λ_=>False) (L2.dM N vs) (bB N xs) H:=by
 have lr:=r.length;have own:∀{i:Nat}{m:Slot},(bB N xs)[i]? = some (some m)->∃x,xs[i]? = some x/\m = .sh (flat x) x:=λ{i m} h=>by
  unfold bB at h;by_cases hi:i<xs.length
  ·rw[List.getElem?_append_left (by simpa using hi),ax6]at h
   rw[ax3 hi]at h ⊢;cases h
   exact⟨_,rfl,rfl⟩
  ·rw[List.getElem?_append_right (by simpa using hi),List.getElem?_replicate]at h
   split at h<;>cases h
 refine⟨by unfold L2.dM bB;simp[lr],aI.refl _,λa z=>z.elim,λi m h=>?_,λi j x y a h1=>?_⟩
 ·obtain⟨x,hx,rfl⟩:=own h
  obtain⟨v,hv,rx⟩:=r.at hx
  refine⟨v,?_,nI (g:=false) (rx.same (aI.refl _) λ_ _ z=>z)⟩;have hi:i<vs.length:=(ay2.mp hv).1;unfold L2.dM;rw[List.getElem?_append_left (by simpa using hi),ax6,hv];rfl
 ·obtain⟨x,_,e⟩:=own h1
  cases e
theorem Df.of {P:ay}{w:ba}{K:ad}{mg:Str->Option av}{base:Heap}{k:Nat}{x:Str}{ps N:List Str}{p:b7}{st:Stmt}{f:ax}{fd:FuncData}(F:bM K x x st f fd)(m:mg x=some (.ref f))(S:FnScope N ps (aJ st))(hb:∀(kV doc pm:av) (an:Option ax) (cdv ct:av) (us:List av),us.length=ps.length->bindArgs (PySem.W.fnOf x x (bH st) (b8 st) (aJ st) .none kV doc pm an cdv ct) ⟨us,[]⟩=pure (ps.zip us))(len:∀xs Q,p xs Q->xs.length=ps.length)(body:∀(cdv:av) (A:az) (outer:List Env) (s:aw) (H:Hp) (E:XK),bE k (A.deeper (envOfC x (aJ st) s.heap.objs.size f cdv))->
   ∃t,dW (bS bT P w K mg base N x (aJ st) f cdv A outer s H E).nox (b8 st) t/\∀xs Q,p xs Q->t { nx:=λ_=>Q .non,rt:=Q } (bB N xs)):Df P w K mg base (k+1) x ps p:=by
 refine⟨f,fd,F.ok S (λvs H Q E h=>?_) (λcdv A outer s H vs Q E hr h=>?_),F.binds hb,F.kp,m⟩
 ·obtain⟨xs,Qp,r,q,_⟩:=h
  rw[r.length];exact len xs Qp q
 ·obtain⟨xs,Qp,r,q,k⟩:=h
  obtain⟨t,ht,hq⟩:=body cdv A outer s H E hr
  refine⟨_,ht,λ_=>False,bB N xs,_,hZ r,hq xs Qp q,?_,?_,?_,?_⟩
  ·exact λW' σ' H' ρ' e px q=>k _ _ _ px.same .non q
  ·exact λv H' x s r q=>k _ _ _ s r q
  ·exact λW' σ' H' ρ' e px q=>q
  ·exact λW' σ' H' ρ' e px q=>q
theorem jS (i:Nat){x:Str}{tp:Pos}{body:List Stmt}{ti:dQ}(hN:X.N.Nodup)(hi:QI X (.Name x tp) e ti)(hb:dW X body t)(hx:X.N[i]? = some x:=by rfl)(hl:eR X.env.scope x:=by first|exact Or.inl rfl|exact Or.inr rfl)(hf:X.fn x=true∨X.env.scope.names.lookup x=some .local:=by first|exact .inl rfl|exact .inr rfl)(hp:PassesOwn (model X.prog X.w) X.A X.env X.xe:=by exact PassesOwn.never)(hc:X.calm=true:=by rfl)(hs:∀x,foldedSetIterable e X.env x=pure x:=by intro _;rfl):QS X (.For (.Name x tp) e body [] pos) (gR ti (fQ i) t):=
 wE hp hc hi (j9 hN hx hl hf) (nJ _ i) hb hs
theorem qM (i j:Nat){x y:Str}{tp xp yp:Pos}{kt:Nat}{body:List Stmt}{ti:dQ}(hN:X.N.Nodup)(hi:QI X (.Tuple [.Name x xp,.Name y yp] kt tp) e ti)(hb:dW X body t)(hx:X.N[i]? = some x:=by rfl)(hy:X.N[j]? = some y:=by rfl)(hlx:eR X.env.scope x:=by first|exact Or.inl rfl|exact Or.inr rfl)(hly:eR X.env.scope y:=by first|exact Or.inl rfl|exact Or.inr rfl)(hfx:X.fn x=true∨X.env.scope.names.lookup x=some .local:=by first|exact .inl rfl|exact .inr rfl)(hfy:X.fn y=true∨X.env.scope.names.lookup y=some .local:=by first|exact .inl rfl|exact .inr rfl)(hp:PassesOwn (model X.prog X.w) X.A X.env X.xe:=by exact PassesOwn.never)(hc:X.calm=true:=by rfl)(hs:∀x,foldedSetIterable e X.env x=pure x:=by intro _;rfl):QS X (.For (.Tuple [.Name x xp,.Name y yp] kt tp) e body [] pos) (gR ti (jP i j) t):=
 wE hp hc hi (tG hc (mO (j9 hN hx hlx hfx) (mO (j9 hN hy hly hfy) tF))) (vS _ i j) hb hs
noncomputable abbrev cK:av->aw->Prop:=λ_ _=>False
section
variable {scope:Scope}{N:List Str}{fr:List (Option Nat)}{x y:Str}{tp xp yp:Pos}{kt:Nat}{iter elt:Expr}{ti:dQ}
theorem qN {ifs:List Expr}{tcs:cB}(he:∀(s:aw) (H:Hp) (C:ax) (fp:List ax),QE (bU X scope N s H C fp cK) elt te)(hi:∀(s:aw) (H:Hp) (C:ax) (fp:List ax),iM (bU X scope N s H C fp cK) ifs (LT (bU X scope N s H C fp cK) tcs))(hN:N.Nodup)(h0:N[0]? = some x)(hl:∀(s:aw) (H:Hp) (C:ax) (fp:List ax),(bU X scope N s H C fp cK).env.scope.names.lookup x=some .local)(s:aw)(H:Hp) :
  kQ X scope N (.Name x tp) ifs elt s H (cQ 0) (LT (X.frm H) tcs) (LE (X.frm H) te):=
 ⟨λC fp=>j9 (X:=bU X scope N s H C fp cK) hN h0 (.inl (hl s H C fp)) (.inr (hl s H C fp)),λC fp=>hi s H C fp,λC fp=>he s H C fp⟩
theorem qO {Y:Cx}:iM Y [] (LT Y fR):=λai s σ H Q I h=>P4 ai s σ H Q I (W6 h)
theorem Z1 (hi:QI X (.Name x tp) iter ti)(he:∀(s:aw) (H:Hp) (C:ax) (fp:List ax),QE (bU X scope N s H C fp cK) elt te)(hc:X.calm=true:=by rfl)(S:dD X scope N fr:=by exact dD.of rfl rfl)(hN:N.Nodup:=by decide +kernel)(h0:N[0]? = some x:=by rfl)(hl:∀(s:aw) (H:Hp) (C:ax) (fp:List ax),(bU X scope N s H C fp cK).env.scope.names.lookup x=some .local:=by intro _ _ _ _;rfl)(hf:fr[0]? = some none:=by rfl)(hs:∀x,foldedSetIterable iter X.env x=pure x:=by intro _;rfl):QE X (.ListComp elt [⟨.Name x tp,iter,[],0⟩] scope pos) (gS ti fr (fQ 0) fR te):=
 bR (pL (gh:=λ_=>cQ 0) (tch:=λH=>LT (X.frm H) fR) (teh:=λH=>LE (X.frm H) te) hc S hi (qN he (λ_ _ _ _=>qO) hN h0 hl) hs) λ_ _ _=>nK (nJ _ 0) (λi e=>by subst e;exact hf)
theorem Z2 {c:Expr}{tcs:cB}(hi:QI X (.Name x tp) iter ti)(ht:∀(s:aw) (H:Hp) (C:ax) (fp:List ax),QT (bU X scope N s H C fp cK) c tcs)(he:∀(s:aw) (H:Hp) (C:ax) (fp:List ax),QE (bU X scope N s H C fp cK) elt te)(hc:X.calm=true:=by rfl)(S:dD X scope N fr:=by exact dD.of rfl rfl)(hN:N.Nodup:=by decide +kernel)(h0:N[0]? = some x:=by rfl)(hl:∀(s:aw) (H:Hp) (C:ax) (fp:List ax),(bU X scope N s H C fp cK).env.scope.names.lookup x=some .local:=by intro _ _ _ _;rfl)(hf:fr[0]? = some none:=by rfl)(hs:∀x,foldedSetIterable iter X.env x=pure x:=by intro _;rfl):QE X (.ListComp elt [⟨.Name x tp,iter,[c],0⟩] scope pos) (gS ti fr (fQ 0) tcs te):=
 bR (pL (gh:=λ_=>cQ 0) (tch:=λH=>LT (X.frm H) tcs) (teh:=λH=>LE (X.frm H) te) hc S hi (qN he (λs H C fp=>P5 (ht s H C fp)) hN h0 hl) hs) λ_ _ _=>nK (nJ _ 0) (λi e=>by subst e;exact hf)
theorem Z3 {i:Nat}{z:Str}{zp:Pos}(nd:X.N.Nodup)(hi:QI X (.Name x tp) iter ti)(he:∀(s:aw) (H:Hp) (C:ax) (fp:List ax),QE (bU X scope N s H C fp cK) elt te)(hz:X.N[i]? = some z:=by rfl)(hzl:X.env.scope.names.lookup z=some .local:=by rfl)(hsw:swapsWith (.ListComp elt [⟨.Name x tp,iter,[],0⟩] scope p2) (some (.Name z zp)) pos.line X.env=pure true:=by rfl)(hc:X.calm=true:=by rfl)(S:dD X scope N fr:=by exact dD.of rfl rfl)(hN:N.Nodup:=by decide +kernel)(h0:N[0]? = some x:=by rfl)(hl:∀(s:aw) (H:Hp) (C:ax) (fp:List ax),(bU X scope N s H C fp cK).env.scope.names.lookup x=some .local:=by intro _ _ _ _;rfl)(hf:fr[0]? = some none:=by rfl)(hs:∀x,foldedSetIterable iter X.env x=pure x:=by intro _;rfl):QS X (.Assign [.Name z zp] (.ListComp elt [⟨.Name x tp,iter,[],0⟩] scope p2) pos) (cG i (gS ti fr (fQ 0) fR te)):=
 d4 (P9 (gh:=λ_=>cQ 0) (tch:=λH=>LT (X.frm H) fR) (teh:=λH=>LE (X.frm H) te) hc S hi (qN he (λ_ _ _ _=>qO) hN h0 hl) nd hz hzl hsw hs) λD σ H h=>nK (nJ _ 0) (λi e=>by subst e;exact hf) (vM h)
end
theorem Z4:kP X "list.extend" (vO X.K):=λai s σ H x xs v us Q I rx rs h=>h.elim (N9 ai s σ H x xs v us Q I rx rs) (Q5 ai s σ H x xs v us Q I rx rs)
theorem Z5 (i:Nat){x:Str}{aj am xpos:Pos}(he:QE X e te)(hN:X.N[i]? = some x:=by rfl)(hv:dL X.env.scope x:=by first|exact Or.inl rfl|exact Or.inr (Or.inl rfl)|exact Or.inr (Or.inr rfl))(hd:(x==("__debug__":Str))=false:=by decide)(hcd:(x==("__classdict__":Str))=false:=by decide)(hbase:attributeBase (.Name x xpos) "extend" X.env (eval (.Name x xpos) X.env)=eval (.Name x xpos) X.env:=by rfl)(hfew:((backTo am (starEach [e] X.env)).all (λx=>!x.1)&&(backToKw am (keywordEach [] X.env)).all (λx=>x.1.isSome)&&decide (([e]:List Expr).length+([]:List Keyword).length+(if ([]:List Keyword).isEmpty then 0 else 1)<30))=true:=by rfl)(hline:(aj.endLine==am.line)=true:=by rfl)(hs:starEach [e] X.env=(false,eval e X.env)::starEach [] X.env:=by rfl)(ar:(backTo am (starEach [] X.env)).any (·.1)=false:=by rfl)(hsw:swapsWith (.Call (.Attribute (.Name x xpos) "extend" aj) [e] [] am) none pos.line X.env=pure false:=by rfl) :
  QS X (.Expr (.Call (.Attribute (.Name x xpos) "extend" aj) [e] [] am) pos) (pU i te):=
 d4 (mJ (N5 PySem.F.plainAttrs_list PySem.F.slot_list_extend PySem.F.type_list_extend Z4 (gB hN hv hd hcd) (eT he jC hs) hbase hfew hline hs ar) hsw) λ_ _ _=>U7
end
end PP
namespace SO
open PySem PyProof.Rows
variable {rk:Keyed→Int}
noncomputable abbrev LS:=Option (Array Keyed)×Array Keyed×Nat×Nat×Nat×Nat×Nat
variable {rk:Keyed→Int}{xs ys o:List Keyed}{i j:Nat}
variable {rk:Keyed→Int}{xs ys o:List Keyed}{i j:Nat}
variable {rk:Keyed→Int}
noncomputable def Ch:Nat->List (Nat×Nat)->Nat->Prop
 |a,[],b=>a=b
 |a,(p,n)::r,b=>p=a/\0<n/\Ch (a+n) r b
variable {rk:Keyed→Int}{κ:SortKind}{a0:Array Keyed}{pd:Array (Nat×Nat×Nat)}{st:SortSt}{prog:ay}{w:ba}{A:az}{E:av→aw→Prop}{s:aw}{Ok:Keyed→Prop}
noncomputable abbrev RS:=Option Unit×Nat
noncomputable def Z6 (sz pw:Nat):StateT SortSt Sem (Option Unit×Unit):=forIn [0:sz] ((none,()):Option Unit×Unit) λ_ _=>do
 let z <- get
 match (if (pendingOf z).size>1 then (pendingOf z)[(pendingOf z).size-2]? else none) with
 |some (_,_,o)=>if o<=pw then pure (.done (none,())) else do
   let q <- mergeAt' ((pendingOf z).size-2)
   if (!q)=true then pure (.done (some (),())) else pure (.yield (none,()))
 |_=>pure (.done (none,()))
noncomputable def jn (sz lo n:Nat):StateT SortSt Sem (ForInStep RS):=do
 let z <- get
 match (pendingOf z).back? with
 |some (s1,n1,_)=>do
  let r <- Z6 sz (power' sz (2*s1+n1) (2*s1+n1+n1+n) sz)
  match r.1 with
  |some u=>pure (.done (some u,lo))
  |none=>do
   modify λs=>setPending s ((pendingOf s).modify ((pendingOf s).size-1) λx=>(x.1,x.2.1,power' sz (2*s1+n1) (2*s1+n1+n1+n) sz))
   modify λs=>setPending s ((pendingOf s).push (lo,n,0))
   pure (.yield (none,lo+n))
 |_=>do
  modify λs=>setPending s ((pendingOf s).push (lo,n,0))
  pure (.yield (none,lo+n))
end SO
namespace L2
open PySem PySem.Spec PyProof.Rows
theorem bK.at {P:ay}{w:ba}{H:Hp}{h:Heap}{a:ax}{o:HO}(x:bK P w H h a o):∃ob,h.get? a=some ob:=by
 cases o with
 |lst xs=>obtain⟨_,_,_,_,e⟩:=x;exact⟨_,e⟩
 |tup xs=>obtain⟨_,_,_,⟨_,e,_⟩,_⟩:=x;exact⟨_,e⟩
 |dK kvs=>obtain⟨_,_,_,_,_,_,_,e,_⟩:=x;exact⟨_,e⟩
 |dT kvs=>obtain⟨_,_,_,_,_,_,_,e,_⟩:=x;exact⟨_,e⟩
 |set S n=>obtain⟨_,_,_,_,e,_⟩:=x;exact⟨_,e⟩
 |ins C dx fs=>obtain⟨_,_,_,e,_⟩:=x;exact⟨_,e⟩
 |own y=>exact x
 |xd fs=>obtain⟨_,⟨_,_,_,e,_⟩,_⟩:=x;exact⟨_,e⟩
 |rng lo hi=>obtain⟨_,_,_,e⟩:=x;exact⟨_,e⟩
 |frz ob u=>obtain⟨e,_⟩:=x;exact⟨_,e⟩
 |tbl ps=>obtain⟨_,e,_⟩:=x;exact⟨_,e⟩
 |code q=>obtain⟨_,_,_,e,_⟩:=x;exact⟨_,e⟩
 |cd c q=>exact x.1
 |dA kvs=>obtain⟨_,_,_,_,_,_,_,e,_⟩:=x;exact⟨_,e⟩
 |dB kvs=>obtain⟨_,_,_,_,_,_,_,e,_⟩:=x;exact⟨_,e⟩
 |met f y=>exact⟨_,x⟩
 |ext φ=>exact x.2.1
structure qP (P:ay)(w:ba)(outer:List Env)(H:Hp)(s:aw)(H':Hp)(B:Heap)(a C:ax)(s':aw):Prop where
 os:s'.os=s.os
 bare:AllBare s'.gens
 un:Un (bN outer) [] H H' s.heap s'.heap
 hok:bG P w H' s'.heap
 fly:∃a0,Heap.FlyingW B outer a (.ref C) a0 s'.heap
 b0:∀b o,s.heap.get? b=some o->b∉bN outer->∃o',B.get? b=some o'
 b1:∀b o,s.heap.get? b=some o->H b=none->b∉bN outer->B.get? b=some o
 b2:∀b u o,H' b=some u->s'.heap.get? b=some o->B.get? b=some o
noncomputable def e8 (P:ay)(w:ba):dC:=λouter H s E e s'=>∃(H':Hp) (B:Heap) (a C:ax),e = .ref a/\qP P w outer H s H' B a C s'/\E (.ref C) none H'
section
variable {P:ay}{w:ba}{outer:List Env}{H H':Hp}{s s':aw}{B h2:Heap}{a C:ax}
theorem qP.hok2 (f:qP P w outer H s H' B a C s')(k:B.StaysIn h2):bG P w H' h2:=λb u e=>
 (f.hok b u e).stay (λc v hc q=>by
  rcases hc with z|z
  ·subst z;exact k _ _ (f.b2 _ _ _ e q)
  ·exact k _ _ (f.b2 _ _ _ z q)) (λ_ q=>q) λ_ _ q=>q
end
section
variable {P:ay}{w:ba}{K:ad}{mg:Str→Option av}{base:Heap}{N:List Str}{qual:Str}{scope:Scope}{f:ax}{cd:av}{A:az}{outer:List Env}{s₀:aw}{H₀:Hp}{E₀ E₁:XK}
theorem nU {ai:List (ax×Obj)}{σ:St}{H:Hp}{s:aw}(I:aA (bS (e8 P w) P w K mg base N qual scope f cd A outer s₀ H₀ E₀) ai σ H s){b:ax}{o:Obj}(e:s₀.heap.get? b=some o)(n:b∉bN outer) :
  b∉bN (envOfC qual scope s₀.heap.objs.size f cd::outer):=λz=>by
 rcases aw6.mp (I.stkSub b z) with y|y
 ·have l:=aw3 e
  have y:b=s₀.heap.objs.size:=y;exact absurd l (by rw[y];exact az9 _)
 ·exact n y
theorem Z7 (hE:∀c d H',E₁ c d H'->E₀ c d H'):iK (e8 P w) (bS (e8 P w) P w K mg base N qual scope f cd A outer s₀ H₀ E₀) E₁:=by
 intro ai σ H s e s' I hx
 obtain⟨H',B,a,C,e1,fl,q⟩:=hx
 subst e1;have I':=I.call' fl.os fl.un fl.hok fl.bare (ch:=[]) (λb z=>absurd z (by simp))
 obtain⟨a0,fly⟩:=fl.fly
 refine wpAny_leaves_onW I.ok.frames rfl fly λh' fly' up=>?_
 have slot:∀b o,s₀.heap.get? b=some o->b∈bN outer->∃sl,h'.get? b=some { o with slots:=sl }:=λb o e hb=>by
  obtain⟨sl,e1⟩:=I'.base.slot b o e (I.ok.frf b hb) hb (λz=>nomatch z)
  obtain⟨_,o2,e2,nf⟩:=I.ok.funs.mem hb
  rw[show (bS (e8 P w) P w K mg base N qual scope f cd A outer s₀ H₀ E₀).s₀=s₀ from rfl,e]at e2;cases e2
  obtain⟨sl',e3⟩:=up b _ e1 nf
  exact⟨sl',e3⟩
 have old:∀b o,s₀.heap.get? b=some o->H₀ b=none->b∉bN outer->B.get? b=some o:=λb o e n hb=>
  fl.b1 b o (I.base.keep b o e n hb (λz=>nomatch z)) (I.base.free b o e n (λz=>nomatch z)) (nU I e hb)
 have old0:∀b o,s₀.heap.get? b=some o->b∉bN outer->∃o',B.get? b=some o':=λb o e hb=>by
  obtain⟨o1,e1⟩:=I.base.there b o e (λz=>nomatch z)
  exact fl.b0 b o1 e1 (nU I e hb)
 refine⟨H',B,a,C,rfl,⟨I'.os,I'.bare,⟨λb o e n hb _=>fly'.1 _ _ (old b o e n hb),λb o e n hb _=>slot b o e hb,λb o e n hx=>I'.base.free b o e n hx,λb o e _=>?_,I'.base.tups,I'.base.frzs,I'.base.tbls⟩,fl.hok2 fly'.1,⟨a0,fly'⟩,old0,old,λb u o e h=>?_⟩,hE _ _ _ q⟩
 ·by_cases hb:b∈bN outer
  ·obtain⟨sl,e1⟩:=slot b o e hb
   exact⟨_,e1⟩
  ·obtain⟨o',e1⟩:=old0 b o e hb
   exact⟨o',fly'.1 _ _ e1⟩
 ·obtain⟨ob,e1⟩:=(fl.hok b u e).at
  have e2:=fl.b2 b u ob e e1;have e3:=fly'.1 _ _ e2;have h:h'.get? b=some o:=h;rw[h]at e3;cases e3;exact e2
theorem Z8 {ai:List (ax×Obj)}{σ:St}{H:Hp}{s:aw}{h':Heap}{e C:ax}{args:List av}(I:aA (bS (e8 P w) P w K mg base N qual scope f cd A outer s₀ H₀ E₀) ai σ H s)(mx:Heap.MadeExcOf s.heap h' e (.ref C) args)(q:E₀ (.ref C) none H) :
  (bS (e8 P w) P w K mg base N qual scope f cd A outer s₀ H₀ E₀).xe (.ref e) { s with heap:=h' }:=by
 have tr:∀b u,H b=some u->b∉bN (envOfC qual scope s₀.heap.objs.size f cd::outer):=λb u z n=>by
  rw[I.stkFree b n]at z;cases z
 have inB:∀b o,s.heap.get? b=some o->b∉bN (envOfC qual scope s₀.heap.objs.size f cd::outer)->(PySem.W.hideAll s.heap (bN (envOfC qual scope s₀.heap.objs.size f cd::outer))).get? b=some o:=λb o z n=>PySem.W.hideAll_get _ z n
 refine wpAny_leaves_madeW (base:=PySem.W.hideAll s.heap (bN (envOfC qual scope s₀.heap.objs.size f cd::outer))) I.ok.frames rfl (λb o z=>PySem.W.of_hideAll _ z) (PySem.W.funFrames_hide I.stack λenv he b hb=>List.mem_filterMap.mpr ⟨env,he,hb⟩) mx λh'' t fly _ _ up=>?_
 have slot:∀b o,s₀.heap.get? b=some o->b∈bN outer->∃sl,h''.get? b=some { o with slots:=sl }:=λb o e hb=>by
  obtain⟨sl,e1⟩:=I.base.slot b o e (I.ok.frf b hb) hb (λz=>nomatch z)
  obtain⟨_,o2,e2,nf⟩:=I.ok.funs.mem hb
  rw[show (bS (e8 P w) P w K mg base N qual scope f cd A outer s₀ H₀ E₀).s₀=s₀ from rfl,e]at e2;cases e2
  obtain⟨sl',e3⟩:=up b _ (mx.keeps _ _ e1) nf
  exact⟨sl',e3⟩
 have old:∀b o,s₀.heap.get? b=some o->H₀ b=none->b∉bN outer->(PySem.W.hideAll s.heap (bN (envOfC qual scope s₀.heap.objs.size f cd::outer))).get? b=some o:=λb o e n hb=>
  inB b o (I.base.keep b o e n hb (λz=>nomatch z)) (nU I e hb)
 have old0:∀b o,s₀.heap.get? b=some o->b∉bN outer->∃o',(PySem.W.hideAll s.heap (bN (envOfC qual scope s₀.heap.objs.size f cd::outer))).get? b=some o':=λb o e hb=>by
  obtain⟨o1,e1⟩:=I.base.there b o e (λz=>nomatch z)
  exact⟨o1,inB b o1 e1 (nU I e hb)⟩
 refine⟨H,_,e,C,rfl,⟨I.os,I.bare,⟨λb o e n hb _=>fly.1 _ _ (old b o e n hb),λb o e n hb _=>slot b o e hb,λb o e n hx=>I.base.free b o e n hx,λb o e _=>?_,I.base.tups,I.base.frzs,I.base.tbls⟩,λb u z=>?_,⟨_,fly⟩,old0,old,λb u o z h=>?_⟩,q⟩
 ·by_cases hb:b∈bN outer
  ·obtain⟨sl,e1⟩:=slot b o e hb
   exact⟨_,e1⟩
  ·obtain⟨o',e1⟩:=old0 b o e hb
   exact⟨o',fly.1 _ _ e1⟩
 ·refine (I.hok b u z).stay (λc v hc y=>?_) (λ_ y=>y) λ_ _ y=>y
  rcases hc with z'|z'
  ·subst z';exact fly.1 _ _ (inB _ _ y (tr _ _ z))
  ·exact fly.1 _ _ (inB _ _ y (tr _ _ z'))
 ·obtain⟨ob,e1⟩:=(I.hok b u z).at
  have e2:=inB b ob e1 (tr b u z);have e3:=fly.1 _ _ e2;have h:h''.get? b=some o:=h;rw[h]at e3;cases e3;exact e2
end
structure nV (X:Cx)(E:XK):Prop where
 pass:iK (e8 X.prog X.w) X E
 made:∀(ai:List (ax×Obj)) (σ:St) (H:Hp) (s:aw) (h':Heap) (e C:ax) (args:List av),aA X ai σ H s->Heap.MadeExcOf s.heap h' e (.ref C) args->E (.ref C) none H->X.xe (.ref e) { s with heap:=h' }
 own:PassesOwn (model X.prog X.w) X.A X.env X.xe
theorem Z9 {P:ay}{w:ba}{K:ad}{mg:Str->Option av}{base:Heap}{N:List Str}{qual:Str}{scope:Scope}{f:ax}{cd:av}{A:az}{outer:List Env}{s₀:aw}{H₀:Hp}{E₀ E₁:XK}(hE:∀c d H',E₁ c d H'->E₀ c d H') :
  nV (bS (e8 P w) P w K mg base N qual scope f cd A outer s₀ H₀ E₀) E₁:=
 ⟨Z7 hE,λ_ _ _ _ _ _ _ _ I mx q=>Z8 I mx (hE _ _ _ q),PassesOwn.leaving⟩
noncomputable def wF (E:XK)(C:ax)(t:TA):TS:=λ_ σ H=>t σ H λvs H1=>vs.length<=sizeLine/\E (.ref C) none H1
theorem aa0 {X:Cx}{E:XK}{x:Str}{C:ax}{bm:List av}{B newId initId:String}{np am pos:Pos}{e:Expr}{es:List Expr}{t:TA}(hX:nV X E)(hc:X.calm=true)(O:OwnCls x C bm newId X.mg X.base)(FB:ExcBaseFacts B newId initId bm)(ha:PA X (e::es) t)(hg:Gl X x)(hd:(x==("__debug__":Str))=false:=by decide)(he:starEach (e::es) X.env=(false,eval e X.env)::starEach es X.env:=by rfl)(hpl:(backTo am (starEach es X.env)).any (·.1)=false:=by rfl) :
  PS X (.Raise (some (.Call (.Name x np) (e::es) [] am)) none pos) (wF E C t):=by
 intro ai s σ H D I h
 obtain⟨tl,Na,nm,qn,bs,hx,sn,sub,ab,col,dd,k0,k1,k2,k3,k5,mN,hC,hN,hni,T⟩:=O.obj
 refine wpAny_Raise_call_subT (nm:=nm) (q:=qn) (N:=Na) (bs:=bs) (bm:=tl) (hdct:=hx) (sn:=sn) (sub:=sub) (ab:=ab) (col:=col) (dd:=dd) (k0:=k0) (k1:=k1) (k2:=k2) (k3:=k3) (k5:=k5) FB (C:=C) (mN:=mN) (T.hasType FB.hasBase) (I.ok.hd hc) (by rw[he];show (false||(backTo am (starEach es X.env)).any (·.1))=false;rw[hpl];rfl) hni (mH I hg O.bound ⟨rfl,?_⟩ hd);have h1:=ha am ai s σ H _ I h;rw[he]at h1 ⊢;refine Calls.evalArgs_plain (az6 h1 (λus s2 h2=>?_) λ_ _ y=>y)
 obtain⟨vs,H2,I2,r,hl,q⟩:=h2
 have r:aM vs us:=r
 exact⟨rfl,by show us.length<=sizeLine;rw[<- r.length];exact hl,I2.bk _ _ hC,hN.keeps I2.bk,T.keeps I2.bk,λh' e' mx=>hX.made ai σ H2 s2 h' e' C _ I2 mx q⟩
theorem bM.okX {P:ay}{w:ba}{K:ad}{mg:Str->Option av}{base:Heap}{x qual:Str}{st:Stmt}{f:ax}{fd:FuncData}{N ps:List Str}{k:Nat}{sp:Sp}(F:bM K x qual st f fd)(S:FnScope N ps (aJ st))(len:∀vs H Q E,sp vs H Q E->vs.length=ps.length)(hbody:∀(cdv:av) (A:az) (outer:List Env) (s:aw) (H:Hp) (vs:List V) (Q:VK) (E:XK),bE k (A.deeper (envOfC qual (aJ st) s.heap.objs.size f cdv))->sp vs H Q E->
   ∃t,cM (bS (e8 P w) P w K mg base N qual (aJ st) f cdv A outer s H E) (b8 st) t/\t { nx:=λ_ H'=>Q .non H',rt:=Q } (dM N vs) H):cE P w K mg base (e8 P w) (k+1) f fd ps sp:=by
 obtain⟨oc,od,kV,doc,pm,an,cdv,ct,osl,rfl,lk,hcd⟩:=F.ex
 exact p6 lk hcd S len λA outer s H vs Q E hr hsp=>hbody cdv A outer s H vs Q E hr hsp
section
variable {X:Cx}{ai:List (ax×Obj)}{σ:St}{H H1 H':Hp}{s s1 s':aw}{B h2:Heap}{a C:ax}
noncomputable abbrev Cx.suite (X:Cx)(a:ax):Cx:={ X with A:=X.A.mark (some (.ref a)),calm:=false,xe:=λ_ _=>False }
end
noncomputable abbrev TB:=cX->XK->St->Hp->Prop
section
variable {X:Cx}{ai:List (ax×Obj)}{σ:St}{H H':Hp}{s:aw}{a:ax}
theorem aA.reH (I:aA X ai σ H s)(d:∀b,b≠a->H' b=H b)(ha:∃x,H a=some x)(tup:∀xs,H a≠some (.tup xs))(frz:∀o v,X.H₀ a≠some (.frz o v))(tbl:∀ps,H a≠some (.tbl ps))(hok:bG X.prog X.w H' s.heap):aA X ai σ H' s:=by
 have none:∀b,H b=none->H' b=none:=λb e=>by
  rw[d b λz=>?_];exact e
  obtain⟨x,hx⟩:=ha
  rw[z,hx]at e;cases e
 refine⟨I.ok,I.os,I.bare,⟨I.base.keep,I.base.slot,λb o e n hx=>none b (I.base.free b o e n hx),I.base.there,λb xs q=>?_,λb o u q=>?_,λb ps q=>?_⟩,I.loc,I.cell,none _ I.free,λx c e=>none c (I.freeC x c e),λp hp=>?_,hok,I.len⟩
 ·have e:=I.base.tups b xs q
  rw[d b λz=>tup xs (by rw[<- z];exact e)];exact e
 ·rw[d b λz=>frz o u (by rw[<- z];exact q)];exact I.base.frzs b o u q
 ·obtain⟨more,e⟩:=I.base.tbls b ps q
  exact⟨more,by rw[d b λz=>tbl _ (by rw[<- z];exact e)];exact e⟩
 ·obtain⟨e,n,r⟩:=I.pin p hp
  exact⟨e,none _ n,r⟩
end
noncomputable def wG (a:ax)(o:Obj)(ys:List V):It:=
 ⟨λi H=>(∃u,H a=some (.frz o u))/\i<ys.length,λi H v H'=>H'=H/\ys[i]? = some v,λi H=>(∃u,H a=some (.frz o u))/\i=ys.length⟩
theorem aa1 {P:ay}{w:ba}{K:ad}{tg:Expr}{o:Obj}{es:Array DictEntry}{ep:Nat}{ys:List V}(a it:ax)(od:o.ExactDict/\o.data = .dict es ep)(vl:aM ys (es.toList.map (·.key))) :
  h8 P w K tg (wG a o ys) [it] it (λi h=>h.IsKeyIter it a i es.size ep):=by
 have hs:es.size=ys.length:=by
  have:=vl.length
  rw[av4,Array.length_toList]at this;exact this.symm
 refine⟨by simp,λi h st b hb=>?_,λi h h' st k=>st.at λo e=>k it (by simp) o e,?_,?_,λ_ _ _ _ _ st q=>wpAny_pyIter_keyiter st q⟩
 ·obtain rfl:b=it:=by simpa using hb
  obtain⟨o,e,c,d⟩:=st
  exact⟨o,e,λv z=>by rw[d]at z;cases z⟩
 ·intro X hP hw hK hc i ai s σ H E I hf st hg
  subst hP hw hK
  obtain⟨⟨u,hu⟩,hi⟩:=hg
  obtain⟨f0,f1,f2,f3,f4,f5⟩:=hf it (by simp)
  refine Raw.turn (I.ok.hd hc) st ⟨o,(I.hok a _ hu).1,od.1,od.2⟩ (λlt h' again sb=>?_) (λge=>absurd ge (by omega));have I1:aA X ai σ H { s with heap:=h' }:=I.turned (t':=s.toks) (λb o hb e=>(sb.2 b hb).trans e) f0 f1 f3 f4 f5;have hv:=ax3 hi
  obtain⟨key,hk,rv⟩:=vl.get hv
  obtain rfl:key=es[i].key:=by
   rw[ax6]at hk;simp[lt]at hk;exact hk.symm
  obtain⟨o',e,c,d⟩:=id again
  exact⟨es[i].key,rfl,mQ (s:={ s with heap:=h' }) e c d (by decide) ⟨_,H,I1,rv,⟨rfl,hv⟩,again,λb hb=>(hf b hb).1⟩⟩
 ·intro X hP hw hK hc i ai s σ H E I hf st hg
  subst hP hw hK
  obtain⟨⟨u,hu⟩,hi⟩:=hg
  obtain⟨f0,f1,f2,f3,f4,f5⟩:=hf it (by simp)
  exact Raw.turn (I.ok.hd hc) st ⟨o,(I.hok a _ hu).1,od.1,od.2⟩ (λlt=>absurd lt (by omega)) λ_ h' eb=>⟨rfl,I.turned (t':=s.toks) (λb o hb e=>eb b o hb e) f0 f1 f3 f4 f5⟩
end L2
namespace Core
open PySem L2 PP
noncomputable def kin (ws:ag)(ls:aa)(S:ag)(h:Int):Bool:=!decide (h∈S)&&decide (ws.getD h.toNat 0<=(((uW ls h).filter λx=>decide (x∈S)).length:Int))
noncomputable def nextOf (ws:ag)(ls:aa)(S:ag):ag:=((List.range ws.length).map λ(i:Nat)=>(i:Int)).filter (kin ws ls S)
noncomputable def lH (ws:ag)(ls:aa)(S:ag):Nat->ag
 |0=>S
 |k+1=>lH ws ls S k++nextOf ws ls (lH ws ls S k)
noncomputable def after (ws:ag)(ls:aa)(S:ag)(m:Nat):ae:=(List.range m).map λk=>nextOf ws ls (lH ws ls S k)
noncomputable def cX (ws:ag)(ls:aa)(ns:ag)(m:Nat):Prop:=(∀k<m,nextOf ws ls (lH ws ls ns k)≠[])/\nextOf ws ls (lH ws ls ns m) = []
noncomputable def rng (n:Nat):ag:=(List.range n).map λ(i:Nat)=>(i:Int)
theorem qQ (a:ag):(intz a).length=a.length:=av4 _
noncomputable def cR (x:PV)(ns:ag):Prop:=x = .tup (intz ns)∨x = .lst (intz ns)
noncomputable abbrev Rd1 (t:aR)(N:List Str)(p:b7):Prop:=∀xs Q,p xs Q->t { nx:=λ_=>Q .non,rt:=Q } (bB N xs)
noncomputable def inB (n:Nat)(x:Int):Bool:=decide (0<=x)&&decide (x<(n:Int))
theorem aa2 {ws:ag}{h:Int}(h0:0<=h)(h1:h<(ws.length:Int)):atI (intz ws) h=some (.int (ws.getD h.toNat 0)):=by
 refine Q1 h0 ?_
 have:h.toNat<ws.length:=by omega
 rw[ax6,az3,ax3 this];rfl
noncomputable def tups (rs:ae):List PV:=rs.map λr=>PV.tup (intz r)
end Core
namespace PP
open PySem L2
noncomputable def qR:PV->Tg->PV->Tg->PK->Prop:=λx _ y _ Q=>∃xs n,x = .tup xs/\y = .int n/\flats xs=true/\xs≠[]/\2<=n/\n<=1000000/\xs.length<=10/\Q (.tup (List.replicate n.toNat xs).flatten) .fr
noncomputable abbrev aa3 (ta tb:aG):aG:=q2 qR ta tb
end PP
namespace Core
open PySem L2 PP
theorem aa4 (g:Tg)(n:Int):Nw g (.int n):=by cases g<;>first|exact trivial|rfl
noncomputable def lI (x:PV)(ns:ag):Prop:=x = .scr ns∨x = .lst (intz ns)
theorem lI.seq {x:PV}{ns:ag}(h:lI x ns):jM x=some (intz ns):=by rcases h with rfl|rfl<;>rfl
theorem lI.len {x:PV}{ns:ag}(h:lI x ns):kY x=some ns.length:=by
 rcases h with rfl|rfl
 ·rfl
 ·show some (intz ns).length=_
  rw[qQ]
noncomputable def i5:b7:=λxs Q=>∃x ns k,xs = [x,.int k]/\lI x ns/\0<=k/\Q (.int (ns.getD k.toNat 0))
noncomputable def wH:aR:=(bC (fC (cC (lD (aC 1) (aU gQ (aH (aC 0) aO)))) (dP (dU (aC 0) (aC 1))) fB)
 (dP (qC (.int 0))))
theorem aa5:Rd1 wH ["script","k"] i5:=by
 rintro xs Q ⟨x,ns,k,rfl,hx,h0,q⟩;refine⟨_,rfl,_,rfl,_,_,rfl,hx.len,_,_,rfl,rfl,_,rfl,?_⟩;by_cases h:k<(ns.length:Int)
 ·rw[ay5 h]
  exact bY ⟨_,rfl,_,rfl,_,_,_,hx.seq,rfl,aa2 h0 h,aa4 _ _,q⟩
 ·rw[aw1 h]
  rw[az3,List.getElem?_eq_none (by omega)]at q;exact cF ⟨trivial,q⟩
noncomputable def nW (ls:aa):List PV:=ls.map λl=>PV.tup [.int l.1,.int l.2]
noncomputable abbrev si (n:Int):Option Slot:=some (.sh true (.int n))
theorem cR.len {x:PV}{ns:ag}(h:cR x ns):kY x=some ns.length:=by
 rcases h with rfl|rfl<;>(show some (intz ns).length=_;rw[qQ])
end Core
namespace PySem
theorem aa6:fillsNumberSlot (.type "tuple") "mul" = pure false:=
 fillsNumberSlot_seq (id:="tuple.__mul__") (r:=some (.builtin "tuple.__rmul__")) F.slot_tuple_mul.lookup (by decide +kernel) F.slot_tuple_rmul.lookup (by decide +kernel)
theorem aa7:seqRepeat? (.type "tuple")=pure (some (.builtin "tuple.__mul__")):=by
 unfold seqRepeat?;rw[seqSlot_of (T:="tuple") (name:="__mul__") (id:="tuple.__mul__") F.slot_tuple_mul.lookup (by decide +kernel),seqSlot_of (T:="tuple") (name:="__rmul__") (id:="tuple.__rmul__") F.slot_tuple_rmul.lookup (by decide +kernel)];rfl
theorem aa8 (a:Int)(t:Tok)(l:ax)(items:Array av)(n:Nat)(dd:Option ax)(sl:Array (Option av)) :
  Meets (Builtin.«int.__rmul__» ⟨[.int a t,.ref l],[]⟩) (λ_ R s=>s.heap.get? l=some { cls:=.type "tuple",dict:=dd,data:=.seq items n,slots:=sl }/\R (.ok (.ret Value.notImplemented)) s):=
 .of_wp λprog w A R s h=>by obtain⟨hp,g,d,tk,os⟩:=s;obtain⟨hl,h⟩:=h;wp_walk;exact⟨_,rfl,h⟩
theorem aa9 (l:ax)(items:Array av)(n:Nat)(dd:Option ax)(sl:Array (Option av))(x:Int)(u:Tok)(h0:items.isEmpty=false)(h1:2<=x)(h2:items.size*x.toNat<=sizeLine)(h3:x<=1000000) :
  Meets (Builtin.«tuple.__mul__» ⟨[.ref l,.int x u],[]⟩) (λ_ R s=>s.heap.get? l=some { cls:=.type "tuple",dict:=dd,data:=.seq items n,slots:=sl }/\R (.ok (.ret (Value.ref s.heap.objs.size))) { s with heap:=s.heap.push { cls:=Value.type "tuple",data:=Data.seq (List.foldl (λx1 x2=>x1++x2) #[] (List.replicate x.toNat items)) } }):=
 .of_wp λprog w A R s h=>by
  obtain⟨hp,g,d,tk,os⟩:=s;obtain⟨hl,h⟩:=h
  have c1:(decide (x < -(2^63))||decide (x >= 2^63))=false:=by
   rw[Bool.or_eq_false_iff];exact⟨aw1 (by omega),aw1 (by omega)⟩
  have c2:(items.isEmpty||x==1)=false:=by rw[h0,Bool.false_or];exact aE0.mpr (by omega)
  have c3:(decide (x<=0)||items.isEmpty)=false:=by rw[h0,Bool.or_false];exact aw1 (by omega)
  have hsz:((items.size:Nat):Int)*x=((items.size*x.toNat:Nat):Int):=by rw[Int.natCast_mul];congr 1;omega
  have hl63:(sizeLine:Nat)<=(2^63-1)/8:=by decide
  have c4:decide (((items.size:Nat):Int)*x>(2^63-1)/8)=false:=aw1 (by rw[hsz];omega);have c5:Builtin.Tuple.tupleTooMany (((items.size:Nat):Int)*x)=false:=by
   rw[hsz];unfold Builtin.Tuple.tupleTooMany;exact aw1 (by omega)
  wp_walk
  refine wpAny_ite_false (by rw[c1];rfl) ?_
  wp_walk
  refine wpAny_ite_false (by rw[c2];rfl) ?_
  wp_walk
  refine wpAny_ite_false (by rw[c3];rfl) ?_
  wp_walk
  refine wpAny_ite_false c4 ?_
  wp_walk
  refine wpAny_ite_false (by rw[c5];rfl) ?_
  wp_walk
  have f0:∀(m:Nat) (acc:Array av),(List.foldl (λx1 x2=>x1++x2) acc (List.replicate m items)).size=acc.size+m*items.size:=λm=>by
   induction m with
   |zero=>intro acc;simp
   |succ m ih=>intro acc;rw[aB0,List.foldl_cons,ih,Array.size_append,Nat.succ_mul];omega
  have c6:decide ((List.foldl (λx1 x2=>x1++x2) #[] (List.replicate x.toNat items)).size>sizeLine)=false:=aw1 (by
   rw[f0 x.toNat #[]]
   have:x.toNat*items.size=items.size*x.toNat:=Nat.mul_comm _ _
   simp only[Array.size_empty]
   omega)
  refine wpAny_ite_false c6 ?_
  wp_walk
  exact⟨_,rfl,h⟩
end PySem
namespace PP
open PySem L2 PyProof.Rows
noncomputable def wI (K:ad):R2:=λx y H Q=>∃l k xs,x = .ref l/\y = .int k/\aQ K H l xs/\xs≠[]/\2<=k/\k<=1000000/\xs.length*k.toNat<=sizeLine/\∀p,H p=none->Q (.ref p) (upd H p (.tup (List.replicate k.toNat xs).flatten))
theorem ab0 {X:Cx}:bV X (binaryOp .Mult) (wI X.K):=by
 intro ai s σ H x y v u Q I rx ry h
 obtain⟨l,k,xs,rfl,rfl,hH,hne,h1,h2,hz,q⟩:=h
 cases rx
 obtain⟨t,rfl⟩:=ry
 obtain⟨its,r,p,_⟩:=I.tuple hH
 obtain⟨⟨cls,dd,data,sl⟩,ho,hc,n,hd⟩:=id p
 simp only at hc hd;subst hc hd;have hl:=r.length;have hemp:its.toArray.isEmpty=false:=by
  cases its with
  |nil=>exact absurd (r.nil_iff.mp rfl) hne
  |cons a b=>rfl
 refine wpAny_binaryOp_repeat_ref (T:="tuple") (U:="int") (by decide) ⟨_,ho,rfl⟩ (λs'=>typeIs_int s' k t) aa6 F.fills_int_mul F.slot_int_rmul aa7 F.slot_int_index.lookup
  (call_meets F.slot_int_rmul (typeIs_int s k t) F.entry_int_rmul (F.args_int_rmul_2 _ _) (aa8 k t l its.toArray n dd sl)
   ⟨ho,rfl,⟨_,ho,rfl⟩,call_meets F.slot_tuple_mul ⟨_,ho,rfl⟩ F.entry_tuple_mul (F.args_tuple_mul_2 _ _) (aa9 l its.toArray n dd sl k t hemp h1 (by rw[av7,<- hl];exact hz) h2) ⟨ho,?_⟩⟩)
 have f0:List.foldl (λx1 x2=>x1++x2) #[] (List.replicate k.toNat its.toArray)=(List.replicate k.toNat its).flatten.toArray:=by
  have:=uH its k.toNat []
  rw[List.nil_append]at this;exact this
 rw[f0];refine⟨.ref s.heap.objs.size,_,I.laid (t':=s.toks) (o:=.tup (List.replicate k.toNat xs).flatten) (λb ob q=>av6 _ q) (aw5 _) ?_,rfl,q _ (I.hok.fresh (aw5 _))⟩
 exact⟨by rw[O1,Nat.mul_comm];exact hz,_,r.rep k.toNat,IsTup.new _ _,g9.new _ _ rfl⟩
theorem Reps.rep {K:ad}{M:ax->Prop}{H:Hp}{us:List V}{xs:List PV}(r:Reps K M H us xs):∀k:Nat,Reps K M H (List.replicate k us).flatten (List.replicate k xs).flatten
 |0=>.nil
 |k+1=>by rw[aB0,aB0,aE8,aE8];exact r.append (Reps.rep r k)
section
variable {X:Cx}{a b e:Expr}{ta tb te:aG}{tr:bQ}{pos p2 p3 pos2:Pos}
theorem ab1:eY X qR (wI X.K):=by
 rintro W Hs H u v x y g g' Q Q' s n r1 r2 ⟨xs,m,rfl,rfl,f,ne,h1,h2,hl,q⟩ k;cases r2
 obtain⟨a,us,rfl,h,r⟩:=r1.sqT
 have lr:=r.length;refine⟨a,m,us,rfl,rfl,aQ.of h,λz=>ne (by cases xs with|nil=>rfl|cons _ _=>rw[z]at lr;cases lr),h1,h2,lim ?_,λp hp=>k _ _ _ .fr (cT hp _) (.tup bI (((r.flat f).rep m.toNat).same (cT hp _) λ_ z=>z)) q⟩;have h3:us.length<=10:=by omega
 have h4:m.toNat<=1000000:=by omega
 calc us.length*m.toNat<=10*1000000:=Nat.mul_le_mul h3 h4
  _<=16000000:=by decide
theorem wJ (ha:QE X a ta)(hb:QE X b tb):QE X (.BinOp a .Mult b pos) (q2 qR ta tb):=fU ab0 ab1 ha hb
end
end PP
namespace Core
open PySem L2 PP
noncomputable def two (l:Int×Int):ag:=[l.1,l.2]
noncomputable def wK:b7:=λxs Q=>∃ns:ag,xs = [.scr ns]/\ns.length<=63/\Q (.bl true)
end Core
namespace PP
open PySem L2 PyProof.Rows
noncomputable def ab2 (K:ad):Sp:=λvs H Q _=>∃(a:ax) (ns:ag),vs = [.ref a]/\gO K H a ns/\ns.length<=63/\∀H',Q (.bl true) H'
end PP
namespace PyProof.Rows
open PySem
end PyProof.Rows
namespace L2
open PySem PySem.Spec PyProof.Rows
noncomputable def qS (K:ad)(a:ax):It:=
  ⟨λi H=>∃xs x,aX K H a xs/\xs[i]? = some x,
   λi H v H'=>∃T x,H T=none/\v = .ref T/\H'=upd H T (.tup [.int i,x])/\∀xs,aX K H a xs->xs[i]? = some x,
   λi H=>∃xs,aX K H a xs/\xs.length<=i⟩
structure ab3 (e it a:ax)(i:Nat)(h:Heap):Prop where
 ee:∃old,IsEnum h e it i old
 s1:h.IsListIter it a i
theorem ab4 {P:ay}{w:ba}{K:ad}{elts:List Expr}{k:Nat}{pos:Pos}(a e it:ax)(d:e≠it) :
  h8 P w K (.Tuple elts k pos) (qS K a) [e,it] e (ab3 e it a):=by
 refine⟨by simp,λi h st c hc=>?_,λi h h' st kp=>?_,?_,?_,λA i s Q E st q=>?_⟩
 ·simp only[aw6,ay4,aD6]at hc
  obtain⟨old,ee⟩:=st.ee
  obtain⟨o1,f1,g1,d1⟩:=st.s1
  rcases hc with rfl|rfl
  ·exact⟨_,ee,λv q=>by cases q⟩
  ·exact⟨_,f1,λv q=>by rw[d1]at q;cases q⟩
 ·obtain⟨old,ee⟩:=st.ee
  exact⟨⟨old,kp e (by simp) _ ee⟩,st.s1.at λo z=>kp it (by simp) o z⟩
 ·intro X hP hw hK hc i ai s σ H E I hf st hg
  subst hP hw hK
  obtain⟨xs,x,ha,hx⟩:=hg
  obtain⟨us,ru,pu,lu⟩:=I.list ha
  obtain⟨ux,eux,rux⟩:=ru.get hx
  obtain⟨old,ee⟩:=st.ee
  refine wpAny_pyNext_enum_item ee st.s1 pu.isList (by simpa using eux) d λh' eo it' pr sz kp=>⟨_,rfl,?_⟩
  refine wpAny_letOwnedTupleGo_enum (s:={ s with heap:=h',toks:=s.toks+1 }) eo λg zz sb=>?_
  have hzl:e<s.heap.objs.size:=aw3 ee;have up:∀c o,c≠e->c≠it->s.heap.get? c=some o->g.get? c=some o:=λc o c1 c2 z=>sb.extBut c o c1 (kp c o c1 c2 z)
  have hT:H s.heap.objs.size=none:=I.hok.fresh (aw5 _);have prG:g.get? s.heap.objs.size=some { cls:=.type "tuple",data:=.seq #[.int i s.toks,ux] }:=sb.extBut _ _ (aB8 hzl) pr;have fpn:∀c u,H c=some u->c∉[e,it]:=λc u z hm=>by rw[(hf c hm).1]at z;cases z
  have upH:∀c o u,H c=some u->s.heap.get? c=some o->g.get? c=some o:=λc o u q z=>by
   have:=fpn c u q
   simp only[aw6,ay4,aD6,not_or]at this;exact up c o this.1 this.2 z
  have ns:∀m,s.heap.Ns X.env.locals m->g.Ns X.env.locals m:=λm hm=>by
   obtain⟨o,es,ep,e1,e2⟩:=hm
   exact⟨o,es,ep,up _ o (Ne.symm (hf e (by simp)).2.1) (Ne.symm (hf it (by simp)).2.1) e1,e2⟩
  have I2:aA X ai σ (upd H s.heap.objs.size (.tup [.int i,x])) { s with heap:=g,toks:=s.toks+1 }:=by
   refine I.step (g':=s.gens) (d':=s.drawn) (ch:=[e,it]) (λc hc'=>?_) (λc o _ _ hc' z _=>?_) (λc o _ _ hc' z _=>⟨o.slots,?_⟩) (λc o _ z n=>?_) (λc o hc' z=>⟨o,?_⟩)
    (λc zs z=>by rw[aK (cS z hT)];exact z) (λc u zs z=>by rw[aK (cS z hT)];exact z) (λc ps z=>⟨#[],by rw[aK (cS z hT),z];simp⟩) ns (λc u z=>?_) I.bare
   ·exact⟨(hf c hc').2.2.2.1,(hf c hc').2.1,(hf c hc').2.2.2.2.1,(hf c hc').2.2.2.2.2⟩
   ·simp only[aw6,ay4,aD6,not_or]at hc'
    exact up c o hc'.1 hc'.2 z
   ·simp only[aw6,ay4,aD6,not_or]at hc'
    exact up c o hc'.1 hc'.2 z
   ·rw[aK (ay9 (aw3 z))];exact n
   ·simp only[aw6,ay4,aD6,not_or]at hc'
    exact up c o hc'.1 hc'.2 z
   ·by_cases hcT:c=s.heap.objs.size
    ·subst hcT
     rw[bI]at z;cases z
     exact⟨by show 2<=sizeLine;decide,[.int i s.toks,ux],.cons ⟨_,rfl⟩ (.cons rux .nil),⟨_,prG,rfl,_,rfl⟩,λu e=>by rw[prG]at e;cases e;rfl⟩
    ·rw[aK hcT]at z
     refine (I.hok c u z).stay (λc' o' hc2 q'=>?_) (λc' q'=>by rw[aK (cS q' hT)];exact q') λc' zs q'=>by rw[aK (cS q' hT)];exact q'
     rcases hc2 with rfl|hc2
     ·exact upH _ _ _ z q'
     ·exact upH _ _ _ hc2 q'
  refine⟨.ref s.heap.objs.size,_,I2,rfl,⟨_,x,hT,rfl,rfl,λxs' ha'=>?_⟩,⟨⟨ux,by push_cast;exact zz⟩,it'.at λo z=>sb.extBut _ o (Ne.symm d) z⟩,λc hc'=>?_⟩
  ·rw[I.list_inj ha' ha];exact hx
  ·obtain⟨o,z⟩:∃o,s.heap.get? c=some o:=by
    simp only[aw6,ay4,aD6]at hc'
    obtain⟨o1,f1,_⟩:=st.s1
    rcases hc' with rfl|rfl
    ·exact⟨_,ee⟩
    ·exact⟨_,f1⟩
   rw[aK (ay9 (aw3 z))];exact (hf c hc').1
 ·intro X hP hw hK hc i ai s σ H E I hf st hg
  subst hP hw hK
  obtain⟨xs,ha,hi⟩:=hg
  obtain⟨us,ru,pu,lu⟩:=I.list ha
  obtain⟨old,ee⟩:=st.ee
  have hh:X.A.handled=none:=I.ok.hd hc;have e1:=ru.length;refine wpAny_pyNext_enum_end hh ee st.s1 pu.isList (by rw[Array.getElem?_eq_none];simp only[av7];omega) λg kp=>⟨rfl,?_⟩
  have fpn:∀c u,H c=some u->c∉[e,it]:=λc u z hm=>by rw[(hf c hm).1]at z;cases z
  have upH:∀c o u,H c=some u->s.heap.get? c=some o->g.get? c=some o:=λc o u q z=>by
   have:=fpn c u q
   simp only[aw6,ay4,aD6,not_or]at this;exact kp c o this.2 z
  have ns:∀m,s.heap.Ns X.env.locals m->g.Ns X.env.locals m:=λm hm=>by
   obtain⟨o,es,ep,e1,e2⟩:=hm
   exact⟨o,es,ep,kp _ o (Ne.symm (hf it (by simp)).2.1) e1,e2⟩
  refine I.step (g':=s.gens) (d':=s.drawn) (ch:=[it]) (λc hc'=>?_) (λc o _ _ hc' z _=>?_) (λc o _ _ hc' z _=>⟨o.slots,?_⟩) (λc o _ z n=>n) (λc o hc' z=>⟨o,?_⟩)
   (λc zs z=>z) (λc u zs z=>z) (λc ps z=>⟨#[],by rw[z];simp⟩) ns (λc u z=>?_) I.bare
  ·have hm:c∈[e,it]:=aw4 _ hc'
   exact⟨(hf c hm).2.2.2.1,(hf c hm).2.1,(hf c hm).2.2.2.2.1,(hf c hm).2.2.2.2.2⟩
  ·exact kp c o (λy=>hc' (by rw[y];simp)) z
  ·exact kp c o (λy=>hc' (by rw[y];simp)) z
  ·exact kp c o (λy=>hc' (by rw[y];simp)) z
  ·refine (I.hok c u z).stay (λc' o' hc2 q'=>?_) (λ_ q'=>q') λ_ _ q'=>q'
   rcases hc2 with rfl|hc2
   ·exact upH _ _ _ z q'
   ·exact upH _ _ _ hc2 q'
 ·obtain⟨old,ee⟩:=st.ee
  exact wpAny_pyIter_enum ee q
end L2
namespace Zp
open PySem PyProof.Rows
section
variable {prog:ay}{w:ba}{A:az}{E:av→aw→Prop}{s:aw}
theorem ab5 {e it t:ax}{i:Nat}{items:Array av}{x old:av}{Q:Option av->aw->Prop}(he:IsEnum s.heap e it i old)(hi:s.heap.IsTupleIter it t i)(ht:s.heap.IsTuple t items)(hx:items[i]? = some x)(ne:e≠it)(q:∀h',IsEnumOut h' e it ((i:Int)+1) x s.heap.objs.size->h'.IsTupleIter it t (i+1)->h'.get? s.heap.objs.size=some { cls:=.type "tuple",data:=.seq #[.int i s.toks,x] }->h'.objs.size=s.heap.objs.size+1->
   (∀b o,b≠e->b≠it->s.heap.get? b=some o->h'.get? b=some o)->Q (some (.ref s.heap.objs.size)) { s with heap:=h',toks:=s.toks+1 }):wpAny (model prog w) A (pyNext (.ref e)) Q E s:=by
 have T:s.TypeIs (.ref e) "enumerate":=⟨_,he,rfl⟩;have slot:=PySem.F.slot_enumerate_next;unfold pyNext;apply av3;apply wpAny_attempt;apply aD7 (name:=Str.ofString "__next__") T slot;apply aE1 slot T PySem.F.entry_enumerate_next _ (PySem.F.args_enumerate_next_1 _)
 change wpAny _ _ (field (.ref e) 2 >>= _) _ _ _
 apply av3;refine aF0 he rfl (x:=.ref it) rfl ?_;apply av3;refine Q2 hi ht hx λg1 it1 sb1=>?_
 have e1:IsEnum g1 e it i old:=sb1.extBut _ _ ne he
 change wpAny _ _ (field (.ref e) 3 >>= _) _ _ _
 apply av3;refine aF0 e1 rfl (x:=rawInt i) rfl ?_
 change wpAny _ _ (field (.ref e) 4 >>= _) _ _ _
 apply av3;refine aF0 e1 rfl (x:=.none) rfl ?_
 change wpAny _ _ (mkInt i >>= _) _ _ _
 apply av3;refine wpAny_mkInt ?_
 change wpAny _ _ (setField (.ref e) 3 (rawInt ((i:Int)+1)) >>= _) _ _ _
 apply av3;refine wpAny_setField_rec e1 (by simp) λg2 e2 sb2=>?_
 apply av3;refine wpAny_setField_rec e2 (by simp) λg3 e3 sb3=>?_
 have e3:IsEnum g3 e it ((i:Int)+1) old:=e3;apply av3;refine wpAny_newTuple ?_ (by show 2<=sizeLine;decide);have e4:IsEnum (g3.push { cls:=.type "tuple",data:=.seq #[.int i s.toks,x] }) e it ((i:Int)+1) old:=av6 _ e3;have size:g3.objs.size=s.heap.objs.size:=by rw[sb3.1,sb2.1,sb1.1]
 change wpAny _ _ (Builtin.SmallTypes.ownedTupleIsFree (.ref e) >>= _) _ _ _
 apply av3;unfold Builtin.SmallTypes.ownedTupleIsFree;apply av3;refine aF0 e4 rfl (x:=.none) rfl (av8 ?_);simp only[if_true];apply av3;apply wpAny_rule;apply av3;refine aF0 e4 rfl (x:=old) rfl ?_;apply av3;refine wpAny_setField_rec e4 (by simp) λg5 e5 sb5=>?_
 apply av3;unfold Builtin.SmallTypes.ownedTupleHandOut;apply av3;refine wpAny_setField_rec e5 (by simp) λg6 e6 sb6=>?_
 refine wpAny_setField_rec e6 (by simp) λg7 e7 sb7=>?_
 have e7:IsEnumOut g7 e it ((i:Int)+1) x g3.objs.size:=e7;have elt:e<g3.objs.size:=aw3 e3;have up:∀c o,c≠e->(g3.push { cls:=.type "tuple",data:=.seq #[.int i s.toks,x] }).get? c=some o->g7.get? c=some o:=λc o c1 z=>sb7.extBut c o c1 (sb6.extBut c o c1 (sb5.extBut c o c1 z))
 have up3:∀c o,c≠e->g1.get? c=some o->g7.get? c=some o:=λc o c1 z=>up c o c1 (av6 _ (sb3.extBut c o c1 (sb2.extBut c o c1 z)))
 have p7:g7.get? g3.objs.size=some { cls:=.type "tuple",data:=.seq #[.int i s.toks,x] }:=up _ _ (aB8 elt) (aw8 _ rfl);have s7:g7.objs.size=g3.objs.size+1:=by rw[sb7.1,sb6.1,sb5.1,aC0]
 apply av3;apply wpAny_letGo;apply av8;rw[size]at e7 p7 s7;refine⟨_,rfl,av8 ?_⟩
 change Q (some (.ref g3.objs.size)) _
 rw[size];exact q g7 e7 (it1.at λo z=>up3 it o (Ne.symm ne) z) p7 s7 λb o b1 b2 z=>up3 b o b1 (sb1.extBut b o b2 z)
theorem ab6 {e it t:ax}{i:Nat}{items:Array av}{old:av}{Q:Option av->aw->Prop}(hh:A.handled=none)(he:IsEnum s.heap e it i old)(hi:s.heap.IsTupleIter it t i)(ht:s.heap.IsTuple t items)(hx:items[i]? = none)(q:∀h',Heap.ExtBut it s.heap h'->Q none { s with heap:=h' }):wpAny (model prog w) A (pyNext (.ref e)) Q E s:=by
 have T:s.TypeIs (.ref e) "enumerate":=⟨_,he,rfl⟩;have slot:=PySem.F.slot_enumerate_next;unfold pyNext;apply av3;apply wpAny_attempt;apply aD7 (name:=Str.ofString "__next__") T slot;apply aE1 slot T PySem.F.entry_enumerate_next _ (PySem.F.args_enumerate_next_1 _)
 change wpAny _ _ (field (.ref e) 2 >>= _) _ _ _
 apply av3;refine aF0 he rfl (x:=.ref it) rfl ?_;apply av3;refine Q3 hh hi ht hx λg2 ex eb exo=>?_
 obtain⟨oe,eo,co⟩:=exo
 apply av3;refine wpAny_isInstance (T:="StopIteration") (b:=true) ⟨oe,eo,co⟩ isSubtype_stop ?_;exact av8 (q g2 eb)
theorem ab7 {M:Model}{A:az}{E:av->aw->Prop}{s:aw}{α:Type}{c:Prop}[Decidable c]{m n:Sem α}{Q:α->aw->Prop}(h1:wpAny M A m Q E s)(h2:wpAny M A n Q E s):wpAny M A (if c then m else n) Q E s:=by
 split
 ·exact h1
 ·exact h2
theorem ab8 (t:ax)(xs:Array av):Meets (Builtin.«enumerate.__new__» ⟨[.type "enumerate",.ref t],[]⟩) (λ_ R s=>s.heap.IsTuple t xs/\R (.ok (.ret (.ref (s.heap.objs.size+1)))) { s with heap:=(s.heap.push { cls:=.type "tuple_iterator",data:=.fields #[.ref t,.int 0 0] }).push { cls:=.type "enumerate",data:=.fields #[.none,.bool false,.ref s.heap.objs.size,rawInt 0,.none,.none] } }):=
 .of_wp λprog w A R s h=>by
  obtain⟨hp,g,d,tk,os⟩:=s
  obtain⟨ht,h⟩:=h
  have sub:=sub_enumerate;have a1:Heap.IsTuple (Shared.heap ⟨hp,g,d,tk,os⟩) t xs:=ht
  wp_walk using wpAny_pyIter_tuple a1
  refine wpAny_stack_any λst=>av8 ?_
  refine ab7 ?_ ?_
  all_goals
   apply av3;refine wpAny_of_eq (a:=(Value.ref t,none)) rfl ?_
   wp_walk using wpAny_pyIter_tuple a1
   have e:∀(o:Obj) (k:Heap),(k.push o).objs.size=k.objs.size+1:=λo k=>aC0 ..
   refine⟨_,rfl,?_⟩;simp only[e]at h ⊢;exact h
theorem ab9 {t:ax}{xs:Array av}{Q:av->aw->Prop}(ht:s.heap.IsTuple t xs)(q:∀h',IsEnum h' (s.heap.objs.size+1) s.heap.objs.size 0 .none->h'.IsTupleIter s.heap.objs.size t 0->h'.objs.size=s.heap.objs.size+2->(∀c o,s.heap.get? c=some o->h'.get? c=some o)->Q (.ref (s.heap.objs.size+1)) { s with heap:=h' }) :
  wpAny (model prog w) A (call (.type "enumerate") [.ref t]) Q E s:=by
 refine callType_new PySem.F.called_enumerate (by decide) (PySem.F.typeCall_enumerate_1 _) (PySem.F.newCall_enumerate_1 _) (λobj=>PySem.F.args_object_init_2 obj _) PySem.F.entry_enumerate_new (ab8 t xs) ⟨ht,?_⟩;have e:∀(o:Obj) (k:Heap),(k.push o).objs.size=k.objs.size+1:=λo k=>aC0 ..
 have g0:((s.heap.push { cls:=.type "tuple_iterator",data:=.fields #[.ref t,.int 0 0] }).push { cls:=.type "enumerate",data:=.fields #[.none,.bool false,.ref s.heap.objs.size,rawInt 0,.none,.none] }).get? s.heap.objs.size=some { cls:=.type "tuple_iterator",data:=.fields #[.ref t,.int 0 0] }:=av6 _ (aw8 _ rfl);have g1:((s.heap.push { cls:=.type "tuple_iterator",data:=.fields #[.ref t,.int 0 0] }).push { cls:=.type "enumerate",data:=.fields #[.none,.bool false,.ref s.heap.objs.size,rawInt 0,.none,.none] }).get? (s.heap.objs.size+1)=some { cls:=.type "enumerate",data:=.fields #[.none,.bool false,.ref s.heap.objs.size,rawInt 0,.none,.none] }:=by
  have:=aw8 (h:=s.heap.push { cls:=.type "tuple_iterator",data:=.fields #[.ref t,.int 0 0] }) (o:={ cls:=.type "enumerate",data:=.fields #[.none,.bool false,.ref s.heap.objs.size,rawInt 0,.none,.none] }) rfl
  rw[e]at this;exact this
 exact⟨⟨_,g1,rfl⟩,q _ g1 ⟨_,g0,rfl,rfl⟩ (by rw[e,e]) λc o z=>av6 _ (av6 _ z)⟩
end
end Zp
namespace L2
open PySem PySem.Spec PyProof.Rows
noncomputable def qT (K:ad)(a:ax):It:=
  ⟨λi H=>∃xs x,aQ K H a xs/\xs[i]? = some x,
   λi H v H'=>∃T x,H T=none/\v = .ref T/\H'=upd H T (.tup [.int i,x])/\∀xs,aQ K H a xs->xs[i]? = some x,
   λi H=>∃xs,aQ K H a xs/\xs.length<=i⟩
structure ac0 (e it a:ax)(i:Nat)(h:Heap):Prop where
 ee:∃old,IsEnum h e it i old
 s1:h.IsTupleIter it a i
theorem ac1 {P:ay}{w:ba}{K:ad}{elts:List Expr}{k:Nat}{pos:Pos}(a e it:ax)(d:e≠it) :
  h8 P w K (.Tuple elts k pos) (qT K a) [e,it] e (ac0 e it a):=by
 refine⟨by simp,λi h st c hc=>?_,λi h h' st kp=>?_,?_,?_,λA i s Q E st q=>?_⟩
 ·simp only[aw6,ay4,aD6]at hc
  obtain⟨old,ee⟩:=st.ee
  obtain⟨o1,f1,g1,d1⟩:=st.s1
  rcases hc with rfl|rfl
  ·exact⟨_,ee,λv q=>by cases q⟩
  ·exact⟨_,f1,λv q=>by rw[d1]at q;cases q⟩
 ·obtain⟨old,ee⟩:=st.ee
  exact⟨⟨old,kp e (by simp) _ ee⟩,st.s1.at λo z=>kp it (by simp) o z⟩
 ·intro X hP hw hK hc i ai s σ H E I hf st hg
  subst hP hw hK
  obtain⟨xs,x,ha,hx⟩:=hg
  obtain⟨us,ru,pu,lu⟩:=I.tuple ha
  obtain⟨ux,eux,rux⟩:=ru.get hx
  obtain⟨old,ee⟩:=st.ee
  refine Zp.ab5 ee st.s1 pu (by simpa using eux) d λh' eo it' pr sz kp=>⟨_,rfl,?_⟩
  refine wpAny_letOwnedTupleGo_enum (s:={ s with heap:=h',toks:=s.toks+1 }) eo λg zz sb=>?_
  have hzl:e<s.heap.objs.size:=aw3 ee;have up:∀c o,c≠e->c≠it->s.heap.get? c=some o->g.get? c=some o:=λc o c1 c2 z=>sb.extBut c o c1 (kp c o c1 c2 z)
  have hT:H s.heap.objs.size=none:=I.hok.fresh (aw5 _);have prG:g.get? s.heap.objs.size=some { cls:=.type "tuple",data:=.seq #[.int i s.toks,ux] }:=sb.extBut _ _ (aB8 hzl) pr;have fpn:∀c u,H c=some u->c∉[e,it]:=λc u z hm=>by rw[(hf c hm).1]at z;cases z
  have upH:∀c o u,H c=some u->s.heap.get? c=some o->g.get? c=some o:=λc o u q z=>by
   have:=fpn c u q
   simp only[aw6,ay4,aD6,not_or]at this;exact up c o this.1 this.2 z
  have ns:∀m,s.heap.Ns X.env.locals m->g.Ns X.env.locals m:=λm hm=>by
   obtain⟨o,es,ep,e1,e2⟩:=hm
   exact⟨o,es,ep,up _ o (Ne.symm (hf e (by simp)).2.1) (Ne.symm (hf it (by simp)).2.1) e1,e2⟩
  have I2:aA X ai σ (upd H s.heap.objs.size (.tup [.int i,x])) { s with heap:=g,toks:=s.toks+1 }:=by
   refine I.step (g':=s.gens) (d':=s.drawn) (ch:=[e,it]) (λc hc'=>?_) (λc o _ _ hc' z _=>?_) (λc o _ _ hc' z _=>⟨o.slots,?_⟩) (λc o _ z n=>?_) (λc o hc' z=>⟨o,?_⟩)
    (λc zs z=>by rw[aK (cS z hT)];exact z) (λc u zs z=>by rw[aK (cS z hT)];exact z) (λc ps z=>⟨#[],by rw[aK (cS z hT),z];simp⟩) ns (λc u z=>?_) I.bare
   ·exact⟨(hf c hc').2.2.2.1,(hf c hc').2.1,(hf c hc').2.2.2.2.1,(hf c hc').2.2.2.2.2⟩
   ·simp only[aw6,ay4,aD6,not_or]at hc'
    exact up c o hc'.1 hc'.2 z
   ·simp only[aw6,ay4,aD6,not_or]at hc'
    exact up c o hc'.1 hc'.2 z
   ·rw[aK (ay9 (aw3 z))];exact n
   ·simp only[aw6,ay4,aD6,not_or]at hc'
    exact up c o hc'.1 hc'.2 z
   ·by_cases hcT:c=s.heap.objs.size
    ·subst hcT
     rw[bI]at z;cases z
     exact⟨by show 2<=sizeLine;decide,[.int i s.toks,ux],.cons ⟨_,rfl⟩ (.cons rux .nil),⟨_,prG,rfl,_,rfl⟩,λu e=>by rw[prG]at e;cases e;rfl⟩
    ·rw[aK hcT]at z
     refine (I.hok c u z).stay (λc' o' hc2 q'=>?_) (λc' q'=>by rw[aK (cS q' hT)];exact q') λc' zs q'=>by rw[aK (cS q' hT)];exact q'
     rcases hc2 with rfl|hc2
     ·exact upH _ _ _ z q'
     ·exact upH _ _ _ hc2 q'
  refine⟨.ref s.heap.objs.size,_,I2,rfl,⟨_,x,hT,rfl,rfl,λxs' ha'=>?_⟩,⟨⟨ux,by push_cast;exact zz⟩,it'.at λo z=>sb.extBut _ o (Ne.symm d) z⟩,λc hc'=>?_⟩
  ·rw[I.tuple_inj ha' ha];exact hx
  ·obtain⟨o,z⟩:∃o,s.heap.get? c=some o:=by
    simp only[aw6,ay4,aD6]at hc'
    obtain⟨o1,f1,_⟩:=st.s1
    rcases hc' with rfl|rfl
    ·exact⟨_,ee⟩
    ·exact⟨_,f1⟩
   rw[aK (ay9 (aw3 z))];exact (hf c hc').1
 ·intro X hP hw hK hc i ai s σ H E I hf st hg
  subst hP hw hK
  obtain⟨xs,ha,hi⟩:=hg
  obtain⟨us,ru,pu,lu⟩:=I.tuple ha
  obtain⟨old,ee⟩:=st.ee
  have hh:X.A.handled=none:=I.ok.hd hc;have e1:=ru.length;refine Zp.ab6 hh ee st.s1 pu (by rw[Array.getElem?_eq_none];simp only[av7];omega) λg kp=>⟨rfl,?_⟩
  have fpn:∀c u,H c=some u->c∉[e,it]:=λc u z hm=>by rw[(hf c hm).1]at z;cases z
  have upH:∀c o u,H c=some u->s.heap.get? c=some o->g.get? c=some o:=λc o u q z=>by
   have:=fpn c u q
   simp only[aw6,ay4,aD6,not_or]at this;exact kp c o this.2 z
  have ns:∀m,s.heap.Ns X.env.locals m->g.Ns X.env.locals m:=λm hm=>by
   obtain⟨o,es,ep,e1,e2⟩:=hm
   exact⟨o,es,ep,kp _ o (Ne.symm (hf it (by simp)).2.1) e1,e2⟩
  refine I.step (g':=s.gens) (d':=s.drawn) (ch:=[it]) (λc hc'=>?_) (λc o _ _ hc' z _=>?_) (λc o _ _ hc' z _=>⟨o.slots,?_⟩) (λc o _ z n=>n) (λc o hc' z=>⟨o,?_⟩)
   (λc zs z=>z) (λc u zs z=>z) (λc ps z=>⟨#[],by rw[z];simp⟩) ns (λc u z=>?_) I.bare
  ·have hm:c∈[e,it]:=aw4 _ hc'
   exact⟨(hf c hm).2.2.2.1,(hf c hm).2.1,(hf c hm).2.2.2.2.1,(hf c hm).2.2.2.2.2⟩
  ·exact kp c o (λy=>hc' (by rw[y];simp)) z
  ·exact kp c o (λy=>hc' (by rw[y];simp)) z
  ·exact kp c o (λy=>hc' (by rw[y];simp)) z
  ·refine (I.hok c u z).stay (λc' o' hc2 q'=>?_) (λ_ q'=>q') λ_ _ q'=>q'
   rcases hc2 with rfl|hc2
   ·exact upH _ _ _ z q'
   ·exact upH _ _ _ hc2 q'
 ·obtain⟨old,ee⟩:=st.ee
  exact wpAny_pyIter_enum ee q
section
variable {X:Cx}
noncomputable def wL (K:ad)(ta:TA):TI:=λσ H R=>ta σ H λvs H1=>∃a,vs = [.ref a]/\((∃xs,aX K H1 a xs/\R (qS K a) H1)∨(∃xs,aQ K H1 a xs/\R (qT K a) H1))
theorem ac2 {elts:List Expr}{kt:Nat}{pt:Pos}{a:Expr}{ta:TA}{p pos:Pos}(hg:Gl X "enumerate")(hm:X.mg "enumerate" = none)(ha:PA X [a] ta)(hs:starEach [a] X.env = [(false,eval a X.env)]:=by rfl) :
  PI X (.Tuple elts kt pt) (.Call (.Name "enumerate" p) [a] [] pos) (wL X.K ta):=by
 intro ai s σ H R I h;refine Call_ (mI I hg hm PyProof.Rows.boot_enumerate (PyProof.Rows.callWith_type1 (aL (ha pos ai s σ H _ I h) λus s1 ⟨vs,H1,I1,r1,q1⟩=>?_) (by rw[hs];rfl) (by rfl)))
 obtain⟨a',e,q⟩:=q1
 subst e;have fresh:∀k,H1 (s1.heap.objs.size+k)=none:=λk=>I1.hok.fresh (Nat.le_add_right _ _)
 cases r1 with
 |cons r rr=>
  cases rr;cases r;rcases q with⟨xs,h1,q⟩|⟨xs,h1,q⟩
  ·obtain⟨us,_,p1,_⟩:=I1.list h1
   refine call_enumerate_list p1.isList λh' z s1' sz kp=>wpAny_pyIter_enum z ?_
   refine⟨s1.heap.objs.size+1,[s1.heap.objs.size+1,s1.heap.objs.size],_,_,H1,rfl,I1.kept (t':=s1.toks) kp,
    ab4 a' _ _ (Nat.succ_ne_self _),⟨⟨_,z⟩,s1'⟩,λc hc=>?_,q⟩
   simp only[aw6,ay4,aD6]at hc;rcases hc with rfl|rfl
   ·exact I1.fpOk (Nat.le_add_right _ _) (fresh 1)
   ·exact I1.fpOk (aw5 _) (fresh 0)
  ·obtain⟨us,_,p1,_⟩:=I1.tuple h1
   refine Zp.ab9 p1 λh' z s1' sz kp=>wpAny_pyIter_enum z ?_
   refine⟨s1.heap.objs.size+1,[s1.heap.objs.size+1,s1.heap.objs.size],_,_,H1,rfl,I1.kept (t':=s1.toks) kp,
    ac1 a' _ _ (Nat.succ_ne_self _),⟨⟨_,z⟩,s1'⟩,λc hc=>?_,q⟩
   simp only[aw6,ay4,aD6]at hc;rcases hc with rfl|rfl
   ·exact I1.fpOk (Nat.le_add_right _ _) (fresh 1)
   ·exact I1.fpOk (aw5 _) (fresh 0)
end
end L2
namespace Zp
open PySem PyProof.Rows
theorem ac3 (t b:ax)(xs ys:Array av)(n n2:Nat)(dd dd2:Option ax)(sl sl2:Array (Option av))(hx:xs.isEmpty=true):Meets (Builtin.«tuple.__add__» ⟨[.ref t,.ref b],[]⟩)
  (λ_ R s=>s.heap.get? t=some { cls:=.type "tuple",dict:=dd,data:=.seq xs n,slots:=sl }/\s.heap.get? b=some { cls:=.type "tuple",dict:=dd2,data:=.seq ys n2,slots:=sl2 }/\R (.ok (.ret (.ref b))) s):=
 .of_wp λprog w A R s h=>by
  obtain⟨h1,h2,h⟩:=h
  have sub:isSubtype (Value.type "tuple") (Value.type "tuple")=pure true:=rfl
  wp_walk
  exact⟨_,rfl,h⟩
end Zp
namespace L2
open PySem PySem.Spec PyProof.Rows
section
variable {X:Cx}
noncomputable def wM (K:ad):R2:=λx y H Q=>∃a b xs ys,x = .ref a/\y = .ref b/\aQ K H a xs/\aQ K H b ys/\xs.length+ys.length<=sizeLine/\
 (xs = []->Q (.ref b) H)/\(xs≠[]->ys = []->Q (.ref a) H)/\(xs≠[]->ys≠[]->∀p,H p=none->Q (.ref p) (upd H p (.tup (xs++ys))))
theorem ac4:bV X (binaryOp .Add) (wM X.K):=by
 intro ai s σ H x y v u Q I rx ry h
 obtain⟨a,b,xs,ys,ex,ey,ha,hb,hz,q0,q1,q2⟩:=h
 by_cases hx:xs = []
 ·subst ex ey
  cases rx;cases ry
  obtain⟨its,r1,p1,_⟩:=I.tuple ha
  obtain⟨aq,r2,p2,_⟩:=I.tuple hb
  have hi:its = []:=r1.nil_iff.mpr hx
  obtain⟨⟨cls,dd,data,sl⟩,ho,hc,n,hd⟩:=id p1
  obtain⟨⟨cls2,dd2,data2,sl2⟩,ho2,hc2,n2,hd2⟩:=id p2
  simp only at hc hd hc2 hd2;subst hc hd hc2 hd2;exact concat_meets ⟨_,ho,rfl⟩ ⟨_,ho2,rfl⟩ noFill_tuple_add seq_tuple_add PySem.F.slot_tuple_add PySem.F.entry_tuple_add (PySem.F.args_tuple_add_2 _ _)
   (Zp.ac3 a b its.toArray aq.toArray n n2 dd dd2 sl sl2 (by simp[hi])) ⟨ho,ho2,⟨.ref b,H,I,rfl,q0 hx⟩⟩
 ·exact M4 ai s σ H x y v u Q I rx ry ⟨a,b,xs,ys,ex,ey,ha,hb,hx,hz,q1 hx,q2 hx⟩
end
end L2
namespace PP
open PySem L2 PyProof.Rows
noncomputable def i6 (xs:List PV):List PV:=xs.mapIdx λi x=>PV.tup [.int (i:Int),x]
theorem nX (xs:List PV):(i6 xs).length=xs.length:=by unfold i6;rw[List.length_mapIdx]
theorem qU {xs:List PV}{i:Nat}{x:PV}(h:xs[i]? = some x):(i6 xs)[i]? = some (.tup [.int (i:Int),x]):=by
 unfold i6;rw[List.getElem?_mapIdx,h];rfl
noncomputable def qV (te:aG):dQ:=λρ Q=>te ρ λx g=>∃xs,(x = .lst xs∨x = .tup xs)/\(g = .rd->flat x=true)/\Q (i6 xs) (pY g xs)
theorem ac5 {K:ad}{H0:Hp}{W:ax->Prop}{g:Bool}{H1:Hp}{a:ax}{us:List V}{xs:List PV}(tw:∀a,W a->∃o,H1 a=some o/\dE o=true)(ha:∀W' H',Ev W H1 W' H'->aX K H' a us)(r:Reps K (Ms H0 W g) H1 us xs):jO K H0 W g H1 (qS K a) (i6 xs):=by
 have lr:=r.length;have ll:=nX xs;refine⟨λW' H' i e hi=>⟨us,us[i]'(by omega),ha W' H' e,by simp⟩,λW' H' i v H2 e y hi=>?_,λW' H' e=>⟨us,ha W' H' e,by omega⟩⟩
 obtain⟨T,x,hT,rfl,rfl,y⟩:=y
 obtain⟨z,hz,rz⟩:=r.get (y us (ha W' _ e))
 have sm:=cT hT (HO.tup [.int (i:Int),x])
 exact⟨sm,_,qU hz,.tup bI (.cons (.int _) (.cons ((rz.keep (e.keep tw)).same sm λ_ q=>q) .nil))⟩
theorem ac6 {K:ad}{H0:Hp}{W:ax->Prop}{g:Bool}{H1:Hp}{a:ax}{us:List V}{xs:List PV}(tw:∀a,W a->∃o,H1 a=some o/\dE o=true)(ha:∀W' H',Ev W H1 W' H'->aQ K H' a us)(r:Reps K (Ms H0 W g) H1 us xs):jO K H0 W g H1 (qT K a) (i6 xs):=by
 have lr:=r.length;have ll:=nX xs;refine⟨λW' H' i e hi=>⟨us,us[i]'(by omega),ha W' H' e,by simp⟩,λW' H' i v H2 e y hi=>?_,λW' H' e=>⟨us,ha W' H' e,by omega⟩⟩
 obtain⟨T,x,hT,rfl,rfl,y⟩:=y
 obtain⟨z,hz,rz⟩:=r.get (y us (ha W' _ e))
 have sm:=cT hT (HO.tup [.int (i:Int),x])
 exact⟨sm,_,qU hz,.tup bI (.cons (.int _) (.cons ((rz.keep (e.keep tw)).same sm λ_ q=>q) .nil))⟩
section
variable {X:Cx}{σ:L2.St}{H:Hp}{te:aG}{R:It→Hp→Prop}
theorem ac7 (h:LI X (qV te) σ H R):wL X.K (eI (LE X te) iJ) σ H R:=by
 obtain⟨W,ρ,Q,px,q,k⟩:=h
 refine⟨W,ρ,_,px,q,?_⟩;rintro v H1 x g s r ⟨xs,hx,hg,q⟩;have px1:=px.mono s;have tw:∀a,W a->∃o,H1 a=some o/\dE o=true:=λa z=>(px1.wm a z).2
 rcases hx with rfl|rfl
 ·obtain⟨a,us,rfl,m,h,r⟩:=r.sqL
  have wa:¬W a:=by
   cases g with
   |fr=>exact (px.new m).1
   |nw=>exact m.1
   |sh=>exact m
   |rd=>have:=hg rfl;unfold flat at this;cases this
  exact⟨a,rfl,.inl ⟨us,aX.of h,k _ _ _ _ s (ac5 tw (λW' H' e=>aX.of (e _ _ h wa rfl).1) (iR px (λz=>by have:=hg z;unfold flat at this;cases this) r)) q⟩⟩
 ·obtain⟨a,us,rfl,h,r⟩:=r.sqT
  refine⟨a,rfl,.inr ⟨us,aQ.of h,k _ _ _ _ s (ac6 tw (λW' H' e=>aQ.of (e _ _ h (λz=>?_) rfl).1) (iR px (λz=>by have:=hg z;unfold flat at this;exact this) r)) q⟩⟩
  obtain⟨o,h',mu⟩:=tw _ z;rw[h]at h';cases h';cases mu
theorem ac8 {elts:List Expr}{kt:Nat}{pt p2 pos:Pos}{a:Expr}{ta:aG}(hg:Gl X "enumerate")(hm:X.mg "enumerate" = none)(ha:QE X a ta)(hs:starEach [a] X.env = [(false,eval a X.env)]:=by rfl):QI X (.Tuple elts kt pt) (.Call (.Name "enumerate" p2) [a] [] pos) (qV ta):=
 nM (ac2 hg hm (eT ha jC hs) hs) λ_ _ _=>ac7
end
section
variable {X:Cx}{e:Expr}{te:aG}{pos p2:Pos}{scope:Scope}{N:List Str}{fr:List (Option Nat)}{x y:Str}{tp xp yp:Pos}{kt:Nat}{iter elt:Expr}{ti:dQ}
noncomputable abbrev qW (x y:Str)(xp yp:Pos)(kt:Nat)(tp:Pos):Expr:=.Tuple [.Name x xp,.Name y yp] kt tp
theorem ac9 {ifs:List Expr}{tcs:cB}(hc:X.calm=true)(he:∀(s:aw) (H:Hp) (C:ax) (fp:List ax),QE (bU X scope N s H C fp cK) elt te)(hi:∀(s:aw) (H:Hp) (C:ax) (fp:List ax),iM (bU X scope N s H C fp cK) ifs (LT (bU X scope N s H C fp cK) tcs))(hN:N.Nodup)(h0:N[0]? = some x)(h1:N[1]? = some y)(hl:∀(s:aw) (H:Hp) (C:ax) (fp:List ax),(bU X scope N s H C fp cK).env.scope.names.lookup x=some .local)(hl2:∀(s:aw) (H:Hp) (C:ax) (fp:List ax),(bU X scope N s H C fp cK).env.scope.names.lookup y=some .local)(s:aw)(H:Hp) :
  kQ X scope N (qW x y xp yp kt tp) ifs elt s H (mP X.K 2 (iF (cQ 0) (iF (cQ 1) mM))) (LT (X.frm H) tcs) (LE (X.frm H) te):=
 ⟨λC fp=>tG (X:=bU X scope N s H C fp cK) hc (mO (j9 hN h0 (.inl (hl s H C fp)) (.inr (hl s H C fp))) (mO (j9 hN h1 (.inl (hl2 s H C fp)) (.inr (hl2 s H C fp))) tF)),λC fp=>hi s H C fp,λC fp=>he s H C fp⟩
theorem ad0 (hi:QI X (qW x y xp yp kt tp) iter ti)(he:∀(s:aw) (H:Hp) (C:ax) (fp:List ax),QE (bU X scope N s H C fp cK) elt te)(hc:X.calm=true:=by rfl)(S:dD X scope N fr:=by exact dD.of rfl rfl)(hN:N.Nodup:=by decide +kernel)(h0:N[0]? = some x:=by rfl)(h1:N[1]? = some y:=by rfl)(hl:∀(s:aw) (H:Hp) (C:ax) (fp:List ax),(bU X scope N s H C fp cK).env.scope.names.lookup x=some .local:=by intro _ _ _ _;rfl)(hl2:∀(s:aw) (H:Hp) (C:ax) (fp:List ax),(bU X scope N s H C fp cK).env.scope.names.lookup y=some .local:=by intro _ _ _ _;rfl)(hf:fr[0]? = some none:=by rfl)(hf2:fr[1]? = some none:=by rfl)(hs:∀x,foldedSetIterable iter X.env x=pure x:=by intro _;rfl):QE X (.ListComp elt [⟨qW x y xp yp kt tp,iter,[],0⟩] scope pos) (gS ti fr (jP 0 1) fR te):=
 bR (pL (gh:=λ_=>mP X.K 2 (iF (cQ 0) (iF (cQ 1) mM))) (tch:=λH=>LT (X.frm H) fR) (teh:=λH=>LE (X.frm H) te) hc S hi (ac9 hc he (λ_ _ _ _=>qO) hN h0 h1 hl hl2) hs) λ_ _ _=>nK (vS _ 0 1) (λi e=>by rcases e with e|e<;>(subst e;assumption))
end
section
variable {X:Cx}{a b e o f:Expr}{ta tb te td tk tx:aG}{pos p2 aj am:Pos}{σ:L2.St}{H:Hp}{Q':VK}
theorem nY {x:Str}{n:Int}{t:Nat}(hg:Gl X x)(hm:X.mg x=some (.int n t))(hd:(x==("__debug__":Str))=false:=by decide):QE X (.Name x pos) (qC (.int n)):=
 bR (C7 (v:=.int n) hg hm ⟨t,rfl⟩ hd) λ_ _ _=>kU λ_=>.int n
end
section
variable {X:Cx}{a b:Expr}{ta tb:aG}{pos:Pos}
noncomputable def wN:PV->Tg->PV->Tg->PK->Prop:=λx _ y _ Q=>∃xs ys,x = .tup xs/\y = .tup ys/\flats xs=true/\flats ys=true/\xs.length+ys.length<=16000000/\Q (.tup (xs++ys)) .fr
noncomputable abbrev wO (ta tb:aG):aG:=q2 wN ta tb
theorem ad1:eY X wN (wM X.K):=by
 rintro W Hs H u v x y g g' Q Q' s n r1 r2 ⟨xs,ys,rfl,rfl,f1,f2,hl,q⟩ k
 obtain⟨a,us,rfl,h1,q1⟩:=r1.sqT
 obtain⟨b,ws,rfl,h2,q2⟩:=r2.sqT
 have l1:=q1.length;have l2:=q2.length;refine⟨a,b,us,ws,rfl,rfl,aQ.of h1,aQ.of h2,lim (by omega),λz=>?_,λ_ z=>?_,λ_ _ p hp=>k _ _ _ .fr (cT hp _) (.tup bI (((q1.flat f1).append (q2.flat f2)).same (cT hp _) λ_ z=>z)) q⟩
 ·obtain rfl:xs = []:=by cases xs with
   |nil=>rfl
   |cons _ _=>rw[z]at l1;cases l1
  exact k _ _ _ .fr (aI.refl _) (.tup h2 (q2.flat f2)) q
 ·obtain rfl:ys = []:=by cases ys with
   |nil=>rfl
   |cons _ _=>rw[z]at l2;cases l2
  rw[aE5]at q;exact k _ _ _ .fr (aI.refl _) (.tup h1 (q1.flat f1)) q
theorem ad2 (ha:QE X a ta)(hb:QE X b tb):QE X (.BinOp a .Add b pos) (wO ta tb):=fU ac4 ad1 ha hb
end
end PP
namespace Core
open PySem L2 PP
section
variable {ws:ag}{ls:aa}{os ns:ag}
noncomputable def ad3 (ws:ag)(ls:aa)(T:ag):Prop:=∀h∈rng ws.length,kin ws ls T h=false
end
noncomputable def ad4:Option Int->PV
 |none=>.non
 |some h=>.int h
noncomputable def ad5 (ns S:ag):Int:=(ns.length:Int)-(((ns.filter λx=>decide (x∈S)).length:Nat):Int)
noncomputable def ad6 (ws:ag)(ls:aa)(S:ag)(h:Int):Bool:=decide (ad5 (uW ls h) S<ws.getD h.toNat 0)
noncomputable def stay (ws:ag)(ls:aa)(S:ag):ag:=S.filter (ad6 ws ls S)
noncomputable def wnb (zs:List ((Int×Int)×Int))(k:Int):aa:=zs.flatMap λz=>(if z.1.1=k then [(z.1.2,z.2)] else [])++(if z.1.2=k then [(z.1.1,z.2)] else [])
noncomputable def ad7 (want:Int)(hs:ag)(c:PV):Prop:=((hs.length:Int)<want/\c = .non)∨(want<=(hs.length:Int)/\∃zs:ag,zs.Perm hs/\zs.Pairwise (· <= ·)/\c = .int (zs.take want.toNat).sum)
noncomputable def ad8 (zs:ag)(s:Int):Nat:=((List.range zs.length).filter λi=>decide ((zs.take (i+1)).sum<=s)).length
structure ad9 (ws:ag)(ls:aa)(wts:ag)(os:List (Option Int)):Prop where
 len:os.length=ws.length
 due:∀h:Nat,h<ws.length->∃o,os[h]? = some o/\ad7 (ws.getD h 0) ((wnb (ls.zip wts) h).map (·.2)) (ad4 o)
structure ae0 (ws:ag)(ls:aa)(wts zs:ag):Prop where
 ex:∃os,ad9 ws ls wts os/\zs.Perm (os.filterMap id)/\zs.Pairwise (· <= ·)
section
variable {ws:ag}{ls:aa}{ns wts:ag}{m:Nat}
noncomputable def loose (ls:aa)(wts ns:ag):List ((Int×Int)×Int):=(ls.zip wts).filter λz=>!(decide (z.1.1∈ns)&&decide (z.1.2∈ns))
end
end Core
namespace PP
open PySem L2 PyProof.Rows
noncomputable abbrev gT:=(Str->Prop)->b7
noncomputable def EX (K:ad)(H0:Hp)(Ep:Str->Prop):XK:=λc d H'=>d=none/\aI H0 H'/\∃n C,c = .ref C/\PySem.W.nsIn K mainGlobals n=some (some (.ref C))/\Ep n
noncomputable def wP (K:ad)(p:gT):Sp:=λvs H Q E=>∃xs Qp Ep,Reps K (λ_=>True) H vs xs/\p Ep xs Qp/\(∀v H' x,aI H H'->aE K (λa=>H a=none) H' v x->Qp x->Q v H')/\
 ∀n C H',aI H H'->PySem.W.nsIn K mainGlobals n=some (some (.ref C))->Ep n->E (.ref C) none H'
structure fX (P:ay)(w:ba)(K:ad)(mg:Str->Option av)(base:Heap)(k:Nat)(x:Str)(ps:List Str)(p:gT):Prop where
 ex:∃f fd,cE P w K mg base (e8 P w) k f fd ps (wP K p)/\fM K fd ps []/\PySem.W.keepIn K (.ref f)=true/\mg x=some (.ref f)
section
variable {X:Cx}{σ:L2.St}{H:Hp}{D:cX}{tr:bQ}{Q':VK}{a b c e:Expr}{es:List Expr}{pos p2 cp np hp:Pos}{t:aR}{te:aG}{tc:cB}
noncomputable def ae1 (Ep:Str->Prop)(p:gT)(t:bQ):aG:=aU (p Ep) t
theorem ae2 {p:gT}{Ep:Str->Prop}(h:LE X (ae1 Ep p tr) σ H Q'):jD (wP X.K p) [] (EX X.K X.H₀ Ep) (LA X tr) σ H Q':=by
 obtain⟨W,ρ,Q,px,q,k⟩:=h
 refine⟨W,ρ,_,px,q,λvs H1 xs s1 r1 q1=>⟨_,_,Ep,by rw[aE5];exact r1.any,q1,λv H' x s2 r2 q2=>k v H' x .fr (s1.trans s2) (r2.same (aI.refl _) λ_ z=>s1.free z) q2,λn C H' s2 z1 z2=>⟨rfl,(px.same.trans s1).trans s2,n,C,rfl,z1,z2⟩⟩⟩
theorem nZ {k j:Nat}{x:Str}{ps:List Str}{p:gT}(d:fX X.prog X.w X.K X.mg X.base k x ps p)(hr:bE j X.A)(ha:QA X (e::es) tr)(hkj:k<=j:=by decide)(hg:Gl X x:=by rfl)(hdb:(x==("__debug__":Str))=false:=by decide)(he:starEach (e::es) X.env=(false,eval e X.env)::starEach es X.env:=by rfl)(hpl:(backTo pos (starEach es X.env)).any (·.1)=false:=by rfl):QE X (.Call (.Name x p2) (e::es) [] pos) (aU (p λ_=>False) tr):=by
 obtain⟨f,fd,F,b,kp,m⟩:=d.ex
 refine bR (kN F (E:=EX X.K X.H₀ λ_=>False) (hr.mono hkj) hg m kp b .nil (λ_ _ _ _ _ _ _ h=>?_) ha hdb he hpl) λ_ _ _ h=>ae2 (Ep:=λ_=>False) h
 obtain⟨_,_,_,_,_,_,_,_,_,_,_,_,z⟩:=h
 exact z.elim
noncomputable def lJ (Ep:Str->Prop)(n:Str)(t:bQ):aR:=λ_ ρ=>t ρ λxs=>xs.length<=1000/\Ep n
theorem ae3 {Ep:Str->Prop}{n:Str}{C:ax}(hn:PySem.W.nsIn X.K mainGlobals n=some (some (.ref C)))(h:LS X (lJ Ep n tr) D σ H):wF (EX X.K X.H₀ Ep) C (LA X tr) D σ H:=by
 obtain⟨W,ρ,D',px,q,k⟩:=h
 exact⟨W,ρ,_,px,q,λvs H1 xs s1 r z=>⟨by rw[r.length];exact pS z.1,rfl,px.same.trans s1,n,C,rfl,hn,z.2⟩⟩
structure Xc (K:ad)(mg:Str->Option av)(base:Heap)(n:Str):Prop where
 ex:∃C B newId initId bm,OwnCls n C bm newId mg base/\ExcBaseFacts B newId initId bm/\PySem.W.nsIn K mainGlobals n=some (some (.ref C))
theorem qX {Ep:Str->Prop}{n:Str}(hX:nV X (EX X.K X.H₀ Ep))(x:Xc X.K X.mg X.base n)(ha:QA X (e::es) tr)(hc:X.calm=true:=by rfl)(hg:Gl X n:=by rfl)(hd:(n==("__debug__":Str))=false:=by decide)(he:starEach (e::es) X.env=(false,eval e X.env)::starEach es X.env:=by rfl)(hpl:(backTo cp (starEach es X.env)).any (·.1)=false:=by rfl):QS X (.Raise (some (.Call (.Name n np) (e::es) [] cp)) none pos) (lJ Ep n tr):=by
 obtain⟨C,B,newId,initId,bm,O,FB,hn⟩:=x.ex
 exact d4 (aa0 hX hc O FB ha hg hd he hpl) λ_ _ _=>ae3 hn
noncomputable def kO:V->av
 |.ref a=>.ref a
 |.ty n=>.type n
 |_=>.none
end
structure qY (K:ad)(C:ax):Prop where
 cls:PySem.W.isClsIn K C=true
 ty:PySem.W.typeIn K (.ref C)=some (.type "type")
 ga:PySem.W.findIn K (.ref C) "__getattribute__" = some (some (.builtin "BaseException.__getattribute__"))
 gt:PySem.W.findIn K (.ref C) "__getattr__" = some none
 fc:PySem.W.findIn K (.ref C) "__class__" = some (some (.builtin "object.__class__"))
 fg:PySem.W.specialIn K (.builtin "object.__class__") "__get__" = some (some (.builtin "getset_descriptor.__get__"))
 ft:PySem.W.takesIn K (.builtin "object.__class__")=some true
 ob:PySem.W.mroIn K C (.type "object")=some true
 be:PySem.W.mroIn K C (.type "BaseException")=some true
theorem wQ {K:ad}{h₀:Heap}{mg:Str->Option av}{x:Str}{C:ax}{bmB:List av}{newId:String}(X:K.In h₀)(m:mg x=some (.ref C))(q:PySem.W.excIn K C bmB newId=true):OwnCls x C bmB newId mg h₀:=by
 refine⟨m,?_⟩;unfold PySem.W.excIn at q;split at q
 case h_2=>cases q
 rename_i dd cd sl ho
 split at q
 case h_2=>cases q
 rename_i C' bm k0 k1 k2 k3 n k5 hm hs
 simp only[aw7,beq_iff_eq,Bool.not_eq_true']at q
 obtain⟨⟨⟨⟨⟨rfl,rfl⟩,dl⟩,ht⟩,hok⟩,hni⟩:=q
 obtain⟨nm,bs,mro,ns,qn,hd,sn,sub,ab,col,del⟩:=cd
 dsimp only at hm dl hok hni;subst hm dl;obtain rfl:sl = #[k0,k1,k2,k3,some (.builtin n),k5]:=by
  obtain⟨l⟩:=sl
  exact congrArg Array.mk hs
 exact⟨bm,ns,nm,qn,bs,hd,sn,sub,ab,col,dd,k0,k1,k2,k3,k5,_,X _ _ ho,.of_isNs (PySem.W.isNs_of_in X hok),PySem.W.nsMap_none_of_in X hok hni,PySem.W.tail_of_in X ht⟩
theorem fX.of {P:ay}{w:ba}{K:ad}{mg:Str->Option av}{base:Heap}{k:Nat}{x:Str}{ps N:List Str}{p:gT}{st:Stmt}{f:ax}{fd:FuncData}(F:bM K x x st f fd)(m:mg x=some (.ref f))(S:FnScope N ps (aJ st))(hb:∀(kV doc pm:av) (an:Option ax) (cdv ct:av) (us:List av),us.length=ps.length->bindArgs (PySem.W.fnOf x x (bH st) (b8 st) (aJ st) .none kV doc pm an cdv ct) ⟨us,[]⟩=pure (ps.zip us))(t:(Str->Prop)->aR)(len:∀Ep xs Q,p Ep xs Q->xs.length=ps.length)(rd:∀Ep xs Q,p Ep xs Q->t Ep { nx:=λ_=>Q .non,rt:=Q } (bB N xs))(body:∀(cdv:av) (A:az) (outer:List Env) (s:aw) (H:Hp) (E:XK) (Ep:Str->Prop),bE k (A.deeper (envOfC x (aJ st) s.heap.objs.size f cdv))->nV (bS (e8 P w) P w K mg base N x (aJ st) f cdv A outer s H E) (EX K H Ep)->
   dW (bS (e8 P w) P w K mg base N x (aJ st) f cdv A outer s H E) (b8 st) (t Ep)):fX P w K mg base (k+1) x ps p:=by
 refine⟨f,fd,F.okX S (λvs H Q E h=>?_) (λcdv A outer s H vs Q E hr h=>?_),F.binds hb,F.kp,m⟩
 ·obtain⟨xs,Qp,Ep,r,q,_⟩:=h
  rw[r.length];exact len Ep xs Qp q
 ·obtain⟨xs,Qp,Ep,r,q,k,ke⟩:=h
  have ht:=body cdv A outer s H E Ep hr (Z9 λc d H' z=>?_)
  ·refine⟨_,ht,λ_=>False,bB N xs,_,hZ r,rd Ep xs Qp q,?_,?_,?_,?_⟩
   ·exact λW' σ' H' ρ' e px q=>k _ _ _ px.same .non q
   ·exact λv H' x s r q=>k _ _ _ s r q
   ·exact λW' σ' H' ρ' e px q=>q
   ·exact λW' σ' H' ρ' e px q=>q
  ·obtain⟨rfl,s1,n,C,rfl,z1,z2⟩:=z
   exact ke n C H' s1 z1 z2
end PP
namespace Core
open PySem L2 PP
noncomputable abbrev wR (t:(Str->Prop)->aR)(N:List Str)(p:gT):Prop:=∀Ep xs Q,p Ep xs Q->t Ep { nx:=λ_=>Q .non,rt:=Q } (bB N xs)
end Core
namespace PP
open PySem L2
theorem wS {α β:Type}{F:α->β->Prop}:∀{l:List α}{m:List β}{i:Nat}{x:α},Paired F l m->l[i]? = some x->∃y,m[i]? = some y/\F x y
 |_,_,_,_,.nil,e=>by simp at e
 |_,_,0,_,.cons r _,e=>by simp at e;subst e;exact⟨_,rfl,r⟩
 |_,_,i+1,x,.cons _ t,e=>by
  rw[aB4]at e
  obtain⟨y,h1,h2⟩:=wS t e
  exact⟨y,by rw[aB4];exact h1,h2⟩
theorem us1 {us:List av}(h:us.length=1):∃a,us = [a]:=List.length_eq_one_iff.mp h
theorem us2 {us:List av}(h:us.length=2):∃a b,us = [a,b]:=by
 cases us with
 |nil=>cases h
 |cons a r=>
  obtain⟨b,rfl⟩:=us1 (us:=r) (by simpa using h)
  exact⟨a,b,rfl⟩
theorem wT {us:List av}(h:us.length=3):∃a b c,us = [a,b,c]:=by
 cases us with
 |nil=>cases h
 |cons a r=>
  obtain⟨b,c,rfl⟩:=us2 (us:=r) (by simpa using h)
  exact⟨a,b,c,rfl⟩
theorem iY {us:List av}(h:us.length=4):∃a b c d,us = [a,b,c,d]:=by
 cases us with
 |nil=>cases h
 |cons a r=>
  obtain⟨b,c,d,rfl⟩:=wT (us:=r) (by simpa using h)
  exact⟨a,b,c,d,rfl⟩
theorem wU {us:List av}(h:us.length=5):∃a b c d e,us = [a,b,c,d,e]:=by
 cases us with
 |nil=>cases h
 |cons a r=>
  obtain⟨b,c,d,e,rfl⟩:=iY (us:=r) (by simpa using h)
  exact⟨a,b,c,d,e,rfl⟩
section
variable {X:Cx}{a:Expr}{tk:aG}{σ:St}{H:Hp}{Q':VK}{pos p2:Pos}
theorem ae4 (hN:X.N.Nodup)(i j:Nat){x y:Str}{aj am xpos:Pos}(hi:X.N[i]? = some x:=by rfl)(hj:X.N[j]? = some y:=by rfl)(hv:dL X.env.scope x:=by first|exact Or.inl rfl|exact Or.inr (Or.inl rfl)|exact Or.inr (Or.inr rfl))(hd:(x==("__debug__":Str))=false:=by decide)(hcd:(x==("__classdict__":Str))=false:=by decide)(hbase:attributeBase (.Name x xpos) "pop" X.env (eval (.Name x xpos) X.env)=eval (.Name x xpos) X.env:=by rfl)(hline:(aj.endLine==am.line)=true:=by rfl)(hx:eR X.env.scope y:=by first|exact Or.inl rfl|exact Or.inr rfl)(hs:swapsWith (.Call (.Attribute (.Name x xpos) "pop" aj) [] [] am) (some (.Name y p2)) pos.line X.env=pure false:=by rfl)(hf:X.fn y=true∨X.env.scope.names.lookup y=some .local:=by first|exact .inl rfl|exact .inr rfl) :
  QS X (.Assign [.Name y p2] (.Call (.Attribute (.Name x xpos) "pop" aj) [] [] am) pos) (pV i j):=
 d4 (kG hN hj hx (N4 PySem.F.plainAttrs_list PySem.F.slot_list_pop PySem.F.type_list_pop O0 (gB hi hv hd hcd) hbase hline) hs hf) λ_ _ _=>U8
end
end PP
namespace Core
open PySem L2 PP
section
variable {ws:ag}{ls:aa}
noncomputable def cne (ws:ag)(ls:aa)(S:ag):Bool:=!decide (S = [])&&decide (stay ws ls S=S)
end
noncomputable def far (ns S:ag):Bool:=decide (((S.filter λx=>decide (x∈ns)).length:Int)=0)
noncomputable def i7 (ws:ag)(ls:aa):ag->ag->Bool
 |_,[]=>true
 |B,h::R=>inB ws.length h&&(kin ws ls B h&&i7 ws ls (B++[h]) R)
end Core
namespace PP
open PySem L2
section
variable {X:Cx}{a b:Expr}{ta tb:aG}{pos pos2 p2 p3:Pos}
theorem ae5 (ha:QE X a ta)(hb:QE X b tb):QE X (.BinOp a .BitAnd b pos) (q2 (cU λi j=>.int (Builtin.bitAnd i j)) ta tb):=fU J4 nB ha hb
end
end PP
namespace L2
open PySem PySem.Spec PyProof.Rows
section
variable {X:Cx}
theorem ae6 (hc:X.calm=true):d9 X (.builtin "min") (λxs H Q=>∃(a:ax) (ns:ag),xs = [.ref a]/\aX X.K H a (ns.map V.int)/\ns≠[]/\∀M:Int,M∈ns->(∀x∈ns,M<=x)->Q (.int M) H):=by
 intro ai s σ H xs us Q I r h
 obtain⟨a,ns,rfl,hq,ne,q⟩:=h
 obtain⟨u,rfl,ru⟩:=iI r
 cases ru
 obtain⟨its,rv,p,hz⟩:=I.list hq
 have ia:=jE rv
 obtain⟨ys,ey⟩:=ia.allInts.items
 have en:ns=ys.toList.map (·.1):=by
  have e1:=nums_intItems ys;rw[<- ey]at e1;exact ia.numsOf.symm.trans e1
 have pos:0<ys.size:=Nat.pos_of_ne_zero λz=>ne (by rw[en,aD1 z];rfl)
 have hl:s.heap.IsList a (intItems ys):=ey▸p.isList;refine min_intList (I.ok.hd hc) hl pos λv h' tk ev old=>?_
 obtain⟨t,rfl⟩:=intItems_at ev
 have best:=argBest_lt (numAt ys) (ys.size-1);have mem:∀x:Int,x∈ns↔∃j,j<ys.size/\numAt ys j=x:=λx=>by
  rw[en];constructor
  ·intro z
   obtain⟨j,hj,e⟩:=mem_getD z
   exact⟨j,by simpa using hj,by rw[numAt_eq];exact e⟩
  ·rintro⟨j,hj,rfl⟩
   rw[numAt_eq];exact getD_mem (by simpa using hj)
 refine⟨.int _,H,I.kept (t':=tk) (h':=h') old,⟨t,rfl⟩,q _ ?_ λx hx=>?_⟩
 ·exact (mem _).mpr ⟨_,by have:=best.1;omega,rfl⟩
 ·obtain⟨j,hj,rfl⟩:=(mem x).mp hx
  exact best.2 j (by omega)
end
end L2
namespace PP
open PySem L2
section
variable {X:Cx}{e:Expr}{tr:bQ}{pos p2:Pos}
noncomputable def wV:List PV->(PV->Prop)->Prop:=λxs Q=>∃ns:ag,xs = [.lst (intz ns)]/\ns≠[]/\∀M:Int,M∈ns->(∀x∈ns,M<=x)->Q (.int M)
theorem ae7:dY X wV (λxs H Q=>∃(a:ax) (ns:ag),xs = [.ref a]/\aX X.K H a (ns.map V.int)/\ns≠[]/\∀M:Int,M∈ns->(∀x∈ns,M<=x)->Q (.int M) H):=by
 rintro H vs xs Q Q' r ⟨ns,rfl,ne,q⟩ k
 obtain⟨v,rfl,r1⟩:=r.one
 obtain⟨a,us,rfl,_,h,r2⟩:=r1.sqL
 rw[r2.ofInts]at h
 exact⟨a,ns,rfl,aX.of h,ne,λM m1 m2=>k _ _ _ (aI.refl _) (.int M) (q M m1 m2)⟩
end
end PP
namespace L2
open PySem PySem.Spec PyProof.Rows
section
variable {X:Cx}
theorem ae8 (hc:X.calm=true):d9 X (.builtin "max") (λxs H Q=>∃(a:ax) (ns:ag),xs = [.ref a]/\aX X.K H a (ns.map V.int)/\ns≠[]/\∀M:Int,M∈ns->(∀x∈ns,x<=M)->Q (.int M) H):=by
 intro ai s σ H xs us Q I r h
 obtain⟨a,ns,rfl,hq,ne,q⟩:=h
 obtain⟨u,rfl,ru⟩:=iI r
 cases ru
 obtain⟨its,rv,p,hz⟩:=I.list hq
 have ia:=jE rv
 obtain⟨ys,ey⟩:=ia.allInts.items
 have en:ns=ys.toList.map (·.1):=by
  have e1:=nums_intItems ys;rw[<- ey]at e1;exact ia.numsOf.symm.trans e1
 have pos:0<ys.size:=Nat.pos_of_ne_zero λz=>ne (by rw[en,aD1 z];rfl)
 have hl:s.heap.IsList a (intItems ys):=ey▸p.isList;refine max_intList (I.ok.hd hc) hl pos λv h' tk ev old=>?_
 obtain⟨t,rfl⟩:=intItems_at ev
 have best:=argBest_gt (numAt ys) (ys.size-1);have mem:∀x:Int,x∈ns↔∃j,j<ys.size/\numAt ys j=x:=λx=>by
  rw[en];constructor
  ·intro z
   obtain⟨j,hj,e⟩:=mem_getD z
   exact⟨j,by simpa using hj,by rw[numAt_eq];exact e⟩
  ·rintro⟨j,hj,rfl⟩
   rw[numAt_eq];exact getD_mem (by simpa using hj)
 refine⟨.int _,H,I.kept (t':=tk) (h':=h') old,⟨t,rfl⟩,q _ ?_ λx hx=>?_⟩
 ·exact (mem _).mpr ⟨_,by have:=best.1;omega,rfl⟩
 ·obtain⟨j,hj,rfl⟩:=(mem x).mp hx
  exact best.2 j (by omega)
end
end L2
namespace PP
open PySem L2
section
variable {X:Cx}{a b e o:Expr}{ta tb te to:aG}{tr:bQ}{pos p2 aj am:Pos}{σ:St}{H:Hp}{Q':VK}
noncomputable def wW:List PV->(PV->Prop)->Prop:=λxs Q=>∃ns:ag,xs = [.lst (intz ns)]/\ns≠[]/\∀M:Int,M∈ns->(∀x∈ns,x<=M)->Q (.int M)
theorem ae9:dY X wW (λxs H Q=>∃(a:ax) (ns:ag),xs = [.ref a]/\aX X.K H a (ns.map V.int)/\ns≠[]/\∀M:Int,M∈ns->(∀x∈ns,x<=M)->Q (.int M) H):=by
 rintro H vs xs Q Q' r ⟨ns,rfl,ne,q⟩ k
 obtain⟨v,rfl,r1⟩:=r.one
 obtain⟨a,us,rfl,_,h,r2⟩:=r1.sqL
 rw[r2.ofInts]at h
 exact⟨a,ns,rfl,aX.of h,ne,λM m1 m2=>k _ _ _ (aI.refl _) (.int M) (q M m1 m2)⟩
end
end PP
namespace Core
open PySem L2 PP
noncomputable def Q0 (ws:ag)(ls:aa)(ns R:ag):Prop:=i7 ws ls ns R=true/\ad3 ws ls (ns++R)
end Core
namespace HT
open PySem PyProof.Rows
section
open PySem.SeqAt
open PySem.AutoSeq1 (wpAny_loadPart')
open PySem.MeetsSeq PySem.MeetsSeq2 PySem.MeetsSeq3
theorem af0 (l b:ax)(n n2:Nat)(dd dd2:Option ax)(sl sl2:Array (Option av))(a c:Int)(t u:Tok)(v x:av)(e lt:Bool) :
  Meets (Builtin.«tuple.__lt__» ⟨[.ref l,.ref b],[]⟩)
   (λA R s=>s.heap.get? l=some { cls:=.type "tuple",dict:=dd,data:=.seq #[.int a t,v] n,slots:=sl }/\s.heap.get? b=some { cls:=.type "tuple",dict:=dd2,data:=.seq #[.int c u,x] n2,slots:=sl2 }/\
    SeqAt.EqAt A.in1 s v x e/\(∀(prog:ay) (w:ba) (E Q:av->aw->Prop),Q (.bool lt) s->wpAny (model prog w) A.in1 (richCompare .Lt v x) Q E s)/\
    R (.ok (.ret (.bool (if a=c then (if e then false else lt) else decide (a<c))))) s):=
 .of_wp λprog w A R s h=>by
  obtain⟨hp,g,d,tk,os⟩:=s;obtain⟨hl,hb,he2,hlt,h⟩:=h
  have f2:=AutoSeq1.sub_tuple_tuple
  wp_walk using wpAny_loadPart' hl,wpAny_loadPart' hb,wpAny_forIn_list _ (λrest z s'=>z.1=none/\s'=⟨hp,g,d,tk,os⟩/\(rest = [(Value.int a t,Value.int c u),(v,x)]∨(rest = [(v,x)]/\a=c)∨(rest = []/\a=c/\e=true))) _
  case turn=>
   rintro⟨p,q⟩ rest z s' ⟨hz,rfl,c1|⟨c1,ac⟩|⟨c1,_⟩⟩
   ·injection c1 with c2 c3
    injection c2 with c4 c5
    subst c4 c5
    obtain⟨e1,he1,hiff⟩:=u5 A.in1 ⟨hp,g,d,tk,os⟩ a t c u
    refine av3 (he1 prog w _ _ ?_);cases e1 with
    |true=>
     wp_walk
     exact⟨rfl,rfl,.inr (.inl ⟨c3,hiff.mp rfl⟩)⟩
    |false=>
     rw[if_neg (λq=>absurd (hiff.mpr q) aw9)]at h;have hri:=u6 A.in1 ⟨hp,g,d,tk,os⟩ a t c u prog w
     wp_walk using hri
     exact⟨_,rfl,by simpa using h⟩
   ·injection c1 with c2 c3
    injection c2 with c4 c5
    subst c4 c5;rw[if_pos ac]at h;refine av3 (he2 prog w _ _ ?_);cases e with
    |true=>
     wp_walk
     exact⟨rfl,rfl,.inr (.inr ⟨c3,ac,rfl⟩)⟩
    |false=>
     have hri:=hlt prog w
     wp_walk using hri
     exact⟨_,rfl,by simpa using h⟩
   ·cases c1
  case fin=>
   rintro⟨b1,b2⟩ s' ⟨hz,rfl,c1|⟨c1,ac⟩|⟨c1,ac,et⟩⟩
   ·cases c1
   ·cases c1
   ·simp only at hz
    subst hz;subst et;rw[if_pos ac,if_pos rfl]at h
    wp_walk
    exact⟨_,rfl,by simpa[Builtin.Tuple.tupleCompareSizes] using h⟩
  case h=>exact⟨rfl,rfl,.inl rfl⟩
end
end HT
namespace L2
open PySem PySem.Spec PyProof.Rows PP
section
variable {X:Cx}{ai:List (ax×Obj)}{s:aw}{σ:St}{H:Hp}{M M':ax→Prop}
noncomputable abbrev fG (a:Int)(ns:ag):PV:=.tup [.int a,.tup (intz ns)]
theorem wX:∀ns:ag,HT.bX ns ns=false
 |[]=>rfl
 |x::xs=>by rw[HT.mV,if_pos rfl];exact wX xs
theorem af1 {A:az}(hu:A.units+4<cLine)(I:aA X ai σ H s){x y:V}{v u:av}{a c:Int}{ns ms:ag}(r1:aE X.K M H x (fG a ns))(r2:aE X.K M' H y (fG c ms))(e1:aP x v)(e2:aP y u){prog:ay}{w:ba}{E Q:av->aw->Prop}(h:Q (.bool (HT.bX (a::ns) (c::ms))) s):wpAny (model prog w) A (richCompare .Lt v u) Q E s:=by
 obtain⟨l,us,rfl,h1,q1⟩:=r1.sqT
 obtain⟨b,ws,rfl,h2,q2⟩:=r2.sqT
 cases e1;cases e2
 obtain⟨x1,x2,rfl,p1,p2⟩:=q1.two
 obtain⟨y1,y2,rfl,p3,p4⟩:=q2.two
 cases p1;cases p3
 obtain⟨its,v1,t1,_⟩:=I.tuple (aQ.of (K:=X.K) h1)
 obtain⟨aq,v2,t2,_⟩:=I.tuple (aQ.of (K:=X.K) h2)
 obtain⟨_,_,rfl,k1,k2⟩:=v1.two
 obtain⟨_,_,rfl,k3,k4⟩:=v2.two
 obtain⟨t,rfl⟩:=k1
 obtain⟨t',rfl⟩:=k3
 have eq:=Y8 I 2 (A:=A.in1) (by show A.units+1+2<cLine;omega) p2 p4 k2 k4 (by exact X0 1 ns ms);rw[W9 1]at eq
 obtain⟨p,us,rfl,h3,q3⟩:=p2.sqT
 obtain⟨q,ws,rfl,h4,q4⟩:=p4.sqT
 obtain rfl:=q3.ofInts;obtain rfl:=q4.ofInts;cases k2;cases k4
 obtain⟨its,v3,t3,_⟩:=I.tuple (aQ.of (K:=X.K) h3)
 obtain⟨aq,v4,t4,_⟩:=I.tuple (aQ.of (K:=X.K) h4)
 have i3:IntsAre its.toArray.toList ns:=jE v3;have i4:IntsAre aq.toArray.toList ms:=jE v4
 obtain⟨⟨cls,dd,data,sl⟩,ho,hc,n,hd⟩:=t1
 obtain⟨⟨cls2,dd2,data2,sl2⟩,ho2,hc2,n2,hd2⟩:=t2
 simp only at hc hd hc2 hd2;subst hc hd hc2 hd2;refine richCompare_meets_room (op:=.Lt) ⟨_,ho,rfl⟩ ⟨_,ho2,rfl⟩ PySem.F.slot_tuple_lt PySem.F.entry_tuple_lt (PySem.F.args_tuple_lt_2 _ _) (HT.af0 l b n n2 dd dd2 sl sl2 a c t t' _ _ (decide (ns=ms)) (HT.bX ns ms))
  ⟨ho,ho2,eq,λprog w E Q hq=>(HT.L9 t3 t4 i3 i4 (by show A.units+1<cLine;omega) hq:wpAny (model prog w) A.in1 (compareOp .Lt _ _) Q E s),?_⟩ (by omega)
 have e:(if a=c then (if (decide (ns=ms))=true then false else HT.bX ns ms) else decide (a<c))=HT.bX (a::ns) (c::ms):=by
  rw[HT.mV];by_cases ac:a=c
  ·rw[if_pos ac,if_pos ac]
   by_cases nm:ns=ms
   ·rw[if_pos (ay5 nm),nm,wX]
   ·rw[if_neg (by rw[aA0];exact nm)]
  ·rw[if_neg ac,if_neg ac]
 rw[e]
 exact⟨(λx=>nomatch x),h⟩
end
section
variable {prog:ay}{w:ba}{A:az}{R:Result→aw→Prop}{I S:ax}{n:Nat}{l:ax}{its:Array av}{s0:aw}{bt:Nat→Nat→Bool}
noncomputable abbrev i8 (s:aw)(h:Heap)(k:Nat):aw:={ s with heap:=h,toks:=k }
noncomputable abbrev gE (g h:Heap):Prop:=∀b o,g.get? b=some o->h.get? b=some o
end
section
variable {prog:ay}{w:ba}{A:az}{s0:aw}{l:ax}{its:Array av}{bt:Nat→Nat→Bool}
theorem wY {h:Heap}{a:ax}(z:h.objs.size<=a):h.get? a=none:=by
 cases q:h.get? a with
 |none=>rfl
 |some o=>exact absurd (aw3 q) (Nat.not_lt.mpr z)
end
end L2
namespace PP
open PySem L2
section
variable {X:Cx}{a b e:Expr}{ta tb:aG}{tr:bQ}{pos p2:Pos}
theorem o0 (a:Int)(ns:ag):flat (fG a ns)=true:=by
 show (flat (.int a)&&(flat (.tup (intz ns))&&true))=true;rw[show flat (.tup (intz ns))=true from n5 ns];rfl
end
end PP
namespace Core
open PySem L2 PP
noncomputable def Bd (ws:ag)(ls:aa)(wts:ag)(b:Int):Prop:=∃zs,ae0 ws ls wts zs/\b=(ws.length:Int)-(ad8 zs wts.sum:Int)
noncomputable def FB (L:ae)(f:ag->Int)(r:ag):Prop:=∃i,L[i]? = some r/\(∀(j:Nat) (s:ag),j<i->L[j]? = some s->f s<f r)/\∀s∈L,f s<=f r
end Core
namespace L2
open PySem PySem.Spec PyProof.Rows
section
variable {prog:ay}{w:ba}{A:az}{E:av→aw→Prop}{s:aw}{l:ax}{xs:Array (Int×Tok)}
theorem wZ {Q:av->aw->Prop}(hl:s.heap.IsTuple l (intItems xs))(h:∀h2:Heap,(h2.IsTupleIter s.heap.objs.size l 0/\h2.IsTuple l (intItems xs))->(∀b∈[s.heap.objs.size,l],b<h2.objs.size)->l≠s.heap.objs.size->(∀b o,s.heap.get? b=some o->b∉[s.heap.objs.size]/\h2.get? b=some o)->Q (.ref s.heap.objs.size) { s with heap:=h2 }):wpAny (model prog w) A (pyIter (.ref l)) Q E s:=by
 have lb:l<s.heap.objs.size:=by obtain⟨_,e,_⟩:=hl;exact aw3 e
 refine wpAny_pyIter_tuple hl (h _ ⟨⟨_,aw8 _ rfl,rfl,rfl⟩,hl.push _⟩ (λb hb=>?_) (ay9 lb) λb o e=>⟨λhm=>?_,av6 _ e⟩)
 ·rw[aC0]
  rcases aw6.mp hb with rfl|hb
  ·exact Nat.lt_succ_self _
  ·rw[aw2.mp hb];exact Nat.lt_succ_of_lt lb
 ·rw[aw2.mp hm]at e
  exact absurd (aw3 e) (az9 _)
theorem af2 {Q:av->aw->Prop}(hh:A.handled=none)(hl:s.heap.IsTuple l (intItems xs))(hne:0<xs.size)(h:∀v h' tk,(intItems xs)[argBest (λi j=>decide (numAt xs i>numAt xs j)) (xs.size-1)]? = some v->(∀b o,s.heap.get? b=some o->h'.get? b=some o)->Q v { s with heap:=h',toks:=tk }):wpAny (model prog w) A (call (.builtin "max") [.ref l]) Q E s:=by
 refine call_max_walk (wZ hl λh2 st hfp ne old=>?_)
 exact⟨_,_,_,_,_,_,_,rfl,Walks.tuple (A:=A.in1) hh _ l ne (intItems xs),st,hfp,by simpa[intItems] using hne,CmpOf.ints_gt (numAt xs) (λ_ _=>intItems_at),λv h' tk hP hk=>h v h' tk (by simpa[intItems] using hP) λb o e=>hk b o (old b o e).1 (old b o e).2⟩
theorem af3 {Q:av->aw->Prop}(hh:A.handled=none)(hl:s.heap.IsTuple l (intItems xs))(hne:0<xs.size)(h:∀v h' tk,(intItems xs)[argBest (λi j=>decide (numAt xs i<numAt xs j)) (xs.size-1)]? = some v->(∀b o,s.heap.get? b=some o->h'.get? b=some o)->Q v { s with heap:=h',toks:=tk }):wpAny (model prog w) A (call (.builtin "min") [.ref l]) Q E s:=by
 refine call_min_walk (wZ hl λh2 st hfp ne old=>?_)
 exact⟨_,_,_,_,_,_,_,rfl,Walks.tuple (A:=A.in1) hh _ l ne (intItems xs),st,hfp,by simpa[intItems] using hne,CmpOf.ints_lt (numAt xs) (λ_ _=>intItems_at),λv h' tk hP hk=>h v h' tk (by simpa[intItems] using hP) λb o e=>hk b o (old b o e).1 (old b o e).2⟩
end
section
variable {X:Cx}
theorem af4 (hc:X.calm=true):d9 X (.builtin "max") (λxs H Q=>∃(a:ax) (ns:ag),xs = [.ref a]/\aQ X.K H a (ns.map V.int)/\ns≠[]/\∀M:Int,M∈ns->(∀x∈ns,x<=M)->Q (.int M) H):=by
 intro ai s σ H xs us Q I r h
 obtain⟨a,ns,rfl,hq,ne,q⟩:=h
 obtain⟨u,rfl,ru⟩:=iI r
 cases ru
 obtain⟨its,rv,p,hz⟩:=I.tuple hq
 have ia:=jE rv
 obtain⟨ys,ey⟩:=ia.allInts.items
 have en:ns=ys.toList.map (·.1):=by
  have e1:=nums_intItems ys;rw[<- ey]at e1;exact ia.numsOf.symm.trans e1
 have pos:0<ys.size:=Nat.pos_of_ne_zero λz=>ne (by rw[en,aD1 z];rfl)
 have hl:s.heap.IsTuple a (intItems ys):=by rw[<- ey];exact p
 refine af2 (I.ok.hd hc) hl pos λv h' tk ev old=>?_
 obtain⟨t,rfl⟩:=intItems_at ev
 have best:=argBest_gt (numAt ys) (ys.size-1);have mem:∀x:Int,x∈ns↔∃j,j<ys.size/\numAt ys j=x:=λx=>by
  rw[en];constructor
  ·intro z
   obtain⟨j,hj,e⟩:=mem_getD z
   exact⟨j,by simpa using hj,by rw[numAt_eq];exact e⟩
  ·rintro⟨j,hj,rfl⟩
   rw[numAt_eq];exact getD_mem (by simpa using hj)
 refine⟨.int _,H,I.kept (t':=tk) (h':=h') old,⟨t,rfl⟩,q _ ?_ λx hx=>?_⟩
 ·exact (mem _).mpr ⟨_,by have:=best.1;omega,rfl⟩
 ·obtain⟨j,hj,rfl⟩:=(mem x).mp hx
  exact best.2 j (by omega)
theorem af5 (hc:X.calm=true):d9 X (.builtin "min") (λxs H Q=>∃(a:ax) (ns:ag),xs = [.ref a]/\aQ X.K H a (ns.map V.int)/\ns≠[]/\∀M:Int,M∈ns->(∀x∈ns,M<=x)->Q (.int M) H):=by
 intro ai s σ H xs us Q I r h
 obtain⟨a,ns,rfl,hq,ne,q⟩:=h
 obtain⟨u,rfl,ru⟩:=iI r
 cases ru
 obtain⟨its,rv,p,hz⟩:=I.tuple hq
 have ia:=jE rv
 obtain⟨ys,ey⟩:=ia.allInts.items
 have en:ns=ys.toList.map (·.1):=by
  have e1:=nums_intItems ys;rw[<- ey]at e1;exact ia.numsOf.symm.trans e1
 have pos:0<ys.size:=Nat.pos_of_ne_zero λz=>ne (by rw[en,aD1 z];rfl)
 have hl:s.heap.IsTuple a (intItems ys):=by rw[<- ey];exact p
 refine af3 (I.ok.hd hc) hl pos λv h' tk ev old=>?_
 obtain⟨t,rfl⟩:=intItems_at ev
 have best:=argBest_lt (numAt ys) (ys.size-1);have mem:∀x:Int,x∈ns↔∃j,j<ys.size/\numAt ys j=x:=λx=>by
  rw[en];constructor
  ·intro z
   obtain⟨j,hj,e⟩:=mem_getD z
   exact⟨j,by simpa using hj,by rw[numAt_eq];exact e⟩
  ·rintro⟨j,hj,rfl⟩
   rw[numAt_eq];exact getD_mem (by simpa using hj)
 refine⟨.int _,H,I.kept (t':=tk) (h':=h') old,⟨t,rfl⟩,q _ ?_ λx hx=>?_⟩
 ·exact (mem _).mpr ⟨_,by have:=best.1;omega,rfl⟩
 ·obtain⟨j,hj,rfl⟩:=(mem x).mp hx
  exact best.2 j (by omega)
end
end L2
namespace PP
open PySem L2
section
variable {X:Cx}{a b e:Expr}{ta tb:aG}{tr:bQ}{pos p2:Pos}
noncomputable def x0:List PV->(PV->Prop)->Prop:=λxs Q=>∃ns:ag,xs = [.tup (intz ns)]/\ns≠[]/\∀M:Int,M∈ns->(∀x∈ns,x<=M)->Q (.int M)
noncomputable def x3:List PV->(PV->Prop)->Prop:=λxs Q=>∃ns:ag,xs = [.tup (intz ns)]/\ns≠[]/\∀M:Int,M∈ns->(∀x∈ns,M<=x)->Q (.int M)
theorem af6:dY X x0 (λxs H Q=>∃(a:ax) (ns:ag),xs = [.ref a]/\aQ X.K H a (ns.map V.int)/\ns≠[]/\∀M:Int,M∈ns->(∀x∈ns,x<=M)->Q (.int M) H):=by
 rintro H vs xs Q Q' r ⟨ns,rfl,ne,q⟩ k
 obtain⟨v,rfl,r1⟩:=r.one
 obtain⟨a,us,rfl,h,r2⟩:=r1.sqT
 rw[r2.ofInts]at h
 exact⟨a,ns,rfl,aQ.of h,ne,λM m1 m2=>k _ _ _ (aI.refl _) (.int M) (q M m1 m2)⟩
theorem af7:dY X x3 (λxs H Q=>∃(a:ax) (ns:ag),xs = [.ref a]/\aQ X.K H a (ns.map V.int)/\ns≠[]/\∀M:Int,M∈ns->(∀x∈ns,M<=x)->Q (.int M) H):=by
 rintro H vs xs Q Q' r ⟨ns,rfl,ne,q⟩ k
 obtain⟨v,rfl,r1⟩:=r.one
 obtain⟨a,us,rfl,h,r2⟩:=r1.sqT
 rw[r2.ofInts]at h
 exact⟨a,ns,rfl,aQ.of h,ne,λM m1 m2=>k _ _ _ (aI.refl _) (.int M) (q M m1 m2)⟩
end
end PP
namespace L2
open PySem PySem.Spec PyProof.Rows
section
variable {X:Cx}{ai:List (ax×Obj)}{σ:St}{H:Hp}{s:aw}{a:ax}
noncomputable def qZ (H:Hp)(y:V)(k:List (Int×Bool)):Prop:=∃q,y = .ref q/\dJ H k q
theorem af8 {kvs:List (List (Int×Bool)×V)}(I:aA X ai σ H s)(h:H a=some (.dA kvs)):∃es ep ys,Raw.kR s.heap a es ep/\(a==sysModules)=false/\Paired (qZ H) ys (kvs.map (·.1))/\aM ys (es.toList.map (·.key))/\kvs.length<=sizeLine:=by
 obtain⟨z,far,xs,rel,o,es,ep,e1,e2,e3,e4,nd⟩:=(show bK X.prog X.w H s.heap a (.dA kvs) from I.hok a _ h)
 refine⟨es,ep,xs.map λq=>V.ref q.2.1,⟨o,e1,e2,e3⟩,far,?_,?_,z⟩
 ·clear e4 nd h z
  induction rel with
  |nil=>exact .nil
  |cons r rs ih=>exact .cons ⟨_,rfl,r.2.1⟩ ih
 ·rw[e4]
  clear rel e4 nd
  induction xs with
  |nil=>exact .nil
  |cons q qs ih=>exact .cons rfl ih
end
noncomputable def af9:HO->Bool
 |.dK _=>true
 |.dT _=>true
 |.dA _=>true
 |_=>false
section
variable {X:Cx}{ai:List (ax×Obj)}{σ:St}{H H':Hp}{s:aw}{a:ax}
theorem aA.frozeD {o:Obj}{u:HO}(I:aA X ai σ H s)(h:H a=some u)(du:af9 u=true)(e:s.heap.get? a=some o):aA X ai σ (upd H a (.frz o u)) s:=by
 have own:∀{c:ax}{y:ax},H c=some (.own y)->c≠a:=λ{c y} q z=>by rw[z,h]at q;cases q;cases du
 have tp:∀{c:ax}{xs:List V},H c=some (.tup xs)->c≠a:=λ{c xs} q z=>by rw[z,h]at q;cases q;cases du
 have cd:∀{c:ax}{y:Str},H c=some (.code y)->c≠a:=λ{c y} q z=>by rw[z,h]at q;cases q;cases du
 refine I.reH (a:=a) (λb n=>aK n) ⟨_,h⟩ (λxs q=>by rw[h]at q;cases q;cases du) (λo' v q=>by have:=I.base.frzs a o' v q;rw[h]at this;cases this;cases du) (λps q=>by rw[h]at q;cases q;cases du) λb v q=>?_
 by_cases hb:b=a
 ·subst hb
  rw[bI]at q;cases q
  exact⟨e,(I.hok b _ h).stay (λ_ _ _ q=>q) (λc q=>by rw[aK (own q)];exact q) (λc xs q=>by rw[aK (tp q)];exact q) (λc r q=>by rw[aK (cd q)];exact q)⟩
 ·rw[aK hb]at q
  exact (I.hok b v q).stay (λ_ _ _ q=>q) (λc q=>by rw[aK (own q)];exact q) (λc xs q=>by rw[aK (tp q)];exact q) (λc r q=>by rw[aK (cd q)];exact q)
end
end L2
namespace PP
open PySem L2
noncomputable def fz:PV->PV
 |.dK ps=>.fK ps
 |.dT ps=>.fT ps
 |.dA ps=>.fA ps
 |x=>x
theorem x4 {K:ad}{M:ax->Prop}{H:Hp}{k:List (Int×Bool)}{b:ax}(h:dJ H k b):aE K M H (.ref b) (.tup (k.map λq=>.tup [.int q.1,.bl q.2])):=by
 obtain⟨us,e,r⟩:=h
 refine .tup e ?_;clear e
 induction r with
 |nil=>exact .nil
 |@cons p u ps us hd t ih=>
  obtain⟨c,rfl,hc⟩:=hd
  exact .cons (.tup hc (.cons (.int _) (.cons (.bl _) .nil))) ih
end PP
namespace PP
open PySem L2 PyProof.Rows
section
variable {X:Cx}{a b e:Expr}{ta tb te:aG}{tr:bQ}{pos p2:Pos}
theorem dY.or {R1 R2:List PV->(PV->Prop)->Prop}{r1 r2:List V->Hp->(V->Hp->Prop)->Prop}(h1:dY X R1 r1)(h2:dY X R2 r2):dY X (λxs Q=>R1 xs Q∨R2 xs Q) (λxs H Q=>r1 xs H Q∨r2 xs H Q):=by
 rintro H vs xs Q Q' r (h|h) k
 ·exact .inl (h1 H vs xs Q Q' r h k)
 ·exact .inr (h2 H vs xs Q Q' r h k)
noncomputable def r6:List PV->(PV->Prop)->Prop:=λxs Q=>wV xs Q∨x3 xs Q
noncomputable def r9:List PV->(PV->Prop)->Prop:=λxs Q=>wW xs Q∨x0 xs Q
theorem ag0 (B:Bt X.mg)(hc:X.calm=true)(ha:QA X [e] tr)(hg:Gl X "min":=by rfl)(he:starEach [e] X.env=(false,eval e X.env)::starEach [] X.env:=by rfl)(hpl:(backTo pos (starEach [] X.env)).any (·.1)=false:=by rfl):QE X (.Call (.Name "min" p2) [e] [] pos) (aU r6 tr):=
 nO ((ae6 hc).or (af5 hc)) (ae7.or af7) hg B.min PyProof.Rows.boot_min ha (he:=he) (hpl:=hpl)
theorem ag1 (B:Bt X.mg)(hc:X.calm=true)(ha:QA X [e] tr)(hg:Gl X "max":=by rfl)(he:starEach [e] X.env=(false,eval e X.env)::starEach [] X.env:=by rfl)(hpl:(backTo pos (starEach [] X.env)).any (·.1)=false:=by rfl):QE X (.Call (.Name "max" p2) [e] [] pos) (aU r9 tr):=
 nO ((ae8 hc).or (af4 hc)) (ae9.or af6) hg B.max PyProof.Rows.boot_max ha (he:=he) (hpl:=hpl)
theorem ag2 {x:PV}{ns:ag}(h:Core.cR x ns)(ne:ns≠[]){Q:PV->Prop}(q:∀M:Int,M∈ns->(∀x∈ns,M<=x)->Q (.int M)):r6 [x] Q:=by
 rcases h with rfl|rfl
 ·exact .inr ⟨ns,rfl,ne,q⟩
 ·exact .inl ⟨ns,rfl,ne,q⟩
theorem ag3 {x:PV}{ns:ag}(h:Core.cR x ns)(ne:ns≠[]){Q:PV->Prop}(q:∀M:Int,M∈ns->(∀x∈ns,x<=M)->Q (.int M)):r9 [x] Q:=by
 rcases h with rfl|rfl
 ·exact .inr ⟨ns,rfl,ne,q⟩
 ·exact .inl ⟨ns,rfl,ne,q⟩
end
end PP
namespace Core
open PySem L2 PP
noncomputable def i9 (ws:ag):Prop:=ws≠[]/\ws.length<=2/\∀x∈ws,0<=x/\x<=6
noncomputable def iZ:gT:=λEp xs Q=>∃x ws L,xs = [x,.int L]/\cR x ws/\(i9 ws->0<=L->Q .non)/\(¬(i9 ws/\0<=L)->Ep "BadBoard")
noncomputable def x5 (Ep:Str->Prop):aR:=(bC (fC (kX (cC (lD (aU gQ (aH (aC 0) aO)) (qC (.int 1)))) (kX (cC (qE (aU gQ (aH (aC 0) aO)) (qC (.int 2)))) (kX (cC (lD (aU r6 (aH (aC 0) aO)) (qC (.int 0)))) (cC (qE (aU r9 (aH (aC 0) aO)) (qC (.int 6))))))) (lJ Ep "BadBoard" (aH (qC (.str "a slice has one or two wants from 0 to 6")) aO)) fB)
 (fC (cC (lD (aC 1) (qC (.int 0)))) (lJ Ep "BadBoard" (aH (qC (.str "no length is below 0")) aO)) fB))
theorem ag4:wR x5 ["wants","length"] iZ:=by
 rintro Ep xs Q ⟨x,ws,L,rfl,hx,q,ex⟩;refine⟨_,rfl,_,_,rfl,hx.len,_,_,rfl,rfl,_,rfl,?_⟩;show if decide ((ws.length:Int)<1)=true then _ else _
 by_cases h1:(ws.length:Int)<1
 ·rw[ay5 h1]
  exact bY (bY ⟨by decide,ex λz=>z.1.1 (List.eq_nil_of_length_eq_zero (by omega))⟩)
 rw[aw1 h1];refine cF ⟨_,rfl,_,_,rfl,hx.len,_,_,rfl,rfl,_,rfl,?_⟩;show if decide ((ws.length:Int)>2)=true then _ else _
 by_cases h2:(ws.length:Int)>2
 ·rw[ay5 h2]
  exact bY (bY ⟨by decide,ex λz=>by have:=z.1.2.1;omega⟩)
 rw[aw1 h2];have ne:ws≠[]:=λz=>by rw[z]at h1;exact h1 (by decide)
 refine cF ⟨_,rfl,ag2 hx ne λm m1 m2=>⟨_,_,rfl,rfl,_,rfl,?_⟩⟩;show if decide (m<0)=true then _ else _
 by_cases h3:m<0
 ·rw[ay5 h3]
  exact bY (bY ⟨by decide,ex λz=>by have:=z.1.2.2 m m1;omega⟩)
 rw[aw1 h3];refine cF ⟨_,rfl,ag3 hx ne λM M1 M2=>⟨_,_,rfl,rfl,_,rfl,?_⟩⟩;show if decide (M>6)=true then _ else _
 by_cases h4:M>6
 ·rw[ay5 h4]
  exact bY ⟨by decide,ex λz=>by have:=z.1.2.2 M M1;omega⟩
 rw[aw1 h4];refine cF ⟨_,rfl,_,_,rfl,rfl,_,rfl,?_⟩;show if decide (L<0)=true then _ else _
 by_cases h5:L<0
 ·rw[ay5 h5]
  exact bY ⟨by decide,ex λz=>by omega⟩
 rw[aw1 h5];exact cF (q ⟨ne,by omega,λy hy=>by have:=m2 y hy;have:=M2 y hy;omega⟩ (by omega))
noncomputable def j0:gT:=λEp xs Q=>∃L m:Int,xs = [.int L,.int m]/\(L<=m->Q .non)/\(m<L->Ep "TooMany")
noncomputable def x6 (Ep:Str->Prop):aR:=(fC (cC (qE (aC 0) (aC 1))) (lJ Ep "TooMany" (aH (qC (.str "the strip is too long")) aO)) fB)
theorem ag5:wR x6 ["length","most"] j0:=by
 rintro Ep xs Q ⟨L,m,rfl,q,ex⟩;refine⟨_,rfl,_,rfl,_,_,rfl,rfl,_,rfl,?_⟩;show if decide (L>m)=true then _ else _
 by_cases h:L>m
 ·rw[ay5 h];exact bY ⟨by decide,ex h⟩
 ·rw[aw1 h];exact cF (q (by omega))
end Core
namespace L2
open PySem PySem.Spec PyProof.Rows SO
noncomputable abbrev kk (l:Int×Int):List bJ:=[Sum.inl l.1,Sum.inl l.2]
end L2
namespace L2
open PySem PySem.Spec PyProof.Rows PP
section
variable {prog:ay}{w:ba}{A:az}{R:Result→aw→Prop}{I S:ax}{n:Nat}{s0:aw}{a b:av}{lt:Bool}{fp:List ax}{P:Nat→av→Prop}{St:Nat→Heap→Prop}
theorem ag6 (W:Walks prog w A.in1 I fp [I] 2 P St)(p0:∀v,P 0 v->v=a)(p1:∀v,P 1 v->v=b)(sI:S≠I)(sf:S∉fp)(fI:s0.heap.get? I=none)(fS:s0.heap.get? S=none)(ask:∀(h:Heap) (k:Nat) (Q E:av->aw->Prop),gE s0.heap h->Q (.bool lt) (i8 s0 h k)->wpAny (model prog w) A.in1 (richCompare .Lt b a) Q E (i8 s0 h k))(fin:∀h k,gE s0.heap h->R (.ok (.ret (if lt=true then b else a))) (i8 s0 h k)){h:Heap}{k c:Nat}(old:gE s0.heap h)(st:St 0 h)(hS:h.get? S=some { cls:=.type "list",dict:=none,data:=.seq #[] c,slots:=#[] }):codeAny (model prog w) A (.builtin "min.loop" ⟨[.ref I,.none,.ref S],[]⟩) R (i8 s0 h k):=by
 have nm:(toString "min"++toString ".loop":String)="min.loop":=by decide
 have nS:S∉[I]:=λz=>sI (aw2.mp z)
 have put:∀{h h':Heap},gE s0.heap h->(∀b o,b∉[I]->h.get? b=some o->h'.get? b=some o)->gE s0.heap h':=λ{h h'} o1 o2 b o e=>o2 b o (λz=>by rw[aw2.mp z,fI]at e;cases e) (o1 b o e)
 have put2:∀{h:Heap}{f:Obj->Obj},gE s0.heap h->gE s0.heap (h.update S f):=λ{h f} o1 b o e=>(Heap.get?_update_other _ _ (λz:S=b=>by rw[<- z,fS]at e;cases e)).trans (o1 b o e)
 have last:∀(h:Heap) (k c:Nat),gE s0.heap h->St 2 h->h.get? S=some { cls:=.type "list",dict:=none,data:=.seq #[if lt=true then b else a,if lt=true then b else a] c,slots:=#[] }->codeAny (model prog w) A (.builtin "min.loop" ⟨[.ref I,.none,.ref S],[]⟩) R (i8 s0 h k):=λh k c old st hS=>by
  refine codeAny_builtin PySem.F.entry_min_loop ?_;rw[Around.under_plainId aA8];refine av3 (aF6 hS rfl ?_);refine av3 (wpAny_tryCatch (W.done _ _ _ st λh2 k2 o2=>?_));exact av3 (wpAny_updateSeq (o2 S _ nS hS) rfl (av3 (wpAny_letGo (av8 (fin _ k2 (put2 (put old o2)))))))
 have fr:∀{h:Heap}{f:Obj->Obj}{j:Nat},St j h->St j (h.update S f):=λ{h f j} st=>W.frame _ _ _ st λb hb o e=>(Heap.get?_update_other _ _ (λz:S=b=>sf (by rw[z];exact hb))).trans e
 refine codeAny_builtin PySem.F.entry_min_loop ?_;rw[Around.under_plainId aA8];refine av3 (aF6 hS rfl ?_);refine av3 (wpAny_tryCatch (W.item 0 _ _ _ (by decide) st λv h2 k2 hv st2 o2=>?_));obtain rfl:=p0 v hv;have hS2:=o2 S _ nS hS;refine av3 (av8 ?_);refine av3 (m:=updateSeq _ (λ_=>#[v,v])) (wpAny_updateSeq hS2 rfl ?_);rw[nm];refine av8 ⟨plainId_quiet aA8 _,codeAny_builtin PySem.F.entry_min_loop ?_⟩;rw[Around.under_plainId aA8];have hS3:(h2.update S (Obj.mapSeq λ_=>#[v,v])).get? S=some (Obj.mapSeq (λ_=>#[v,v]) { cls:=.type "list",dict:=none,data:=.seq #[] c,slots:=#[] }):=Heap.get?_update_self _ hS2 rfl;refine av3 (aF6 hS3 rfl ?_);refine av3 (wpAny_tryCatch (W.item 1 _ _ _ (by decide) (fr st2) λu h4 k4 hu st4 o4=>?_));obtain rfl:=p1 u hu;have hS4:=o4 S _ nS hS3;have old4:=put (put2 (f:=Obj.mapSeq λ_=>#[v,v]) (put old o2)) o4;refine av3 (av8 ?_);refine av3 (m:=tryCatch (holding [u,u] (richCompare .Lt u v >>= _)) _) (wpAny_tryCatch (wpAny_holding (av3 (ask h4 k4 _ _ old4 ?_))));refine av3 (wpAny_holding (aE6 (av3 (wpAny_letGo (av8 ?_)))));cases lt with
 |false=>
  simp only[ax5,aB3];refine av3 (wpAny_letGo ?_);rw[nm];exact av8 ⟨plainId_quiet aA8 _,last h4 k4 _ old4 st4 hS4⟩
 |true=>
  simp only[if_true];refine av3 (wpAny_updateSeq hS4 rfl (av3 (wpAny_letGo ?_)));rw[nm];exact av8 ⟨plainId_quiet aA8 _,last _ k4 _ (put2 old4) (fr st4) (Heap.get?_update_self _ hS4 rfl)⟩
theorem ag7 {Q E:av->aw->Prop}(hh:A.in1.handled=none)(ask:∀(h:Heap) (k:Nat) (Q E:av->aw->Prop),gE s0.heap h->Q (.bool lt) (i8 s0 h k)->wpAny (model prog w) A.in1 (richCompare .Lt b a) Q E (i8 s0 h k))(fin:∀h k,gE s0.heap h->Q (if lt=true then b else a) (i8 s0 h k)):wpAny (model prog w) A (call (.builtin "min") [a,b]) Q E s0:=by
 have nm:(toString "min"++toString ".loop":String)="min.loop":=by decide
 refine call_function_tree PySem.F.kind_min PySem.F.plain_min PySem.F.entry_min (PySem.F.args_min2 _ _) ?_;refine av3 (wpAny_of_eq (show Builtin.Builtins.bindParams "min" ["key","default"] 0 ⟨[],[]⟩=pure [none,none] from rfl) ?_);show wpAny _ A.in1 (newTuple [a,b] >>= _) _ _ _;refine av3 (aC1 ?_);have hT:(s0.heap.push { cls:=.type "tuple",data:=.seq #[a,b] }).IsTuple s0.heap.objs.size #[a,b]:=⟨_,aw8 _ rfl,rfl,0,rfl⟩;have z1:(s0.heap.push { cls:=.type "tuple",data:=.seq #[a,b] }).objs.size=s0.heap.objs.size+1:=aC0 ..;refine av3 (wpAny_pyIter_tuple hT ?_);refine av3 (aC1 ?_);rw[nm];have z2:((s0.heap.push { cls:=.type "tuple",data:=.seq #[a,b] }).push { cls:=.type "tuple_iterator",data:=.fields #[.ref s0.heap.objs.size,.int 0 0] }).objs.size=s0.heap.objs.size+2:=by rw[aC0,z1]
 have ne:s0.heap.objs.size≠(s0.heap.push { cls:=.type "tuple",data:=.seq #[a,b] }).objs.size:=by omega
 refine av8 ⟨plainId_quiet aA8 _,ag6 (lt:=lt) (Walks.tuple (A:=A.in1) hh _ s0.heap.objs.size ne #[a,b]) (λv hv=>?_) (λv hv=>?_) (λz=>?_) (λz=>?_) (wY (ay7 (Nat.le_succ _) (Nat.le_of_eq z1.symm))) (wY (ay7 (Nat.le_add_right _ 2) (Nat.le_of_eq z2.symm))) ask fin (λb o e=>av6 _ (av6 _ (av6 _ e)))
  ⟨⟨_,av6 _ (aw8 _ rfl),rfl,rfl⟩,(hT.push _).push _⟩ (aw8 _ rfl)⟩
 ·exact (ax7 (show some a=some v from hv)).symm
 ·exact (ax7 (show some b=some v from hv)).symm
 ·have z:=z2.symm.trans (z.trans z1)
  omega
 ·rcases aw6.mp z with z|z
  ·have z:=z2.symm.trans (z.trans z1)
   omega
  ·have z:=z2.symm.trans (aw2.mp z)
   omega
end
end L2
namespace L2
open PySem PySem.Spec PyProof.Rows
section
variable {X:Cx}{ai:List (ax×Obj)}{σ:St}{H H':Hp}{s:aw}{a:ax}
theorem aA.frozeL {o:Obj}{us:List V}(I:aA X ai σ H s)(h:H a=some (.lst us))(e:s.heap.get? a=some o):aA X ai σ (upd H a (.frz o (.lst us))) s:=by
 have own:∀{c:ax}{y:ax},H c=some (.own y)->c≠a:=λ{c y} q z=>by rw[z,h]at q;cases q
 have tp:∀{c:ax}{xs:List V},H c=some (.tup xs)->c≠a:=λ{c xs} q z=>by rw[z,h]at q;cases q
 refine I.reH (a:=a) (λb n=>aK n) ⟨_,h⟩ (λxs q=>by rw[h]at q;cases q) (λo' v q=>by have:=I.base.frzs a o' v q;rw[h]at this;cases this) (λps q=>by rw[h]at q;cases q) λb v q=>?_
 by_cases hb:b=a
 ·subst hb
  rw[bI]at q;cases q
  exact⟨e,(I.hok b _ h).stay (λ_ _ _ q=>q) (λc q=>by rw[aK (own q)];exact q) λc xs q=>by rw[aK (tp q)];exact q⟩
 ·rw[aK hb]at q
  exact (I.hok b v q).stay (λ_ _ _ q=>q) (λc q=>by rw[aK (own q)];exact q) λc xs q=>by rw[aK (tp q)];exact q
noncomputable def x8 (t:TE):TE:=λσ H Q=>t σ H λv H1=>∃a us,v = .ref a/\H1 a=some (.lst us)/\∀o,Q v (upd H1 a (.frz o (.lst us)))
theorem ag8 {e:Expr}{t:TE}(h:PE X e t):PE X e (x8 t):=by
 intro ai s σ H Q I hq;refine aL (h ai s σ H _ I hq) λv s1 h1=>?_
 obtain⟨x,H1,I1,r1,a,us,ex,ea,q⟩:=h1
 obtain⟨_,_,_,_,ho⟩:=(show bK X.prog X.w H1 s1.heap a (.lst us) from I1.hok a _ ea)
 exact⟨x,_,I1.frozeL ea ho,r1,q _⟩
end
end L2
namespace PP
open PySem L2
section
variable {X:Cx}{e:Expr}{te:aG}{σ:St}{H:Hp}{Q':VK}
noncomputable def rA (te:aG):aG:=λρ Q=>te ρ λx g=>∃xs,x = .lst xs/\g = .fr/\flats xs=true/\Q (.fL xs) .fr
theorem ag9 (h:LE X (rA te) σ H Q'):x8 (LE X te) σ H Q':=by
 obtain⟨W,ρ,Q,px,q,k⟩:=h
 refine⟨W,ρ,_,px,q,?_⟩;rintro v H1 x g s r ⟨xs,rfl,rfl,f,q⟩;cases r with
 |@lst a us _ m e r=>
  refine⟨a,us,rfl,e,λo=>k _ _ _ .fr (λb u hb=>?_) (.fL bI ((r.flat (M':=λ_=>False) f).keep (.upd e rfl λb z=>z.elim))) q⟩;have nb:b≠a:=λz=>by have m:H a=none:=m;rw[z,m]at hb;cases hb
  rw[aK nb];exact s b u hb
theorem ah0 (h:QE X e te):QE X e (rA te):=bR (ag8 h) λ_ _ _=>ag9
end
structure o3 (K:ad)(mg:Str->Option av)(x:Str):Prop where
 ex:∃f,mg x=some (.ref f)/\PySem.W.nsIn K mainGlobals x=some (some (.ref f))
section
variable {X:Cx}{σ:L2.St}{H:Hp}{tr:bQ}{Q':VK}{e:Expr}{es:List Expr}{pos p2 cp np:Pos}
theorem ah1 {x:Str}(fv:o3 X.K X.mg x)(hg:Gl X x:=by rfl)(hd:(x==("__debug__":Str))=false:=by decide):QE X (.Name x pos) (qC (.fn x)):=by
 obtain⟨f,m,n⟩:=fv.ex
 exact bR (t:=tC (.ref f)) (λai s σ H Q I h=>mH I hg m ⟨.ref f,H,I,rfl,h⟩ hd) λ_ _ _=>kU λ_=>.fn n
end
end PP
namespace Strip
noncomputable abbrev aB:=List (Nat×Bool)
noncomputable def has (m p:Nat):Nat:=(m >>> p) &&& 1
noncomputable def jT (w:ag)(behind burning ahead:Nat):Nat->ag->Nat->Nat
 |_,[],lit=>lit
 |p,want::r,lit=>jT w behind burning ahead (p+1) r (if ((has behind p+has ahead p+(if p<=1 then has burning (1-p) else 0):Nat):Int) >= want then lit ||| (1 <<< p) else lit)
noncomputable def cD (w:ag)(behind burning ahead:Nat):Nat:=jT w behind burning ahead 0 w burning
noncomputable def iA (w:ag)(a:aB)(ahead:Nat):Nat->Nat->Nat
 |0,b=>b
 |n+1,b=>let m:=cD w (a.getD b (0,false)).1 b ahead;if m=b then b else iA w a ahead n m
noncomputable def lK (w:ag)(a:aB)(seeds ahead:Nat):Nat×Bool:=
 let b:=iA w a ahead (w.length+1) seeds
 (b,b==a.length-1&&(a.getD (a.length-1) (0,false)).2)
noncomputable def next (w:ag)(a:aB)(seeds:Nat):aB:=(List.range a.length).map (lK w a seeds)
noncomputable def aV (w:ag):aB:=List.replicate (2^w.length) (0,true)
noncomputable def kept (a:aB):Bool:=(a.getD (a.length-1) (0,false)).2
noncomputable def lit (a:aB):Bool:=(a.getD 0 (0,false)).2
noncomputable def after (w:ag)(a:aB):List (Nat×aB):=((List.range a.length).map λs=>(s,next w a s)).filter λp=>kept p.2
noncomputable def rB (w:ag):Nat->List aB->List aB->List aB
 |0,_,seen=>seen
 |_,[],seen=>seen
 |n+1,a::todo,seen=>if seen.contains a then rB w n todo seen else rB w n ((after w a).map (·.2)++todo) (seen++[a])
noncomputable def lL (w:ag):List aB:=rB w 200 [aV w] []
noncomputable def nW (w:ag):Nat->List (aB×aB)->List (aB×aB)->List (aB×aB)
 |0,_,seen=>seen
 |_,[],seen=>seen
 |n+1,p::todo,seen=>if seen.contains p then nW w n todo seen else nW w n ((after w p.2).map (λq=>(next w p.1 q.1,q.2))++todo) (seen++[p])
noncomputable def x9 (w:ag):List (aB×aB):=nW w 400 ((lL w).filter lit |>.map λa=>(a,aV w)) []
noncomputable def i7 (w:ag)(R:List (aB×aB)):Bool:=
 R.all λp=>p.1.length==p.2.length&&(lit p.1||!lit p.2)&&(List.range p.2.length).all λs=>!kept (next w p.2 s)||(kept (next w p.1 s)&&R.contains (next w p.1 s,next w p.2 s))
noncomputable def o5 (w:ag)(S:List aB)(R:List (aB×aB)):Bool:=S.contains (aV w)&&S.all λa=>(!lit a||R.contains (a,aV w))&&(List.range a.length).all λs=>!kept (next w a s)||S.contains (next w a s)
noncomputable def dF:ae:=[[0],[1],[2]]++([0,1,2].flatMap λa=>[0,1,2].map λb=>[a,b])
theorem rC:(dF.all λw=>i7 w (x9 w)&&o5 w (lL w) (x9 w))=true:=by decide +kernel
noncomputable def bF (w:ag):Nat->aB->Nat
 |0,a=>if lit a then 1 else 0
 |n+1,a=>((List.range a.length).map λs=>if kept (next w a s) then bF w n (next w a s) else 0).sum
theorem lM (w:ag)(n:Nat)(a:aB):bF w (n+1) a=((List.range a.length).map λs=>if kept (next w a s) then bF w n (next w a s) else 0).sum:=rfl
noncomputable def one (m:Nat):Nat:=has m 0+has m 1
noncomputable def row (w:ag):List Nat->aB->Bool
 |[],a=>lit a
 |s::r,a=>decide (s<a.length)&&kept (next w a s)&&row w r (next w a s)
noncomputable def dG (l:List Nat):Nat:=(l.map one).sum
theorem rD {α:Type}{f g:α->Nat}:∀{l:List α},(∀x∈l,f x<=g x)->(l.map f).sum<=(l.map g).sum
 |[],_=>aw5 _
 |x::r,h=>by
  rw[ax2,ax2,aB6,aB6];exact Nat.add_le_add (h x av5) (rD λy hy=>h y (aw4 _ hy))
theorem xA {α:Type}{f:α->Nat}(c:Nat):∀{l:List α},(l.map f).sum*c=(l.map λx=>f x*c).sum
 |[]=>by simp
 |x::r=>by rw[ax2,ax2,aB6,aB6,Nat.add_mul,xA c]
section
variable {w:ag}{S:List aB}{R:List (aB×aB)}
theorem xB (g:i7 w R=true):∀(n:Nat) {x y:aB},(x,y)∈R->bF w n y<=bF w n x
 |0,x,y,h=>by
  have q:=ax0.mp g _ h;simp only[aw7,aC5]at q;unfold bF;rcases q.1.2 with z|z
  ·rw[if_pos z];split<;>omega
  ·rw[if_neg (by simpa using z)];omega
 |n+1,x,y,h=>by
  have q:=ax0.mp g _ h;simp only[aw7]at q;have hl:x.length=y.length:=by simpa using q.1.1
  unfold bF;rw[hl];refine rD λs hs=>?_
  have k:=ax0.mp q.2 s hs;simp only[aC5,aw7]at k;rcases k with z|⟨z1,z2⟩
  ·rw[if_neg (by simpa using z)];omega
  ·rw[if_pos z1]
   split
   ·exact xB g n (by simpa using z2)
   ·omega
theorem xC (g:i7 w R=true)(c:o5 w S R=true)(n:Nat):∀(m:Nat) {a:aB},a∈S->bF w m a*bF w n (aV w)<=bF w (m+n) a
 |0,a,h=>by
  have q:=ax0.mp (aB5.mp c).2 _ h;simp only[aw7,aC5]at q;show (if lit a then 1 else 0)*_<=_;rw[Nat.zero_add];rcases q.1 with z|z
  ·rw[if_neg (by simpa using z)];omega
  ·split
   ·rw[Nat.one_mul];exact xB g n (by simpa using z)
   ·omega
 |m+1,a,h=>by
  have q:=ax0.mp (aB5.mp c).2 _ h;simp only[aw7]at q;rw[show m+1+n=(m+n)+1 by omega,lM,lM,xA];refine rD λs hs=>?_
  have k:=ax0.mp q.2 s hs;simp only[aC5]at k;rcases k with z|z
  ·rw[if_neg (by simpa using z)];omega
  ·split
   ·exact xC g c n m (by simpa using z)
   ·omega
theorem ah2 (h:w∈dF)(m n:Nat):bF w m (aV w)*bF w n (aV w)<=bF w (m+n) (aV w):=by
 have q:=ax0.mp rC w h;rw[aw7]at q;exact xC q.1 q.2 n m (by have:=(aB5.mp q.2).1;simpa using this)
theorem xD (g:i7 w R=true):∀(l:List Nat) {x y:aB},(x,y)∈R->row w l y=true->row w l x=true
 |[],x,y,h,e=>by
  have q:=ax0.mp g _ h;simp only[aw7,aC5]at q;have e:lit y=true:=e;rcases q.1.2 with z|z
  ·exact z
  ·rw[e]at z;cases z
 |s::r,x,y,h,e=>by
  have q:=ax0.mp g _ h;simp only[aw7]at q;have hl:x.length=y.length:=by simpa using q.1.1
  unfold row at e ⊢;simp only[aw7,aA0]at e ⊢;have k:=ax0.mp q.2 s (aB7.mpr e.1.1);simp only[aC5,aw7]at k;rcases k with z|⟨z1,z2⟩
  ·rw[e.1.2]at z;cases z
  ·exact⟨⟨by rw[hl];exact e.1.1,z1⟩,xD g r (by simpa using z2) e.2⟩
theorem xE (g:i7 w R=true)(c:o5 w S R=true){l':List Nat}(e':row w l' (aV w)=true):∀(l:List Nat) {a:aB},a∈S->row w l a=true->row w (l++l') a=true
 |[],a,h,e=>by
  have q:=ax0.mp (aB5.mp c).2 _ h;simp only[aw7,aC5]at q;have e:lit a=true:=e;rcases q.1 with z|z
  ·rw[e]at z;cases z
  ·exact xD g l' (by simpa using z) e'
 |s::r,a,h,e=>by
  have q:=ax0.mp (aB5.mp c).2 _ h;simp only[aw7]at q;show row w (s::(r++l')) a=true;unfold row at e ⊢;simp only[aw7,aA0]at e ⊢;have k:=ax0.mp q.2 s (aB7.mpr e.1.1);simp only[aC5]at k;refine⟨e.1,?_⟩;rcases k with z|z
  ·rw[e.1.2]at z;cases z
  ·exact xE g c e' r (by simpa using z) e.2
theorem rE (l l':List Nat):dG (l++l')=dG l+dG l':=by unfold dG;rw[ay0,List.sum_append]
theorem ah3 (h:w∈dF){l l':List Nat}(e:row w l (aV w)=true)(e':row w l' (aV w)=true):row w (l++l') (aV w)=true:=by
 have q:=ax0.mp rC w h;rw[aw7]at q;exact xE q.1 q.2 e' l (by have:=(aB5.mp q.2).1;simpa using this) e
end
section
variable {β:Type}
noncomputable def bW (ps:List (aB×β))(k:aB):Option β:=(ps.find? λp=>decide (p.1=k)).map (·.2)
noncomputable def d6 (ps:List (aB×β))(k:aB)(x:β):List (aB×β):=if (ps.any λp=>decide (p.1=k))=true then ps.map (λp=>if p.1=k then (p.1,x) else p) else ps++[(k,x)]
noncomputable def cO (J:β->β->β)(ps:List (aB×β))(k:aB)(z:β):List (aB×β):=d6 ps k (match bW ps k with|none=>z|some w=>J w z)
noncomputable def eO (w:ag)(passed:β->Nat->β)(J:β->β->β)(later:List (aB×β))(p:aB×β):List (aB×β):=(after w p.1).foldl (λl q=>cO J l q.2 (passed p.2 q.1)) later
noncomputable def rG (w:ag)(passed:β->Nat->β)(J:β->β->β)(ps:List (aB×β)):List (aB×β):=ps.foldl (eO w passed J) []
noncomputable def bZ (w:ag)(passed:β->Nat->β)(J:β->β->β)(first:β):Nat->List (aB×β)
 |0=>[(aV w,first)]
 |n+1=>rG w passed J (bZ w passed J first n)
theorem ah4 {ps:List (aB×β)}{k:aB}{x:β}:(d6 ps k x).map (·.1)=if (ps.any λp=>decide (p.1=k))=true then ps.map (·.1) else ps.map (·.1)++[k]:=by
 unfold d6;split
 ·rw[aC2]
  refine List.map_congr_left λp _=>?_
  show (if p.1=k then (p.1,x) else p).1=p.1;split<;>rfl
 ·rw[ay0];rfl
theorem xF {ps:List (aB×β)}{k:aB}{x:β}(h:(ps.map (·.1)).Nodup):((d6 ps k x).map (·.1)).Nodup:=by
 rw[ah4];split
 ·exact h
 ·rename_i n
  rw[List.nodup_append];refine⟨h,by simp,λa ha b hb=>?_⟩;obtain rfl:=aw2.mp hb;rintro rfl
  obtain⟨p,hp,e⟩:=aA9.mp ha
  exact n (List.any_eq_true.mpr ⟨p,hp,by simpa using e⟩)
theorem xG {J:β->β->β}{ps:List (aB×β)}{k:aB}{z:β}(h:(ps.map (·.1)).Nodup):((cO J ps k z).map (·.1)).Nodup:=xF h
end
noncomputable def wt (f:aB->Nat)(ps:List (aB×Nat)):Nat:=(ps.map λp=>p.2*f p.1).sum
theorem rH (f:aB->Nat)(p:aB×Nat)(r:List (aB×Nat)):wt f (p::r)=p.2*f p.1+wt f r:=rfl
theorem ah5 (f:aB->Nat)(l r:List (aB×Nat)):wt f (l++r)=wt f l+wt f r:=by unfold wt;rw[ay0,List.sum_append]
theorem ah6 {ps:List (aB×Nat)}{k:aB}{x:Nat}(h:k∉ps.map (·.1)):(ps.map λp=>if p.1=k then (p.1,x) else p)=ps:=by
 conv=>rhs;rw[<- List.map_id ps]
 refine List.map_congr_left λp hp=>?_
 have ne:¬p.1=k:=λe=>h (by rw[<- e];exact List.mem_map_of_mem hp)
 rw[if_neg ne];rfl
theorem xH (f:aB->Nat){k:aB}{z:Nat}:∀{ps:List (aB×Nat)}{v:Nat},(ps.map (·.1)).Nodup->bW ps k=some v->wt f (ps.map λp=>if p.1=k then (p.1,v+z) else p)=wt f ps+z*f k
 |[],v,_,e=>by simp[bW]at e
 |p::r,v,n,e=>by
  rw[ax2,aA3]at n;rw[ax2,rH,rH];by_cases h:p.1=k
  ·have ev:p.2=v:=by simpa[bW,az0,h] using e
   rw[if_pos h,ah6 (by rw[<- h];exact n.1),ev,<- h];show (v+z)*f p.1+wt f r=v*f p.1+wt f r+z*f p.1;rw[Nat.add_mul];omega
  ·have ev:bW r k=some v:=by simpa[bW,az0,h] using e
   rw[if_neg h,xH f n.2 ev];omega
theorem ah7 (f:aB->Nat){k:aB}{z:Nat}{ps:List (aB×Nat)}(n:(ps.map (·.1)).Nodup):wt f (cO (·+·) ps k z)=wt f ps+z*f k:=by
 unfold cO d6;cases e:bW ps k with
 |none=>
  have no:¬(ps.any λp=>decide (p.1=k))=true:=λh=>by
   obtain⟨p,hp,q⟩:=List.any_eq_true.mp h
   have:(ps.find? λp=>decide (p.1=k))=none:=by simpa[bW] using e
   rw[List.find?_eq_none]at this;exact this p hp q
  rw[if_neg no,ah5];show wt f ps+(z*f k+0)=_;omega
 |some v=>
  have yes:(ps.any λp=>decide (p.1=k))=true:=by
   obtain⟨p,hp,_⟩:=Option.map_eq_some_iff.mp e
   exact List.any_eq_true.mpr ⟨p,aC6 hp,by have:=List.find?_some hp;simpa using this⟩
  rw[if_pos yes];exact xH f n e
theorem xI (w:ag)(f:aB->Nat)(v:Nat):∀(qs:List (Nat×aB)) {l:List (aB×Nat)},(l.map (·.1)).Nodup->(((qs.foldl (λl q=>cO (·+·) l q.2 v) l).map (·.1)).Nodup/\wt f (qs.foldl (λl q=>cO (·+·) l q.2 v) l)=wt f l+v*(qs.map λq=>f q.2).sum)
 |[],l,n=>⟨n,by simp⟩
 |q::r,l,n=>by
  obtain⟨h1,h2⟩:=xI w f v r (xG (J:=(·+·)) (k:=q.2) (z:=v) n)
  refine⟨h1,?_⟩;rw[List.foldl_cons,h2,ah7 f n,ax2,aB6,Nat.mul_add];omega
theorem xJ (w:ag)(f:aB->Nat):∀(ps:List (aB×Nat)) {l:List (aB×Nat)},(l.map (·.1)).Nodup->(((ps.foldl (eO w (λv _=>v) (·+·)) l).map (·.1)).Nodup/\wt f (ps.foldl (eO w (λv _=>v) (·+·)) l)=wt f l+wt (λa=>((after w a).map λq=>f q.2).sum) ps)
 |[],l,n=>⟨n,by show _=_+0;simp⟩
 |p::r,l,n=>by
  obtain⟨g1,g2⟩:=xI w f p.2 (after w p.1) n
  obtain⟨h1,h2⟩:=xJ w f r g1
  refine⟨h1,?_⟩;rw[List.foldl_cons,rH];have e:eO w (λv _=>v) (·+·) l p=(after w p.1).foldl (λl q=>cO (·+·) l q.2 p.2) l:=rfl;rw[e,h2,g2];omega
theorem rJ {α:Type}(p:α->Bool)(f:α->Nat):∀l:List α,((l.filter p).map f).sum=(l.map λx=>if p x then f x else 0).sum
 |[]=>rfl
 |x::r=>by
  rw[List.filter_cons,ax2,aB6,<- rJ p f r];split
  ·rw[ax2,aB6]
  ·omega
theorem ah8 (w:ag)(n:Nat)(a:aB):((after w a).map λq=>bF w n q.2).sum=bF w (n+1) a:=by
 unfold after;rw[rJ,lM,aC2];rfl
theorem xK (w:ag):∀(n m:Nat),(((bZ w (λv _=>v) (·+·) 1 n).map (·.1)).Nodup/\wt (bF w m) (bZ w (λv _=>v) (·+·) 1 n)=bF w (n+m) (aV w))
 |0,m=>⟨by simp[bZ],by show 1*bF w m (aV w)+0=_;rw[Nat.zero_add];omega⟩
 |n+1,m=>by
  obtain⟨h1,h2⟩:=xJ w (bF w m) (bZ w (λv _=>v) (·+·) 1 n) (l:=[]) (by simp)
  refine⟨h1,?_⟩;show wt (bF w m) (rG w _ _ _)=_;unfold rG;rw[h2];have e:(λa=>((after w a).map λq=>bF w m q.2).sum)=bF w (m+1):=funext λa=>ah8 w m a
  rw[e,(xK w n (m+1)).2];show 0+_=_;rw[Nat.zero_add,show n+(m+1)=n+1+m by omega]
theorem ah9 (w:ag)(n:Nat):(((bZ w (λv _=>v) (·+·) 1 n).filter λp=>lit p.1).map (·.2)).sum=bF w n (aV w):=by
 have h:=(xK w n 0).2;rw[Nat.add_zero]at h;rw[<- h,rJ];unfold wt;refine congrArg List.sum (List.map_congr_left λp _=>?_);show (if lit p.1 then p.2 else 0)=p.2*(if lit p.1 then 1 else 0);split<;>omega
noncomputable def gF (w:ag):List Nat->aB->Option aB
 |[],a=>some a
 |s::r,a=>if s<a.length/\kept (next w a s)=true then gF w r (next w a s) else none
theorem rK (w:ag)(l':List Nat):∀(l:List Nat) (a:aB),gF w (l++l') a=(gF w l a).bind (gF w l')
 |[],a=>rfl
 |s::r,a=>by
  show (if _ then _ else _)=(if _ then _ else _:Option aB).bind _;split
  ·exact rK w l' r _
  ·rfl
theorem xL (w:ag)(s:Nat)(a b:aB):gF w [s] a=some b↔(s,b)∈after w a:=by
 show (if _ then some (next w a s) else none)=some b↔_;unfold after;rw[List.mem_filter,aA9];constructor
 ·intro h
  split at h
  ·rename_i c
   cases h
   exact⟨⟨s,aB7.mpr c.1,rfl⟩,c.2⟩
  ·cases h
 ·rintro⟨⟨t,ht,e⟩,k⟩
  cases e;rw[if_pos ⟨aB7.mp ht,k⟩]
theorem rL (w:ag):∀(l:List Nat) (a:aB),row w l a=true↔∃b,gF w l a=some b/\lit b=true
 |[],a=>⟨λh=>⟨a,rfl,h⟩,λ⟨b,e,h⟩=>by cases e;exact h⟩
 |s::r,a=>by
  unfold row gF;rw[aw7,aw7,aA0,rL w r];constructor
  ·rintro⟨c,b,e,h⟩
   exact⟨b,by rw[if_pos c];exact e,h⟩
  ·rintro⟨b,e,h⟩
   split at e
   ·rename_i c;exact⟨c,b,e,h⟩
   ·cases e
noncomputable abbrev PR:=Nat×List Nat
structure gU (J:PR->PR->PR):Prop where
 or:∀x y,J x y=x∨J x y=y
 l:∀x y,(J x y).1<=x.1
 r:∀x y,(J x y).1<=y.1
noncomputable def pass (p:PR)(s:Nat):PR:=(p.1+one s,p.2++[s])
noncomputable def j3 (C:aB->PR->Prop)(ps:List (aB×PR)):Prop:=∀b v,(b,v)∈ps->C b v
noncomputable def j4 (C:aB->PR->Prop)(ps:List (aB×PR)):Prop:=∀b v,C b v->∃u,(b,u)∈ps/\u.1<=v.1
section
variable {J:PR→PR→PR}{C D:aB→PR→Prop}{k b:aB}{z u:PR}{ps:List (aB×PR)}
theorem xM {x:PR}(h:(b,u)∈d6 ps k x):(b=k/\u=x)∨(b,u)∈ps:=by
 unfold d6 at h;split at h
 ·obtain⟨p,hp,e⟩:=aA9.mp h
  split at e
  ·rename_i c;cases e;exact .inl ⟨c,rfl⟩
  ·subst e;exact .inr hp
 ·rcases az8.mp h with h|h
  ·exact .inr h
  ·have:=aw2.mp h;cases this;exact .inl ⟨rfl,rfl⟩
theorem rM (ps:List (aB×PR))(k:aB)(x:PR):(k,x)∈d6 ps k x:=by
 unfold d6;split
 ·rename_i h
  obtain⟨p,hp,e⟩:=List.any_eq_true.mp h
  have e:p.1=k:=by simpa using e
  exact aA9.mpr ⟨p,hp,by rw[if_pos e,e]⟩
 ·exact ax4 _ (by simp)
theorem xN {x:PR}(n:b≠k)(h:(b,u)∈ps):(b,u)∈d6 ps k x:=by
 unfold d6;split
 ·exact aA9.mpr ⟨(b,u),h,by rw[if_neg n]⟩
 ·exact az5 _ h
theorem ai0 {w:PR}(h:bW ps k=some w):(k,w)∈ps:=by
 unfold bW at h
 obtain⟨p,hp,e⟩:=Option.map_eq_some_iff.mp h
 have h1:=aC6 hp;have h2:p.1=k:=by have:=List.find?_some hp;simpa using this
 subst e h2;exact h1
theorem xO (n:(ps.map (·.1)).Nodup)(h:(k,u)∈ps):bW ps k=some u:=by
 induction ps with
 |nil=>cases h
 |cons p r ih=>
  rw[ax2,aA3]at n;unfold bW;rw[az0];rcases aw6.mp h with h|h
  ·subst h;simp
  ·have ne:¬p.1=k:=λe=>n.1 (by rw[e];exact List.mem_map_of_mem (f:=(·.1)) h)
   rw[aw1 ne];exact ih n.2 h
theorem ai1 (P:gU J)(n:(ps.map (·.1)).Nodup)(s:j3 C ps)(c:j4 C ps):j3 (λb v=>C b v∨(b=k/\v=z)) (cO J ps k z)/\j4 (λb v=>C b v∨(b=k/\v=z)) (cO J ps k z):=by
 unfold cO;cases e:bW ps k with
 |none=>
  refine⟨λb v h=>?_,λb v h=>?_⟩
  ·rcases xM h with⟨rfl,rfl⟩|h
   ·exact .inr ⟨rfl,rfl⟩
   ·exact .inl (s b v h)
  ·rcases h with h|⟨rfl,rfl⟩
   ·obtain⟨u,hu,l⟩:=c b v h
    have nb:b≠k:=λq=>by subst q;rw[xO n hu]at e;cases e
    exact⟨u,xN nb hu,l⟩
   ·exact⟨_,rM ps _ _,aw5 _⟩
 |some w=>
  have hw:=ai0 e;refine⟨λb v h=>?_,λb v h=>?_⟩
  ·rcases xM h with⟨rfl,rfl⟩|h
   ·rcases P.or w z with q|q
    ·show C b (J w z)∨_
     rw[q];exact .inl (s _ _ hw)
    ·exact .inr ⟨rfl,q⟩
   ·exact .inl (s b v h)
  ·rcases h with h|⟨rfl,rfl⟩
   ·obtain⟨u,hu,l⟩:=c b v h
    by_cases q:b=k
    ·subst q
     rw[xO n hu]at e;cases e
     exact⟨_,rM ps _ _,ay7 (P.l _ _) l⟩
    ·exact⟨u,xN q hu,l⟩
   ·exact⟨_,rM ps _ _,P.r w v⟩
theorem xP (P:gU J)(v:PR):∀(qs:List (Nat×aB)) {ps:List (aB×PR)}{C:aB->PR->Prop},(ps.map (·.1)).Nodup->j3 C ps->j4 C ps->
  ((qs.foldl (λl q=>cO J l q.2 (pass v q.1)) ps).map (·.1)).Nodup/\j3 (λb u=>C b u∨∃s,(s,b)∈qs/\u=pass v s) (qs.foldl (λl q=>cO J l q.2 (pass v q.1)) ps)/\j4 (λb u=>C b u∨∃s,(s,b)∈qs/\u=pass v s) (qs.foldl (λl q=>cO J l q.2 (pass v q.1)) ps)
 |[],ps,C,n,s,c=>⟨n,λb u h=>.inl (s b u h),λb u h=>c b u (h.elim id λ⟨_,z,_⟩=>by cases z)⟩
 |q::r,ps,C,n,s,c=>by
  obtain⟨s1,c1⟩:=ai1 (k:=q.2) (z:=pass v q.1) P n s c
  obtain⟨h1,h2,h3⟩:=xP P v r (xG (J:=J) (k:=q.2) (z:=pass v q.1) n) s1 c1
  refine⟨h1,λb u h=>?_,λb u h=>?_⟩
  ·rcases h2 b u h with (h|⟨rfl,e⟩)|⟨t,ht,e⟩
   ·exact .inl h
   ·exact .inr ⟨q.1,av5,e⟩
   ·exact .inr ⟨t,aw4 _ ht,e⟩
  ·refine h3 b u ?_
   rcases h with h|⟨t,ht,e⟩
   ·exact .inl (.inl h)
   ·rcases aw6.mp ht with z|z
    ·subst z;exact .inl (.inr ⟨rfl,e⟩)
    ·exact .inr ⟨t,z,e⟩
theorem xQ (P:gU J)(w:ag):∀(vs:List (aB×PR)) {ps:List (aB×PR)}{C:aB->PR->Prop},(ps.map (·.1)).Nodup->j3 C ps->j4 C ps->
  ((vs.foldl (eO w pass J) ps).map (·.1)).Nodup/\j3 (λb u=>C b u∨∃a v s,(a,v)∈vs/\(s,b)∈after w a/\u=pass v s) (vs.foldl (eO w pass J) ps)/\j4 (λb u=>C b u∨∃a v s,(a,v)∈vs/\(s,b)∈after w a/\u=pass v s) (vs.foldl (eO w pass J) ps)
 |[],ps,C,n,s,c=>⟨n,λb u h=>.inl (s b u h),λb u h=>c b u (h.elim id λ⟨_,_,_,z,_⟩=>by cases z)⟩
 |p::r,ps,C,n,s,c=>by
  obtain⟨n1,s1,c1⟩:=xP P p.2 (after w p.1) n s c
  obtain⟨h1,h2,h3⟩:=xQ P w r n1 s1 c1
  refine⟨h1,λb u h=>?_,λb u h=>?_⟩
  ·rcases h2 b u h with (h|⟨t,ht,e⟩)|⟨a,v,t,hv,ht,e⟩
   ·exact .inl h
   ·exact .inr ⟨p.1,p.2,t,av5,ht,e⟩
   ·exact .inr ⟨a,v,t,aw4 _ hv,ht,e⟩
  ·refine h3 b u ?_
   rcases h with h|⟨a,v,t,hv,ht,e⟩
   ·exact .inl (.inl h)
   ·rcases aw6.mp hv with z|z
    ·subst z;exact .inl (.inr ⟨t,ht,e⟩)
    ·exact .inr ⟨a,v,t,z,ht,e⟩
theorem ai2 {l:List Nat}(h:l≠[]):dG l=dG l.dropLast+one (l.getLast h):=by
 have e:dG (l.dropLast++[l.getLast h])=dG l.dropLast+one (l.getLast h):=by
  rw[rE];show _+(one (l.getLast h)+0)=_;rw[Nat.add_zero]
 rwa [List.dropLast_concat_getLast h]at e
noncomputable def xR (w:ag)(n:Nat)(b:aB)(v:PR):Prop:=v.2.length=n/\gF w v.2 (aV w)=some b/\v.1=dG v.2
theorem xS (P:gU J)(w:ag):∀n,((bZ w pass J (0,[]) n).map (·.1)).Nodup/\j3 (xR w n) (bZ w pass J (0,[]) n)/\j4 (xR w n) (bZ w pass J (0,[]) n)
 |0=>⟨by simp[bZ],λb v h=>(by
   have e:(b,v)=(aV w,(0,[])):=aw2.mp h
   cases e;exact⟨rfl,rfl,rfl⟩),λb v ⟨h1,h2,h3⟩=>(by
   have e:v.2 = []:=List.eq_nil_of_length_eq_zero h1;rw[e]at h2;cases h2
   exact⟨(0,[]),aw2.mpr rfl,aG0 _⟩)⟩
 |n+1=>by
  obtain⟨_,s0,c0⟩:=xS P w n
  obtain⟨h1,h2,h3⟩:=xQ P w (bZ w pass J (0,[]) n) (ps:=[]) (C:=λ_ _=>False) (by simp) (λ_ _ h=>by cases h) (λ_ _ h=>h.elim)
  refine⟨h1,λb u h=>?_,λb u ⟨g1,g2,g3⟩=>?_⟩
  ·rcases h2 b u h with z|⟨a,v,t,hv,ht,rfl⟩
   ·exact z.elim
   ·obtain⟨e1,e2,e3⟩:=s0 a v hv
    refine⟨by show (v.2++[t]).length=_;rw[ay1,e1];rfl,?_,?_⟩
    ·show gF w (v.2++[t]) (aV w)=_
     rw[rK,e2];exact (xL w t a b).mpr ht
    ·show v.1+one t=dG (v.2++[t])
     rw[rE,e3];unfold dG;simp
  ·have nz:u.2≠[]:=λz=>by rw[z]at g1;cases g1
   have sp:u.2=u.2.dropLast++[u.2.getLast nz]:=(List.dropLast_concat_getLast nz).symm;rw[sp,rK]at g2;cases e:gF w u.2.dropLast (aV w) with
   |none=>rw[e]at g2;cases g2
   |some a=>
    rw[e]at g2;have ht:=(xL w _ a b).mp g2
    obtain⟨v,hv,lv⟩:=c0 a (dG u.2.dropLast,u.2.dropLast) ⟨by rw[List.length_dropLast,g1];rfl,e,rfl⟩
    obtain⟨x,hx,lx⟩:=h3 b (pass v (u.2.getLast nz)) (.inr ⟨a,v,_,hv,ht,rfl⟩)
    refine⟨x,hx,ay7 lx ?_⟩
    have:u.1=dG u.2.dropLast+one (u.2.getLast nz):=by rw[g3,ai2 nz]
    show v.1+_<=_;rw[this];exact Nat.add_le_add_right lv _
end
noncomputable def fH {β:Type}(J:β->β->β):Option β->β->Option β
 |none,z=>some z
 |some w,z=>some (J w z)
noncomputable def fJ {β:Type}(J:β->β->β)(ps:List (aB×β)):Option β:=(ps.filter λp=>lit p.1).foldl (λacc p=>fH J acc p.2) none
section
variable {J:PR→PR→PR}
theorem xT (P:gU J):∀(l:List (aB×PR)) (acc:Option PR),(∀v,l.foldl (λacc p=>fH J acc p.2) acc=some v->acc=some v∨∃b,(b,v)∈l)/\
  (∀u,(acc=some u∨∃b,(b,u)∈l)->∃v,l.foldl (λacc p=>fH J acc p.2) acc=some v/\v.1<=u.1)
 |[],acc=>⟨λv h=>.inl h,λu h=>h.elim (λe=>⟨u,e,aw5 _⟩) λ⟨_,z⟩=>by cases z⟩
 |p::r,acc=>by
  obtain⟨h1,h2⟩:=xT P r (fH J acc p.2)
  refine⟨λv h=>?_,λu h=>?_⟩
  ·rcases h1 v h with e|⟨b,hb⟩
   ·cases acc with
    |none=>
     have e:p.2=v:=ax7 e;exact .inr ⟨p.1,by rw[<- e];exact av5⟩
    |some w=>
     have e:J w p.2=v:=ax7 e;rcases P.or w p.2 with q|q
     ·exact .inl (by rw[<- e,q])
     ·exact .inr ⟨p.1,by rw[<- e,q];exact av5⟩
   ·exact .inr ⟨b,aw4 _ hb⟩
  ·rcases h with e|⟨b,hb⟩
   ·subst e
    obtain⟨v,hv,lv⟩:=h2 (J u p.2) (.inl rfl)
    exact⟨v,hv,ay7 lv (P.l u p.2)⟩
   ·rcases aw6.mp hb with z|z
    ·subst z
     cases acc with
     |none=>exact h2 u (.inl rfl)
     |some w=>
      obtain⟨v,hv,lv⟩:=h2 (J w u) (.inl rfl)
      exact⟨v,hv,ay7 lv (P.r w u)⟩
    ·exact h2 u (.inr ⟨b,z⟩)
theorem o6 (P:gU J)(w:ag)(n:Nat):(∀v,fJ J (bZ w pass J (0,[]) n)=some v->v.2.length=n/\row w v.2 (aV w)=true/\v.1=dG v.2)/\
  ∀l,l.length=n->row w l (aV w)=true->∃v,fJ J (bZ w pass J (0,[]) n)=some v/\v.1<=dG l:=by
 obtain⟨_,s,c⟩:=xS P w n
 obtain⟨h1,h2⟩:=xT P ((bZ w pass J (0,[]) n).filter λp=>lit p.1) none
 refine⟨λv h=>?_,λl hl hr=>?_⟩
 ·rcases h1 v h with z|⟨b,hb⟩
  ·cases z
  ·obtain⟨hb,lb⟩:=List.mem_filter.mp hb
   obtain⟨e1,e2,e3⟩:=s b v hb
   exact⟨e1,(rL w v.2 _).mpr ⟨b,e2,lb⟩,e3⟩
 ·obtain⟨b,e,lb⟩:=(rL w l _).mp hr
  obtain⟨u,hu,lu⟩:=c b (dG l,l) ⟨hl,e,rfl⟩
  obtain⟨v,hv,lv⟩:=h2 u (.inr ⟨b,List.mem_filter.mpr ⟨hu,lb⟩⟩)
  exact⟨v,hv,ay7 lv lu⟩
theorem ai3 (P:gU J){w:ag}(h:w∈dF){m n:Nat}{x y:PR}(hx:fJ J (bZ w pass J (0,[]) m)=some x)(hy:fJ J (bZ w pass J (0,[]) n)=some y):∃v,fJ J (bZ w pass J (0,[]) (m+n))=some v/\v.1<=x.1+y.1:=by
 obtain⟨a1,a2,a3⟩:=(o6 P w m).1 x hx
 obtain⟨b1,b2,b3⟩:=(o6 P w n).1 y hy
 obtain⟨v,hv,lv⟩:=(o6 P w (m+n)).2 (x.2++y.2) (by rw[ay1,a1,b1]) (ah3 h a2 b2)
 rw[rE]at lv
 exact⟨v,hv,by rw[a3,b3];exact lv⟩
end
noncomputable def lN (w:ag)(n:Nat):List Nat:=List.replicate n (2^w.length-1)
noncomputable def xU (w:ag)(S:List aB):Bool:=S.all λa=>lit a==lit a&&decide (2^w.length-1<a.length)&&kept (next w a (2^w.length-1))&&lit (next w a (2^w.length-1))&&S.contains (next w a (2^w.length-1))
theorem xV {w:ag}{S:List aB}(f:xU w S=true):∀(n:Nat) {a:aB},a∈S->(n=0->lit a=true)->row w (lN w n) a=true
 |0,a,_,h0=>h0 rfl
 |n+1,a,h,_=>by
  have q:=ax0.mp f _ h;simp only[aw7]at q;show row w ((2^w.length-1)::lN w n) a=true;unfold row;rw[aw7,aw7]
  exact⟨⟨q.1.1.1.2,q.1.1.2⟩,xV f n (by simpa using q.2) λ_=>q.1.2⟩
theorem ai4:((dF++[[3],[4],[5],[6]]).all λw=>xU w (lL w)&&(lL w).contains (aV w)&&lit (aV w))=true:=by decide +kernel
theorem rO {w:ag}(h:w∈dF++[[3],[4],[5],[6]])(n:Nat):row w (lN w n) (aV w)=true/\(lN w n).length=n:=by
 have q:=ax0.mp ai4 w h;simp only[aw7]at q
 exact⟨xV q.1.1 n (by simpa using q.1.2) λ_=>q.2,List.length_replicate⟩
theorem xW {x:Nat}:∀{l:List Nat},x∈l->x<=l.sum
 |[],h=>by cases h
 |y::r,h=>by
  rw[aB6];rcases aw6.mp h with rfl|h
  ·omega
  ·have:=xW h;omega
theorem xX (w:ag):∀(l:List Nat) (a:aB),row w l a=true->1<=bF w l.length a
 |[],a,h=>by show 1<=if lit a then 1 else 0;rw[if_pos (show lit a=true from h)];omega
 |s::r,a,h=>by
  unfold row at h;rw[aw7,aw7,aA0]at h;show 1<=bF w (r.length+1) a;rw[lM];have q:=xX w r _ h.2;have m:(if kept (next w a s) then bF w r.length (next w a s) else 0)∈(List.range a.length).map λs=>if kept (next w a s) then bF w r.length (next w a s) else 0:=aA9.mpr ⟨s,aB7.mpr h.1.1,rfl⟩
  rw[if_pos h.1.2]at m;exact ay7 q (xW m)
theorem xY:∀(l:List (aB×Nat)) (acc:Option Nat),l.foldl (λacc p=>fH (·+·) acc p.2) acc=if acc=none/\l = [] then none else some (acc.getD 0+(l.map (·.2)).sum)
 |[],none=>rfl
 |[],some v=>by rw[if_neg (by simp)];rfl
 |p::r,acc=>by
  rw[List.foldl_cons,xY r];cases acc with
  |none=>
   rw[if_neg (by simp[fH]),if_neg (by simp)];rw[ax2,aB6];show some (p.2+_)=some (0+(p.2+_));rw[Nat.zero_add]
  |some v=>
   rw[if_neg (by simp[fH]),if_neg (by simp)];rw[ax2,aB6];show some ((v+p.2)+_)=some (v+(p.2+_));rw[Nat.add_assoc]
theorem rQ {w:ag}(h:w∈dF++[[3],[4],[5],[6]])(n:Nat):fJ (·+·) (bZ w (λv _=>v) (·+·) 1 n)=some (bF w n (aV w)):=by
 have c:=ah9 w n;have p:1<=bF w n (aV w):=by
  have q:=xX w _ _ (rO h n).1;rw[(rO h n).2]at q;exact q
 unfold fJ;rw[xY,if_neg]
 ·rw[c];show some (0+_)=_;rw[Nat.zero_add]
 ·rintro⟨_,e⟩
  rw[e]at c;rw[<- c]at p;exact absurd p (by decide)
end Strip
namespace PP
open PySem L2
noncomputable abbrev gV (k:List (Int×Bool)):PV:=.tup (k.map λq=>.tup [.int q.1,.bl q.2])
noncomputable def lO (k:Int)(y:PV):Prop:=y = .int k∨∃b:Bool,y = .bl b/\k=if b then 1 else 0
theorem o7 {K:ad}{M:ax->Prop}{H:Hp}{v:V}{k:List (Int×Bool)}(r:aE K M H v (gV k)):∃b,v = .ref b/\dJ H k b:=by
 generalize e:gV k=x at r;cases r with
 |tup h r=>
  cases e;refine⟨_,rfl,_,h,?_⟩;clear h
  rename_i us
  induction k generalizing us with
  |nil=>cases r;exact .nil
  |cons p k ih=>
   rw[ax2]at r;cases r with
   |cons r1 t=>
    refine .cons ?_ (ih t);generalize e:PV.tup [PV.int p.1,PV.bl p.2]=z at r1;cases r1 with
    |tup h r2=>
     cases e;cases r2 with
     |cons q1 t1=>
      cases t1 with
      |cons q2 t2=>
       cases t2;cases q1;cases q2
       exact⟨_,rfl,h⟩
    |_=>cases e
 |_=>cases e
theorem lO.rep {K:ad}{M:ax->Prop}{H:Hp}{v:V}{y:PV}{k:Int}(n:lO k y)(r:aE K M H v y):iO k v:=by
 rcases n with rfl|⟨b,rfl,rfl⟩
 ·cases r;exact .inl rfl
 ·cases r;exact .inr ⟨b,rfl,rfl⟩
noncomputable def ai5:PV->PV
 |.fA ps=>.dA ps
 |x=>x
noncomputable def iB (x y:PV)(o:Option PV):Prop:=(∃ps k,ai5 x = .dA ps/\y=gV k/\o=cN ps k)∨∃ps k,x = .dB ps/\lO k y/\o=cN ps k
theorem rR {K:ad}{M M2:ax->Prop}{H:Hp}{v w:V}{x y:PV}{o:Option PV}(h:iB x y o)(rx:aE K M H v x)(ry:aE K M2 H w y):∃a o',v = .ref a/\h9 H a w o'/\(o=none->o'=none)/\∀z,o=some z->∃u,o'=some u/\aE K M H u z:=by
 rcases h with⟨ps,k,ex,rfl,rfl⟩|⟨ps,k,rfl,n,rfl⟩
 ·obtain⟨b,rfl,hb⟩:=o7 ry
  cases rx with
  |dA m h e r=>cases ex;exact⟨_,_,rfl,.inl ⟨_,k,b,.inl h,rfl,hb,rfl⟩,(iT k e r).1,(iT k e r).2⟩
  |fA h e r=>cases ex;exact⟨_,_,rfl,.inl ⟨_,k,b,.inr ⟨_,h⟩,rfl,hb,rfl⟩,(iT k e r).1,(iT k e r).2⟩
  |_=>cases ex
 ·cases rx with
  |dB m h e r=>exact⟨_,_,rfl,.inr ⟨_,k,.inl h,n.rep ry,rfl⟩,(iT k e r).1,(iT k e r).2⟩
section
variable {X:Cx}{σ:L2.St}{H:Hp}{D:cX}{tk td te tv:aG}{Q':VK}
noncomputable def jU (neg:Bool)(tk td:aG):aG:=λρ Q=>tk ρ λy _=>td ρ λx _=>∃o,iB x y o/\Q (.bl (if neg=true then !o.isSome else o.isSome)) .fr
theorem ai6 (h:LE X (jU false tk td) σ H Q'):v7 (LE X tk) (LE X td) σ H Q':=by
 obtain⟨W,ρ,Q,px,q,k⟩:=h
 refine⟨W,ρ,_,px,q,λw H1 y g s r q=>⟨W,ρ,_,px.mono s,q,?_⟩⟩;rintro v H2 x g' s2 r2 ⟨o,ak,q⟩
 obtain⟨a,o',rfl,dg,h1,h2⟩:=rR ak r2 (r.same s2 λ_ z=>z)
 refine⟨a,o',rfl,dg,?_⟩;rw[vU h1 h2];exact k _ _ _ .fr (s.trans s2) (.bl _) q
theorem ai7 (h:LE X (jU true tk td) σ H Q'):v8 (LE X tk) (LE X td) σ H Q':=by
 obtain⟨W,ρ,Q,px,q,k⟩:=h
 refine⟨W,ρ,_,px,q,λw H1 y g s r q=>⟨W,ρ,_,px.mono s,q,?_⟩⟩;rintro v H2 x g' s2 r2 ⟨o,ak,q⟩
 obtain⟨a,o',rfl,dg,h1,h2⟩:=rR ak r2 (r.same s2 λ_ z=>z)
 refine⟨a,o',rfl,dg,?_⟩;rw[vU h1 h2];exact k _ _ _ .fr (s.trans s2) (.bl _) q
noncomputable def gW (td tk:aG):aG:=λρ Q=>td ρ λx g=>tk ρ λy _=>∃z,iB x y (some z)/\Q z g
theorem ai8 (h:LE X (gW td tk) σ H Q'):v6 (LE X td) (LE X tk) σ H Q':=by
 obtain⟨W,ρ,Q,px,q,k⟩:=h
 refine⟨W,ρ,_,px,q,λv H1 x g s r q=>⟨W,ρ,_,px.mono s,q,?_⟩⟩;rintro w H2 y g' s2 r2 ⟨z,ak,q⟩
 obtain⟨a,o',rfl,dg,h1,h2⟩:=rR ak (r.same s2 λ_ z=>z) r2
 obtain⟨u,rfl,ru⟩:=h2 z rfl
 exact⟨a,u,rfl,dg,k _ _ _ g (s.trans s2) ru q⟩
noncomputable def rS (i:Nat)(tk te:aG):aR:=λD ρ=>te ρ λz g=>∃ps,ρ[i]? = some (some (.own (.dA ps)))/\tk ρ λy _=>∃k,y=gV k/\Nw g z/\ps.length<16000000/\D.nx (ρ.set i (some (.own (.dA (dS ps k z)))))
theorem ai9 {i:Nat}(h:LS X (rS i tk te) D σ H):jI (cI i) (LE X tk) (LE X te) D σ H:=by
 obtain⟨W,ρ,D',px,q,k⟩:=h
 refine⟨W,ρ,_,px,q,?_⟩;rintro w H1 z g s rz ⟨ps,hi,q⟩
 obtain⟨v,ev,a,rfl,wa,kvs,ea,e1,r⟩:=(px.mono s).sl i _ hi
 refine⟨_,ev,W,ρ,_,px.mono s,q,?_⟩;rintro kv H2 y g' s2 ry ⟨kk,rfl,nw,hl,q⟩
 obtain⟨b,rfl,hb⟩:=o7 ry
 have ea2:=s2 _ _ ea;refine⟨a,_,rfl,.inl ⟨_,kk,b,ea2,rfl,hb,iN (by rw[jR e1];omega),rfl⟩,?_⟩
 obtain⟨h1,h2⟩:=qB kk ((Nw.rep px nw rz).same s2 λ_ z=>z) e1 (r.same s2 λ_ z=>z)
 exact k.nx W σ _ _ ((Ev.same (s.trans s2)).trans (Ev.upd wa)) ((px.mono (s.trans s2)).updOwn hi ev wa rfl (y:=.dA (dS ps kk z)) ⟨_,bI,h1,h2.keep (.upd ea2 rfl λb m=>⟨hG wa m,m⟩)⟩) q
theorem aj0 (h:LE X (qC (.dA [])) σ H Q'):v9 σ H Q':=by
 obtain⟨W,ρ,Q,px,q,k⟩:=h
 exact λp hp=>k _ _ _ .fr (cT hp _) (.dA hp bI rfl .nil) q
theorem aj1 (h:LE X (qC (.dB [])) σ H Q'):vA σ H Q':=by
 obtain⟨W,ρ,Q,px,q,k⟩:=h
 exact λp hp=>k _ _ _ .fr (cT hp _) (.dB hp bI rfl .nil) q
noncomputable def rT (tk tv:aG):aG:=λρ Q=>tk ρ λy _=>tv ρ λz _=>flat z=true/\∃k,y=gV k/\Q (.dA [(k,z)]) .fr
theorem aj2 (h:LE X (rT tk tv) σ H Q'):vB (LE X tk) (LE X tv) σ H Q':=by
 obtain⟨W,ρ,Q,px,q,k⟩:=h
 intro p hp;have s0:aI H (upd H p (.dA [])):=cT hp _;refine⟨W,ρ,_,px.mono s0,q,λw H1 y g s r q=>⟨W,ρ,_,(px.mono s0).mono s,q,?_⟩⟩;rintro v H2 z g' s2 rz ⟨fl,kk,rfl,q2⟩;have ep:H2 p=some (.dA []):=s2 _ _ (s _ _ bI)
 obtain⟨b,rfl,nb⟩:=o7 r
 have nb2:dJ H2 kk b:=nb.keeps λc xs e=>s2 _ _ e
 refine⟨ep,b,kk,rfl,nb2,?_⟩;have tot:aI H (upd H2 p (.dA [(kk,v)])):=λc o e=>by
  rw[aK (λz=>by rw[z,hp]at e;cases e)];exact s2 _ _ (s _ _ (s0 _ _ e))
 refine k _ _ _ .fr tot (.dA (ps:=[(kk,z)]) hp bI rfl (.cons ?_ .nil)) q2;exact (rz.flat (M':=λ_=>False) fl).keep (.upd ep rfl λ_ z=>z.elim)
end
section
variable {X:Cx}{a b e ke:Expr}{pos:Pos}{ta tb te tk tv:aG}
theorem eQ (hu:X.A.units+16<cLine)(ha:QE X a ta)(hb:QE X b tb)(hs:pE b:=by exact λ_ _=>rfl):QE X (.Subscript a b pos) (gW ta tb):=bR (R9 hu ha hb hs) λ_ _ _=>ai8
theorem o8 (hu:X.A.units+16<cLine)(hk:QE X a tk)(hd:QE X b te)(hm:behindInMarks .In b=false:=by rfl):QT X (.Compare a [.In] [b] pos) (cC (jU false tk te)):=nL (t6 (S0 hu hk hd) hm) λ_ _ _ h=>ai6 (pP h)
theorem aj3 (hu:X.A.units+16<cLine)(hk:QE X a tk)(hd:QE X b te)(hm:behindInMarks .NotIn b=false:=by rfl):QT X (.Compare a [.NotIn] [b] pos) (cC (jU true tk te)):=nL (t6 (S2 hu hk hd) hm) λ_ _ _ h=>ai7 (pP h)
theorem rV:QE X (.Dict [] [] pos) (qC (.dA [])):=bR S4 λ_ _ _=>aj0
theorem xZ:QE X (.Dict [] [] pos) (qC (.dB [])):=bR S5 λ_ _ _=>aj1
theorem y0 (hu:X.A.units+16<cLine)(hk:QE X ke tk)(hv:QE X e tv):QE X (.Dict [some ke] [e] pos) (rT tk tv):=bR (S6 hu hk hv) λ_ _ _=>aj2
theorem aj4 {i:Nat}{x:Str}{xpos tpos:Pos}(hu:X.A.units+16<cLine)(hk:QE X a tk)(he:QE X e te)(hN:X.N[i]? = some x:=by rfl)(hv:dL X.env.scope x:=by first|exact Or.inl rfl|exact Or.inr (Or.inl rfl)|exact Or.inr (Or.inr rfl))(hd:(x==("__debug__":Str))=false:=by decide)(hcd:(x==("__classdict__":Str))=false:=by decide)(hs:swapsWith e (some (.Subscript (.Name x xpos) a tpos)) pos.line X.env=pure false:=by rfl):QS X (.Assign [.Subscript (.Name x xpos) a tpos] e pos) (rS i tk te):=d4 (gN hu (gB hN hv hd hcd) hk he hs) λ_ _ _=>ai9
end
end PP
namespace L2
open PySem PySem.Spec PyProof.Rows
section
variable {X:Cx}{CX:dC}{k:Nat}{sp:Sp}{E:XK}{x:Str}{p pos:Pos}{e:Expr}{es:List Expr}{t:TA}{i:Nat}
theorem eV.fnAt {P:ay}{w:ba}{H:Hp}{h:Heap}{f:ax}{l:aZ}(q:eV H f l)(ok:bG P w H h):PySem.W.FnAt f h:=by
 obtain⟨pm,ctv,c,ho,_⟩:=q.at ok
 exact⟨_,_,_,_,ho⟩
noncomputable def aj5 (i:Nat)(G:aZ->Sp->Prop)(E:XK)(t:TA):TE:=λσ H Q=>∃f l sp,σ[i]? = some (some (.ref f))/\eV H f l/\G l sp/\t σ H λvs H1=>eV H1 f l/\sp vs H1 Q E
theorem aj6 {G:aZ->Sp->Prop}(F:∀l sp,G l sp->pN X.prog X.w X.K X.mg X.base CX k l sp)(hr:bE k X.A)(hN:X.N[i]? = some x)(hv:dL X.env.scope x)(hx:iK CX X E)(ha:PA X (e::es) t)(hdb:(x==("__debug__":Str))=false:=by decide)(hcd:(x==("__classdict__":Str))=false:=by decide)(he:starEach (e::es) X.env=(false,eval e X.env)::starEach es X.env:=by rfl)(hpl:(backTo pos (starEach es X.env)).any (·.1)=false:=by rfl) :
  PE X (.Call (.Name x p) (e::es) [] pos) (aj5 i G E t):=by
 intro ai s σ H Q I h
 obtain⟨f,l,sp,hσ,la,g,h⟩:=h
 refine wpAny_Call_Name_kw (aL (gB (pos:=p) hN hv hdb hcd ai s σ H (λv H'=>v = .ref f/\H'=H) I ⟨_,hσ,rfl,rfl⟩) λu s0 h0=>?_)
 obtain⟨v,H',I0,r0,rfl,rfl⟩:=h0
 obtain rfl:u = .ref f:=r0;refine PySem.W.callWith_F (la.fnAt I0.hok) (aL (ha pos ai s0 σ H' _ I0 h) λus s1 ⟨vs,H1,I1,r,la1,q⟩=>⟨la1.fnAt I1.hok,?_⟩) he hpl;refine wpAny_call (codeAny_mono ((F l sp g).run X.A X.stack s1 H1 f us vs Q E hr I1.env0 la1 r q) λrs s' hq=>?_);cases rs with
 |error ev=>exact hx ai σ H1 s1 ev s' I1 hq
 |ok fl=>
  cases fl with
  |ret u=>exact I1.after hq
  |next=>exact False.elim hq
  |brk=>exact False.elim hq
  |cont=>exact False.elim hq
end
end L2
namespace PP
open PySem L2 PyProof.Rows PySem.Spec
section
variable {X:Cx}{σ:L2.St}{H:Hp}{tr:bQ}{Q':VK}{e:Expr}{es:List Expr}{pos p2 np:Pos}{P0:ax}{l:aZ}
noncomputable def lP (l:aZ):aG:=λ_ Q=>Q (.lm l) .fr
theorem aj7 (hT:∃t:Tok,X.H₀ P0=some (.tbl #[.str l.qual t]))(h:LE X (lP l) σ H Q'):v0 P0 l σ H Q':=by
 obtain⟨W,ρ,Q,px,q,k⟩:=h
 obtain⟨t,hT⟩:=hT
 exact⟨⟨t,px.same _ _ hT⟩,λf H' s hf la=>k (.ref f) H' (.lm l) .fr s (.lm la) q⟩
theorem rW {params:Arguments}{body:Expr}{scope:Scope}{c0:ax}(hT:∃t:Tok,X.H₀ P0=some (.tbl #[.str l.qual t]))(hl:l=⟨X.env.qual++"<lambda>",params,body,scope⟩)(hcode:X.env.code = .ref c0)(hK:PySem.W.codeHdIn X.K c0 P0=true)(B:fN X.base X.mg P0)(hgP:mainGlobals≠P0)(hdef:defaultsOf params X.env=([],[]):=by rfl)(hcl:closureFor scope X.env=pure []:=by rfl):QE X (.Lambda params body scope pos) (lP l):=
 bR (Q8 hl hcode hK B hgP hdef hcl) λ_ _ _=>aj7 hT
noncomputable def e9 (P:ay)(w:ba)(K:ad)(mg:Str->Option av)(base:Heap)(k:Nat)(l:aZ)(p:b7):Prop:=pN P w K mg base bT k l (jN K p)
noncomputable def rX (i:Nat)(tab:List (aZ×b7))(t:bQ):aG:=λρ Q=>∃g l p,ρ[i]? = some (some (.sh g (.lm l)))/\(l,p)∈tab/\aU p t ρ Q
theorem lQ (i:Nat){k j:Nat}{x:Str}{tab:List (aZ×b7)}(ds:∀z,z∈tab->e9 X.prog X.w X.K X.mg X.base k z.1 z.2)(hr:bE j X.A)(ha:QA X (e::es) tr)(hkj:k<=j:=by decide)(hN:X.N[i]? = some x:=by rfl)(hv:dL X.env.scope x:=by first|exact Or.inl rfl|exact Or.inr (Or.inl rfl)|exact Or.inr (Or.inr rfl))(hdb:(x==("__debug__":Str))=false:=by decide)(hcd:(x==("__classdict__":Str))=false:=by decide)(he:starEach (e::es) X.env=(false,eval e X.env)::starEach es X.env:=by rfl)(hpl:(backTo pos (starEach es X.env)).any (·.1)=false:=by rfl):QE X (.Call (.Name x p2) (e::es) [] pos) (rX i tab tr):=by
 refine bR (aj6 (k:=k) (t:=LA X tr) (E:=E0) (CX:=bT) (G:=λl sp=>∃z,z∈tab/\z.1=l/\sp=jN X.K z.2) (λl sp g=>?_) (hr.mono hkj) hN hv jF ha hdb hcd he hpl) λσ H Q' h=>?_
 ·obtain⟨z,hz,rfl,rfl⟩:=g
  exact ds z hz
 obtain⟨W,ρ,Q,px,⟨g,l,p,hi,hz,q⟩,k⟩:=h
 obtain⟨v,hv,r⟩:=px.sl i _ hi
 have r:aE X.K (Ms X.H₀ W g) H v (.lm l):=r;cases r with
 |lm la=>
  refine⟨_,l,_,hv,la,⟨_,hz,rfl,rfl⟩,W,ρ,_,px,q,λvs H1 xs s1 r1 q1=>⟨la.same s1,_,_,r1.any,q1,λv H' x s2 r2 q2=>k v H' x .fr (s1.trans s2) (r2.same (aI.refl _) λ_ z=>s1.free z) q2⟩⟩
theorem e9.of {P:ay}{w:ba}{K:ad}{mg:Str->Option av}{base:Heap}{k:Nat}{l:aZ}{N ps:List Str}{p:b7}(S:FnScope N ps l.scope)(hb:∀(pm cv ctv:av) (us:List av),us.length=ps.length->bindArgs (pM l pm cv ctv) ⟨us,[]⟩=pure (ps.zip us))(len:∀xs Q,p xs Q->xs.length=ps.length)(body:∀(f:ax) (cv:av) (A:az) (outer:List Env) (s:aw) (H:Hp) (E:XK),bE k (A.deeper (envOfC l.qual l.scope s.heap.objs.size f cv))->
   ∃t,QE (bS bT P w K mg base N l.qual l.scope f cv A outer s H E) l.body t/\∀xs Q,p xs Q->t (bB N xs) λx _=>flat x=true/\Q x):e9 P w K mg base (k+1) l p:=by
 refine Q9 S hb (λvs H Q E h=>?_) λA outer s H f cv vs Q E hr h=>?_
 ·obtain⟨xs,Qp,r,q,_⟩:=h
  rw[r.length];exact len xs Qp q
 ·obtain⟨xs,Qp,r,q,k⟩:=h
  obtain⟨t,ht,hq⟩:=body f cv A outer s H E hr
  exact⟨_,ht,λ_=>False,bB N xs,_,hZ r,hq xs Qp q,λv H' x g s rx ⟨fx,qx⟩=>k v H' x s (rx.flat fx) qx⟩
end
noncomputable def jn {κ:Type}[DecidableEq κ](J:PV->PV->PV)(ps:List (κ×PV))(k:κ)(z:PV):PV:=match cN ps k with
 |none=>z
 |some w=>J w z
noncomputable def y3 (K:ad)(g:PV)(Ok:PV->Prop)(J:PV->PV->PV):Sp:=λvs H Q _=>∃d b y f ks kvs ps z,vs = [.ref d,.ref b,y,f]/\H d=some (.dA kvs)/\dJ H ks b/\kvs.map (·.1)=ps.map (·.1)/\Reps K (λ_=>True) H (kvs.map (·.2)) (ps.map (·.2))/\
 (∀w,cN ps ks=some w->Ok w)/\aE K (λ_=>True) H y z/\flat z=true/\Ok z/\aE K (λ_=>True) H f g/\ps.length<16000000/\∀H' v,aI H H'->aE K (λ_=>False) H' v (jn J ps ks z)->flat (jn J ps ks z)=true->Q .non (upd H' d (.dA (dN kvs ks v)))
noncomputable def y7 (K:ad)(g:PV)(Ok:PV->Prop)(J:PV->PV->PV):Sp:=λvs H Q _=>∃d x y f ks kvs ps z,vs = [.ref d,x,y,f]/\H d=some (.dB kvs)/\iO ks x/\kvs.map (·.1)=ps.map (·.1)/\Reps K (λ_=>True) H (kvs.map (·.2)) (ps.map (·.2))/\
 (∀w,cN ps ks=some w->Ok w)/\aE K (λ_=>True) H y z/\flat z=true/\Ok z/\aE K (λ_=>True) H f g/\ps.length<16000000/\∀H' v,aI H H'->aE K (λ_=>False) H' v (jn J ps ks z)->flat (jn J ps ks z)=true->Q .non (upd H' d (.dB (dN kvs ks v)))
structure gX (P:ay)(w:ba)(K:ad)(mg:Str->Option av)(base:Heap)(k:Nat)(x:Str)(ps:List Str)(g:PV)(Ok:PV->Prop)(J:PV->PV->PV):Prop where
 ex:∃f fd,cE P w K mg base bT k f fd ps (y3 K g Ok J)/\fM K fd ps []/\PySem.W.keepIn K (.ref f)=true/\mg x=some (.ref f)
structure gY (P:ay)(w:ba)(K:ad)(mg:Str->Option av)(base:Heap)(k:Nat)(x:Str)(ps:List Str)(g:PV)(Ok:PV->Prop)(J:PV->PV->PV):Prop where
 ex:∃f fd,cE P w K mg base bT k f fd ps (y7 K g Ok J)/\fM K fd ps []/\PySem.W.keepIn K (.ref f)=true/\mg x=some (.ref f)
noncomputable def yA:cB:=cC (jU false (aC 1) (aC 0))
theorem aj8 {k:Int}{x:V}{K:ad}{M:ax->Prop}{H:Hp}(n:iO k x):∃y,lO k y/\aE K M H x y:=by
 rcases n with rfl|⟨b,rfl,e⟩
 ·exact⟨.int k,.inl rfl,.int _⟩
 ·exact⟨.bl b,.inr ⟨b,rfl,e⟩,.bl _⟩
section
variable {P:ay}{w:ba}{K:ad}{mg:Str→Option av}{base:Heap}{k:Nat}{x:Str}{p1 p2 p3 p4:Str}{st:Stmt}{f:ax}{fd:FuncData}{g:PV}{Ok:PV→Prop}{J:PV→PV→PV}
theorem gX.of (F:bM K x x st f fd)(m:mg x=some (.ref f))(S:FnScope [p1,p2,p3,p4] [p1,p2,p3,p4] (aJ st))(hb:∀(kV doc pm:av) (an:Option ax) (cdv ct:av) (us:List av),us.length = [p1,p2,p3,p4].length->bindArgs (PySem.W.fnOf x x (bH st) (b8 st) (aJ st) .none kV doc pm an cdv ct) ⟨us,[]⟩=pure ([p1,p2,p3,p4].zip us))(body:∀(cdv:av) (A:az) (outer:List Env) (s:aw) (H:Hp) (E:XK),bE k (A.deeper (envOfC x (aJ st) s.heap.objs.size f cdv))->
   ∃te:aG,cM (bS bT P w K mg base [p1,p2,p3,p4] x (aJ st) f cdv A outer s H E).nox (b8 st) (mK (LT (bS bT P w K mg base [p1,p2,p3,p4] x (aJ st) f cdv A outer s H E).nox yA)
    (jI (cI 0) (cI 1) (LE (bS bT P w K mg base [p1,p2,p3,p4] x (aJ st) f cdv A outer s H E).nox te)) (jI (cI 0) (cI 1) (cI 2)))/\
    ∀d y w z,iB d y (some w)->Ok w->Ok z->te (bB [p1,p2,p3,p4] [d,y,z,g]) λv _=>v=J w z/\flat v=true):gX P w K mg base (k+1) x [p1,p2,p3,p4] g Ok J:=by
 refine⟨f,fd,F.ok S (λvs H Q E h=>?_) (λcdv A outer s H vs Q E hr h=>?_),F.binds hb,F.kp,m⟩
 ·obtain⟨d,b,y,f',ks,kvs,ps,z,rfl,_⟩:=h
  rfl
 ·obtain⟨te,hbd,hte⟩:=body cdv A outer s H E hr
  refine⟨_,hbd,?_⟩
  obtain⟨d,b,y,f',ks,kvs,ps,z,rfl,ed,eb,e1,r,al,ry,fz,oz,rg,hl,q⟩:=h
  have px:=hZ (N:=[p1,p2,p3,p4]) (K:=K) (H:=H) (vs:=[.ref d,.ref b,y,f']) (xs:=[.dA ps,gV ks,z,g]) (.cons (.dA trivial ed e1 r) (.cons (x4 eb) (.cons ry (.cons rg .nil))));refine⟨_,_,λc=>c=(cN ps ks).isSome,px,⟨_,rfl,_,rfl,cN ps ks,.inl ⟨ps,ks,rfl,rfl,rfl⟩,_,rfl,rfl⟩,λc H1 s1 ec=>?_⟩;subst ec;cases ev:cN ps ks with
  |none=>
   rw[if_neg (by simp)];have ej:jn J ps ks z=z:=by unfold jn;rw[ev]
   refine⟨y,rfl,.ref d,rfl,.ref b,rfl,d,_,rfl,.inl ⟨_,ks,b,s1 _ _ ed,rfl,eb.keeps λc xs e=>s1 _ _ e,iN (by rw[jR e1];omega),rfl⟩,q H1 y s1 ?_ ?_⟩
   ·rw[ej];exact (ry.flat fz).same s1 λ_ z=>z
   ·rw[ej];exact fz
  |some w=>
   rw[if_pos (by rfl)];have ej:jn J ps ks z=J w z:=by unfold jn;rw[ev]
   refine⟨_,_,_,px.mono s1,hte (.dA ps) (gV ks) w z (.inl ⟨ps,ks,rfl,rfl,ev.symm⟩) (al w ev) oz,λv H2 v2 g2 s2 rv hv=>?_⟩
   obtain⟨rfl,fv⟩:=hv
   have s12:=s1.trans s2;refine⟨.ref d,rfl,.ref b,rfl,d,_,rfl,.inl ⟨_,ks,b,s12 _ _ ed,rfl,eb.keeps λc xs e=>s12 _ _ e,iN (by rw[jR e1];omega),rfl⟩,q H2 v s12 ?_ ?_⟩
   ·rw[ej];exact rv.flat fv
   ·rw[ej];exact fv
theorem gY.of (F:bM K x x st f fd)(m:mg x=some (.ref f))(S:FnScope [p1,p2,p3,p4] [p1,p2,p3,p4] (aJ st))(hb:∀(kV doc pm:av) (an:Option ax) (cdv ct:av) (us:List av),us.length = [p1,p2,p3,p4].length->bindArgs (PySem.W.fnOf x x (bH st) (b8 st) (aJ st) .none kV doc pm an cdv ct) ⟨us,[]⟩=pure ([p1,p2,p3,p4].zip us))(body:∀(cdv:av) (A:az) (outer:List Env) (s:aw) (H:Hp) (E:XK),bE k (A.deeper (envOfC x (aJ st) s.heap.objs.size f cdv))->
   ∃te:aG,cM (bS bT P w K mg base [p1,p2,p3,p4] x (aJ st) f cdv A outer s H E).nox (b8 st) (mK (LT (bS bT P w K mg base [p1,p2,p3,p4] x (aJ st) f cdv A outer s H E).nox yA)
    (jI (cI 0) (cI 1) (LE (bS bT P w K mg base [p1,p2,p3,p4] x (aJ st) f cdv A outer s H E).nox te)) (jI (cI 0) (cI 1) (cI 2)))/\
    ∀d y w z,iB d y (some w)->Ok w->Ok z->te (bB [p1,p2,p3,p4] [d,y,z,g]) λv _=>v=J w z/\flat v=true):gY P w K mg base (k+1) x [p1,p2,p3,p4] g Ok J:=by
 refine⟨f,fd,F.ok S (λvs H Q E h=>?_) (λcdv A outer s H vs Q E hr h=>?_),F.binds hb,F.kp,m⟩
 ·obtain⟨d,b,y,f',ks,kvs,ps,z,rfl,_⟩:=h
  rfl
 ·obtain⟨te,hbd,hte⟩:=body cdv A outer s H E hr
  refine⟨_,hbd,?_⟩
  obtain⟨d,xv,y,f',ks,kvs,ps,z,rfl,ed,en,e1,r,al,ry,fz,oz,rg,hl,q⟩:=h
  obtain⟨xp,np,rx⟩:=aj8 (K:=K) (M:=λ_=>True) (H:=H) en
  have px:=hZ (N:=[p1,p2,p3,p4]) (K:=K) (H:=H) (vs:=[.ref d,xv,y,f']) (xs:=[.dB ps,xp,z,g]) (.cons (.dB trivial ed e1 r) (.cons rx (.cons ry (.cons rg .nil))));refine⟨_,_,λc=>c=(cN ps ks).isSome,px,⟨_,rfl,_,rfl,cN ps ks,.inr ⟨ps,ks,rfl,np,rfl⟩,_,rfl,rfl⟩,λc H1 s1 ec=>?_⟩;subst ec;cases ev:cN ps ks with
  |none=>
   rw[if_neg (by simp)];have ej:jn J ps ks z=z:=by unfold jn;rw[ev]
   refine⟨y,rfl,.ref d,rfl,xv,rfl,d,_,rfl,.inr ⟨_,ks,s1 _ _ ed,en,iN (by rw[jR e1];omega),rfl⟩,q H1 y s1 ?_ ?_⟩
   ·rw[ej];exact (ry.flat fz).same s1 λ_ z=>z
   ·rw[ej];exact fz
  |some w=>
   rw[if_pos (by rfl)];have ej:jn J ps ks z=J w z:=by unfold jn;rw[ev]
   refine⟨_,_,_,px.mono s1,hte (.dB ps) xp w z (.inr ⟨ps,ks,rfl,np,ev.symm⟩) (al w ev) oz,λv H2 v2 g2 s2 rv hv=>?_⟩
   obtain⟨rfl,fv⟩:=hv
   have s12:=s1.trans s2;refine⟨.ref d,rfl,xv,rfl,d,_,rfl,.inr ⟨_,ks,s12 _ _ ed,en,iN (by rw[jR e1];omega),rfl⟩,q H2 v s12 ?_ ?_⟩
   ·rw[ej];exact rv.flat fv
   ·rw[ej];exact fv
end
section
variable {X:Cx}{σ:L2.St}{H:Hp}{D:cX}{t1 t2 t3:aG}{g:PV}{Ok:PV→Prop}{J:PV→PV→PV}
noncomputable def rY (i:Nat)(g:PV)(Ok:PV->Prop)(J:PV->PV->PV)(t1 t2 t3:aG):aR:=λD ρ=>∃ps,ρ[i]? = some (some (.own (.dA ps)))/\t1 ρ λy _=>t2 ρ λz _=>t3 ρ λf _=>∃k,y=gV k/\f=g/\flat z=true/\Ok z/\(∀w,cN ps k=some w->Ok w)/\ps.length<16000000/\D.nx (ρ.set i (some (.own (.dA (dS ps k (jn J ps k z))))))
noncomputable def rZ (i:Nat)(g:PV)(Ok:PV->Prop)(J:PV->PV->PV)(t1 t2 t3:aG):aR:=λD ρ=>∃ps,ρ[i]? = some (some (.own (.dB ps)))/\t1 ρ λy _=>t2 ρ λz _=>t3 ρ λf _=>∃k,lO k y/\f=g/\flat z=true/\Ok z/\(∀w,cN ps k=some w->Ok w)/\ps.length<16000000/\D.nx (ρ.set i (some (.own (.dB (dS ps k (jn J ps k z))))))
theorem aj9 {i:Nat}(h:LS X (rY i g Ok J t1 t2 t3) D σ H):kE (jD (y3 X.K g Ok J) [] E0 (eI (cI i) (eI (LE X t1) (eI (LE X t2) (eI (LE X t3) iJ))))) D σ H:=by
 obtain⟨W,ρ,D',px,⟨ps,hi,q⟩,k⟩:=h
 obtain⟨v,ev,a,rfl,wa,kvs,ea,e1,r⟩:=px.sl i _ hi
 refine⟨_,ev,W,ρ,_,px,q,?_⟩;intro v1 H1 y g1 s1 r1 q1;refine⟨W,ρ,_,px.mono s1,q1,?_⟩;intro v2 H2 z g2 s2 r2 q2;refine⟨W,ρ,_,px.mono (s1.trans s2),q2,?_⟩;rintro v3 H3 f g3 s3 r3 ⟨kk,rfl,rfl,fz,oz,al,hl,q3⟩
 obtain⟨b,rfl,hb⟩:=o7 r1
 have s23:=s2.trans s3;have s13:=s1.trans s23;have ea3:=s13 _ _ ea;refine⟨a,b,v2,v3,kk,kvs,ps,z,rfl,ea3,hb.keeps λc xs e=>s23 _ _ e,e1,r.same s13 λ_ _=>trivial,al,((r2.flat (M':=λ_=>True) fz).same s3 λ_ z=>z),fz,oz,r3.same (aI.refl _) λ_ _=>trivial,hl,λH4 v s4 rv fv=>?_⟩;have s14:=s13.trans s4;have ea4:=s4 _ _ ea3
 obtain⟨h1,h2⟩:=qB kk (rv.flat (M':=Ms X.H₀ W true) fv) e1 (r.same s14 λ_ z=>z)
 exact k.nx W σ _ _ ((Ev.same s14).trans (Ev.upd wa)) ((px.mono s14).updOwn hi ev wa rfl (y:=.dA (dS ps kk (jn J ps kk z))) ⟨_,bI,h1,h2.keep (.upd ea4 rfl λb m=>⟨hG wa m,m⟩)⟩) q3
theorem ak0 {i:Nat}(h:LS X (rZ i g Ok J t1 t2 t3) D σ H):kE (jD (y7 X.K g Ok J) [] E0 (eI (cI i) (eI (LE X t1) (eI (LE X t2) (eI (LE X t3) iJ))))) D σ H:=by
 obtain⟨W,ρ,D',px,⟨ps,hi,q⟩,k⟩:=h
 obtain⟨v,ev,a,rfl,wa,kvs,ea,e1,r⟩:=px.sl i _ hi
 refine⟨_,ev,W,ρ,_,px,q,?_⟩;intro v1 H1 y g1 s1 r1 q1;refine⟨W,ρ,_,px.mono s1,q1,?_⟩;intro v2 H2 z g2 s2 r2 q2;refine⟨W,ρ,_,px.mono (s1.trans s2),q2,?_⟩;rintro v3 H3 f g3 s3 r3 ⟨kk,n,rfl,fz,oz,al,hl,q3⟩;have s23:=s2.trans s3;have s13:=s1.trans s23;have ea3:=s13 _ _ ea;refine⟨a,v1,v2,v3,kk,kvs,ps,z,rfl,ea3,n.rep r1,e1,r.same s13 λ_ _=>trivial,al,((r2.flat (M':=λ_=>True) fz).same s3 λ_ z=>z),fz,oz,r3.same (aI.refl _) λ_ _=>trivial,hl,λH4 v s4 rv fv=>?_⟩;have s14:=s13.trans s4;have ea4:=s4 _ _ ea3
 obtain⟨h1,h2⟩:=qB kk (rv.flat (M':=Ms X.H₀ W true) fv) e1 (r.same s14 λ_ z=>z)
 exact k.nx W σ _ _ ((Ev.same s14).trans (Ev.upd wa)) ((px.mono s14).updOwn hi ev wa rfl (y:=.dB (dS ps kk (jn J ps kk z))) ⟨_,bI,h1,h2.keep (.upd ea4 rfl λb m=>⟨hG wa m,m⟩)⟩) q3
theorem yB {k j:Nat}{x y:Str}{ps:List Str}{a b c:Expr}{p2 p3 pos pos2:Pos}(d:gX X.prog X.w X.K X.mg X.base k x ps g Ok J)(hr:bE j X.A)(i:Nat)(ha:QE X a t1)(hb:QE X b t2)(hc:QE X c t3)(hkj:k<=j:=by decide)(hN:X.N[i]? = some y:=by rfl)(hv:dL X.env.scope y:=by first|exact Or.inl rfl|exact Or.inr (Or.inl rfl)|exact Or.inr (Or.inr rfl))(hd:(y==("__debug__":Str))=false:=by decide)(hcd:(y==("__classdict__":Str))=false:=by decide)(hg:Gl X x:=by rfl)(hdb:(x==("__debug__":Str))=false:=by decide)(he:starEach [.Name y p3,a,b,c] X.env=(false,eval (.Name y p3) X.env)::starEach [a,b,c] X.env:=by rfl)(he2:starEach [a,b,c] X.env=(false,eval a X.env)::starEach [b,c] X.env:=by rfl)(he3:starEach [b,c] X.env=(false,eval b X.env)::starEach [c] X.env:=by rfl)(he4:starEach [c] X.env=(false,eval c X.env)::starEach [] X.env:=by rfl)(hpl:(backTo pos (starEach [a,b,c] X.env)).any (·.1)=false:=by rfl)(hs:swapsWith (.Call (.Name x p2) [.Name y p3,a,b,c] [] pos) none pos2.line X.env=pure false:=by rfl):QS X (.Expr (.Call (.Name x p2) [.Name y p3,a,b,c] [] pos) pos2) (rY i g Ok J t1 t2 t3):=by
 obtain⟨f,fd,F,b,kp,m⟩:=d.ex
 exact d4 (mJ (kN F (hr.mono hkj) hg m kp b .nil jF (eT (gB hN hv hd hcd) (eT ha (eT hb (eT hc jC he4) he3) he2) he) hdb he hpl) hs) λ_ _ _=>aj9
theorem yC {k j:Nat}{x y:Str}{ps:List Str}{a b c:Expr}{p2 p3 pos pos2:Pos}(d:gY X.prog X.w X.K X.mg X.base k x ps g Ok J)(hr:bE j X.A)(i:Nat)(ha:QE X a t1)(hb:QE X b t2)(hc:QE X c t3)(hkj:k<=j:=by decide)(hN:X.N[i]? = some y:=by rfl)(hv:dL X.env.scope y:=by first|exact Or.inl rfl|exact Or.inr (Or.inl rfl)|exact Or.inr (Or.inr rfl))(hd:(y==("__debug__":Str))=false:=by decide)(hcd:(y==("__classdict__":Str))=false:=by decide)(hg:Gl X x:=by rfl)(hdb:(x==("__debug__":Str))=false:=by decide)(he:starEach [.Name y p3,a,b,c] X.env=(false,eval (.Name y p3) X.env)::starEach [a,b,c] X.env:=by rfl)(he2:starEach [a,b,c] X.env=(false,eval a X.env)::starEach [b,c] X.env:=by rfl)(he3:starEach [b,c] X.env=(false,eval b X.env)::starEach [c] X.env:=by rfl)(he4:starEach [c] X.env=(false,eval c X.env)::starEach [] X.env:=by rfl)(hpl:(backTo pos (starEach [a,b,c] X.env)).any (·.1)=false:=by rfl)(hs:swapsWith (.Call (.Name x p2) [.Name y p3,a,b,c] [] pos) none pos2.line X.env=pure false:=by rfl):QS X (.Expr (.Call (.Name x p2) [.Name y p3,a,b,c] [] pos) pos2) (rZ i g Ok J t1 t2 t3):=by
 obtain⟨f,fd,F,b,kp,m⟩:=d.ex
 exact d4 (mJ (kN F (hr.mono hkj) hg m kp b .nil jF (eT (gB hN hv hd hcd) (eT ha (eT hb (eT hc jC he4) he3) he2) he) hdb he hpl) hs) λ_ _ _=>ak0
end
end PP
namespace L2
open PySem PySem.Spec PyProof.Rows
section
variable {X:Cx}{CX:dC}{k:Nat}{E:XK}{x:Str}{p pos:Pos}{e:Expr}{es:List Expr}{t:TA}{i:Nat}
noncomputable def ak1 (i:Nat)(G:ax->Sp->Prop)(E:XK)(t:TA):TE:=λσ H Q=>∃f sp,σ[i]? = some (some (.ref f))/\G f sp/\t σ H λvs H1=>sp vs H1 Q E
theorem ak2 {G:ax->Sp->Prop}(F:∀f sp,G f sp->∃fd ps,cE X.prog X.w X.K X.mg X.base CX k f fd ps sp/\PySem.W.keepIn X.K (.ref f)=true/\fM X.K fd ps [])(hr:bE k X.A)(hN:X.N[i]? = some x)(hv:dL X.env.scope x)(hx:iK CX X E)(ha:PA X (e::es) t)(hdb:(x==("__debug__":Str))=false:=by decide)(hcd:(x==("__classdict__":Str))=false:=by decide)(he:starEach (e::es) X.env=(false,eval e X.env)::starEach es X.env:=by rfl)(hpl:(backTo pos (starEach es X.env)).any (·.1)=false:=by rfl) :
  PE X (.Call (.Name x p) (e::es) [] pos) (ak1 i G E t):=by
 intro ai s σ H Q I h
 obtain⟨f,sp,hσ,g,h⟩:=h
 obtain⟨fd,ps,F,hk,hb⟩:=F f sp g
 refine wpAny_Call_Name_kw (aL (gB (pos:=p) hN hv hdb hcd ai s σ H (λv H'=>v = .ref f/\H'=H) I ⟨_,hσ,rfl,rfl⟩) λu s0 h0=>?_)
 obtain⟨v,H',I0,r0,rfl,rfl⟩:=h0
 obtain rfl:u = .ref f:=r0;refine PySem.W.callWith_K (h₀:=X.base) I0.ok.mod.kin hk (aL (ha pos ai s0 σ H' _ I0 h) λus s1 ⟨vs,H1,I1,r,q⟩=>⟨I1.kIn,?_⟩) he hpl;exact tW F hr hb .nil hx I1 r (by rw[aE5];exact q)
end
end L2
namespace PP
open PySem L2 PyProof.Rows PySem.Spec
section
variable {X:Cx}{σ:L2.St}{H:Hp}{tr:bQ}{Q':VK}{e:Expr}{es:List Expr}{pos p2 np:Pos}
noncomputable def yD (i:Nat)(tab:List (Str×b7))(t:bQ):aG:=λρ Q=>∃g x p,ρ[i]? = some (some (.sh g (.fn x)))/\(x,p)∈tab/\aU p t ρ Q
theorem ak3 (i:Nat){k j:Nat}{x:Str}{tab:List (Str×b7)}(ds:∀z,z∈tab->(∃f,X.mg z.1=some (.ref f)/\PySem.W.nsIn X.K mainGlobals z.1=some (some (.ref f)))/\∃ps,Df X.prog X.w X.K X.mg X.base k z.1 ps z.2)(hr:bE j X.A)(ha:QA X (e::es) tr)(hkj:k<=j:=by decide)(hN:X.N[i]? = some x:=by rfl)(hv:dL X.env.scope x:=by first|exact Or.inl rfl|exact Or.inr (Or.inl rfl)|exact Or.inr (Or.inr rfl))(hdb:(x==("__debug__":Str))=false:=by decide)(hcd:(x==("__classdict__":Str))=false:=by decide)(he:starEach (e::es) X.env=(false,eval e X.env)::starEach es X.env:=by rfl)(hpl:(backTo pos (starEach es X.env)).any (·.1)=false:=by rfl):QE X (.Call (.Name x p2) (e::es) [] pos) (yD i tab tr):=by
 refine bR (ak2 (k:=k) (t:=LA X tr) (E:=E0) (CX:=bT) (G:=λf sp=>∃z,z∈tab/\X.mg z.1=some (.ref f)/\sp=jN X.K z.2) (λf sp g=>?_) (hr.mono hkj) hN hv jF ha hdb hcd he hpl) λσ H Q' h=>?_
 ·obtain⟨z,hz,m,rfl⟩:=g
  obtain⟨_,ps,d⟩:=ds z hz
  obtain⟨f',fd,F,b,kp,m'⟩:=d.ex
  rw[m]at m';cases m'
  exact⟨fd,ps,F,kp,b⟩
 obtain⟨W,ρ,Q,px,⟨g,y,p,hi,hz,q⟩,k⟩:=h
 obtain⟨v,hv,r⟩:=px.sl i _ hi
 have r:aE X.K (Ms X.H₀ W g) H v (.fn y):=r;cases r with
 |fn n=>
  obtain⟨f,m,n'⟩:=(ds _ hz).1
  rw[n']at n;cases n
  exact⟨_,_,hv,⟨_,hz,m,rfl⟩,W,ρ,_,px,q,λvs H1 xs s1 r1 q1=>⟨_,_,r1.any,q1,λv H' x s2 r2 q2=>k v H' x .fr (s1.trans s2) (r2.same (aI.refl _) λ_ z=>s1.free z) q2⟩⟩
end
noncomputable def eC (T:List (ax×Str))(H:Hp):Prop:=∀z∈T,∃t:Tok,H z.1=some (.tbl #[.str z.2 t])
theorem eC.same {T:List (ax×Str)}{H H':Hp}(h:eC T H)(s:aI H H'):eC T H':=λz hz=>let ⟨t,e⟩:=h z hz;⟨t,s _ _ e⟩
noncomputable def lR (K:ad)(T:List (ax×Str))(p:b7):Sp:=λvs H Q E=>eC T H/\jN K p vs H Q E
structure eD (P:ay)(w:ba)(K:ad)(mg:Str->Option av)(base:Heap)(T:List (ax×Str))(k:Nat)(x:Str)(ps:List Str)(p:b7):Prop where
 ex:∃f fd,cE P w K mg base bT k f fd ps (lR K T p)/\fM K fd ps []/\PySem.W.keepIn K (.ref f)=true/\mg x=some (.ref f)
section
variable {X:Cx}{σ:L2.St}{H:Hp}{tr:bQ}{Q':VK}{e:Expr}{es:List Expr}{pos p2:Pos}{T:List (ax×Str)}
theorem ak4 {p:b7}{E:XK}(hT:eC T X.H₀)(h:LE X (aU p tr) σ H Q'):jD (lR X.K T p) [] E (LA X tr) σ H Q':=by
 obtain⟨W,ρ,Q,px,q,k⟩:=h
 exact⟨W,ρ,_,px,q,λvs H1 xs s1 r1 q1=>⟨hT.same (px.same.trans s1),_,_,by rw[aE5];exact r1.any,q1,λv H' x s2 r2 q2=>k v H' x .fr (s1.trans s2) (r2.same (aI.refl _) λ_ z=>s1.free z) q2⟩⟩
theorem j5 {k j:Nat}{x:Str}{ps:List Str}{p:b7}(hT:eC T X.H₀)(d:eD X.prog X.w X.K X.mg X.base T k x ps p)(hr:bE j X.A)(ha:QA X (e::es) tr)(hkj:k<=j:=by decide)(hg:Gl X x:=by rfl)(hdb:(x==("__debug__":Str))=false:=by decide)(he:starEach (e::es) X.env=(false,eval e X.env)::starEach es X.env:=by rfl)(hpl:(backTo pos (starEach es X.env)).any (·.1)=false:=by rfl):QE X (.Call (.Name x p2) (e::es) [] pos) (aU p tr):=by
 obtain⟨f,fd,F,b,kp,m⟩:=d.ex
 exact bR (kN F (hr.mono hkj) hg m kp b .nil jF ha hdb he hpl) λ_ _ _=>ak4 hT
theorem eD.of {P:ay}{w:ba}{K:ad}{mg:Str->Option av}{base:Heap}{k:Nat}{x:Str}{ps N:List Str}{p:b7}{st:Stmt}{f:ax}{fd:FuncData}(F:bM K x x st f fd)(m:mg x=some (.ref f))(S:FnScope N ps (aJ st))(hb:∀(kV doc pm:av) (an:Option ax) (cdv ct:av) (us:List av),us.length=ps.length->bindArgs (PySem.W.fnOf x x (bH st) (b8 st) (aJ st) .none kV doc pm an cdv ct) ⟨us,[]⟩=pure (ps.zip us))(len:∀xs Q,p xs Q->xs.length=ps.length)(body:∀(cdv:av) (A:az) (outer:List Env) (s:aw) (H:Hp) (E:XK),bE k (A.deeper (envOfC x (aJ st) s.heap.objs.size f cdv))->eC T H->
   ∃t,dW (bS bT P w K mg base N x (aJ st) f cdv A outer s H E).nox (b8 st) t/\∀xs Q,p xs Q->t { nx:=λ_=>Q .non,rt:=Q } (bB N xs)):eD P w K mg base T (k+1) x ps p:=by
 refine⟨f,fd,F.ok S (λvs H Q E h=>?_) (λcdv A outer s H vs Q E hr h=>?_),F.binds hb,F.kp,m⟩
 ·obtain⟨_,xs,Qp,r,q,_⟩:=h
  rw[r.length];exact len xs Qp q
 ·obtain⟨hT,xs,Qp,r,q,k⟩:=h
  obtain⟨t,ht,hq⟩:=body cdv A outer s H E hr hT
  refine⟨_,ht,λ_=>False,bB N xs,_,hZ r,hq xs Qp q,?_,?_,?_,?_⟩
  ·exact λW' σ' H' ρ' e px q=>k _ _ _ px.same .non q
  ·exact λv H' x s r q=>k _ _ _ s r q
  ·exact λW' σ' H' ρ' e px q=>q
  ·exact λW' σ' H' ρ' e px q=>q
end
end PP
namespace L2
open PySem PySem.Spec PyProof.Rows
noncomputable def gG (T:List (ax×Str)):Hp:=λb=>(T.find? λz=>decide (z.1=b)).map λz=>.tbl #[.str z.2 0]
noncomputable def lS (H:Hp):Prop:=∀b,H b=none∨(∃o xs,H b=some (.frz o (.lst xs)))∨∃ps,H b=some (.tbl ps)
noncomputable def yE (K:ad)(h:Heap)(T:List (ax×Str)):Prop:=(∀z∈T,h.get? z.1=some (PySem.W.tabObj #[])/\K.lookup z.1=none/\isCodeTable h z.1)/\(T.map (·.1)).Nodup
theorem yF (T:List (ax×Str)):lS (gG T):=λb=>by
 unfold gG;cases T.find? λz=>decide (z.1=b) with
 |none=>exact .inl rfl
 |some z=>exact .inr (.inr ⟨_,rfl⟩)
theorem sA {T:List (ax×Str)}{b:ax}(h:gG T b≠none):∃z∈T,b=z.1:=by
 unfold gG at h;cases e:T.find? λz=>decide (z.1=b) with
 |none=>rw[e]at h;exact absurd rfl h
 |some z=>exact⟨z,aC6 e,by have:=List.find?_some e;exact (by simpa using this:z.1=b).symm⟩
theorem yG:∀{T:List (ax×Str)}{z:ax×Str},(T.map (·.1)).Nodup->z∈T->(T.find? λy=>decide (y.1=z.1))=some z
 |[],_,_,h=>by cases h
 |y::r,z,n,h=>by
  rw[ax2,aA3]at n;rw[az0];rcases aw6.mp h with rfl|h
  ·simp
  ·have ne:¬y.1=z.1:=λe=>n.1 (e▸List.mem_map_of_mem h)
   rw[aw1 ne];exact yG n.2 h
theorem yH {T:List (ax×Str)}(n:(T.map (·.1)).Nodup):PP.eC T (gG T):=λz hz=>⟨0,by unfold gG;rw[yG n hz];rfl⟩
theorem yI {P:ay}{w:ba}{H:Hp}{h:Heap}{T:List (ax×Str)}{b:ax}{u:HO}(t:∀z∈T,h.get? z.1=some (PySem.W.tabObj #[]))(e:gG T b=some u):bK P w H h b u:=by
 unfold gG at e;cases q:T.find? λz=>decide (z.1=b) with
 |none=>rw[q]at e;cases e
 |some z=>
  rw[q]at e;cases e;have hb:z.1=b:=by have:=List.find?_some q;simpa using this
  have g:=t z (aC6 q);rw[hb]at g
  exact⟨#[],g,trivial,λpos cv h=>by cases h⟩
theorem ak5 {P:ay}{w:ba}{K:ad}{mg mb:Str->Option av}{CX:dC}{k:Nat}{fa a:ax}{fd:FuncData}{x:Str}{sp:Sp}{s₁:aw}{vs:List av}{ns:ag}{T:List (ax×Str)}(KX:K.In s₁.heap)(hns:s₁.heap.Ns mainGlobals mg)(hb:s₁.heap.Ns builtinsNs mb)(hbb:∀x:Str,x≠"__name__"->mb x=bootBuiltins x)(hlim:s₁.heap.NoLimit)(hg:s₁.gens = #[])(ha:s₁.heap.get? a=some { cls:=.type "list",data:=.seq vs.toArray })(hi:IntsAre vs ns)(hl:ns.length<=sizeLine)(hr:bE k callerA)(TK:yE K s₁.heap T)(bmain:∃bm ob,mg "__builtins__" = some (.ref bm)/\bm≠builtinsNs/\s₁.heap.get? bm=some ob/\ob.cls = .type "module"/\ob.dict=some builtinsNs/\ob.data = .plain)(F:∀base:Heap,K.In base->base.Ns mainGlobals mg->(∀z∈T,fN base mg z.1)->cE P w K mg base CX k fa fd [x] sp)(hbind:∀(s:aw) (u:av),BindsTo s fd ⟨[u],[]⟩ [(x,u)])(hsp:∀H:Hp,lS H->PP.eC T H->aX K H a (ns.map V.int)->sp [.ref a] H (λv _=>v = .bl true) λ_ _ _=>False)(hCX:∀H e s',CX [] H s₁ (λ_ _ _=>False) e s'->False) :
  codeAny (model P w) callerA (.call (.ref fa) ⟨[.ref a],[]⟩) (λr s'=>r = .ok (.ret (.bool true))/\OldK s₁.heap s'.heap/\s'.os=s₁.os/\AllBare s'.gens) s₁:=by
 have rv:=uP hi;have lenV:=hi.length;have core:∀H:Hp,lS H->PP.eC T H->aX K H a (ns.map V.int)->bG P w H s₁.heap->(∀b,H b≠none->b=a∨∃z∈T,b=z.1)->(H a≠none->K.lookup a=none)->
   codeAny (model P w) callerA (.call (.ref fa) ⟨[.ref a],[]⟩) (λr s'=>r = .ok (.ret (.bool true))/\OldK s₁.heap s'.heap/\s'.os=s₁.os/\AllBare s'.gens) s₁:=by
  intro H hO hT hS hok hA hK;have base_of:∀{b:ax}{o:Obj},s₁.heap.get? b=some o->H b=none->(gA s₁.heap H).get? b=some o:=λe n=>C0 e n
  have noA:∀{b:ax}{o:Obj}{es:Array DictEntry}{ep:Nat},s₁.heap.get? b=some o->o.data = .dict es ep->H b=none:=λ{b o es ep} e d=>by
   cases q:H b with
   |none=>rfl
   |some u=>
    rcases hA b (by rw[q];simp) with e'|⟨z,hz,e'⟩
    ·subst e'
     rw[ha]at e;cases e;have d':Data.seq vs.toArray _=Data.dict es ep:=d;cases d'
    ·subst e'
     rw[(TK.1 z hz).1]at e;cases e;have d':Data.fields #[]=Data.dict es ep:=d;cases d'
  have nsK:∀{b:ax}{m:Str->Option av},s₁.heap.Ns b m->(gA s₁.heap H).Ns b m:=λ{b m} ⟨o,es,ep,e,d,r⟩=>⟨o,es,ep,base_of e (noA e d),d,r⟩
  have hKb:K.In (gA s₁.heap H):=λb o e=>base_of (KX b o e) (by
   cases q:H b with
   |none=>rfl
   |some u=>
    rcases hA b (by rw[q];simp) with e'|⟨z,hz,e'⟩
    ·subst e'
     rw[hK (by rw[q];simp)]at e;cases e
    ·subst e'
     rw[(TK.1 z hz).2.1]at e;cases e)
  have hbA:∀z∈T,fN (gA s₁.heap H) mg z.1:=λz hz=>by
   obtain⟨bm,ob,b1,b2,b3,b4,b5,b6⟩:=bmain
   have nP:∀y∈T,bm≠y.1:=λy hy e=>by
    rw[e,(TK.1 y hy).1]at b3;cases b3;have d':Data.fields #[]=Data.plain:=b6;cases d'
   refine⟨bm,ob,b1,b2,λe=>?_,nP z hz,base_of b3 ?_,b4,b5,b6⟩
   ·obtain⟨o,es,ep,e1,e2,_⟩:=hns
    rw[e,e1]at b3;cases b3;rw[b6]at e2;cases e2
   ·cases q:H bm with
    |none=>rfl
    |some u=>
     rcases hA bm (by rw[q];simp) with e'|⟨y,hy,e'⟩
     ·rw[e',ha]at b3;cases b3
      have d':Data.seq vs.toArray _=Data.plain:=b6;cases d'
     ·exact absurd e' (nP y hy)
  have hM:Mod K mg (gA s₁.heap H):=⟨hKb,nsK hns,⟨mb,nsK hb,hbb⟩,let ⟨mc,h1,h2⟩:=hlim;⟨mc,nsK h1,h2⟩⟩;have e0:kM P w K mg (gA s₁.heap H) callerA [] s₁ H:=⟨rfl,hM,λb o e=>C1 e,Nat.le_of_eq (B9 _ _),trivial,λb hb=>absurd (show b∈([]:List ax) from hb) (by simp),hok,.of_eq hg⟩;refine codeAny_mono ((F _ hKb (nsK hns) hbA).run callerA [] s₁ H ⟨[.ref a],[]⟩ [.ref a] [.ref a] _ _ hr e0 (hbind s₁ (.ref a)) (.cons rfl .nil) (hsp H hO hT hS)) λr s' h=>?_
  cases r with
  |error e=>exact (hCX H e s' h).elim
  |ok fl=>
   cases fl with
   |next=>exact False.elim h
   |brk=>exact False.elim h
   |cont=>exact False.elim h
   |ret u=>
    obtain⟨v,H',os,bare,un,hok',r',q⟩:=h
    have q':v = .bl true:=q;subst q';obtain rfl:u=Value.bool true:=r';refine⟨rfl,⟨λb o e=>?_,λb o e=>?_⟩,os,bare⟩
    ·cases q:H b with
     |none=>exact .inl (un.keep b o e q (by intro z;exact absurd (show b∈([]:List ax) from z) (by simp)) (by simp))
     |some u=>
      rcases hO b with z|⟨ob,xs,z⟩|⟨ps,z⟩
      ·rw[q]at z;cases z
      ·have z2:=un.frzs b ob _ z
       obtain⟨e1,_⟩:=hok b _ z
       obtain⟨e2,_⟩:=hok' b _ z2
       rw[e]at e1;cases e1;exact .inl e2
      ·rcases hA b (by rw[q];simp) with e'|⟨y,hy,e'⟩
       ·subst e'
        obtain⟨qs,e1,_⟩:=(show bK P w H s₁.heap b (.tbl ps) from hok b _ z)
        rw[ha]at e1;cases e1
       ·subst e'
        obtain⟨more,z2⟩:=un.tbls _ ps z
        obtain⟨qs,e2,_⟩:=(show bK P w H' s'.heap y.1 (.tbl (ps++more)) from hok' _ _ z2)
        rw[(TK.1 y hy).1]at e;cases e;exact .inr (.inl ⟨(TK.1 y hy).2.2,rfl,#[],qs,rfl,by simpa using e2⟩)
    ·exact un.there b o e (by simp)
 cases hk:K.lookup a with
 |some o=>
  have e:=KX a o hk;rw[ha]at e;cases e;have aT:∀z∈T,z.1≠a:=λz hz e=>by have:=(TK.1 z hz).1;rw[e,ha]at this;cases this
  refine core (gG T) (yF T) (yH TK.2) (.inr ⟨_,vs.toArray,_,hk,rfl,rfl,rfl,by rw[av7,lenV];exact hl,by simpa using rv⟩) (λb u z=>yI (λy hy=>(TK.1 y hy).1) z) (λb z=>.inr (sA z)) λz=>(by
   obtain⟨y,hy,e⟩:=sA z
   exact absurd e.symm (aT y hy))
 |none=>
  have aT:∀z∈T,z.1≠a:=λz hz e=>by have:=(TK.1 z hz).1;rw[e,ha]at this;cases this
  refine core (λb=>if b=a then some (.frz { cls:=.type "list",data:=.seq vs.toArray } (.lst (ns.map V.int))) else gG T b) (λb=>?_) (λz hz=>?_) (.inl (.inr ⟨{ cls:=.type "list",data:=.seq vs.toArray },if_pos rfl⟩)) (λb u z=>?_) (λb z=>?_) λ_=>hk
  ·by_cases hb:b=a
   ·exact .inr (.inl ⟨_,_,if_pos hb⟩)
   ·rcases yF T b with e|⟨o,xs,e⟩|⟨ps,e⟩
    ·exact .inl ((if_neg hb).trans e)
    ·exact .inr (.inl ⟨o,xs,(if_neg hb).trans e⟩)
    ·exact .inr (.inr ⟨ps,(if_neg hb).trans e⟩)
  ·obtain⟨t,e⟩:=yH TK.2 z hz
   exact⟨t,(if_neg (aT z hz)).trans e⟩
  ·by_cases hb:b=a
   ·have z':=(if_pos hb).symm.trans z
    cases z';subst hb
    exact⟨ha,by rw[av4];exact hl,vs,_,rv,ha⟩
   ·have z':=(if_neg hb).symm.trans z
    exact yI (λy hy=>(TK.1 y hy).1) z'
  ·by_cases hb:b=a
   ·exact .inl hb
   ·exact .inr (sA λe=>z ((if_neg hb).trans e))
theorem yJ {K:ad}{h:Heap}{c P:ax}(X:K.In h)(e:PySem.W.codeHdIn K c P=true):isCodeTable h P:=by
 obtain⟨o,vs,_,_,_,_,_,_,_,h1,h2,h3,h4,_⟩:=PySem.W.codeHd_of_K X e
 exact⟨c,o,vs,h1,h2,h3,h4⟩
theorem ak6 {K:ad}{H:Hp}{a:ax}{ns:ag}(hO:lS H)(h:aX K H a (ns.map V.int)):PP.gO K H a ns:=by
 rcases h with (h|⟨o,h⟩)|h
 ·rcases hO a with e|⟨o,xs,e⟩|⟨ps,e⟩<;>(rw[h]at e;cases e)
 ·exact .inl ⟨o,h⟩
 ·exact .inr h
theorem ak7 {l:PySem.W.OpenLaw}{n k:Nat}{q:ay}{loose:List Str}{XP:(Str->Option av)->Heap->Prop}{YP:ba->Heap->Prop}{d:DefRec}{K:Params->ad}{CX:ba->dC}{sp:ba->Sp}{x:Str}{T:List (ax×Str)}(hn:l.most=some n)(hn2:n<=sizeLine)(hdf:d.params.defaults = [])(hr:bE k callerA)(hY:∀(w:ba) (h:Heap),YP w h->(K w.params).In h)(hT:∀(w:ba) (h:Heap),YP w h->yE (K w.params) h T)(F:∀(w:ba) (mg:Str->Option av) (fa:ax) (h:Heap),(K w.params).In h->h.Ns mainGlobals mg->mg d.name=some (.ref fa)->
   ∃fd:FuncData,(∀(s:aw) (u:av),BindsTo s fd ⟨[u],[]⟩ [(x,u)])/\
    ∀base:Heap,(K w.params).In base->base.Ns mainGlobals mg->(∀z∈T,fN base mg z.1)->cE l.prog w (K w.params) mg base (CX w) k fa fd [x] (sp w))(hsp:∀(w:ba) (H:Hp) (a:ax) (ns:ag),ns.length<=n->lS H->PP.eC T H->aX (K w.params) H a (ns.map V.int)->sp w [.ref a] H (λv _=>v = .bl true) λ_ _ _=>False)(hCX:∀(w:ba) (H:Hp) (s:aw) (e:av) (s':aw),CX w [] H s (λ_ _ _=>False) e s'->False) :
  PySem.W.WalkO q loose XP YP l.row.toRowW d [] (λf vs=>PySem.call f vs):=by
 refine Att.O6 hn hdf λw s₀ s₁ mg mb fa o pm cd doc a vs ns G Y ho hd hcd hmg hobj hints ao hg=>?_
 have KX:=hY w _ Y
 obtain⟨fd,hb,hF⟩:=F w mg fa _ KX G.T.g hmg
 exact ak5 KX G.T.g G.T.b G.T.builtins G.T.nolimit hg hobj hints (ay7 ao hn2) hr (hT w _ Y) G.T.bmain hF hb (λH hO hT hS=>hsp w H a ns ao hO hT hS) λH e s'=>hCX w H s₁ e s'
end L2
namespace PP
open PySem L2
noncomputable def gH:b7:=λxs Q=>∃m p:Nat,xs = [.int m,.int p]/\m<4/\p<2/\Q (.int (Strip.has m p))
noncomputable def yK:aR:=dP (q2 (cU λi j=>.int (Builtin.bitAnd i j)) (q2 (RI (λ_ j=>0<=j) λi j=>.int (i/2^j.toNat)) (aC 0) (aC 1)) (qC (.int 1)))
theorem ak8 {m p:Nat}(hm:m<4)(hp:p<2):Builtin.bitAnd ((m:Int)/2^((p:Int).toNat)) 1=(Strip.has m p:Int):=by
 have h1:m=0∨m=1∨m=2∨m=3:=by omega
 have h2:p=0∨p=1:=by omega
 rcases h1 with rfl|rfl|rfl|rfl<;>rcases h2 with rfl|rfl<;>decide +kernel
theorem ak9:∀xs Q,gH xs Q->yK { nx:=λ_=>Q .non,rt:=Q } (bB ["mask","place"] xs):=by
 rintro _ Q ⟨m,p,rfl,hm,hp,q⟩;refine⟨_,rfl,_,rfl,_,_,rfl,rfl,by show (0:Int)<=(p:Int);omega,_,_,rfl,rfl,?_⟩;have e:PV.int (Builtin.bitAnd ((m:Int)/2^((p:Int).toNat)) 1) = .int (Strip.has m p):=by rw[ak8 hm hp]
 refine⟨trivial,?_⟩;show Q _;exact (congrArg Q e).mpr q
noncomputable def lT:b7:=λxs Q=>∃m:Nat,xs = [.int m]/\m<4/\Q (.int (Strip.one m))
noncomputable def yL:aR:=dP (q2 (cU λi j=>.int (i+j)) (aU gH (aH (aC 0) (aH (qC (.int 0)) aO))) (aU gH (aH (aC 0) (aH (qC (.int 1)) aO))))
theorem al0:∀xs Q,lT xs Q->yL { nx:=λ_=>Q .non,rt:=Q } (bB ["mask"] xs):=by
 rintro _ Q ⟨m,rfl,hm,q⟩;refine⟨_,rfl,m,0,rfl,hm,by decide,_,rfl,m,1,rfl,hm,by decide,_,_,rfl,rfl,?_⟩;have e:PV.int ((Strip.has m 0:Int)+(Strip.has m 1:Int)) = .int (Strip.one m):=by unfold Strip.one;rw[Int.natCast_add]
 refine⟨trivial,?_⟩;show Q _;exact (congrArg Q e).mpr q
end PP
namespace L2
open PySem PySem.Spec PyProof.Rows
section
variable {X:Cx}{ai:List (ax×Obj)}{σ:St}{H:Hp}{s:aw}{a:ax}{tg l e:Expr}{tl t:TE}
noncomputable def sB (t:TE):TE:=λσ H Q=>t σ H λv H1=>∃a kvs,v = .ref a/\H1 a=some (.dA kvs)/\∀o,Q v (upd H1 a (.frz o (.dA kvs)))
theorem yM (h:PE X e t):PE X e (sB t):=by
 intro ai s σ H Q I hq;refine aL (h ai s σ H _ I hq) λv s1 h1=>?_
 obtain⟨x,H1,I1,r1,a,kvs,ex,ea,q⟩:=h1
 obtain⟨es,ep,ys,⟨o,e1,e2,e3⟩,_⟩:=af8 I1 ea
 exact⟨x,_,I1.frozeD ea rfl e1,r1,q _⟩
theorem al1 {o:Obj}{kvs:List (List (Int×Bool)×V)}(I:aA X ai σ H s)(h:H a=some (.frz o (.dA kvs))):∃es ep ys,o.ExactDict/\o.data = .dict es ep/\s.heap.get? a=some o/\(a==sysModules)=false/\Paired (qZ H) ys (kvs.map (·.1))/\aM ys (es.toList.map (·.key)):=by
 obtain⟨e0,z,far,xs,rel,o',es,ep,e1,e2,e3,e4,nd⟩:=(show bK X.prog X.w H s.heap a (.frz o (.dA kvs)) from I.hok a _ h)
 rw[e0]at e1;cases e1;refine⟨es,ep,xs.map λq=>V.ref q.2.1,e2,e3,e0,far,?_,?_⟩
 ·clear e4 nd h z
  induction rel with
  |nil=>exact .nil
  |cons r rs ih=>exact .cons ⟨_,rfl,r.2.1⟩ ih
 ·rw[e4]
  clear rel e4 nd
  induction xs with
  |nil=>exact .nil
  |cons q qs ih=>exact .cons rfl ih
noncomputable def yN (tl:TE):TI:=λσ H R=>tl σ H λx H1=>∃a o kvs,x = .ref a/\H1 a=some (.frz o (.dA kvs))/\∀ys,Paired (qZ H1) ys (kvs.map (·.1))->R (wG a o ys) H1
theorem al2 (hl:PE X l tl):PI X tg l (yN tl):=by
 intro ai s σ H R I h;refine aL (hl ai s σ H _ I h) λv s1 h1=>?_
 obtain⟨x,H1,I1,r1,a,o,kvs,e,ha,q⟩:=h1
 subst e;cases r1
 obtain⟨es,ep,ys,e2,e3,e1,far,pk,vl⟩:=al1 I1 ha
 have hf:H1 s1.heap.objs.size=none:=I1.hok.fresh (aw5 _);refine Raw.made far ⟨o,e1,e2,e3⟩ ?_;refine⟨s1.heap.objs.size,[s1.heap.objs.size],_,_,H1,rfl,I1.kept (t':=s1.toks) λb o e=>av6 _ e,aa1 a _ ⟨e2,e3⟩ vl,⟨_,aw8 _ rfl,rfl,rfl⟩,λb hb=>?_,q ys pk⟩;obtain rfl:b=s1.heap.objs.size:=by simpa using hb
 exact I1.fpOk (aw5 _) hf
theorem al3 (hc:X.calm=true)(hu:X.A.units+6<cLine):d9 X (.builtin "min") (λxs H Q=>∃x y a c ns ms,xs = [x,y]/\PP.aE X.K (λ_=>True) H x (fG a ns)/\PP.aE X.K (λ_=>True) H y (fG c ms)/\Q (if HT.bX (c::ms) (a::ns)=true then y else x) H):=by
 intro ai s σ H xs us Q I r h
 obtain⟨x,y,a,c,ns,ms,rfl,q1,q2,q⟩:=h
 obtain⟨u,w',rfl,r1,r2⟩:=K9 r
 refine ag7 (lt:=HT.bX (c::ms) (a::ns)) (I.ok.hd hc) (λh k Q E old hq=>?_) λh k old=>⟨_,H,I.kept (t':=k) old,?_,q⟩
 ·exact af1 (A:=X.A.in1) (by show X.A.units+1+4<cLine;omega) (I.kept (t':=k) old) q2 q1 r2 r1 hq
 ·split
  ·exact r2
  ·exact r1
end
end L2
namespace PP
open PySem L2
section
variable {X:Cx}{σ:St}{H:Hp}{D:cX}{Q':VK}{te:aG}{e a b:Expr}{ta tb:aG}{tr:bQ}{pos p2 p3:Pos}{R:It→Hp→Prop}
noncomputable def o9 (te:aG):aG:=λρ Q=>te ρ λx g=>∃ps,x = .dA ps/\g = .fr/\flats (ps.map (·.2))=true/\Q (.fA ps) .fr
theorem al4 (h:LE X (o9 te) σ H Q'):sB (LE X te) σ H Q':=by
 obtain⟨W,ρ,Q,px,q,k⟩:=h
 refine⟨W,ρ,_,px,q,?_⟩;rintro v H1 x g s r ⟨ps,rfl,rfl,f,q⟩;cases r with
 |@dA a kvs _ m e ek r=>
  refine⟨a,kvs,rfl,e,λo=>k _ _ _ .fr (λb u hb=>?_) (.fA bI ek ((r.flat (M':=λ_=>False) f).keep (.upd e rfl λb z=>z.elim))) q⟩;have nb:b≠a:=λz=>by have m:H a=none:=m;rw[z,m]at hb;cases hb
  rw[aK nb];exact s b u hb
theorem oA (h:QE X e te):QE X e (o9 te):=bR (yM h) λ_ _ _=>al4
noncomputable def lU (i:Nat)(te:aG):aR:=λD ρ=>te ρ λx g=>g = .fr/\((∃ps,x = .dA ps/\flats (ps.map (·.2))=true)∨∃ps,x = .dB ps/\flats (ps.map (·.2))=true)/\D.nx (ρ.set i (some (.own x)))
theorem al5 {i:Nat}(h:LS X (lU i te) D σ H):iG (LE X te) (cQ i) D σ H:=by
 obtain⟨W,ρ,D',px,q,k⟩:=h
 refine⟨W,ρ,_,px,q,?_⟩;rintro v H1 x g s r ⟨rfl,o,q⟩
 obtain⟨a,rfl,m,w⟩:∃a,v = .ref a/\H a=none/\∀M',eW X.K M' H1 a x:=by
  rcases o with⟨ps,rfl,f⟩|⟨ps,rfl,f⟩
  ·cases r with
   |dA m e q r=>exact⟨_,rfl,m,λ_=>⟨_,e,q,r.flat f⟩⟩
  ·cases r with
   |dB m e q r=>exact⟨_,rfl,m,λ_=>⟨_,e,q,r.flat f⟩⟩
 exact k.nx _ _ H1 _ (Ev.own s m) (px.setOwn s m (w _)) q
theorem lV {i:Nat}{x:Str}(hN:X.N.Nodup)(he:QE X e te)(hi:X.N[i]? = some x:=by rfl)(hx:eR X.env.scope x:=by first|exact Or.inl rfl|exact Or.inr rfl)(hs:swapsWith e (some (.Name x p2)) pos.line X.env=pure false:=by rfl)(hf:X.fn x=true∨X.env.scope.names.lookup x=some .local:=by first|exact .inl rfl|exact .inr rfl) :
  QS X (.Assign [.Name x p2] e pos) (lU i te):=d4 (kG hN hi hx he hs hf) λ_ _ _=>al5
noncomputable def sC (j i:Nat):aR:=λD ρ=>∃ps,ρ[j]? = some (some (.own (.dA ps)))/\D.nx ((ρ.set j (some (.sh true (.fA ps)))).set i (some (.sh true (.fA ps))))
theorem al6 {K:ad}{H0:Hp}{W:ax->Prop}{ρ:bL}{i:Nat}{a:ax}{o:Obj}{ps:List (List (Int×Bool)×PV)}{kvs:List (List (Int×Bool)×V)}(p:PX K H0 W σ ρ H)(hi:ρ[i]? = some (some (.own (.dA ps))))(ha:σ[i]? = some (some (.ref a)))(wa:W a)(e0:H a=some (.dA kvs))(r:aE K (Ms H0 (jK W a) true) (upd H a (.frz o (.dA kvs))) (.ref a) (.fA ps)):PX K H0 (jK W a) σ (ρ.set i (some (.sh true (.fA ps)))) (upd H a (.frz o (.dA kvs))):=by
 obtain⟨w0,_⟩:=p.wm a wa
 have kp:∀g,dO (Ms H0 W g) (Ms H0 (jK W a) g) H (upd H a (.frz o (.dA kvs))):=λg=>.upd e0 rfl λb m=>⟨hG wa m,vJ m⟩
 refine⟨by rw[aB2];exact p.len,λb u e=>by rw[aK (λz=>by rw[z,w0]at e;cases e)];exact p.same _ _ e,λb z=>?_,λj m h=>?_,λj k y' z b h1 h2 h3 h4=>?_⟩
 ·obtain⟨h1,o2,h2,h3⟩:=p.wm b z.1
  exact⟨h1,o2,by rw[aK z.2];exact h2,h3⟩
 ·rcases eN h with⟨rfl,hl,e⟩|⟨hne,h⟩
  ·cases e
   exact⟨_,ha,r⟩
  ·obtain⟨u,e,q⟩:=p.sl j m h
   refine⟨u,e,?_⟩;cases m with
   |sh g y=>exact aE.keep (kp g) q
   |own y=>
    obtain⟨b,e1,e2,q⟩:=q
    have hb:b≠a:=λz=>by
     subst e1;rw[z]at e;exact hne (p.dis j i _ _ a h hi e ha)
    exact⟨b,e1,⟨e2,hb⟩,q.keep (kp true) λo z=>by rw[aK hb];exact z⟩
   |kp g c ks=>exact⟨⟨q.1.1.keep (.upd e0 rfl λb m=>m.elim),q.1.2⟩,q.2.upd e0 rfl⟩
 ·rcases eN h1 with⟨_,_,e⟩|⟨_,h1⟩
  ·cases e
  ·rcases eN h2 with⟨_,_,e⟩|⟨_,h2⟩
   ·cases e
   ·exact p.dis j k _ _ b h1 h2 h3 h4
theorem al7 {i j:Nat}(h:LS X (sC j i) D σ H):iG (sB (cI j)) (cQ i) D σ H:=by
 obtain⟨W,ρ,D',px,⟨ps,hj,q⟩,k⟩:=h
 obtain⟨v,ev,a,rfl,wa,kvs,e0,ek,r⟩:=px.sl j _ hj
 refine⟨_,ev,a,kvs,rfl,e0,λo=>?_⟩;have r1:aE X.K (Ms X.H₀ (jK W a) true) (upd H a (.frz o (.dA kvs))) (.ref a) (.fA ps):=.fA bI ek (r.keep (.upd e0 rfl λb m=>⟨hG (g:=true) wa m,vJ (g:=true) m⟩));exact k.nx (jK W a) _ _ _ (λb u e n _=>⟨by rw[aK (λz=>n (by rw[z];exact wa))];exact e,λz=>n z.1⟩) ((al6 px hj ev wa e0 r1).setSh r1) q
theorem yO (j:Nat){i:Nat}{x y:Str}(hN:X.N.Nodup)(he:PE X (.Name y p3) (cI j):=by exact pv _)(hi:X.N[i]? = some x:=by rfl)(hx:eR X.env.scope x:=by first|exact Or.inl rfl|exact Or.inr rfl)(hs:swapsWith (.Name y p3) (some (.Name x p2)) pos.line X.env=pure false:=by rfl)(hf:X.fn x=true∨X.env.scope.names.lookup x=some .local:=by first|exact .inl rfl|exact .inr rfl) :
  QS X (.Assign [.Name x p2] (.Name y p3) pos) (sC j i):=d4 (kG hN hi hx (yM he) hs hf) λ_ _ _=>al7
noncomputable def oB (te:aG):dQ:=λρ Q=>te ρ λx _=>∃ps:List (List (Int×Bool)×PV),x = .fA ps/\Q (ps.map λp=>.tup (p.1.map λq=>.tup [.int q.1,.bl q.2])) true
theorem al8 (h:LI X (oB te) σ H R):yN (LE X te) σ H R:=by
 obtain⟨W,ρ,Q,px,q,k⟩:=h
 refine⟨W,ρ,_,px,q,?_⟩;rintro v H1 x g s r ⟨ps,rfl,q⟩;cases r with
 |@fA a o kvs _ e ek r=>
  have px1:=px.mono s;have noW:∀{b:ax}{u:HO},H1 b=some u->dE u=false->¬W b:=λ{b u} e m z=>by
   obtain⟨_,w,e2,m2⟩:=px1.wm b z
   rw[e]at e2;cases e2;rw[m]at m2;cases m2
  refine⟨a,o,kvs,rfl,e,λys pk=>k _ _ _ _ s ?_ q⟩;have ll:=pk.length;have lk:=jR ek;rw[av4]at ll;refine⟨λW' H' i ev hi=>⟨⟨_,(ev _ _ e (noW e rfl) rfl).1⟩,by rw[av4]at hi;omega⟩,λW' H' i v H2 ev y hi=>?_,λW' H' ev=>⟨⟨_,(ev _ _ e (noW e rfl) rfl).1⟩,by rw[av4];omega⟩⟩
  obtain⟨rfl,y⟩:=y
  refine⟨aI.refl _,?_⟩
  obtain⟨key,hkey,q2,rfl,hq2⟩:=wS pk y
  rw[ek,ax6]at hkey;cases e2:ps[i]? with
  |none=>rw[e2]at hkey;cases hkey
  |some pp=>
   rw[e2]at hkey;have e3:pp.1=key:=ax7 hkey;refine⟨.tup (pp.1.map λq=>.tup [.int q.1,.bl q.2]),by rw[ax6,e2];rfl,?_⟩;rw[e3];exact x4 (hq2.keeps λb xs e=>(ev _ _ e (noW e rfl) rfl).1)
theorem oC {tg l:Expr}(hl:QE X l te):QI X tg l (oB te):=nM (al2 hl) λ_ _ _=>al8
noncomputable abbrev yP (ta tb:aG):aG:=q2 (cU λi j=>.int (Builtin.bitOr i j)) ta tb
theorem al9 (ha:QE X a ta)(hb:QE X b tb):QE X (.BinOp a .BitOr b pos) (yP ta tb):=fU J5 nB ha hb
noncomputable def oD:List PV->(PV->Prop)->Prop:=λxs Q=>∃(a c:Int) (ns ms:ag),xs = [fG a ns,fG c ms]/\Q (if HT.bX (c::ms) (a::ns)=true then fG c ms else fG a ns)
theorem am0:dY X oD (λxs H Q=>∃x y a c ns ms,xs = [x,y]/\aE X.K (λ_=>True) H x (fG a ns)/\aE X.K (λ_=>True) H y (fG c ms)/\Q (if HT.bX (c::ms) (a::ns)=true then y else x) H):=by
 rintro H vs xs Q Q' r ⟨a,c,ns,ms,rfl,q⟩ k
 obtain⟨v,w,rfl,r1,r2⟩:=r.two
 refine⟨v,w,a,c,ns,ms,rfl,r1,r2,k _ _ _ (aI.refl _) ?_ q⟩;split
 ·exact r2.flat (o0 _ _)
 ·exact r1.flat (o0 _ _)
theorem am1 (B:Bt X.mg)(hc:X.calm=true)(hu:X.A.units+6<cLine)(ha:QA X [a,b] tr)(hg:Gl X "min":=by rfl)(he:starEach [a,b] X.env=(false,eval a X.env)::starEach [b] X.env:=by rfl)(hpl:(backTo pos (starEach [b] X.env)).any (·.1)=false:=by rfl):QE X (.Call (.Name "min" p2) [a,b] [] pos) (aU oD tr):=
 nO (al3 hc hu) am0 hg B.min PyProof.Rows.boot_min ha (he:=he) (hpl:=hpl)
end
end PP
namespace Strip
noncomputable def cA (w:ag):Prop:=1<=w.length/\w.length<=2
theorem cA.two {w:ag}(o:cA w):(∃a,w = [a])∨∃a b,w = [a,b]:=by
 obtain⟨h1,h2⟩:=o
 match w,h1,h2 with
 |[a],_,_=>exact .inl ⟨a,rfl⟩
 |[a,b],_,_=>exact .inr ⟨a,b,rfl⟩
 |[],h1,_=>exact absurd h1 (by decide)
 |_::_::_::_,_,h2=>exact absurd h2 (by simp)
noncomputable def cW (w:ag)(a:aB):Prop:=a.length=2^w.length/\∀q∈a,q.1<2^w.length
theorem am2 {w:ag}(o:cA w)(bh bu ah:Nat):(w.length=1/\∃c:Bool,cD w bh bu ah=if c then bu ||| 1 else bu) ∨
  (w.length=2/\∃c d:Bool,cD w bh bu ah=if d then (if c then bu ||| 1 else bu) ||| 2 else if c then bu ||| 1 else bu):=by
 rcases o.two with⟨a,rfl⟩|⟨a,b,rfl⟩
 ·refine .inl ⟨rfl,decide (((has bh 0+has ah 0+(if 0<=1 then has bu (1-0) else 0):Nat):Int) >= a),?_⟩
  unfold cD jT;simp only[aA0];rfl
 ·refine .inr ⟨rfl,decide (((has bh 0+has ah 0+(if 0<=1 then has bu (1-0) else 0):Nat):Int) >= a),decide (((has bh 1+has ah 1+(if 1<=1 then has bu (1-1) else 0):Nat):Int) >= b),?_⟩
  unfold cD;simp only[jT,aA0];rfl
theorem lt4 {n:Nat}(h:n<2^2):n=0∨n=1∨n=2∨n=3:=by have:n<4:=h;omega
theorem lt2 {n:Nat}(h:n<2^1):n=0∨n=1:=by have:n<2:=h;omega
theorem yQ {w:ag}(o:cA w)(bh ah:Nat){bu:Nat}(h:bu<2^w.length):cD w bh bu ah<2^w.length/\(cD w bh bu ah=bu∨one bu+1<=one (cD w bh bu ah))/\one bu<=w.length:=by
 rcases am2 o bh bu ah with⟨e,c,z⟩|⟨e,c,d,z⟩
 ·rw[e]at h ⊢
  rw[z];rcases lt2 h with rfl|rfl<;>cases c<;>decide
 ·rw[e]at h ⊢
  rw[z];rcases lt4 h with rfl|rfl|rfl|rfl<;>cases c<;>cases d<;>decide
theorem yR {w:ag}{a:aB}{ah n b:Nat}(hn:0<n)(e:cD w (a.getD b (0,false)).1 b ah=b):iA w a ah n b=b:=by
 obtain⟨m,rfl⟩:=Nat.exists_eq_succ_of_ne_zero (aB8 hn)
 show (if cD w (a.getD b (0,false)).1 b ah=b then b else _)=b;rw[if_pos e]
theorem yS {w:ag}{a:aB}{ah n b:Nat}(e:cD w (a.getD b (0,false)).1 b ah≠b):iA w a ah (n+1) b=iA w a ah n (cD w (a.getD b (0,false)).1 b ah):=by
 show (if cD w (a.getD b (0,false)).1 b ah=b then b else _)=_;rw[if_neg e]
theorem yT {w:ag}(o:cA w)(a:aB)(ah:Nat):∀(n:Nat) {b:Nat},b<2^w.length->iA w a ah n b<2^w.length
 |0,_,h=>h
 |n+1,b,h=>by
  by_cases e:cD w (a.getD b (0,false)).1 b ah=b
  ·rw[yR (Nat.succ_pos _) e];exact h
  ·rw[yS e];exact yT o a ah n (yQ o _ _ h).1
theorem yU {w:ag}(o:cA w):cW w (aV w):=⟨List.length_replicate,λq h=>by rw[List.eq_of_mem_replicate h];exact Nat.two_pow_pos _⟩
theorem yV {w:ag}(o:cA w){a:aB}(h:cW w a){s:Nat}(hs:s<2^w.length):cW w (next w a s):=by
 refine⟨by unfold next;rw[av4,aF2];exact h.1,λq hq=>?_⟩;unfold next at hq
 obtain⟨ah,_,rfl⟩:=aA9.mp hq
 exact yT o a ah _ hs
theorem oE {w:ag}{a:aB}{q:Nat×aB}(h:q∈after w a):q.1<a.length/\q.2=next w a q.1/\kept q.2=true:=by
 unfold after at h
 obtain⟨h1,h2⟩:=List.mem_filter.mp h
 obtain⟨s,hs,rfl⟩:=aA9.mp h1
 exact⟨aB7.mp hs,rfl,h2⟩
theorem am3 {w:ag}(o:cA w){a:aB}(h:cW w a){q:Nat×aB}(hq:q∈after w a):cW w q.2:=by
 obtain⟨h1,h2,_⟩:=oE hq
 rw[h2];exact yV o h (by rw[<- h.1];exact h1)
theorem am4 (w:ag)(a:aB):(after w a).length<=a.length:=by
 unfold after;refine ay7 (List.length_filter_le ..) ?_;rw[av4,aF2];exact aw5 _
theorem lW {w:ag}(o:cA w):2^w.length=2∨2^w.length=4:=by
 rcases o.two with⟨a,rfl⟩|⟨a,b,rfl⟩
 ·exact .inl rfl
 ·exact .inr rfl
theorem oF {α:Type}[DecidableEq α]:∀{l m:List α},l.Nodup->(∀x∈l,x∈m)->l.length<=m.length
 |[],_,_,_=>aG0 _
 |x::r,m,n,h=>by
  rw[aA3]at n
  have:=oF (m:=m.erase x) n.2 λy hy=>(List.mem_erase_of_ne (λe:y=x=>n.1 (by rw[<- e];exact hy))).mpr (h y (aw4 _ hy))
  rw[List.length_erase_of_mem (h x av5)]at this
  have:0<m.length:=List.length_pos_of_mem (h x av5)
  rw[aC9];omega
structure Closed (w:ag)(S:List aB):Prop where
 b:aV w∈S
 go:∀a∈S,∀q∈after w a,q.2∈S
 len:S.length<=5000
structure jV (w:ag)(Ks:List aB):Prop extends Closed w Ks where
 nd:Ks.Nodup
 wf:∀a∈Ks,cW w a
theorem am5 {w:ag}{S:List aB}{R:List (aB×aB)}(c:o5 w S R=true)(l:S.length<=5000):Closed w S:=by
 obtain⟨c1,c2⟩:=aB5.mp c
 refine⟨by simpa using c1,λa ha q hq=>?_,l⟩
 obtain⟨h1,h2,h3⟩:=oE hq
 have:=ax0.mp c2 a ha
 rw[aw7]at this
 have:=ax0.mp this.2 q.1 (aB7.mpr h1)
 rw[aC5]at this;rcases this with z|z
 ·rw[h2]at h3;rw[h3]at z;cases z
 ·rw[h2];simpa using z
theorem am6:(dF.all λw=>decide ((lL w).length<=1000))=true:=by decide +kernel
theorem am7 {w:ag}(h:w∈dF):∃S,Closed w S:=by
 have q:=ax0.mp rC w h;rw[aw7]at q
 exact⟨_,am5 q.2 (ay7 (of_decide_eq_true (ax0.mp am6 w h)) (by decide))⟩
end Strip
namespace PP
open PySem L2
open Strip (aB cA cW)
open Core (cR si)
theorem am8 {b:Bool}{x:PV}{P:Prop}(h:(Slot.sh b x).tag = .rd):P:=by cases b<;>cases h
noncomputable def ki (a:aB):List (Int×Bool):=a.map λq=>((q.1:Int),q.2)
theorem sD:∀{a b:aB},ki a=ki b->a=b
 |[],[],_=>rfl
 |[],_::_,h=>by cases h
 |_::_,[],h=>by cases h
 |x::r,y::t,h=>by
  injection h with h1 h2
  injection h1 with h3 h4
  rw[sD h2,show x=y from Prod.ext (Int.ofNat.inj h3) h4]
noncomputable abbrev bA (a:aB):PV:=gV (ki a)
noncomputable def dH (p:Nat×aB):PV:=.tup [.int p.1,bA p.2]
noncomputable def eF (q:Nat×Bool):PV:=.tup [.int q.1,.bl q.2]
theorem lX (a:aB):jM (bA a)=some (a.map eF):=by
 show some ((ki a).map _)=_;unfold ki;rw[aC2];rfl
theorem sE (a:aB):kY (bA a)=some a.length:=by
 show some ((ki a).map _).length=_;unfold ki;rw[av4,av4]
theorem oG {a:aB}{b:Nat}(h:b<a.length):L2.atI (a.map eF) (b:Int)=some (eF (a.getD b (0,false))):=by
 refine u7 ?_;rw[ax6,ax3 h,az3,ax3 h];rfl
theorem am9 {a:aB}(h:0<a.length):L2.atI (a.map eF) (-1)=some (eF (a.getD (a.length-1) (0,false))):=by
 have ne:a≠[]:=λz=>by rw[z]at h;cases h
 obtain⟨l,x,rfl⟩:∃l x,a=l++[x]:=⟨a.dropLast,a.getLast ne,(List.dropLast_concat_getLast ne).symm⟩
 rw[ay0];refine (L2.M6 (l.map eF) (eF x)).trans ?_;rw[ay1];simp
theorem yW (a:aB):flats (a.map eF)=true:=by
 induction a with
 |nil=>rfl
 |cons x r ih=>show (flat (eF x)&&flats (r.map eF))=true;rw[ih];rfl
theorem lY (a:aB):flat (bA a)=true:=by
 show flats ((ki a).map _)=true;have e:((ki a).map λq=>PV.tup [.int q.1,.bl q.2])=a.map eF:=by unfold ki;rw[aC2];rfl
 rw[e];exact yW a
theorem yX (p:Nat×aB):flat (dH p)=true:=by
 show (flat (.int p.1)&&(flat (bA p.2)&&true))=true;rw[lY];rfl
theorem sF (l:List (Nat×aB)):flats (l.map dH)=true:=by
 induction l with
 |nil=>rfl
 |cons x r ih=>show (flat (dH x)&&flats (r.map dH))=true;rw[ih,yX];rfl
noncomputable def jW:b7:=λxs Q=>∃x ws,∃bh bu ah:Nat,xs = [x,.int bh,.int bu,.int ah]/\cR x ws/\cA ws/\bh<2^ws.length/\bu<2^ws.length/\ah<2^ws.length/\Q (.int (Strip.cD ws bh bu ah:Nat))
noncomputable def yY:aR:=(bC (cG 4 (aC 2))
 (bC (gR (qV (aC 0)) (jP 5 6)
  (fC (cC (X2 (iU (iU (aU gH (aH (aC 1) (aH (aC 5) aO))) (aU gH (aH (aC 3) (aH (aC 5) aO)))) (aU gH (aH (aC 2) (aH (vY (qC (.int 1)) (aC 5)) aO)))) (aC 6)))
   (cG 4 (yP (aC 4) (vZ (qC (.int 1)) (aC 5)))) fB))
 (nG 4)))
theorem sG {w:ag}(o:cA w){n:Nat}(h:n<2^w.length):n<4:=by rcases Strip.lW o with e|e<;>omega
theorem ao0 {l p:Nat}(hl:l<4)(hp:p<2):Builtin.bitOr (l:Int) (1*2^((p:Int)).toNat)=((l ||| (1 <<< p):Nat):Int):=by
 have h1:l=0∨l=1∨l=2∨l=3:=by omega
 have h2:p=0∨p=1:=by omega
 rcases h1 with rfl|rfl|rfl|rfl<;>rcases h2 with rfl|rfl<;>decide +kernel
theorem ao1 {l p:Nat}(hl:l<4)(hp:p<2):l ||| (1 <<< p)<4:=by
 have h1:l=0∨l=1∨l=2∨l=3:=by omega
 have h2:p=0∨p=1:=by omega
 rcases h1 with rfl|rfl|rfl|rfl<;>rcases h2 with rfl|rfl<;>decide +kernel
theorem ao2:∀xs Q,jW xs Q->yY { nx:=λ_=>Q .non,rt:=Q } (bB ["wants","behind","burning","ahead","lit","place","want"] xs):=by
 rintro _ Q ⟨x,ws,bh,bu,ah,rfl,hx,ow,h1,h2,h3,q⟩;have h1:=sG ow h1;have h2:=sG ow h2;have h3:=sG ow h3;refine⟨_,rfl,trivial,_,rfl,intz ws,hx.symm,am8,λi ρ=>∃lit:Nat,∃y5 y6,ρ = [some (.sh (flat x) x),si bh,si bu,si ah,si lit,y5,y6]/\lit<4/\Strip.jT ws bh bu ah i (ws.drop i) lit=Strip.cD ws bh bu ah,⟨bu,none,none,rfl,h2,rfl⟩,?_,?_⟩
 ·rintro i z ρ hz ⟨lit,y5,y6,rfl,hl,e⟩
  have hi:i<(intz ws).length:=by
   have:=(ay2.mp hz).1
   rwa [nX]at this
  have hi2:i<ws.length:=by rwa [av4]at hi
  have hw:(intz ws)[i]? = some (.int ws[i]):=by rw[ax6,ax3 hi2];rfl
  rw[qU hw]at hz;cases hz;have p2:i<2:=by have:=ow.2;omega
  refine⟨_,_,rfl,?_⟩;have c1:((1:Int)-(i:Int))=((1-i:Nat):Int):=by omega
  refine⟨_,rfl,_,rfl,bh,i,rfl,h1,p2,_,rfl,_,rfl,ah,i,rfl,h3,p2,_,_,rfl,rfl,_,rfl,_,rfl,_,_,rfl,rfl,bu,1-i,by rw[<- c1];rfl,h2,by omega,_,_,rfl,rfl,_,rfl,_,_,rfl,rfl,_,rfl,?_⟩;have dr:ws.drop i=ws[i]::ws.drop (i+1):=List.drop_eq_getElem_cons hi2;rw[dr]at e;unfold Strip.jT at e;rw[if_pos (show i<=1 by omega)]at e;have ce:((Strip.has bh i:Int)+(Strip.has ah i:Int)+(Strip.has bu (1-i):Int))=((Strip.has bh i+Strip.has ah i+Strip.has bu (1-i):Nat):Int):=by omega
  show if decide ((Strip.has bh i:Int)+(Strip.has ah i:Int)+(Strip.has bu (1-i):Int) >= ws[i])=true then _ else _
  rw[ce];by_cases g:((Strip.has bh i+Strip.has ah i+Strip.has bu (1-i):Nat):Int) >= ws[i]
  ·rw[if_pos g]at e
   rw[ay5 g];refine bY ⟨_,rfl,_,rfl,_,_,rfl,rfl,⟨by omega,by omega,by decide⟩,_,_,rfl,rfl,trivial,?_⟩
   exact⟨lit ||| (1 <<< i),_,_,by rw[<- ao0 hl p2];rfl,ao1 hl p2,e⟩
  ·rw[if_neg g]at e
   rw[aw1 g];exact cF ⟨lit,_,_,rfl,hl,e⟩
 ·rintro ρ ⟨lit,y5,y6,rfl,hl,e⟩
  have e0:ws.drop (i6 (intz ws)).length = []:=List.drop_eq_nil_of_le (by rw[nX,av4];exact aw5 _);rw[e0]at e;have e:lit=_:=e;refine⟨_,rfl,trivial,?_⟩;show Q (.int (lit:Int));rw[e];exact q
noncomputable def lZ:b7:=λxs Q=>∃x ws a,∃s ah:Nat,xs = [x,bA a,.int s,.int ah]/\cR x ws/\cA ws/\cW ws a/\s<2^ws.length/\ah<2^ws.length/\Q (eF (Strip.lK ws a s ah))
noncomputable def yZ:aR:=(bC (cG 4 (aC 2))
 (bC (cG 5 (aU jW (aH (aC 0) (aH (dU (dU (aC 1) (aC 4)) (qC (.int 0))) (aH (aC 4) (aH (aC 3) aO))))))
 (bC (nH (cC (X3 (aC 5) (aC 4)))
  (bC (cG 4 (aC 5))
  (cG 5 (aU jW (aH (aC 0) (aH (dU (dU (aC 1) (aC 4)) (qC (.int 0))) (aH (aC 4) (aH (aC 3) aO))))))))
 (bC (cG 6 (vY (aU gQ (aH (aC 1) aO)) (qC (.int 1))))
 (dP (eZ (aH (aC 4) (aH (pQ (qF (aC 4) (aC 6)) (dU (dU (aC 1) (aC 6)) (qC (.int 1)))) aO))))))))
theorem z0 {w:ag}{a:aB}(h:cW w a){b:Nat}(hb:b<2^w.length):(a.getD b (0,false)).1<2^w.length:=by
 rw[<- h.1]at hb;rw[az3,ax3 hb];exact h.2 _ (List.getElem_mem hb)
theorem ao3:∀xs Q,lZ xs Q->yZ { nx:=λ_=>Q .non,rt:=Q } (bB ["wants","answer","seeds","ahead","burning","more","whole"] xs):=by
 rintro _ Q ⟨x,ws,a,s,ah,rfl,hx,ow,wf,h1,h2,q⟩;have wl:=wf.1;refine⟨_,rfl,trivial,?_⟩;refine⟨_,rfl,_,rfl,_,rfl,_,_,_,lX a,rfl,oG (by rw[wl];exact h1),_,_,_,rfl,rfl,rfl,_,rfl,_,rfl,x,ws,(a.getD s (0,false)).1,s,ah,rfl,hx,ow,z0 wf h1,h1,h2,trivial,?_⟩;have fa:flat (bA a)=true:=lY a;refine⟨λm ρ=>∃b:Nat,ρ = [some (.sh (flat x) x),some (.sh (flat (bA a)) (bA a)),si s,si ah,si b,si (Strip.cD ws (a.getD b (0,false)).1 b ah),none]/\b<2^ws.length/\ws.length+1<=m+Strip.one b/\Strip.iA ws a ah m b=Strip.iA ws a ah (ws.length+1) s,⟨ws.length+1,s,rfl,h1,by omega,rfl⟩,?_⟩;rintro m ρ ⟨b,rfl,hb,hm,e⟩
 obtain⟨k1,k2,k3⟩:=Strip.yQ ow (a.getD b (0,false)).1 ah hb
 have mp:0<m:=by omega
 refine⟨_,rfl,_,rfl,.inl ⟨_,_,rfl,rfl,_,rfl,?_⟩⟩;by_cases g:Strip.cD ws (a.getD b (0,false)).1 b ah=b
 ·rw[show (if true=true then !decide (((Strip.cD ws (a.getD b (0,false)).1 b ah:Nat):Int)=(b:Int)) else decide (((Strip.cD ws (a.getD b (0,false)).1 b ah:Nat):Int)=(b:Int)))=false by rw[if_pos rfl,g,ay5 rfl];rfl]
  rw[Strip.yR mp g]at e;refine cF ?_;have w0:0<a.length:=by rw[wl];exact Nat.two_pow_pos _
  have c1:((a.length:Int)-1)=((a.length-1:Nat):Int):=by omega
  refine⟨_,rfl,_,_,rfl,sE a,_,_,rfl,rfl,trivial,?_⟩;have es:Strip.lK ws a s ah=(b,b==a.length-1&&(a.getD (a.length-1) (0,false)).2):=by unfold Strip.lK;rw[<- e]
  rw[es]at q;refine⟨_,rfl,_,rfl,_,rfl,.inl ⟨_,_,rfl,rfl,_,rfl,?_⟩⟩;show if (if false=true then !decide ((b:Int)=(a.length:Int)-1) else decide ((b:Int)=(a.length:Int)-1))=true then _ else _
  rw[if_neg aw9,c1];by_cases d:b=a.length-1
  ·rw[ay5 (show ((b:Nat):Int)=((a.length-1:Nat):Int) by rw[d])]
   refine bY ⟨_,rfl,_,rfl,_,_,_,lX a,by show PV.int ((a.length:Int)-1)=_;rw[c1],oG (by omega),_,_,_,rfl,rfl,rfl,by show 2<=1000;decide,rfl,trivial,?_⟩;rw[show (b==a.length-1&&(a.getD (a.length-1) (0,false)).2)=(a.getD (a.length-1) (0,false)).2 by rw[d];simp]at q;exact q
  ·rw[aw1 (show ¬((b:Nat):Int)=((a.length-1:Nat):Int) by omega)]
   refine cF ⟨by show 2<=1000;decide,rfl,trivial,?_⟩;rw[show (b==a.length-1&&(a.getD (a.length-1) (0,false)).2)=false by rw[show (b==a.length-1)=false by simpa using d];rfl]at q;exact q
 ·rw[show (if true=true then !decide (((Strip.cD ws (a.getD b (0,false)).1 b ah:Nat):Int)=(b:Int)) else decide (((Strip.cD ws (a.getD b (0,false)).1 b ah:Nat):Int)=(b:Int)))=true by rw[if_pos rfl,aw1 (λz=>g (Int.natCast_inj.mp z))];rfl]
  obtain⟨m',rfl⟩:=Nat.exists_eq_succ_of_ne_zero (aB8 mp)
  rw[show m'.succ=m'+1 from rfl,Strip.yS g]at e;have k2:=k2.resolve_left g;refine bY ⟨_,rfl,trivial,?_⟩;refine⟨_,rfl,_,rfl,_,rfl,_,_,_,lX a,rfl,oG (by rw[wl];exact k1),_,_,_,rfl,rfl,rfl,_,rfl,_,rfl,x,ws,(a.getD (Strip.cD ws (a.getD b (0,false)).1 b ah) (0,false)).1,_,ah,rfl,hx,ow,z0 wf k1,k1,h2,trivial,?_⟩
  exact⟨m',Nat.lt_succ_self _,_,rfl,k1,by omega,e⟩
noncomputable def mB:b7:=λxs Q=>∃x ws a,∃s:Nat,xs = [x,bA a,.int s]/\cR x ws/\cA ws/\cW ws a/\s<2^ws.length/\Q (bA (Strip.next ws a s))
noncomputable def z4:aR:=(dP (aU w4 (aH (gS (lB (aU gQ (aH (aC 1) aO))) [none,some 0,some 1,some 2] (fQ 0) fR (aU lZ (aH (aC 1) (aH (aC 2) (aH (aC 3) (aH (aC 0) aO)))))) aO)))
theorem ao4 (a:aB):bA a = .tup (a.map eF):=by
 show PV.tup ((ki a).map _)=_;unfold ki;rw[aC2];rfl
theorem ao5:∀xs Q,mB xs Q->z4 { nx:=λ_=>Q .non,rt:=Q } (bB ["wants","answer","seeds"] xs):=by
 rintro _ Q ⟨x,ws,a,s,rfl,hx,ow,wf,h1,q⟩;have wl:=wf.1;have al:a.length<=4:=by rcases Strip.lW ow with e|e<;>omega
 refine⟨_,rfl,_,_,rfl,sE a,_,rfl,by omega,by omega,by rw[fP];omega,λi acc=>acc=((List.range i).map (Strip.lK ws a s)).map eF,rfl,?_,?_⟩
 ·rintro i z acc hz rfl
  have hi:i<a.length:=by
   have:=(ay2.mp hz).1
   rw[fP]at this;omega
  rw[qA (by omega)]at hz;cases hz;refine⟨_,rfl,_,rfl,_,rfl,_,rfl,x,ws,a,s,i,by rw[Int.zero_add];rfl,hx,ow,wf,h1,by omega,trivial,?_⟩;dsimp only;rw[List.range_succ,ay0,ay0];rfl
 rintro acc rfl;have e:(gD 0 ((a.length:Int)).toNat).length=a.length:=by rw[fP];exact aE9 _
 rw[e];refine⟨⟨_,_,rfl,rfl,yW _,?_⟩,λns z=>by cases z⟩;refine⟨trivial,?_⟩
 have:=ao4 (Strip.next ws a s)
 rw[this]at q;exact q
open Strip (aB cA cW Closed jV)
open Core (cR si)
section
variable {β:Type}
noncomputable def dR (r:β->PV)(ps:List (aB×β)):List (List (Int×Bool)×PV):=ps.map λp=>(ki p.1,r p.2)
theorem z5 (a k:aB):decide (ki a=ki k)=decide (a=k):=decide_eq_decide.mpr ⟨sD,λe=>by rw[e]⟩
theorem gZ (r:β->PV)(k:aB):∀ps:List (aB×β),cN (dR r ps) (ki k)=(Strip.bW ps k).map r
 |[]=>rfl
 |p::ps=>by
  have ih:=gZ r k ps;unfold cN dR Strip.bW at ih ⊢;rw[ax2,az0,az0,z5];cases decide (p.1=k) with
  |true=>rfl
  |false=>exact ih
theorem ao6 (r:β->PV)(k:aB)(ps:List (aB×β)):((dR r ps).any λp=>decide (p.1=ki k))=ps.any λp=>decide (p.1=k):=by
 unfold dR;rw[List.any_map];congr 1
 funext p
 exact z5 p.1 k
theorem sH (r:β->PV)(k:aB)(x:β)(ps:List (aB×β)):dS (dR r ps) (ki k) (r x)=dR r (Strip.d6 ps k x):=by
 unfold dS Strip.d6;rw[ao6];cases ps.any λp=>decide (p.1=k) with
 |true=>
  rw[if_pos rfl,if_pos rfl];unfold dR;rw[aC2,aC2];refine List.map_congr_left λp _=>?_
  show (if ki p.1=ki k then (ki p.1,r x) else (ki p.1,r p.2))=_;by_cases e:p.1=k
  ·rw[if_pos (by rw[e])]
   show _=(ki (if p.1=k then (p.1,x) else p).1,r (if p.1=k then (p.1,x) else p).2);rw[if_pos e]
  ·rw[if_neg (λz=>e (sD z))]
   show _=(ki (if p.1=k then (p.1,x) else p).1,r (if p.1=k then (p.1,x) else p).2);rw[if_neg e]
 |false=>
  rw[if_neg aw9,if_neg aw9];unfold dR;rw[ay0];rfl
theorem oH (r:β->PV)(ps:List (aB×β)):(dR r ps).length=ps.length:=av4 _
end
noncomputable def rF (l:List (Nat×aB)):PV:=.fL (l.map dH)
noncomputable def cH (ws:ag)(Ks:List aB):List (aB×List (Nat×aB)):=Ks.map λa=>(a,Strip.after ws a)
theorem oI {ws:ag}{k:aB}:∀{Ks:List aB},Strip.bW (cH ws Ks) k=if k∈Ks then some (Strip.after ws k) else none
 |[]=>rfl
 |a::r=>by
  have ih:=oI (ws:=ws) (k:=k) (Ks:=r);unfold Strip.bW cH at ih ⊢;rw[ax2,az0];by_cases e:a=k
  ·subst e
   rw[show decide (a=a)=true from ay5 rfl,if_pos av5];rfl
  ·rw[show decide ((a,Strip.after ws a).1=k)=false from aw1 e]
   refine ih.trans ?_;by_cases m:k∈r
   ·rw[if_pos m,if_pos (aw4 _ m)]
   ·rw[if_neg m,if_neg (λz=>(aw6.mp z).elim (λz=>e z.symm) m)]
theorem ao7 {ws:ag}{k:aB}{Ks:List aB}(h:k∉Ks):Strip.d6 (cH ws Ks) k (Strip.after ws k)=cH ws (Ks++[k]):=by
 have e:((cH ws Ks).any λp=>decide (p.1=k))=false:=by
  rw[Bool.eq_false_iff];intro z
  obtain⟨p,hp,z⟩:=List.any_eq_true.mp z
  obtain⟨a,ha,rfl⟩:=aA9.mp hp
  exact h ((of_decide_eq_true z:a=k)▸ha)
 unfold Strip.d6;rw[e,if_neg aw9];unfold cH;rw[ay0];rfl
noncomputable def jX:b7:=λxs Q=>∃x ws,xs = [x,bA (Strip.aV ws)]/\cR x ws/\cA ws/\(∃S,Closed ws S)/\∀Ks,jV ws Ks->Q (.dA (dR rF (cH ws Ks)))
noncomputable def z6:aR:=(bC (lU 2 (qC (.dA [])))
 (bC (pT 3 (pR (aH (aC 1) aO)))
 (bC (nH (kZ (aC 3))
  (bC (pV 3 4)
  (fC (cC (jU true (aC 4) (aC 2))) (bC (cG 5 (gS (lB (aU gQ (aH (aC 4) aO))) [none,some 0,some 4] (fQ 0) fR (eZ (aH (aC 0) (aH (aU mB (aH (aC 1) (aH (aC 2) (aH (aC 0) aO)))) aO)))))
   (bC (rS 2 (aC 4) (rA (gS (lA (aC 5)) [none] (fQ 0) (kZ (dU (dU (dU (aC 0) (qC (.int 1))) (vX (qC (.int 1)))) (qC (.int 1)))) (aC 0))))
   (pU 3 (gS (lA (gW (aC 2) (aC 4))) [none,none] (jP 0 1) fR (aC 1))))) fB)))
 (nG 2))))
noncomputable def fY (ws:ag)(a:aB):List (Nat×aB):=(List.range a.length).map λs=>(s,Strip.next ws a s)
theorem ao8:∀xs Q,jX xs Q->z6 { nx:=λ_=>Q .non,rt:=Q } (bB ["wants","begin","following","waiting","answer","pairs"] xs):=by
 rintro _ Q ⟨x,ws,rfl,hx,ow,⟨S,cl⟩,q⟩;have fb:flat (bA (Strip.aV ws))=true:=lY _;refine⟨rfl,.inl ⟨[],rfl,rfl⟩,?_⟩;have f1:flats [bA (Strip.aV ws)]=true:=by show (flat (bA (Strip.aV ws))&&true)=true;rw[fb];rfl
 refine⟨_,rfl,by show 1<=1000;decide,f1,rfl,f1,?_⟩
 refine⟨λm ρ=>∃Ks wl y4 y5,ρ = [some (.sh (flat x) x),some (.sh (flat (bA (Strip.aV ws))) (bA (Strip.aV ws))),some (.own (.dA (dR rF (cH ws Ks)))),some (.own (.lst (wl.map bA))),y4,y5]/\Ks.Nodup/\(∀a∈Ks,a∈S/\cW ws a)/\(∀a∈wl,a∈S/\cW ws a)/\
  (Strip.aV ws∈Ks∨Strip.aV ws∈wl)/\(∀a∈Ks,∀p∈Strip.after ws a,p.2∈Ks∨p.2∈wl)/\m=5*(S.length-Ks.length)+wl.length/\wl.length<=4*Ks.length+1,⟨_,[],[Strip.aV ws],none,none,rfl,aF8,λ_ h=>(nomatch h),λa h=>by rw[aw2.mp h];exact⟨cl.b,Strip.yU ow⟩,.inr av5,λ_ h=>(nomatch h),rfl,by show 1<=1;decide⟩,?_⟩
 rintro m ρ ⟨Ks,wl,y4,y5,rfl,nd,k1,k2,k3,k4,rfl,wl5⟩;have kl:=Strip.oF nd λa h=>(k1 a h).1
 have sl:=cl.len;refine⟨_,rfl,_,rfl,?_⟩;dsimp only;rcases List.eq_nil_or_concat wl with rfl|⟨wl',a,rfl⟩
 ·refine cF ?_
  have g:jV ws Ks:=⟨⟨k3.resolve_right (λz=>by cases z),λa ha p hp=>(k4 a ha p hp).resolve_right (λz=>by cases z),by omega⟩,nd,λa ha=>(k1 a ha).2⟩
  exact⟨_,rfl,trivial,q Ks g⟩
 rw[List.concat_eq_append]at k2 k3 k4 wl5 ⊢
 obtain⟨aS,aW⟩:=k2 a (ax4 _ av5)
 have al:a.length<=4:=by have:=aW.1;rcases Strip.lW ow with e|e<;>omega
 have a0:0<a.length:=by rw[aW.1];exact Nat.two_pow_pos _
 have ne:(!((wl'++[a]).map bA).isEmpty)=true:=by
  cases wl'<;>rfl
 show if (!((wl'++[a]).map bA).isEmpty)=true then _ else _
 rw[ne];have k2':∀b∈wl',b∈S/\cW ws b:=λb hb=>k2 b (az5 _ hb)
 have len1:(wl'++[a]).length=wl'.length+1:=by rw[ay1];rfl
 rw[len1]at wl5;refine bY ⟨wl'.map bA,bA a,by rw[ay0];rfl,?_⟩;refine⟨_,rfl,_,rfl,(Strip.bW (cH ws Ks) a).map rF,.inl ⟨dR rF (cH ws Ks),ki a,rfl,rfl,(gZ rF a _).symm⟩,_,rfl,?_⟩;dsimp only;rw[if_pos rfl,oI];by_cases hk:a∈Ks
 ·rw[if_pos hk]
  refine cF ⟨_,by rw[len1];omega,Ks,wl',_,_,rfl,nd,k1,k2',?_,λb hb p hp=>?_,rfl,by omega⟩
  ·rcases k3 with z|z
   ·exact .inl z
   ·rcases az8.mp z with z|z
    ·exact .inr z
    ·rw[aw2.mp z];exact .inl hk
  ·rcases k4 b hb p hp with z|z
   ·exact .inl z
   ·rcases az8.mp z with z|z
    ·exact .inr z
    ·rw[aw2.mp z];exact .inl hk
 rw[if_neg hk];have nd2:(Ks++[a]).Nodup:=List.nodup_append.mpr ⟨nd,aA3.mpr ⟨(λz=>by cases z),aF8⟩,λb hb c hc e=>hk (by rw[<- aw2.mp hc,<- e];exact hb)⟩;have kl2:(Ks++[a]).length<=S.length:=Strip.oF nd2 λb hb=>by
  rcases az8.mp hb with z|z
  ·exact (k1 b z).1
  ·rw[aw2.mp z];exact aS
 have len2:(Ks++[a]).length=Ks.length+1:=by rw[ay1];rfl
 refine bY ⟨_,rfl,_,_,rfl,sE a,_,rfl,by omega,by omega,by rw[fP];omega,λi acc=>acc=((List.range i).map λs=>(s,Strip.next ws a s)).map dH,rfl,?_,?_⟩
 ·rintro i z acc hz rfl
  have hi:i<a.length:=by
   have:=(ay2.mp hz).1
   rw[fP]at this;omega
  rw[qA (by omega)]at hz;cases hz;refine⟨_,rfl,_,rfl,_,rfl,_,rfl,x,ws,a,i,by rw[Int.zero_add];rfl,hx,ow,aW,by rw[<- aW.1];exact hi,by show 2<=1000;decide,?_,trivial,?_⟩
  ·show (flat (.int _)&&(flat (bA (Strip.next ws a i))&&true))=true
   rw[lY];rfl
  ·dsimp only
   rw[List.range_succ,ay0,ay0];congr 1;show [PV.tup [PV.int (0+(i:Int)),bA (Strip.next ws a i)]] = [PV.tup [PV.int (i:Int),bA (Strip.next ws a i)]];rw[Int.zero_add]
 rintro acc rfl;have e:(gD 0 ((a.length:Int)).toNat).length=a.length:=by rw[fP];exact aE9 _
 rw[e];refine⟨trivial,?_⟩;have pl:(fY ws a).length<=4:=by unfold fY;rw[av4,aF2];exact al
 refine⟨_,rfl,_,rfl,(λz=>by cases z),by show ((fY ws a).map dH).length<=_;rw[av4];omega,λi acc=>acc=(((fY ws a).take i).filter λp=>Strip.kept p.2).map dH,rfl,?_,?_⟩
 ·rintro i z acc hz rfl
  have hz:((fY ws a).map dH)[i]? = some z:=hz;rw[ax6]at hz;cases hp:(fY ws a)[i]? with
  |none=>rw[hp]at hz;cases hz
  |some p=>
   rw[hp]at hz;cases hz;have tk:(fY ws a).take (i+1)=(fY ws a).take i++[p]:=by rw[List.take_add_one,hp];rfl
   obtain⟨s,hs,rfl⟩:=aA9.mp (aD5 hp)
   have hs:=aB7.mp hs;have nw:cW ws (Strip.next ws a s):=Strip.yV ow aW (by rw[<- aW.1];exact hs);have n0:0<(Strip.next ws a s).length:=by rw[nw.1];exact Nat.two_pow_pos _
   refine⟨_,rfl,_,_,_,rfl,rfl,rfl,_,rfl,_,_,_,lX _,rfl,am9 n0,_,_,_,rfl,rfl,rfl,_,rfl,?_⟩;dsimp only;have ek:(Strip.next ws a s).getD ((Strip.next ws a s).length-1) (0,false)=(Strip.next ws a s).getD ((Strip.next ws a s).length-1) (0,false):=rfl;show if Strip.kept (Strip.next ws a s)=true then _ else _
   rw[tk,List.filter_append];cases hk2:Strip.kept (Strip.next ws a s) with
   |true=>
    refine bY ⟨_,rfl,?_,?_⟩
    ·show Nw (Slot.sh (false||flat (dH (s,Strip.next ws a s))) _).tag _
     rw[yX];trivial
    ·have fc:[(s,Strip.next ws a s)].filter (λp=>Strip.kept p.2) = [(s,Strip.next ws a s)]:=by
      show (match Strip.kept (Strip.next ws a s) with|true=>_|false=>_)=_;rw[hk2];rfl
     rw[ay0,fc];rfl
   |false=>
    refine cF ?_;have fc:[(s,Strip.next ws a s)].filter (λp=>Strip.kept p.2) = []:=by
     show (match Strip.kept (Strip.next ws a s) with|true=>_|false=>_)=_;rw[hk2];rfl
    rw[fc,aE5]
 rintro acc rfl;have ea:((fY ws a).take ((fY ws a).map dH).length).filter (λp=>Strip.kept p.2)=Strip.after ws a:=by
  rw[av4,List.take_length];rfl
 have ea:((fY ws a).take (((List.range a.length).map λs=>(s,Strip.next ws a s)).map dH).length).filter (λp=>Strip.kept p.2)=Strip.after ws a:=ea;rw[ea];refine⟨_,rfl,rfl,sF _,_,rfl,_,rfl,ki a,rfl,trivial,by rw[oH];unfold cH;rw[av4];omega,?_⟩;have ep:dS (dR rF (cH ws Ks)) (ki a) (.fL ((Strip.after ws a).map dH))=dR rF (cH ws (Ks++[a])):=(sH rF a (Strip.after ws a) _).trans (by rw[ao7 hk]);rw[ep];have af:=Strip.am4 ws a;have hg:cN (dR rF (cH ws (Ks++[a]))) (ki a)=some (rF (Strip.after ws a)):=by rw[gZ,oI,if_pos (ax4 _ av5)];rfl
 refine⟨_,rfl,_,rfl,_,rfl,rF (Strip.after ws a),.inl ⟨_,ki a,rfl,rfl,hg.symm⟩,_,rfl,(λz=>sF _),by rw[av4];omega,λi acc=>acc=((Strip.after ws a).take i).map λp=>bA p.2,rfl,?_,?_⟩
 ·rintro i z acc hz rfl
  rw[ax6]at hz;cases hp:(Strip.after ws a)[i]? with
  |none=>rw[hp]at hz;cases hz
  |some p=>
   rw[hp]at hz;cases hz;refine⟨_,_,rfl,_,rfl,?_,?_⟩
   ·show Nw (Slot.sh (false||flat (bA p.2)) _).tag _
    rw[lY];trivial
   ·dsimp only
    rw[List.take_add_one,hp,ay0];rfl
 rintro acc rfl;have et:(Strip.after ws a).take ((Strip.after ws a).map dH).length=Strip.after ws a:=by rw[av4,List.take_length]
 rw[et];refine⟨_,.inr rfl,.inl trivial,by rw[av4,av4];omega,?_⟩;have ew:wl'.map bA++((Strip.after ws a).map λp=>bA p.2)=(wl'++(Strip.after ws a).map λp=>p.2).map bA:=by rw[ay0,aC2];rfl
 rw[ew];refine⟨_,?_,Ks++[a],wl'++(Strip.after ws a).map λp=>p.2,_,_,rfl,nd2,λb hb=>?_,λb hb=>?_,?_,λb hb p hp=>?_,rfl,?_⟩
 ·rw[len1,len2,ay1,av4];omega
 ·rcases az8.mp hb with z|z
  ·exact k1 b z
  ·rw[aw2.mp z];exact⟨aS,aW⟩
 ·rcases az8.mp hb with z|z
  ·exact k2' b z
  ·obtain⟨p,hp,rfl⟩:=aA9.mp z
   exact⟨cl.go a aS p hp,Strip.am3 ow aW hp⟩
 ·rcases k3 with z|z
  ·exact .inl (az5 _ z)
  ·rcases az8.mp z with z|z
   ·exact .inr (az5 _ z)
   ·rw[aw2.mp z];exact .inl (ax4 _ av5)
 ·rcases az8.mp hb with z|z
  ·rcases k4 b z p hp with z|z
   ·exact .inl (az5 _ z)
   ·rcases az8.mp z with z|z
    ·exact .inr (az5 _ z)
    ·rw[aw2.mp z];exact .inl (ax4 _ av5)
  ·rw[aw2.mp z]at hp
   exact .inr (ax4 _ (aA9.mpr ⟨p,hp,rfl⟩))
 ·rw[len2,ay1,av4];omega
open Strip (aB cA cW Closed jV)
open Core (cR si)
section
variable {β:Type}
structure Kd (Ks:List aB)(Bd:β->Prop)(ps:List (aB×β)):Prop where
 nd:(ps.map (·.1)).Nodup
 mem:∀p∈ps,p.1∈Ks/\Bd p.2
theorem ao9 {ps:List (aB×β)}{k:aB}{b:β}(h:Strip.bW ps k=some b):(k,b)∈ps:=by
 unfold Strip.bW at h;cases e:ps.find? λp=>decide (p.1=k) with
 |none=>rw[e]at h;cases h
 |some p=>
  rw[e]at h;have h1:p.2=b:=ax7 h;have h2:=List.find?_some e;have h2:p.1=k:=by simpa using h2
  have:=aC6 e
  rw[<- h1,<- h2];exact this
theorem z7 {ps:List (aB×β)}{p:aB×β}(n:(ps.map (·.1)).Nodup)(h:p∈ps):Strip.bW ps p.1=some p.2:=by
 induction ps with
 |nil=>cases h
 |cons q r ih=>
  rw[ax2,aA3]at n;unfold Strip.bW at ih ⊢;rw[az0];rcases aw6.mp h with rfl|h
  ·rw[ay5 rfl];rfl
  ·rw[aw1 (λe:q.1=p.1=>n.1 (by rw[e];exact List.mem_map_of_mem h))]
   exact ih n.2 h
variable {Ks:List aB}{Bd:β→Prop}{ps:List (aB×β)}{J:β→β→β}{k:aB}{z:β}
theorem Kd.put (h:Kd Ks Bd ps)(hk:k∈Ks)(hz:Bd z):Kd Ks Bd (Strip.d6 ps k z):=by
 refine⟨Strip.xF h.nd,λp hp=>?_⟩;unfold Strip.d6 at hp;split at hp
 ·obtain⟨q,hq,rfl⟩:=aA9.mp hp
  by_cases e:q.1=k
  ·rw[if_pos e];exact⟨(h.mem q hq).1,hz⟩
  ·rw[if_neg e];exact h.mem q hq
 ·rcases az8.mp hp with hp|hp
  ·exact h.mem p hp
  ·rw[aw2.mp hp];exact⟨hk,hz⟩
theorem Kd.join (hJ:∀a b,Bd a->Bd b->Bd (J a b))(h:Kd Ks Bd ps)(hk:k∈Ks)(hz:Bd z):Kd Ks Bd (Strip.cO J ps k z):=by
 unfold Strip.cO;refine h.put hk ?_;cases e:Strip.bW ps k with
 |none=>exact hz
 |some w=>exact hJ _ _ (h.mem _ (ao9 e)).2 hz
theorem Kd.len (h:Kd Ks Bd ps):ps.length<=Ks.length:=by
 rw[<- av4 (·.1)];exact Strip.oF h.nd λx hx=>by obtain⟨p,hp,rfl⟩:=aA9.mp hx;exact (h.mem p hp).1
theorem Kd.folds {ws:ag}{pass:β->Nat->β}{Bd':β->Prop}(hJ:∀a b,Bd' a->Bd' b->Bd' (J a b)){v:β}(hp:∀s,s<4->Bd' (pass v s)){a:aB}(al:a.length<=4)(go:∀q∈Strip.after ws a,q.2∈Ks):∀(m:Nat) {l:List (aB×β)},Kd Ks Bd' l->Kd Ks Bd' (((Strip.after ws a).take m).foldl (λl q=>Strip.cO J l q.2 (pass v q.1)) l):=by
 intro m l h
 have:∀q∈(Strip.after ws a).take m,q∈Strip.after ws a:=λq hq=>List.mem_of_mem_take hq
 generalize (Strip.after ws a).take m=qs at this
 induction qs generalizing l with
 |nil=>exact h
 |cons q r ih=>
  have hq:=this q av5;exact ih (h.join hJ (go q hq) (hp _ (by have:=(Strip.oE hq).1;omega))) λx hx=>this x (aw4 _ hx)
open Classical in
noncomputable def fZ (r:β->PV)(J:β->β->β)(w z:PV):PV:=if h:(∃a,r a=w)/\∃b,r b=z then r (J h.1.choose h.2.choose) else .non
theorem sJ {r:β->PV}(inj:∀{a b},r a=r b->a=b)(a b:β):fZ r J (r a) (r b)=r (J a b):=by
 have h:(∃x,r x=r a)/\∃y,r y=r b:=⟨⟨a,rfl⟩,b,rfl⟩
 unfold fZ;rw[dif_pos h,inj h.1.choose_spec,inj h.2.choose_spec]
noncomputable def d7 (r:β->PV)(x:PV):Prop:=∃b,r b=x
theorem ap0 {r:β->PV}(inj:∀{a b},r a=r b->a=b):dS (dR r ps) (ki k) (jn (fZ r J) (dR r ps) (ki k) (r z))=dR r (Strip.cO J ps k z):=by
 unfold jn Strip.cO;rw[gZ];cases Strip.bW ps k with
 |none=>exact sH r k z ps
 |some w=>
  show dS (dR r ps) (ki k) (fZ r J (r w) (r z))=_;rw[sJ inj];exact sH r k _ ps
noncomputable def eB (r:β->PV):Option β->List (Int×PV)
 |none=>[]
 |some v=>[(1,r v)]
theorem ap1 {r:β->PV}(inj:∀{a b},r a=r b->a=b)(o:Option β):dS (eB r o) 1 (jn (fZ r J) (eB r o) 1 (r z))=eB r (Strip.fH J o z):=by
 cases o with
 |none=>rfl
 |some w=>
  have e:jn (fZ r J) (eB r (some w)) 1 (r z)=fZ r J (r w) (r z):=rfl;rw[e,sJ inj];rfl
end
noncomputable abbrev j6 (tab:List (aZ×b7)):aG:=rX 3 tab (aH (gW (aC 0) (aC 1)) (aH (aC 2) aO))
theorem z8 {β:Type}{r:β->PV}{J:β->β->β}{l:aZ}{p:b7}{tab:List (aZ×b7)}(inj:∀{a b},r a=r b->a=b)(fl:∀b,flat (r b)=true)(hm:(l,p)∈tab)(hp:∀a b (Q:PV->Prop),Q (r (J a b))->p [r a,r b] Q) :
  ∀d y w z,iB d y (some w)->d7 r w->d7 r z->j6 tab (bB ["values","key","value","joined"] [d,y,z,.lm l]) λv _=>v=fZ r J w z/\flat v=true:=by
 rintro d y _ _ ak ⟨a,rfl⟩ ⟨b,rfl⟩;refine⟨_,l,p,rfl,hm,?_⟩;refine⟨_,rfl,_,rfl,r a,ak,_,rfl,?_⟩;refine hp a b _ ⟨(sJ inj a b).symm,fl _⟩
noncomputable def oJ {β:Type}(r:β->PV)(first:β)(pass:β->Nat->β)(J:β->β->β)(gP gJ:PV):b7:=λxs Q=>∃x ws,∃n:Nat,∃v,xs = [x,.int n,r first,gP,gJ]/\cR x ws/\cA ws/\(∃S,Closed ws S)/\n<=300/\Strip.fJ J (Strip.bZ ws pass J first n)=some v/\Q (r v)
noncomputable def sK (tc:aG)(gJ:PV)(Ok:PV->Prop)(JV:PV->PV->PV):aR:=bC (cG 5 (aa3 (eZ (aH (eZ (aH (qC (.int 0)) (aH (qC (.bl true)) aO))) aO)) (vZ (qC (.int 1)) (aU gQ (aH (aC 0) aO)))))
 (bC (cG 6 (o9 (aU jX (aH (aC 0) (aH (aC 5) aO)))))
 (bC (cG 7 (o9 (rT (aC 5) (aC 2))))
 (bC (gR (lB (aC 1)) (fQ 8)
  (bC (lU 9 (qC (.dA [])))
  (bC (gR (oB (aC 7)) (fQ 10)
   (gR (lA (gW (aC 6) (aC 10))) (jP 11 12)
    (rY 9 gJ Ok JV (aC 12) tc (aC 4))))
  (sC 9 7))))
 (bC (lU 13 (qC (.dB [])))
 (bC (gR (oB (aC 7)) (fQ 10)
  (fC (kZ (dU (dU (aC 10) (qC (.int 0))) (qC (.int 1)))) (rZ 13 gJ Ok JV (qC (.bl true)) (gW (aC 7) (aC 10)) (aC 4)) fB))
 (dP (gW (aC 13) (qC (.bl true)))))))))
theorem ap2 {ws:ag}(o:cA ws):PV.tup (List.replicate ((1:Int)*2^((ws.length:Int)).toNat).toNat [PV.tup [PV.int 0,PV.bl true]]).flatten=bA (Strip.aV ws):=by
 rcases o.two with⟨a,rfl⟩|⟨a,b,rfl⟩<;>rfl
theorem z9 {β:Type}{r:β->PV}{first:β}{pass:β->Nat->β}{J:β->β->β}{gP gJ:PV}{tc:aG}(Bd:Nat->β->Prop)(inj:∀{a b},r a=r b->a=b)(fl:∀b,flat (r b)=true)(h0:Bd 0 first)(hJ:∀i a b,Bd i a->Bd i b->Bd i (J a b))(hP:∀i v s,Bd i v->s<4->Bd (i+1) (pass v s))(htc:∀(ρ:bL) (Q:PK) ps k b (s i:Nat),(∃g,ρ[3]? = some (some (.sh g gP)))->(∃g,ρ[7]? = some (some (.sh g (.fA (dR r ps)))))->(∃g,ρ[10]? = some (some (.sh g (bA k))))->(∃g,ρ[11]? = some (some (.sh g (.int s))))->
   Strip.bW ps k=some b->Bd i b->i<=300->s<4->Q (r (pass b s)) .fr->tc ρ Q) :
  ∀xs Q,oJ r first pass J gP gJ xs Q->sK tc gJ (d7 r) (fZ r J) { nx:=λ_=>Q .non,rt:=Q } (bB ["wants","length","first","passed","joined","begin","following","values","turn","later","answer","seeds","behind","ends"] xs):=by
 rintro _ Q ⟨x,ws,n,v,rfl,hx,ow,cl,hn,hv,q⟩;have wl:ws.length=1∨ws.length=2:=by have:=ow.1;have:=ow.2;omega
 have hl:kY x=some ws.length:=hx.len;refine⟨by decide,rfl,by decide,rfl,_,rfl,x,ws.length,rfl,hl,_,_,rfl,rfl,⟨by omega,by omega,by decide⟩,[.tup [.int 0,.bl true]],_,rfl,rfl,rfl,by simp,?_,?_,by decide,trivial,?_⟩
 ·rcases wl with e|e<;>rw[e]<;>decide
 ·rcases wl with e|e<;>rw[e]<;>decide
 rw[ap2 ow];refine⟨_,rfl,_,rfl,x,ws,rfl,hx,ow,cl,λKs gd=>?_⟩;have fF:flats ((dR rF (cH ws Ks)).map (·.2))=true:=by
  unfold dR cH;rw[aC2,aC2];generalize Ks=L
  induction L with
  |nil=>rfl
  |cons a t ih=>show (flat (rF (Strip.after ws a))&&_)=true;rw[show flat (rF (Strip.after ws a))=true from sF _];exact ih
 refine⟨dR rF (cH ws Ks),rfl,rfl,fF,trivial,?_⟩;refine⟨_,rfl,_,rfl,fl first,ki (Strip.aV ws),rfl,[(ki (Strip.aV ws),r first)],rfl,rfl,?_,trivial,?_⟩
 ·show (flat (r first)&&true)=true
  rw[fl];rfl
 have kl:Ks.length<=5000:=gd.len
 let vw:Nat->List (aB×β):=λi=>Strip.bZ ws pass J first i
 have al:∀a∈Ks,a.length<=4:=λa ha=>by have:=(gd.wf a ha).1;rcases Strip.lW ow with e|e<;>omega
 have kd:∀i,Kd Ks (Bd i) (vw i):=λi=>by
  induction i with
  |zero=>exact⟨aA3.mpr ⟨(λz=>by cases z),aF8⟩,λp hp=>by rw[aw2.mp hp];exact⟨gd.b,h0⟩⟩
  |succ i ih=>
   show Kd Ks (Bd (i+1)) ((vw i).foldl (Strip.eO ws pass J) [])
   have:∀p∈vw i,p.1∈Ks/\Bd i p.2:=ih.mem
   have go:∀{qs:List (aB×β)}{l:List (aB×β)},(∀p∈qs,p.1∈Ks/\Bd i p.2)->Kd Ks (Bd (i+1)) l->Kd Ks (Bd (i+1)) (qs.foldl (Strip.eO ws pass J) l):=by
    intro qs
    induction qs with
    |nil=>exact λ_ h=>h
    |cons p t ih2=>
     intro l hq h
     obtain⟨hk,hb⟩:=hq p av5
     refine ih2 (λx hx=>hq x (aw4 _ hx)) ?_
     have:=Kd.folds (ws:=ws) (pass:=pass) (v:=p.2) (hJ (i+1)) (λs hs=>hP i p.2 s hb hs) (al p.1 hk) (gd.go p.1 hk) (Strip.after ws p.1).length h
     rwa [List.take_length]at this
   exact go this ⟨aF8,λ_ z=>by cases z⟩
 refine⟨_,rfl,(n:Int),rfl,by omega,by omega,λi ρ=>∃y8 y9 y10 y11 y12,ρ = [some (.sh (flat x) x),si n,some (.sh (flat (r first)) (r first)),some (.sh (flat gP) gP),some (.sh (flat gJ) gJ),some (.sh true (bA (Strip.aV ws))),some (.sh true (.fA (dR rF (cH ws Ks)))),some (.sh true (.fA (dR r (vw i)))),y8,y9,y10,y11,y12,none],⟨_,_,_,_,_,rfl⟩,?_,?_⟩
 ·rintro i z ρ hz ⟨y8,y9,y10,y11,y12,rfl⟩
  have hi:i<n:=by
   have:=(ay2.mp hz).1
   rw[fP]at this;omega
  refine⟨rfl,.inl ⟨[],rfl,rfl⟩,?_⟩;refine⟨_,rfl,dR r (vw i),rfl,λj ρ=>∃y8 y10 y11 y12,ρ = [some (.sh (flat x) x),si n,some (.sh (flat (r first)) (r first)),some (.sh (flat gP) gP),some (.sh (flat gJ) gJ),some (.sh true (bA (Strip.aV ws))),some (.sh true (.fA (dR rF (cH ws Ks)))),some (.sh true (.fA (dR r (vw i)))),y8,some (.own (.dA (dR r (((vw i).take j).foldl (Strip.eO ws pass J) [])))),y10,y11,y12,none]/\Kd Ks (Bd (i+1)) (((vw i).take j).foldl (Strip.eO ws pass J) []),⟨_,_,_,_,rfl,⟨aF8,λ_ z=>by cases z⟩⟩,?_,?_⟩
  ·rintro j z2 ρ hz2 ⟨y8,y10,y11,y12,rfl,hk⟩
   unfold dR at hz2;rw[aC2,ax6]at hz2;cases hp:(vw i)[j]? with
   |none=>rw[hp]at hz2;cases hz2
   |some p=>
    rw[hp]at hz2;cases hz2;have pm:p∈vw i:=aD5 hp
    obtain⟨pk,pb⟩:=(kd i).mem p pm
    have tk:(vw i).take (j+1)=(vw i).take j++[p]:=by rw[List.take_add_one,hp];rfl
    have pv2:=z7 (kd i).nd pm;have fv:cN (dR rF (cH ws Ks)) (ki p.1)=some (rF (Strip.after ws p.1)):=by rw[gZ,oI,if_pos pk];rfl
    refine⟨_,rfl,_,rfl,rF (Strip.after ws p.1),.inl ⟨_,ki p.1,rfl,rfl,fv.symm⟩,_,rfl,(λz=>by cases z),λm ρ=>∃y11 y12,ρ = [some (.sh (flat x) x),si n,some (.sh (flat (r first)) (r first)),some (.sh (flat gP) gP),some (.sh (flat gJ) gJ),some (.sh true (bA (Strip.aV ws))),some (.sh true (.fA (dR rF (cH ws Ks)))),some (.sh true (.fA (dR r (vw i)))),y8,some (.own (.dA (dR r (((Strip.after ws p.1).take m).foldl (λl q=>Strip.cO J l q.2 (pass p.2 q.1)) (((vw i).take j).foldl (Strip.eO ws pass J) []))))),some (.sh true (bA p.1)),y11,y12,none]/\Kd Ks (Bd (i+1)) (((Strip.after ws p.1).take m).foldl (λl q=>Strip.cO J l q.2 (pass p.2 q.1)) (((vw i).take j).foldl (Strip.eO ws pass J) [])),⟨_,_,rfl,hk⟩,?_,?_⟩
    ·rintro m z3 ρ hz3 ⟨y11,y12,rfl,hk3⟩
     have hz3:((Strip.after ws p.1).map dH)[m]? = some z3:=hz3;rw[ax6]at hz3;cases hq:(Strip.after ws p.1)[m]? with
     |none=>rw[hq]at hz3;cases hz3
     |some u=>
      rw[hq]at hz3;cases hz3;have um:=aD5 hq;have us:=(Strip.oE um).1;have ul:=al p.1 pk;have tk3:(Strip.after ws p.1).take (m+1)=(Strip.after ws p.1).take m++[u]:=by rw[List.take_add_one,hq];rfl
      refine⟨_,_,rfl,_,rfl,_,rfl,?_⟩;refine htc _ _ (vw i) p.1 p.2 u.1 i ⟨_,rfl⟩ ⟨_,rfl⟩ ⟨_,rfl⟩ ⟨_,rfl⟩ pv2 pb (by omega) (by omega) ?_;refine⟨_,rfl,ki u.2,rfl,rfl,fl _,⟨_,rfl⟩,λw hw=>?_,by rw[oH];have:=hk3.len;omega,?_⟩
      ·rw[gZ]at hw
       cases e:Strip.bW _ u.2 with
       |none=>rw[e]at hw;cases hw
       |some b=>rw[e]at hw;cases hw;exact⟨b,rfl⟩
      ·refine⟨some (.sh true (.int u.1)),some (.sh true (bA u.2)),?_,?_⟩
       rotate_left
       ·rw[tk3,aF3]
        exact hk3.join (hJ (i+1)) (gd.go p.1 pk u um) (hP i p.2 u.1 pb (by omega))
       ·rw[ap0 inj,tk3,aF3];rfl
    ·rintro ρ ⟨y11,y12,rfl,hk3⟩
     have e:((Strip.after ws p.1).take ((Strip.after ws p.1).map dH).length)=Strip.after ws p.1:=by rw[av4,List.take_length]
     rw[e]at hk3 ⊢;refine⟨y8,some (.sh true (bA p.1)),y11,y12,?_,?_⟩
     rotate_left
     ·rw[tk,aF3];exact hk3
     ·rw[tk,aF3];rfl
  ·rintro ρ ⟨y8,y10,y11,y12,rfl,hk⟩
   have e:(vw i).take ((dR r (vw i)).map λp=>PV.tup (p.1.map λq=>.tup [.int q.1,.bl q.2])).length=vw i:=by rw[av4,oH,List.take_length]
   rw[e]
   exact⟨_,rfl,y8,_,y10,y11,y12,rfl⟩
 rintro ρ ⟨y8,y9,y10,y11,y12,rfl⟩;have e:(gD 0 ((n:Int)).toNat).length=n:=by rw[fP];exact aE9 _
 rw[e];refine⟨rfl,.inr ⟨[],rfl,rfl⟩,?_⟩;refine⟨_,rfl,dR r (vw n),rfl,λj ρ=>∃y10,ρ = [some (.sh (flat x) x),si n,some (.sh (flat (r first)) (r first)),some (.sh (flat gP) gP),some (.sh (flat gJ) gJ),some (.sh true (bA (Strip.aV ws))),some (.sh true (.fA (dR rF (cH ws Ks)))),some (.sh true (.fA (dR r (vw n)))),y8,y9,y10,y11,y12,some (.own (.dB (eB r ((((vw n).take j).filter λp=>Strip.lit p.1).foldl (λacc p=>Strip.fH J acc p.2) none))))],⟨_,rfl⟩,?_,?_⟩
 ·rintro j z2 ρ hz2 ⟨y10,rfl⟩
  unfold dR at hz2;rw[aC2,ax6]at hz2;cases hp:(vw n)[j]? with
  |none=>rw[hp]at hz2;cases hz2
  |some p=>
   rw[hp]at hz2;cases hz2;have pm:p∈vw n:=aD5 hp
   obtain⟨pk,pb⟩:=(kd n).mem p pm
   have tk:(vw n).take (j+1)=(vw n).take j++[p]:=by rw[List.take_add_one,hp];rfl
   have pv2:=z7 (kd n).nd pm;have a0:0<p.1.length:=by rw[(gd.wf _ pk).1];exact Nat.two_pow_pos _
   refine⟨_,rfl,_,_,_,lX _,rfl,oG (b:=0) a0,_,_,_,rfl,rfl,rfl,_,rfl,?_⟩;show if Strip.lit p.1=true then _ else _
   cases hl2:Strip.lit p.1 with
   |true=>
    refine bY ⟨_,rfl,_,rfl,_,rfl,r p.2,.inl ⟨_,ki p.1,rfl,rfl,by rw[gZ,pv2];rfl⟩,_,rfl,1,.inr ⟨true,rfl,rfl⟩,rfl,fl _,⟨_,rfl⟩,λw hw=>?_,?_,some (.sh true (bA p.1)),?_⟩
    ·generalize ((((vw n).take j).filter λp=>Strip.lit p.1).foldl (λacc p=>Strip.fH J acc p.2) none)=o at hw
     cases o with
     |none=>cases hw
     |some b=>cases hw;exact⟨b,rfl⟩
    ·generalize ((((vw n).take j).filter λp=>Strip.lit p.1).foldl (λacc p=>Strip.fH J acc p.2) none)=o
     cases o with
     |none=>show 0<16000000;decide
     |some b=>show 1<16000000;decide
    ·have fc:[p].filter (λp=>Strip.lit p.1) = [p]:=by
      show (match Strip.lit p.1 with|true=>_|false=>_)=_;rw[hl2];rfl
     rw[tk,List.filter_append,aF3,fc,ap1 inj];rfl
   |false=>
    refine cF ⟨some (.sh true (bA p.1)),?_⟩;have fc:[p].filter (λp=>Strip.lit p.1) = []:=by
     show (match Strip.lit p.1 with|true=>_|false=>_)=_;rw[hl2];rfl
    rw[tk,List.filter_append,aF3,fc];rfl
 rintro ρ ⟨y10,rfl⟩;have e:(vw n).take ((dR r (vw n)).map λp=>PV.tup (p.1.map λq=>.tup [.int q.1,.bl q.2])).length=vw n:=by rw[av4,oH,List.take_length]
 rw[e];have ee:((vw n).filter λp=>Strip.lit p.1).foldl (λacc p=>Strip.fH J acc p.2) none=some v:=hv;rw[ee]
 exact⟨_,rfl,r v,.inr ⟨_,1,rfl,.inr ⟨true,rfl,rfl⟩,rfl⟩,fl v,q⟩
end PP
namespace L2
open PySem PyProof.Rows
theorem zA {a c:Int}{ns ms:ag}:(HT.bX (c::ms) (a::ns)=true->c<=a)/\(HT.bX (c::ms) (a::ns)=false->a<=c):=by
 rw[HT.mV];by_cases e:c=a
 ·rw[if_pos e,e];exact⟨λ_=>Int.le_refl _,λ_=>Int.le_refl _⟩
 ·rw[if_neg e]
  exact⟨λh=>Int.le_of_lt (of_decide_eq_true h),λh=>Int.not_lt.mp (of_decide_eq_false h)⟩
end L2
namespace PP
open PySem L2 PyProof.Rows PySem.Spec
section
variable {P:ay}{w:ba}{K:ad}{mg:Str→Option av}{base:Heap}{T:List (ax×Str)}
theorem ap3 {k:Nat}{x:Str}{ps N:List Str}{p:b7}{st:Stmt}{f:ax}{fd:FuncData}(F:bM K x x st f fd)(S:FnScope N ps (aJ st))(len:∀xs Q,p xs Q->xs.length=ps.length)(body:∀(cdv:av) (A:az) (outer:List Env) (s:aw) (H:Hp) (E:XK),bE k (A.deeper (envOfC x (aJ st) s.heap.objs.size f cdv))->eC T H->
   ∃t,dW (bS bT P w K mg base N x (aJ st) f cdv A outer s H E).nox (b8 st) t/\∀xs Q,p xs Q->t { nx:=λ_=>Q .non,rt:=Q } (bB N xs)):cE P w K mg base bT (k+1) f fd ps (lR K T p):=by
 refine F.ok S (λvs H Q E h=>?_) (λcdv A outer s H vs Q E hr h=>?_)
 ·obtain⟨_,xs,Qp,r,q,_⟩:=h
  rw[r.length];exact len xs Qp q
 ·obtain⟨hT,xs,Qp,r,q,k⟩:=h
  obtain⟨t,ht,hq⟩:=body cdv A outer s H E hr hT
  refine⟨_,ht,λ_=>False,bB N xs,_,hZ r,hq xs Qp q,?_,?_,?_,?_⟩
  ·exact λW' σ' H' ρ' e px q=>k _ _ _ px.same .non q
  ·exact λv H' x s r q=>k _ _ _ s r q
  ·exact λW' σ' H' ρ' e px q=>q
  ·exact λW' σ' H' ρ' e px q=>q
theorem eD.ofC {k:Nat}{x:Str}{ps N:List Str}{p:b7}{st:Stmt}{f c0:ax}{oc:av}{od an:Option ax}{osl:Array (Option av)}{kV doc pm ct:av}(l:K.lookup f=some ⟨oc,od,.func (PySem.W.fnOf x x (bH st) (b8 st) (aJ st) .none kV doc pm an (.ref c0) ct),osl⟩)(c:PySem.W.codeIn K (.ref c0) x=true)(kp:PySem.W.keepIn K (.ref f)=true)(m:mg x=some (.ref f))(S:FnScope N ps (aJ st))(hb:∀(kV doc pm:av) (an:Option ax) (cdv ct:av) (us:List av),us.length=ps.length->bindArgs (PySem.W.fnOf x x (bH st) (b8 st) (aJ st) .none kV doc pm an cdv ct) ⟨us,[]⟩=pure (ps.zip us))(len:∀xs Q,p xs Q->xs.length=ps.length)(body:∀(A:az) (outer:List Env) (s:aw) (H:Hp) (E:XK),bE k (A.deeper (envOfC x (aJ st) s.heap.objs.size f (.ref c0)))->eC T H->
   ∃t,dW (bS bT P w K mg base N x (aJ st) f (.ref c0) A outer s H E).nox (b8 st) t/\∀xs Q,p xs Q->t { nx:=λ_=>Q .non,rt:=Q } (bB N xs)):eD P w K mg base T (k+1) x ps p:=by
 refine⟨f,_,p6 l c S (λvs H Q E h=>?_) (λA outer s H vs Q E hr h=>?_),(cY l c kp).binds hb,kp,m⟩
 ·obtain⟨_,xs,Qp,r,q,_⟩:=h
  rw[r.length];exact len xs Qp q
 ·obtain⟨hT,xs,Qp,r,q,k⟩:=h
  obtain⟨t,ht,hq⟩:=body A outer s H E hr hT
  refine⟨_,cM.nox ht,λ_=>False,bB N xs,_,hZ r,hq xs Qp q,?_,?_,?_,?_⟩
  ·exact λW' σ' H' ρ' e px q=>k _ _ _ px.same .non q
  ·exact λv H' x s r q=>k _ _ _ s r q
  ·exact λW' σ' H' ρ' e px q=>q
  ·exact λW' σ' H' ρ' e px q=>q
noncomputable def oK (K:ad)(T:List (ax×Str)):Sp:=λvs H Q E=>eC T H/\ab2 K vs H Q E
theorem ap4 {k:Nat}{f:ax}{fd:FuncData}(F:cE P w K mg base bT k f fd ["script"] (lR K T Core.wK)):cE P w K mg base bT k f fd ["script"] (oK K T):=
 F.imp λvs H Q E h=>by
  obtain⟨hT,a,ns,rfl,hs,hl,q⟩:=h
  refine⟨hT,[.scr ns],λz=>z = .bl true,.cons (.scr hs) .nil,⟨ns,rfl,hl,rfl⟩,?_⟩;rintro v H' x _ r rfl;cases r;exact q H'
theorem zB {f c:ax}{x:Str}{st:Stmt}{oc kV doc pm ct:av}{od an:Option ax}{osl:Array (Option av)}(l:K.lookup f=some ⟨oc,od,.func (PySem.W.fnOf x x (bH st) (b8 st) (aJ st) .none kV doc pm an (.ref c) ct),osl⟩) :
  ∃oc od kV doc pm an ct osl,K.lookup f=some ⟨oc,od,.func (PySem.W.fnOf x x (bH st) (b8 st) (aJ st) .none kV doc pm an (.ref c) ct),osl⟩:=⟨_,_,_,_,_,_,_,_,l⟩
theorem zC {a b:ax}(h:(a==b)=false):a≠b:=λe=>by rw[e]at h;simp at h
end
noncomputable def ap5:Expr->Arguments
 |.Lambda a _ _ _=>a
 |_=>{ posonlyargs:=[],args:=[],vararg:=none,kwonlyargs:=[],kw_defaults:=[],kwarg:=none,defaults:=[] }
noncomputable def ap6:Expr->Expr
 |.Lambda _ b _ _=>b
 |e=>e
noncomputable def ap7:Expr->Scope
 |.Lambda _ _ s _=>s
 |_=>{ kind:=.function,names:=[],isGenerator:=false,isCoroutine:=false }
noncomputable def sL (q:Str)(e:Expr):aZ:=⟨q,ap5 e,ap6 e,ap7 e⟩
noncomputable def sM (st:Stmt)(j:Nat):Expr:=match (b8 st).getLast? with
 |some (.Return (some (.Call _ es _ _)) _)=>es.getD j (.Name "" ⟨0,0,0,0⟩)
 |_=>.Name "" ⟨0,0,0,0⟩
open Strip (aB cA cW Closed jV)
open Core (cR si i9)
noncomputable def mC:b7:=λxs Q=>∃x y,xs = [x,y]/\flat x=true/\Q x
noncomputable def jY:b7:=λxs Q=>∃a b:Int,xs = [.int a,.int b]/\Q (.int (a+b))
noncomputable def jZ:b7:=oD
theorem ap8:∀xs Q,mC xs Q->aC 0 (bB ["many","seeds"] xs) λx _=>flat x=true/\Q x:=by
 rintro _ Q ⟨x,y,rfl,f,q⟩
 exact⟨_,rfl,f,q⟩
theorem ap9:∀xs Q,jY xs Q->iU (aC 0) (aC 1) (bB ["one","other"] xs) λx _=>flat x=true/\Q x:=by
 rintro _ Q ⟨a,b,rfl,q⟩
 exact⟨_,rfl,_,rfl,_,_,rfl,rfl,rfl,q⟩
theorem aq0:∀xs Q,jZ xs Q->aU oD (aH (aC 0) (aH (aC 1) aO)) (bB ["one","other"] xs) λx _=>flat x=true/\Q x:=by
 rintro _ Q ⟨a,c,ns,ms,rfl,q⟩;refine⟨_,rfl,_,rfl,a,c,ns,ms,rfl,?_,q⟩;split<;>exact o0 _ _
theorem zD {β:Type}{r:β->PV}{first:β}{pass:β->Nat->β}{J:β->β->β}{gP gJ:PV}:∀xs Q,oJ r first pass J gP gJ xs Q->xs.length=5:=by rintro _ Q ⟨_,_,_,_,rfl,_⟩;rfl
theorem aq1:∀xs Q,mC xs Q->xs.length=2:=by rintro _ Q ⟨x,y,rfl,_⟩;rfl
theorem aq2:∀xs Q,jY xs Q->xs.length=2:=by rintro _ Q ⟨x,y,rfl,_⟩;rfl
theorem aq3:∀xs Q,jZ xs Q->xs.length=2:=by rintro _ Q ⟨a,c,ns,ms,rfl,_⟩;rfl
noncomputable abbrev rN (v:Nat):PV:=.int v
theorem zE:∀{a b:Nat},rN a=rN b->a=b:=λh=>Int.ofNat.inj (PV.int.inj h)
noncomputable abbrev oM (l1 l2:aZ):b7:=oJ rN 1 (λv _=>v) (λa b=>a+b) (.lm l1) (.lm l2)
noncomputable abbrev aq4 (l1:aZ):List (aZ×b7):=[(l1,mC)]
noncomputable abbrev sN (l2:aZ):List (aZ×b7):=[(l2,jY)]
noncomputable abbrev tcN (l1:aZ):aG:=rX 3 (aq4 l1) (aH (gW (aC 7) (aC 10)) (aH (aC 11) aO))
noncomputable abbrev JN:PV->PV->PV:=fZ rN λa b=>a+b
noncomputable abbrev zF (l1 l2:aZ):aR:=sK (tcN l1) (.lm l2) (d7 rN) JN
theorem zG (l2:aZ):∀d y w z,iB d y (some w)->d7 rN w->d7 rN z->j6 (sN l2) (bB ["values","key","value","joined"] [d,y,z,.lm l2]) λv _=>v=JN w z/\flat v=true:=
 z8 zE (λ_=>rfl) av5 λa b Q q=>⟨a,b,rfl,by rw[<- Int.natCast_add];exact q⟩
theorem aq5 (l1 l2:aZ):∀xs Q,oM l1 l2 xs Q->zF l1 l2 { nx:=λ_=>Q .non,rt:=Q } (bB ["wants","length","first","passed","joined","begin","following","values","turn","later","answer","seeds","behind","ends"] xs):=
 z9 (λ_ _=>True) zE (λ_=>rfl) trivial (λ_ _ _ _ _=>trivial) (λ_ _ _ _ _=>trivial) λρ Q ps k b s i ⟨_,e3⟩ ⟨_,e7⟩ ⟨_,e10⟩ ⟨_,e11⟩ hv _ _ _ q=>
  ⟨_,l1,_,e3,av5,_,e7,_,e10,rN b,.inl ⟨_,ki k,rfl,rfl,by rw[gZ,hv];rfl⟩,_,e11,_,_,rfl,rfl,q⟩
noncomputable def j7:b7:=λxs Q=>∃x ws,∃n v:Nat,xs = [x,.int n]/\cR x ws/\i9 ws/\(∃S,Closed ws S)/\n<=300/\Strip.fJ (λa b=>a+b) (Strip.bZ ws (λv _=>v) (λa b=>a+b) 1 n)=some v/\Q (.int v)
noncomputable def zH (l1 l2:aZ):aR:=(bC (jL (aU (Core.iZ λ_=>False) (aH (aC 0) (aH (aC 1) aO))))
 (bC (jL (aU (Core.j0 λ_=>False) (aH (aC 1) (aH (qC (.int 300)) aO))))
 (dP (aU (oM l1 l2) (aH (aC 0) (aH (aC 1) (aH (qC (.int 1)) (aH (lP l1) (aH (lP l2) aO)))))))))
theorem sO {ws:ag}(h:i9 ws):cA ws:=⟨List.length_pos_iff.mpr h.1,h.2.1⟩
theorem aq6 (l1 l2:aZ):∀xs Q,j7 xs Q->zH l1 l2 { nx:=λ_=>Q .non,rt:=Q } (bB ["wants","length"] xs):=by
 rintro _ Q ⟨x,ws,n,v,rfl,hx,ok,cl,hn,hv,q⟩;refine⟨_,rfl,_,rfl,x,ws,n,rfl,hx,λ_ _=>?_,λz=>z ⟨ok,by omega⟩⟩;refine⟨_,rfl,n,300,rfl,λ_=>?_,λz=>by omega⟩
 exact⟨_,rfl,_,rfl,x,ws,n,v,rfl,hx,sO ok,cl,hn,hv,trivial,q⟩
noncomputable def rP (v:Strip.PR):PV:=fG v.1 (v.2.map Int.ofNat)
theorem zI:∀{a b:Strip.PR},rP a=rP b->a=b:=by
 rintro⟨a,l⟩ ⟨b,m⟩ h
 injection h with h
 injection h with h1 h2
 injection h2 with h2 _
 injection h2 with h2
 have e1:a=b:=Int.ofNat.inj (PV.int.inj h1);subst e1;have e2:∀{l m:List Nat},intz (l.map Int.ofNat)=intz (m.map Int.ofNat)->l=m:=by
  intro l
  induction l with
  |nil=>intro m h;cases m with
   |nil=>rfl
   |cons=>cases h
  |cons x r ih=>intro m h;cases m with
   |nil=>cases h
   |cons y t=>
    injection h with h1 h2
    rw[ih h2,show x=y from Int.ofNat.inj (PV.int.inj h1)]
 have h3:l=m:=e2 h2;rw[h3]
theorem sP (v:Strip.PR):flat (rP v)=true:=o0 _ _
noncomputable def JP (x y:Strip.PR):Strip.PR:=if HT.bX ((y.1:Int)::y.2.map Int.ofNat) ((x.1:Int)::x.2.map Int.ofNat)=true then y else x
theorem oN:Strip.gU JP:=by
 refine⟨λx y=>?_,λx y=>?_,λx y=>?_⟩
 ·unfold JP;split
  ·exact .inr rfl
  ·exact .inl rfl
 ·unfold JP;split
  ·rename_i h;have:=zA.1 h;omega
  ·exact aw5 _
 ·unfold JP;split
  ·exact aw5 _
  ·rename_i h;have:=zA.2 (Bool.eq_false_iff.mpr h);omega
noncomputable abbrev oO (l:aZ):b7:=oJ rP (0,[]) Strip.pass JP (.fn "with_slice") (.lm l)
noncomputable def mD:b7:=λxs Q=>∃v:Strip.PR,∃s:Nat,xs = [rP v,.int s]/\v.2.length<=300/\s<4/\Q (rP (Strip.pass v s))
noncomputable def zJ:aR:=(dP (eZ (aH (iU (dU (aC 0) (qC (.int 0))) (aU lT (aH (aC 1) aO))) (aH (wO (dU (aC 0) (qC (.int 1))) (eZ (aH (aC 1) aO))) aO))))
theorem aq7:∀xs Q,mD xs Q->zJ { nx:=λ_=>Q .non,rt:=Q } (bB ["pair","seeds"] xs):=by
 rintro _ Q ⟨v,s,rfl,hl,hs,q⟩;have fi:flats (intz (v.2.map Int.ofNat))=true:=n5 _;have e:PV.tup [.int ((v.1:Int)+(Strip.one s:Int)),.tup (intz (v.2.map Int.ofNat)++[.int (s:Int)])]=rP (Strip.pass v s):=by
  show _=PV.tup [.int ((v.1+Strip.one s:Nat):Int),.tup (intz ((v.2++[s]).map Int.ofNat))];rw[Int.natCast_add,ay0,show intz (v.2.map Int.ofNat++[s].map Int.ofNat)=intz (v.2.map Int.ofNat)++intz ([s].map Int.ofNat) from ay0 ..];rfl
 have ll:(intz (v.2.map Int.ofNat)).length=v.2.length:=by rw[Core.qQ,av4]
 refine⟨_,rfl,_,_,_,rfl,rfl,rfl,_,rfl,s,rfl,hs,_,_,rfl,rfl,_,rfl,_,_,_,rfl,rfl,rfl,_,rfl,by show 1<=1000;decide,rfl,_,_,rfl,rfl,fi,rfl,by rw[ll];show v.2.length+1<=16000000;omega,by show 2<=1000;decide,?_,trivial,?_⟩
 ·have:=sP (Strip.pass v s)
  rw[<- e]at this;exact this
 ·exact (congrArg Q e).mpr q
noncomputable abbrev aq8:List (Str×b7):=[("with_slice",mD)]
noncomputable abbrev sQ (l:aZ):List (aZ×b7):=[(l,jZ)]
noncomputable abbrev tcP:aG:=yD 3 aq8 (aH (gW (aC 7) (aC 10)) (aH (aC 11) aO))
noncomputable abbrev kA:PV->PV->PV:=fZ rP JP
noncomputable abbrev zK (l:aZ):aR:=sK tcP (.lm l) (d7 rP) kA
theorem zL (l:aZ):∀d y w z,iB d y (some w)->d7 rP w->d7 rP z->j6 (sQ l) (bB ["values","key","value","joined"] [d,y,z,.lm l]) λv _=>v=kA w z/\flat v=true:=
 z8 zI sP av5 λa b Q q=>⟨a.1,b.1,a.2.map Int.ofNat,b.2.map Int.ofNat,rfl,by
  unfold JP at q;split
  ·rename_i h;rw[if_pos h]at q;exact q
  ·rename_i h;rw[if_neg h]at q;exact q⟩
theorem aq9 (l:aZ):∀xs Q,oO l xs Q->zK l { nx:=λ_=>Q .non,rt:=Q } (bB ["wants","length","first","passed","joined","begin","following","values","turn","later","answer","seeds","behind","ends"] xs):=
 z9 (λi v=>v.2.length=i) zI sP rfl (λi a b ha hb=>by rcases oN.or a b with e|e<;>rw[e]<;>assumption) (λi v s h _=>by show (v.2++[s]).length=_;rw[ay1,h];rfl) λρ Q ps k b s i ⟨_,e3⟩ ⟨_,e7⟩ ⟨_,e10⟩ ⟨_,e11⟩ hv hb hi hs q=>
  ⟨_,_,_,e3,av5,_,e7,_,e10,rP b,.inl ⟨_,ki k,rfl,rfl,by rw[gZ,hv];rfl⟩,_,e11,b,s,rfl,by omega,hs,q⟩
noncomputable def mE:b7:=λxs Q=>∃x ws,∃n:Nat,∃v,xs = [x,.int n]/\cR x ws/\cA ws/\(∃S,Closed ws S)/\n<=300/\Strip.fJ JP (Strip.bZ ws Strip.pass JP (0,[]) n)=some v/\Q (rP v)
noncomputable def zM (l:aZ):aR:=(dP (aU (oO l) (aH (aC 0) (aH (aC 1) (aH (eZ (aH (qC (.int 0)) (aH (eZ aO) aO))) (aH (qC (.fn "with_slice")) (aH (lP l) aO)))))))
theorem ar0 (l:aZ):∀xs Q,mE xs Q->zM l { nx:=λ_=>Q .non,rt:=Q } (bB ["wants","length"] xs):=by
 rintro _ Q ⟨x,ws,n,v,rfl,hx,ok,cl,hn,hv,q⟩
 exact⟨_,rfl,_,rfl,aG0 _,rfl,by show 2<=1000;decide,rfl,x,ws,n,v,rfl,hx,ok,cl,hn,hv,trivial,q⟩
noncomputable def j8:b7:=λxs Q=>∃x ws,∃n:Nat,∃v:Strip.PR,xs = [x,.int n]/\cR x ws/\i9 ws/\(∃S,Closed ws S)/\n<=300/\Strip.fJ JP (Strip.bZ ws Strip.pass JP (0,[]) n)=some v/\Q (.int v.1)
noncomputable def zN:aR:=(bC (jL (aU (Core.iZ λ_=>False) (aH (aC 0) (aH (aC 1) aO))))
 (bC (jL (aU (Core.j0 λ_=>False) (aH (aC 1) (aH (qC (.int 300)) aO))))
 (dP (dU (aU mE (aH (aC 0) (aH (aC 1) aO))) (qC (.int 0))))))
theorem ar1:∀xs Q,j8 xs Q->zN { nx:=λ_=>Q .non,rt:=Q } (bB ["wants","length"] xs):=by
 rintro _ Q ⟨x,ws,n,v,rfl,hx,ok,cl,hn,hv,q⟩;refine⟨_,rfl,_,rfl,x,ws,n,rfl,hx,λ_ _=>?_,λz=>z ⟨ok,by omega⟩⟩;refine⟨_,rfl,n,300,rfl,λ_=>?_,λz=>by omega⟩
 exact⟨_,rfl,_,rfl,x,ws,n,v,rfl,hx,sO ok,cl,hn,hv,_,_,_,rfl,rfl,rfl,trivial,q⟩
end PP
namespace Strip
theorem zO {f:Nat->Nat}{c:Nat}:∀{l:List Nat},(∀x∈l,f x<=c)->(l.map f).sum<=l.length*c
 |[],_=>by simp
 |x::r,h=>by
  rw[ax2,aB6,aC9,Nat.add_mul,Nat.one_mul,Nat.add_comm];exact Nat.add_le_add (zO λy hy=>h y (aw4 _ hy)) (h x av5)
theorem ar2 (w:ag)(a:aB)(s:Nat):(next w a s).length=a.length:=by unfold next;rw[av4,aF2]
theorem zP (w:ag):∀(n:Nat) {a:aB},a.length<=4->bF w n a<=4^n
 |0,a,_=>by unfold bF;split<;>decide
 |n+1,a,h=>by
  rw[lM];refine ay7 (zO (c:=4^n) λs _=>?_) ?_
  ·split
   ·exact zP w n (by rw[ar2];exact h)
   ·exact aG0 _
  ·rw[aF2,Nat.pow_succ,Nat.mul_comm]
   exact Nat.mul_le_mul_left _ h
theorem zQ {w:ag}(o:cA w)(n:Nat)(hn:n<=300):bF w n (aV w)<2^1000:=by
 have h1:=zP w n (a:=aV w) (by have:=(yU o).1;rcases lW o with e|e<;>omega);have h2:(4:Nat)^n<=4^300:=Nat.pow_le_pow_right (by decide) hn;have h3:(4:Nat)^300<2^1000:=by decide +kernel
 omega
theorem ar3:∀w∈dF,(w≠[]/\w.length<=2/\∀x∈w,0<=x/\x<=6):=by decide +kernel
theorem zR {a b:Int}(ha:0<=a/\a<3)(hb:0<=b/\b<3):[a]∈dF/\[a,b]∈dF:=by
 have h1:a=0∨a=1∨a=2:=by omega
 have h2:b=0∨b=1∨b=2:=by omega
 rcases h1 with rfl|rfl|rfl<;>rcases h2 with rfl|rfl|rfl<;>decide +kernel
theorem zS {J:PR->PR->PR}(P:gU J){w:ag}(h:w∈dF++[[3],[4],[5],[6]])(n:Nat):∃v,fJ J (bZ w pass J (0,[]) n)=some v:=by
 obtain⟨h1,h2⟩:=rO h n
 obtain⟨v,hv,_⟩:=(o6 P w n).2 (lN w n) h2 h1
 exact⟨v,hv⟩
end Strip
namespace L2
open PySem PySem.Spec PyProof.Rows
noncomputable def zT (i j:Int):Prop:=i.natAbs<2^1000/\j.natAbs<2^1000
theorem ar4 {X:Cx}:bV X (binaryOp .Mult) (rI zT λi j=>.int (i*j)):=kJ λ_ _ _ _ _ _ _ hc q=>mul_int q (.of_le (intBits_le_iff.mpr hc.1) (intBits_le_iff.mpr hc.2) (by decide))
end L2
namespace PP
open PySem L2
open Strip (aB cA cW Closed jV)
open Core (cR si i9)
section
variable {X:Cx}{a b:Expr}{ta tb:aG}{pos:Pos}
noncomputable abbrev zU (ta tb:aG):aG:=q2 (RI zT λi j=>.int (i*j)) ta tb
theorem ar5 (ha:QE X a ta)(hb:QE X b tb):QE X (.BinOp a .Mult b pos) (zU ta tb):=fU ar4 kW ha hb
end
noncomputable def zV:aR:=(bC (cG 5 (aU j7 (aH (aC 2) (aH (iU (aC 3) (aC 4)) aO))))
 (bC (fC (cC (lD (aC 5) (zU (aU j7 (aH (aC 2) (aH (aC 3) aO))) (aU j7 (aH (aC 2) (aH (aC 4) aO)))))) (dP (qC (.bl false))) fB)
 (dP (X1 (aU j8 (aH (aC 2) (aH (iU (aC 3) (aC 4)) aO))) (iU (aU j8 (aH (aC 2) (aH (aC 3) aO))) (aU j8 (aH (aC 2) (aH (aC 4) aO))))))))
noncomputable def zW:aR:=(bC (cG 3 (iV (aU Core.i5 (aH (aC 0) (aH (qC (.int 1)) aO))) (qC (.int 21))))
 (bC (cG 4 (iV (aU Core.i5 (aH (aC 0) (aH (qC (.int 2)) aO))) (qC (.int 21))))
 (bC (fC (cC (qF (iV (aU Core.i5 (aH (aC 0) (aH (qC (.int 1)) aO))) (qC (.int 16))) (qC (.int 9)))) (bC (cG 3 (qC (.int 150)))
  (cG 4 (qC (.int 150)))) fB)
 zV)))
noncomputable def zX:aR:=(bC (cG 2 (eZ (aH (iV (qD (aC 1) (qC (.int 2))) (qC (.int 3))) aO)))
 (bC (fC (cC (qF (iV (aC 1) (qC (.int 2))) (qC (.int 1)))) (cG 2 (eZ (aH (iV (qD (aC 1) (qC (.int 2))) (qC (.int 3))) (aH (iV (qD (aC 1) (qC (.int 6))) (qC (.int 3))) aO)))) fB)
 zW))
noncomputable def zY:aR:=(bC (cG 1 (aU Core.i5 (aH (aC 0) (aH (qC (.int 0)) aO))))
 zX)
noncomputable def sR:b7:=Core.wK
theorem zZ {s:PV}{cell:Int}{ws:ag}{m n:Nat}{Q:PV->Prop}(hw:ws∈Strip.dF)(hm:m<=150)(hn:n<=150)(q:Q (.bl true)):zV { nx:=λ_=>Q .non,rt:=Q } [some (.sh true s),si cell,some (.sh true (.tup (intz ws))),si m,si n,none]:=by
 have ok:i9 ws:=Strip.ar3 ws hw;have cl:=Strip.am7 hw;have hw2:ws∈Strip.dF++[[3],[4],[5],[6]]:=az5 _ hw;have ow:=sO ok;have hx:cR (.tup (intz ws)) ws:=.inl rfl;have es:((m:Int)+(n:Int))=((m+n:Nat):Int):=by omega
 have pb:=Strip.ah2 hw m n;refine⟨_,rfl,_,rfl,_,rfl,_,_,rfl,rfl,.tup (intz ws),ws,m+n,_,by rw[<- es];rfl,hx,ok,cl,by omega,Strip.rQ hw2 (m+n),trivial,?_⟩;refine⟨_,rfl,_,rfl,_,rfl,.tup (intz ws),ws,m,_,rfl,hx,ok,cl,by omega,Strip.rQ hw2 m,_,rfl,_,rfl,.tup (intz ws),ws,n,_,rfl,hx,ok,cl,by omega,Strip.rQ hw2 n,_,_,rfl,rfl,⟨Strip.zQ ow m (by omega),Strip.zQ ow n (by omega)⟩,_,_,rfl,rfl,_,rfl,?_⟩;show if decide (((Strip.bF ws (m+n) (Strip.aV ws):Nat):Int)<(Strip.bF ws m (Strip.aV ws):Nat)*(Strip.bF ws n (Strip.aV ws):Nat))=true then _ else _
 rw[aw1 (by rw[<- Int.natCast_mul];omega)]
 obtain⟨x,hx2⟩:=Strip.zS oN hw2 m
 obtain⟨y,hy2⟩:=Strip.zS oN hw2 n
 obtain⟨v,hv,le⟩:=Strip.ai3 oN hw hx2 hy2
 refine cF ⟨_,rfl,_,rfl,_,rfl,_,_,rfl,rfl,.tup (intz ws),ws,m+n,v,by rw[<- es];rfl,hx,ok,cl,by omega,hv,_,rfl,_,rfl,.tup (intz ws),ws,m,x,rfl,hx,ok,cl,by omega,hx2,_,rfl,_,rfl,.tup (intz ws),ws,n,y,rfl,hx,ok,cl,by omega,hy2,_,_,rfl,rfl,_,_,rfl,rfl,trivial,?_⟩;show Q (.bl (decide ((v.1:Int)<=(x.1:Int)+(y.1:Int))));rw[ay5 (by omega)];exact q
theorem A0 {ns:ag}{cell:Int}{ws:ag}{Q:PV->Prop}(hw:ws∈Strip.dF)(q:Q (.bl true)):zW { nx:=λ_=>Q .non,rt:=Q } [some (.sh true (.scr ns)),si cell,some (.sh true (.tup (intz ws))),none,none,none]:=by
 obtain⟨m,em,hm⟩:∃m:Nat,ns.getD 1 0%21=m/\m<=20:=⟨(ns.getD 1 0%21).toNat,by omega,by omega⟩
 obtain⟨n,en,hn⟩:∃n:Nat,ns.getD 2 0%21=n/\n<=20:=⟨(ns.getD 2 0%21).toNat,by omega,by omega⟩
 refine⟨_,rfl,.scr ns,ns,1,rfl,.inl rfl,by decide,_,_,rfl,rfl,(by show (0:Int)<21;decide),trivial,?_⟩;refine⟨_,rfl,.scr ns,ns,2,rfl,.inl rfl,by decide,_,_,rfl,rfl,(by show (0:Int)<21;decide),trivial,?_⟩;refine⟨_,rfl,.scr ns,ns,1,rfl,.inl rfl,by decide,_,_,rfl,rfl,(by show (0:Int)<16;decide),.inl ⟨_,_,rfl,rfl,_,rfl,?_⟩⟩;show if decide (ns.getD 1 0%16=9)=true then _ else _
 by_cases g:ns.getD 1 0%16=9
 ·rw[ay5 g]
  refine bY ⟨trivial,trivial,?_⟩;have h:=zZ (s:=.scr ns) (cell:=cell) (m:=150) (n:=150) hw (by decide) (by decide) q;dsimp only[List.set];exact h
 ·rw[aw1 g]
  refine cF ?_
  have:=zZ (s:=.scr ns) (cell:=cell) (m:=m) (n:=n) hw (by omega) (by omega) q
  rw[<- em,<- en]at this;dsimp only[List.set];exact this
theorem ar6 {ns:ag}{c:Int}{Q:PV->Prop}(q:Q (.bl true)):zX { nx:=λ_=>Q .non,rt:=Q } [some (.sh true (.scr ns)),si c,none,none,none,none]:=by
 have h1:0<=c/2%3/\c/2%3<3:=by omega
 have h2:0<=c/6%3/\c/6%3<3:=by omega
 have d3:(0:Int)<3:=by decide
 have d2:(0:Int)<2:=by decide
 refine⟨_,rfl,_,_,rfl,rfl,⟨by decide,by decide⟩,_,_,rfl,rfl,d3,by show 1<=1000;decide,rfl,trivial,?_⟩;refine⟨_,rfl,_,_,rfl,rfl,d2,.inl ⟨_,_,rfl,rfl,_,rfl,?_⟩⟩;show if decide (c%2=1)=true then _ else _
 by_cases g:c%2=1
 ·rw[ay5 g]
  refine bY ⟨_,rfl,_,_,rfl,rfl,⟨by decide,by decide⟩,_,_,rfl,rfl,d3,_,rfl,_,_,rfl,rfl,⟨by decide,by decide⟩,_,_,rfl,rfl,d3,by show 2<=1000;decide,rfl,trivial,?_⟩;have h:=A0 (ns:=ns) (cell:=c) (Strip.zR h1 h2).2 q;dsimp only[List.set];exact h
 ·rw[aw1 g]
  refine cF ?_;have h:=A0 (ns:=ns) (cell:=c) (Strip.zR h1 h2).1 q;dsimp only[List.set];exact h
theorem ar7:∀xs Q,sR xs Q->zY { nx:=λ_=>Q .non,rt:=Q } (bB ["script","cell","wants","one","other","both"] xs):=by
 rintro _ Q ⟨ns,rfl,hl,q⟩
 exact⟨_,rfl,.scr ns,ns,0,rfl,.inl rfl,by decide,trivial,ar6 q⟩
end PP
namespace K_k87
open PySem PySem.W L2 PP Core
theorem _root_.L2.FnScope.au {N P:List Str}{s:Scope}(a:s.kind=.function:=by rfl)(b:s.isCoroutine=false:=by rfl)(c:s.isGenerator=false:=by rfl)(d:N.Nodup:=by decide +kernel)(e:N.take P.length=P:=by rfl)(f:∀x∈P,s.names.lookup x=some .local∨s.names.lookup x=some .cell:=by decide +kernel)(g:∀y∈s.names,y.2≠.free:=by decide +kernel):FnScope N P s:=⟨a,b,c,d,e,f,g⟩
noncomputable def aD (i:Nat):Stmt:=PySem.Challenge.pw_kindleweb_k87_whole_strips_put_together.main.body.getD i (.Pass ⟨0,0,0,0⟩)
section
variable {P:ay}{w:ba}{K:Frag}{mg:Str→Option av}{base:Heap}{f:ax}{fd:FuncData}{T:List (ax×Str)}
noncomputable def iC:aZ:=sL "strip_count.<locals>.<lambda>" (sM (aD 10) 3)
theorem ar8:e9 P w K mg base 1 iC mC:=
 e9.of (N:=["many","seeds"]) (ps:=["many","seeds"]) .au (λ_ _ _ us hl=>by obtain⟨_,_,rfl⟩:=us2 hl;rfl) aq1 (λf cv A outer s H E hr=>⟨_,(qv 0),ap8⟩)
noncomputable def d8:aZ:=sL "strip_count.<locals>.<lambda>" (sM (aD 10) 4)
theorem A1:e9 P w K mg base 1 d8 jY:=
 e9.of (N:=["one","other"]) (ps:=["one","other"]) .au (λ_ _ _ us hl=>by obtain⟨_,_,rfl⟩:=us2 hl;rfl) aq2 (λf cv A outer s H E hr=>⟨_,(hU (qv 0) (qv 1)),ap9⟩)
noncomputable def lF:aZ:=sL "fewest.<locals>.<lambda>" (sM (aD 12) 4)
theorem A2 (B:Bt mg):e9 P w K mg base 1 lF jZ:=
 e9.of (N:=["one","other"]) (ps:=["one","other"]) .au (λ_ _ _ us hl=>by obtain⟨_,_,rfl⟩:=us2 hl;rfl) aq3 (λf cv A outer s H E hr=>⟨_,(am1 B rfl (by show (A.deeper (PyProof.Rows.envOfC lF.qual lF.scope s.heap.objs.size f cv)).units+6<cLine;have:=hr.units;omega) (aF (qv 0) (aF (qv 1) aN))),aq0⟩)
theorem ar9:FnScope ["wants","length"] ["wants","length"] (aJ (aD 8)):=.au
theorem as0 (B:Bt mg)(F:bM K "looked_through" "looked_through" (aD 8) f fd)(m:mg "looked_through" = some (.ref f))(x_BadBoard:Xc K mg base "BadBoard"){u_MOST_WIDE:Nat}(m_MOST_WIDE:mg "MOST_WIDE" = some (.int 2 u_MOST_WIDE)){u_MOST_WANTED_ON_STRIPS:Nat}(m_MOST_WANTED_ON_STRIPS:mg "MOST_WANTED_ON_STRIPS" = some (.int 6 u_MOST_WANTED_ON_STRIPS)):fX P w K mg base 1 "looked_through" ["wants","length"] iZ:=
 fX.of F m ar9 (λ_ _ _ _ _ _ us hl=>by obtain⟨_,_,rfl⟩:=us2 hl;rfl) x5 (λEp xs Q h=>by unfold iZ at h;repeat (first|(obtain⟨rfl,_⟩:=h;rfl)|(obtain⟨_,h⟩:=h))) ag4 (λcdv A outer s H E Ep hr hX=>by
  exact (b9 (fW (Y1 (qK (lG (hV B (aF (qv 0) aN)) aY) (qK (qJ (hV B (aF (qv 0) aN)) (nY rfl m_MOST_WIDE)) (qK (lG (ag0 B rfl (aF (qv 0) aN)) aY) (Y0 (qJ (ag1 B rfl (aF (qv 0) aN)) (nY rfl m_MOST_WANTED_ON_STRIPS))))))) (bD (qX hX x_BadBoard (aF qG aN))) fV)
   (bD (fW (lG (qv 1) aY) (bD (qX hX x_BadBoard (aF qG aN))) fV))))
theorem as1:FnScope ["length","most"] ["length","most"] (aJ (aD 9)):=.au
theorem as2 (B:Bt mg)(F:bM K "held_to" "held_to" (aD 9) f fd)(m:mg "held_to" = some (.ref f))(x_TooMany:Xc K mg base "TooMany"):fX P w K mg base 1 "held_to" ["length","most"] j0:=
 fX.of F m as1 (λ_ _ _ _ _ _ us hl=>by obtain⟨_,_,rfl⟩:=us2 hl;rfl) x6 (λEp xs Q h=>by unfold j0 at h;repeat (first|(obtain⟨rfl,_⟩:=h;rfl)|(obtain⟨_,h⟩:=h))) ag5 (λcdv A outer s H E Ep hr hX=>by
  exact (bD (fW (qJ (qv 0) (qv 1)) (bD (qX hX x_TooMany (aF qG aN))) fV)))
theorem as3:FnScope ["mask","place"] ["mask","place"] (aJ (aD 14)):=.au
theorem as4 (B:Bt mg)(F:bM K "has" "has" (aD 14) f fd)(m:mg "has" = some (.ref f)) :Df P w K mg base 1 "has" ["mask","place"] gH:=
 Df.of F m as3 (λ_ _ _ _ _ _ us hl=>by obtain⟨_,_,rfl⟩:=us2 hl;rfl) (λxs Q h=>by unfold gH at h;repeat (first|(obtain⟨rfl,_⟩:=h;rfl)|(obtain⟨_,h⟩:=h))) (λcdv A outer s H E hr=>by
  exact⟨(yK),(bD (dZ (ae5 (X5 (qv 0) (qv 1)) aY))),ak9⟩)
theorem as5:FnScope ["script","k"] ["script","k"] (aJ (aD 23)):=.au
theorem as6 (B:Bt mg)(F:bM K "_law_cell_at" "_law_cell_at" (aD 23) f fd)(m:mg "_law_cell_at" = some (.ref f)) :Df P w K mg base 1 "_law_cell_at" ["script","k"] i5:=
 Df.of F m as5 (λ_ _ _ _ _ _ us hl=>by obtain⟨_,_,rfl⟩:=us2 hl;rfl) (λxs Q h=>by unfold i5 at h;repeat (first|(obtain⟨rfl,_⟩:=h;rfl)|(obtain⟨_,h⟩:=h))) (λcdv A outer s H E hr=>by
  exact⟨(wH),(b9 (fW (lG (qv 1) (hV B (aF (qv 0) aN))) (bD (dZ (d5 (qv 0) (qv 1)))) fV)
   (bD (dZ aY))),aa5⟩)
theorem as7:FnScope ["mask"] ["mask"] (aJ (aD 15)):=.au
theorem as8 (B:Bt mg)(F:bM K "count_in" "count_in" (aD 15) f fd)(m:mg "count_in" = some (.ref f))(d_has:Df P w K mg base 1 "has" ["mask","place"] gH):Df P w K mg base 2 "count_in" ["mask"] lT:=
 Df.of F m as7 (λ_ _ _ _ _ _ us hl=>by obtain⟨_,rfl⟩:=us1 hl;rfl) (λxs Q h=>by unfold lT at h;repeat (first|(obtain⟨rfl,_⟩:=h;rfl)|(obtain⟨_,h⟩:=h))) (λcdv A outer s H E hr=>by
  exact⟨(yL),(bD (dZ (hU (cV d_has hr (aF (qv 0) (aF aY aN))) (cV d_has hr (aF (qv 0) (aF aY aN)))))),al0⟩)
theorem oP:FnScope ["values","key","value","joined"] ["values","key","value","joined"] (aJ (aD 17)):=.au
theorem as9 (F:bM K "join_in" "join_in" (aD 17) f fd)(m:mg "join_in" = some (.ref f))(lm:e9 P w K mg base 1 d8 jY):gX P w K mg base 2 "join_in" ["values","key","value","joined"] (.lm d8) (d7 rN) JN:=
 gX.of F m oP (λ_ _ _ _ _ _ us hl=>by obtain⟨_,_,_,_,rfl⟩:=iY hl;rfl) (λcdv A outer s H E hr=>by
  have hu16:(A.deeper (PyProof.Rows.envOfC "join_in" (aJ (aD 17)) s.heap.objs.size f cdv)).units+16<cLine:=by have:=hr.units;omega
  exact⟨j6 (sN d8),eG (kF (o8 hu16 (qv 1) (qv 0)) (eG (gN hu16 (pv 0) (pv 1) (lQ 3 (λz hz=>by obtain rfl:=aw2.mp hz;exact lm) hr (aF (eQ hu16 (qv 0) (qv 1)) (aF (qv 2) aN))) rfl)) (eG (gN hu16 (pv 0) (pv 1) (pv 2) rfl))),zG d8⟩)
theorem at0 (F:bM K "join_in" "join_in" (aD 17) f fd)(m:mg "join_in" = some (.ref f))(lm:e9 P w K mg base 1 d8 jY):gY P w K mg base 2 "join_in" ["values","key","value","joined"] (.lm d8) (d7 rN) JN:=
 gY.of F m oP (λ_ _ _ _ _ _ us hl=>by obtain⟨_,_,_,_,rfl⟩:=iY hl;rfl) (λcdv A outer s H E hr=>by
  have hu16:(A.deeper (PyProof.Rows.envOfC "join_in" (aJ (aD 17)) s.heap.objs.size f cdv)).units+16<cLine:=by have:=hr.units;omega
  exact⟨j6 (sN d8),eG (kF (o8 hu16 (qv 1) (qv 0)) (eG (gN hu16 (pv 0) (pv 1) (lQ 3 (λz hz=>by obtain rfl:=aw2.mp hz;exact lm) hr (aF (eQ hu16 (qv 0) (qv 1)) (aF (qv 2) aN))) rfl)) (eG (gN hu16 (pv 0) (pv 1) (pv 2) rfl))),zG d8⟩)
theorem at1 (F:bM K "join_in" "join_in" (aD 17) f fd)(m:mg "join_in" = some (.ref f))(lm:e9 P w K mg base 1 lF jZ):gX P w K mg base 2 "join_in" ["values","key","value","joined"] (.lm lF) (d7 rP) kA:=
 gX.of F m oP (λ_ _ _ _ _ _ us hl=>by obtain⟨_,_,_,_,rfl⟩:=iY hl;rfl) (λcdv A outer s H E hr=>by
  have hu16:(A.deeper (PyProof.Rows.envOfC "join_in" (aJ (aD 17)) s.heap.objs.size f cdv)).units+16<cLine:=by have:=hr.units;omega
  exact⟨j6 (sQ lF),eG (kF (o8 hu16 (qv 1) (qv 0)) (eG (gN hu16 (pv 0) (pv 1) (lQ 3 (λz hz=>by obtain rfl:=aw2.mp hz;exact lm) hr (aF (eQ hu16 (qv 0) (qv 1)) (aF (qv 2) aN))) rfl)) (eG (gN hu16 (pv 0) (pv 1) (pv 2) rfl))),zL lF⟩)
theorem at2 (F:bM K "join_in" "join_in" (aD 17) f fd)(m:mg "join_in" = some (.ref f))(lm:e9 P w K mg base 1 lF jZ):gY P w K mg base 2 "join_in" ["values","key","value","joined"] (.lm lF) (d7 rP) kA:=
 gY.of F m oP (λ_ _ _ _ _ _ us hl=>by obtain⟨_,_,_,_,rfl⟩:=iY hl;rfl) (λcdv A outer s H E hr=>by
  have hu16:(A.deeper (PyProof.Rows.envOfC "join_in" (aJ (aD 17)) s.heap.objs.size f cdv)).units+16<cLine:=by have:=hr.units;omega
  exact⟨j6 (sQ lF),eG (kF (o8 hu16 (qv 1) (qv 0)) (eG (gN hu16 (pv 0) (pv 1) (lQ 3 (λz hz=>by obtain rfl:=aw2.mp hz;exact lm) hr (aF (eQ hu16 (qv 0) (qv 1)) (aF (qv 2) aN))) rfl)) (eG (gN hu16 (pv 0) (pv 1) (pv 2) rfl))),zL lF⟩)
theorem A3:FnScope ["wants","behind","burning","ahead","lit","place","want"] ["wants","behind","burning","ahead"] (aJ (aD 21)):=.au
theorem at3 (B:Bt mg)(F:bM K "with_kindled" "with_kindled" (aD 21) f fd)(m:mg "with_kindled" = some (.ref f))(d_has:Df P w K mg base 1 "has" ["mask","place"] gH):Df P w K mg base 2 "with_kindled" ["wants","behind","burning","ahead"] jW:=
 Df.of F m A3 (λ_ _ _ _ _ _ us hl=>by obtain⟨_,_,_,_,rfl⟩:=iY hl;rfl) (λxs Q h=>by unfold jW at h;repeat (first|(obtain⟨rfl,_⟩:=h;rfl)|(obtain⟨_,h⟩:=h))) (λcdv A outer s H E hr=>by
  have nd:=A3.nd
  exact⟨(yY),(b9 (cJ (i:=4) nd (qv 2))
   (b9 (qM 5 6 nd (ac8 rfl B.enum (qv 0))
    (bD (fW (X8 (hU (hU (cV d_has hr (aF (qv 1) (aF (qv 5) aN))) (cV d_has hr (aF (qv 3) (aF (qv 5) aN)))) (cV d_has hr (aF (qv 2) (aF (w9 aY (qv 5)) aN)))) (qv 6)) (bD (cJ (i:=4) nd (al9 (qv 4) (qI aY (qv 5))))) fV)))
   (bD (wC 4)))),ao2⟩)
theorem at4:FnScope ["pair","seeds"] ["pair","seeds"] (aJ (aD 13)):=.au
theorem at5 (B:Bt mg)(F:bM K "with_slice" "with_slice" (aD 13) f fd)(m:mg "with_slice" = some (.ref f))(d_count_in:Df P w K mg base 2 "count_in" ["mask"] lT):Df P w K mg base 3 "with_slice" ["pair","seeds"] mD:=
 Df.of F m at4 (λ_ _ _ _ _ _ us hl=>by obtain⟨_,_,rfl⟩:=us2 hl;rfl) (λxs Q h=>by unfold mD at h;repeat (first|(obtain⟨rfl,_⟩:=h;rfl)|(obtain⟨_,h⟩:=h))) (λcdv A outer s H E hr=>by
  exact⟨(zJ),(bD (dZ (fE (aF (hU (d5 (qv 0) aY) (cV d_count_in hr (aF (qv 1) aN))) (aF (ad2 (d5 (qv 0) aY) (fE (aF (qv 1) aN))) aN))))),aq7⟩)
theorem A4:FnScope ["wants","answer","seeds","ahead","burning","more","whole"] ["wants","answer","seeds","ahead"] (aJ (aD 20)):=.au
theorem at6 (B:Bt mg)(F:bM K "settled" "settled" (aD 20) f fd)(m:mg "settled" = some (.ref f))(d_with_kindled:Df P w K mg base 2 "with_kindled" ["wants","behind","burning","ahead"] jW):Df P w K mg base 3 "settled" ["wants","answer","seeds","ahead"] lZ:=
 Df.of F m A4 (λ_ _ _ _ _ _ us hl=>by obtain⟨_,_,_,_,rfl⟩:=iY hl;rfl) (λxs Q h=>by unfold lZ at h;repeat (first|(obtain⟨rfl,_⟩:=h;rfl)|(obtain⟨_,h⟩:=h))) (λcdv A outer s H E hr=>by
  have nd:=A4.nd
  exact⟨(yZ),(b9 (cJ (i:=4) nd (qv 2))
   (b9 (cJ (i:=5) nd (cV d_with_kindled hr (aF (qv 0) (aF (d5 (d5 (qv 1) (qv 4)) aY) (aF (qv 4) (aF (qv 3) aN))))))
   (b9 (wD PassesOwn.never (X9 (qv 5) (qv 4))
    (b9 (cJ (i:=4) nd (qv 5))
    (bD (cJ (i:=5) nd (cV d_with_kindled hr (aF (qv 0) (aF (d5 (d5 (qv 1) (qv 4)) aY) (aF (qv 4) (aF (qv 3) aN)))))))))
   (b9 (cJ (i:=6) nd (w9 (hV B (aF (qv 1) aN)) aY))
   (bD (dZ (fE (aF (qv 4) (aF (Y3 (X7 (qv 4) (qv 6)) (Y2 (d5 (d5 (qv 1) (qv 6)) aY))) aN))))))))),ao3⟩)
theorem at7:FnScope ["wants","answer","seeds"] ["wants","answer","seeds"] (aJ (aD 19)):=.au
theorem at8 (B:Bt mg)(F:bM K "next_answer" "next_answer" (aD 19) f fd)(m:mg "next_answer" = some (.ref f))(d_settled:Df P w K mg base 3 "settled" ["wants","answer","seeds","ahead"] lZ):Df P w K mg base 4 "next_answer" ["wants","answer","seeds"] mB:=
 Df.of F m at7 (λ_ _ _ _ _ _ us hl=>by obtain⟨_,_,_,rfl⟩:=wT hl;rfl) (λxs Q h=>by unfold mB at h;repeat (first|(obtain⟨rfl,_⟩:=h;rfl)|(obtain⟨_,h⟩:=h))) (λcdv A outer s H E hr=>by
  exact⟨(z4),(bD (dZ (Y9 B (aF (Z1 (N:=["ahead","wants","answer","seeds"]) (fr:=[none,some 0,some 1,some 2]) (nT rfl B.range (hV B (aF (qv 1) aN))) (λ_ _ _ _=>(cV d_settled hr (aF (qv 1) (aF (qv 2) (aF (qv 3) (aF (qv 0) aN))))))) aN)))),ao5⟩)
theorem A5:FnScope ["wants","begin","following","waiting","answer","pairs"] ["wants","begin"] (aJ (aD 18)):=.au
theorem at9 (B:Bt mg)(F:bM K "answers_behind" "answers_behind" (aD 18) f fd)(m:mg "answers_behind" = some (.ref f))(d_next_answer:Df P w K mg base 4 "next_answer" ["wants","answer","seeds"] mB):Df P w K mg base 5 "answers_behind" ["wants","begin"] jX:=
 Df.of F m A5 (λ_ _ _ _ _ _ us hl=>by obtain⟨_,_,rfl⟩:=us2 hl;rfl) (λxs Q h=>by unfold jX at h;repeat (first|(obtain⟨rfl,_⟩:=h;rfl)|(obtain⟨_,h⟩:=h))) (λcdv A outer s H E hr=>by
  have nd:=A5.nd;have hu16:(A.deeper (PyProof.Rows.envOfC "answers_behind" (aJ (aD 18)) s.heap.objs.size f cdv)).units+16<cLine:=by have:=hr.units;omega
  exact⟨z6,(b9 (lV (i:=2) nd rV)
   (b9 (Y6 (i:=3) nd (Y4 (aF (qv 1) aN)))
   (b9 (wD PassesOwn.never (nN (qv 3))
    (b9 (ae4 nd 3 4)
    (bD (fW (aj3 hu16 (qv 4) (qv 2)) (b9 (Z3 (N:=["seeds","wants","answer"]) (fr:=[none,some 0,some 4]) (i:=5) nd (nT rfl B.range (hV B (aF (qv 4) aN))) (λ_ _ _ _=>(fE (aF (qv 0) (aF (cV d_next_answer hr (aF (qv 1) (aF (qv 2) (aF (qv 0) aN)))) aN)))))
     (b9 (aj4 (i:=2) hu16 (qv 4) (ah0 (Z2 (N:=["pair"]) (fr:=[none]) (nR (qv 5)) (λ_ _ _ _=>(nN (d5 (d5 (d5 (qv 0) aY) (Z0 aY)) aY))) (λ_ _ _ _=>(qv 0)))))
     (bD (Z5 3 (ad0 (N:=["seeds","behind"]) (fr:=[none,none]) (nR (eQ hu16 (qv 2) (qv 4))) (λ_ _ _ _=>(qv 1))))))) fV))))
   (bD (wC 2))))),ao8⟩)
theorem oQ:FnScope ["wants","length","first","passed","joined","begin","following","values","turn","later","answer","seeds","behind","ends"] ["wants","length","first","passed","joined"] (aJ (aD 16)):=.au
theorem au0 (B:Bt mg)(F:bM K "gone_through" "gone_through" (aD 16) f fd)(m:mg "gone_through" = some (.ref f))(d_answers_behind:Df P w K mg base 5 "answers_behind" ["wants","begin"] jX)(jA:gX P w K mg base 2 "join_in" ["values","key","value","joined"] (.lm d8) (d7 rN) JN)(jB:gY P w K mg base 2 "join_in" ["values","key","value","joined"] (.lm d8) (d7 rN) JN)(lp:e9 P w K mg base 1 iC mC):Df P w K mg base 6 "gone_through" ["wants","length","first","passed","joined"] (oM iC d8):=
 Df.of F m oQ (λ_ _ _ _ _ _ us hl=>by obtain⟨_,_,_,_,_,rfl⟩:=wU hl;rfl) zD (λcdv A outer s H E hr=>by
  have nd:=oQ.nd;have hu16:(A.deeper (PyProof.Rows.envOfC "gone_through" (aJ (aD 16)) s.heap.objs.size f cdv)).units+16<cLine:=by have:=hr.units;omega
  exact⟨(zF iC d8),(b9 (cJ (i:=5) nd (wJ (fE (aF (fE (aF aY (aF iW aN))) aN)) (qI aY (hV B (aF (qv 0) aN)))))
   (b9 (cJ (i:=6) nd (oA (cV d_answers_behind hr (aF (qv 0) (aF (qv 5) aN)))))
   (b9 (cJ (i:=7) nd (oA (y0 hu16 (qv 5) (qv 2))))
   (b9 (jS 8 nd (nT rfl B.range (qv 1))
    (b9 (lV (i:=9) nd rV)
    (b9 (jS 10 nd (oC (qv 7))
     (bD (qM 11 12 nd (nR (eQ hu16 (qv 6) (qv 10)))
      (bD (yB jA hr 9 (qv 12) (lQ 3 (λz hz=>by obtain rfl:=aw2.mp hz;exact lp) hr (aF (eQ hu16 (qv 7) (qv 10)) (aF (qv 11) aN))) (qv 4))))))
    (bD (yO 9 (i:=7) nd)))))
   (b9 (lV (i:=13) nd xZ)
   (b9 (jS 10 nd (oC (qv 7))
    (bD (fW (nN (d5 (d5 (qv 10) aY) aY)) (bD (yC jB hr 13 iW (eQ hu16 (qv 7) (qv 10)) (qv 4))) fV)))
   (bD (dZ (eQ hu16 (qv 13) iW))))))))),(aq5 iC d8)⟩)
theorem au1 (B:Bt mg)(F:bM K "gone_through" "gone_through" (aD 16) f fd)(m:mg "gone_through" = some (.ref f))(d_answers_behind:Df P w K mg base 5 "answers_behind" ["wants","begin"] jX)(jA:gX P w K mg base 2 "join_in" ["values","key","value","joined"] (.lm lF) (d7 rP) kA)(jB:gY P w K mg base 2 "join_in" ["values","key","value","joined"] (.lm lF) (d7 rP) kA)(fv:o3 K mg "with_slice")(lp:Df P w K mg base 3 "with_slice" ["pair","seeds"] mD):Df P w K mg base 6 "gone_through" ["wants","length","first","passed","joined"] (oO lF):=
 Df.of F m oQ (λ_ _ _ _ _ _ us hl=>by obtain⟨_,_,_,_,_,rfl⟩:=wU hl;rfl) zD (λcdv A outer s H E hr=>by
  have nd:=oQ.nd;have hu16:(A.deeper (PyProof.Rows.envOfC "gone_through" (aJ (aD 16)) s.heap.objs.size f cdv)).units+16<cLine:=by have:=hr.units;omega
  exact⟨(zK lF),(b9 (cJ (i:=5) nd (wJ (fE (aF (fE (aF aY (aF iW aN))) aN)) (qI aY (hV B (aF (qv 0) aN)))))
   (b9 (cJ (i:=6) nd (oA (cV d_answers_behind hr (aF (qv 0) (aF (qv 5) aN)))))
   (b9 (cJ (i:=7) nd (oA (y0 hu16 (qv 5) (qv 2))))
   (b9 (jS 8 nd (nT rfl B.range (qv 1))
    (b9 (lV (i:=9) nd rV)
    (b9 (jS 10 nd (oC (qv 7))
     (bD (qM 11 12 nd (nR (eQ hu16 (qv 6) (qv 10)))
      (bD (yB jA hr 9 (qv 12) (ak3 3 (λz hz=>by obtain rfl:=aw2.mp hz;exact⟨fv.ex,_,lp⟩) hr (aF (eQ hu16 (qv 7) (qv 10)) (aF (qv 11) aN))) (qv 4))))))
    (bD (yO 9 (i:=7) nd)))))
   (b9 (lV (i:=13) nd xZ)
   (b9 (jS 10 nd (oC (qv 7))
    (bD (fW (nN (d5 (d5 (qv 10) aY) aY)) (bD (yC jB hr 13 iW (eQ hu16 (qv 7) (qv 10)) (qv 4))) fV)))
   (bD (dZ (eQ hu16 (qv 13) iW))))))))),(aq9 lF)⟩)
theorem au2:FnScope ["wants","length"] ["wants","length"] (aJ (aD 10)):=.au
theorem au3 {c0 P0:ax}{oc:av}{od an:Option ax}{osl:Array (Option av)}{kV doc pm ct:av}(l:K.lookup f=some ⟨oc,od,.func (fnOf "strip_count" "strip_count" (bH (aD 10)) (b8 (aD 10)) (aJ (aD 10)) .none kV doc pm an (.ref c0) ct),osl⟩)(cc:codeIn K (.ref c0) "strip_count" = true)(kp:keepIn K (.ref f)=true)(m:mg "strip_count" = some (.ref f))(hK:codeHdIn K c0 P0=true)(BK:fN base mg P0)(hgP:mainGlobals≠P0)(hmem:((P0,"strip_count.<locals>.<lambda>"):ax×Str)∈T)(d_looked_through:fX P w K mg base 1 "looked_through" ["wants","length"] iZ)(d_held_to:fX P w K mg base 1 "held_to" ["length","most"] j0)(d_gone:Df P w K mg base 6 "gone_through" ["wants","length","first","passed","joined"] (oM iC d8)){u_:Nat}(m_:mg "MOST_COUNTED" = some (.int 300 u_)):eD P w K mg base T 7 "strip_count" ["wants","length"] j7:=
 eD.ofC l cc kp m au2 (λ_ _ _ _ _ _ us hl=>by obtain⟨_,_,rfl⟩:=us2 hl;rfl) (λxs Q h=>by unfold j7 at h;repeat (first|(obtain⟨rfl,_⟩:=h;rfl)|(obtain⟨_,h⟩:=h))) (λA outer s H E hr hT=>⟨(zH iC d8),(b9 (nQ (nZ d_looked_through hr (aF (qv 0) (aF (qv 1) aN))))
   (b9 (nQ (nZ d_held_to hr (aF (qv 1) (aF (nY rfl m_) aN))))
   (bD (dZ (cV d_gone hr (aF (qv 0) (aF (qv 1) (aF aY (aF (rW (hT _ hmem) rfl rfl hK BK hgP) (aF (rW (hT _ hmem) rfl rfl hK BK hgP) aN)))))))))) , (aq6 iC d8)⟩)
theorem au4:FnScope ["wants","length"] ["wants","length"] (aJ (aD 12)):=.au
theorem au5 {c0 P0:ax}{oc:av}{od an:Option ax}{osl:Array (Option av)}{kV doc pm ct:av}(l:K.lookup f=some ⟨oc,od,.func (fnOf "fewest" "fewest" (bH (aD 12)) (b8 (aD 12)) (aJ (aD 12)) .none kV doc pm an (.ref c0) ct),osl⟩)(cc:codeIn K (.ref c0) "fewest" = true)(kp:keepIn K (.ref f)=true)(m:mg "fewest" = some (.ref f))(hK:codeHdIn K c0 P0=true)(BK:fN base mg P0)(hgP:mainGlobals≠P0)(hmem:((P0,"fewest.<locals>.<lambda>"):ax×Str)∈T)(d_gone:Df P w K mg base 6 "gone_through" ["wants","length","first","passed","joined"] (oO lF))(fv:o3 K mg "with_slice"):eD P w K mg base T 7 "fewest" ["wants","length"] mE:=
 eD.ofC l cc kp m au4 (λ_ _ _ _ _ _ us hl=>by obtain⟨_,_,rfl⟩:=us2 hl;rfl) (λxs Q h=>by unfold mE at h;repeat (first|(obtain⟨rfl,_⟩:=h;rfl)|(obtain⟨_,h⟩:=h))) (λA outer s H E hr hT=>⟨(zM lF),(bD (dZ (cV d_gone hr (aF (qv 0) (aF (qv 1) (aF (fE (aF aY (aF (fE aN) aN))) (aF (ah1 fv) (aF (rW (hT _ hmem) rfl rfl hK BK hgP) aN)))))))),(ar0 lF)⟩)
theorem au6:FnScope ["wants","length"] ["wants","length"] (aJ (aD 11)):=.au
theorem au7 (B:Bt mg)(F:bM K "strip_least" "strip_least" (aD 11) f fd)(m:mg "strip_least" = some (.ref f))(d_looked_through:fX P w K mg base 1 "looked_through" ["wants","length"] iZ)(d_held_to:fX P w K mg base 1 "held_to" ["length","most"] j0)(d_fewest:eD P w K mg base T 7 "fewest" ["wants","length"] mE){u_MOST_COUNTED:Nat}(m_MOST_COUNTED:mg "MOST_COUNTED" = some (.int 300 u_MOST_COUNTED)):eD P w K mg base T 8 "strip_least" ["wants","length"] j8:=
 eD.of F m au6 (λ_ _ _ _ _ _ us hl=>by obtain⟨_,_,rfl⟩:=us2 hl;rfl) (λxs Q h=>by unfold j8 at h;repeat (first|(obtain⟨rfl,_⟩:=h;rfl)|(obtain⟨_,h⟩:=h))) (λcdv A outer s H E hr hT=>by
  exact⟨(zN),(b9 (nQ (nZ d_looked_through hr (aF (qv 0) (aF (qv 1) aN))))
   (b9 (nQ (nZ d_held_to hr (aF (qv 1) (aF (nY rfl m_MOST_COUNTED) aN))))
   (bD (dZ (d5 (j5 hT d_fewest hr (aF (qv 0) (aF (qv 1) aN))) aY))))),ar1⟩)
theorem A6:FnScope ["script","cell","wants","one","other","both"] ["script"] (aJ (aD 24)):=.au
theorem au8 (B:Bt mg)(F:bM K "law" "law" (aD 24) f fd)(d__law_cell_at:Df P w K mg base 1 "_law_cell_at" ["script","k"] i5)(d_strip_count:eD P w K mg base T 7 "strip_count" ["wants","length"] j7)(d_strip_least:eD P w K mg base T 8 "strip_least" ["wants","length"] j8):cE P w K mg base bT 9 f fd ["script"] (lR K T sR):=
 ap3 F A6 (λxs Q h=>by unfold sR at h;repeat (first|(obtain⟨rfl,_⟩:=h;rfl)|(obtain⟨_,h⟩:=h))) (λcdv A outer s H E hr hT=>by
  have nd:=A6.nd
  exact⟨(zY),(b9 (cJ (i:=1) nd (cV d__law_cell_at hr (aF (qv 0) (aF aY aN))))
   (b9 (cJ (i:=2) nd (fE (aF (iX (qH (qv 1) aY) aY) aN)))
   (b9 (fW (wB (iX (qv 1) aY) aY) (bD (cJ (i:=2) nd (fE (aF (iX (qH (qv 1) aY) aY) (aF (iX (qH (qv 1) aY) aY) aN))))) fV)
   (b9 (cJ (i:=3) nd (iX (cV d__law_cell_at hr (aF (qv 0) (aF aY aN))) aY))
   (b9 (cJ (i:=4) nd (iX (cV d__law_cell_at hr (aF (qv 0) (aF aY aN))) aY))
   (b9 (fW (wB (iX (cV d__law_cell_at hr (aF (qv 0) (aF aY aN))) aY) aY) (b9 (cJ (i:=3) nd aY)
    (bD (cJ (i:=4) nd aY))) fV)
   (b9 (cJ (i:=5) nd (j5 hT d_strip_count hr (aF (qv 2) (aF (hU (qv 3) (qv 4)) aN))))
   (b9 (fW (lG (qv 5) (ar5 (j5 hT d_strip_count hr (aF (qv 2) (aF (qv 3) aN))) (j5 hT d_strip_count hr (aF (qv 2) (aF (qv 4) aN))))) (bD (dZ iW)) fV)
   (bD (dZ (X6 (j5 hT d_strip_least hr (aF (qv 2) (aF (hU (qv 3) (qv 4)) aN))) (hU (j5 hT d_strip_least hr (aF (qv 2) (aF (qv 3) aN))) (j5 hT d_strip_least hr (aF (qv 2) (aF (qv 4) aN))))))))))))))),ar7⟩)
end
set_option autoImplicit true in
theorem au9 {l:OpenLaw}{w:ba}{K:Frag}{h:Heap}{mg:Str->Option av}(X:K.In h)(G:h.Ns mainGlobals mg)(hfa:mg "law" = some (.ref fa))(a0:nsIn K mainGlobals "looked_through" = some (some (.ref f0)))(l0:K.lookup f0=some ⟨oc0,od0,.func (fnOf "looked_through" "looked_through" (bH (aD 8)) (b8 (aD 8)) (aJ (aD 8)) .none kV0 dc0 pm0 an0 cd0 ct0),sl0⟩)(c0:codeIn K cd0 "looked_through" = true)(k0:keepIn K (.ref f0)=true)(a1:nsIn K mainGlobals "held_to" = some (some (.ref f1)))(l1:K.lookup f1=some ⟨oc1,od1,.func (fnOf "held_to" "held_to" (bH (aD 9)) (b8 (aD 9)) (aJ (aD 9)) .none kV1 dc1 pm1 an1 cd1 ct1),sl1⟩)(c1:codeIn K cd1 "held_to" = true)(k1:keepIn K (.ref f1)=true)(a2:nsIn K mainGlobals "has" = some (some (.ref f2)))(l2:K.lookup f2=some ⟨oc2,od2,.func (fnOf "has" "has" (bH (aD 14)) (b8 (aD 14)) (aJ (aD 14)) .none kV2 dc2 pm2 an2 cd2 ct2),sl2⟩)(c2:codeIn K cd2 "has" = true)(k2:keepIn K (.ref f2)=true)(a3:nsIn K mainGlobals "_law_cell_at" = some (some (.ref f3)))(l3:K.lookup f3=some ⟨oc3,od3,.func (fnOf "_law_cell_at" "_law_cell_at" (bH (aD 23)) (b8 (aD 23)) (aJ (aD 23)) .none kV3 dc3 pm3 an3 cd3 ct3),sl3⟩)(c3:codeIn K cd3 "_law_cell_at" = true)(k3:keepIn K (.ref f3)=true)(a4:nsIn K mainGlobals "count_in" = some (some (.ref f4)))(l4:K.lookup f4=some ⟨oc4,od4,.func (fnOf "count_in" "count_in" (bH (aD 15)) (b8 (aD 15)) (aJ (aD 15)) .none kV4 dc4 pm4 an4 cd4 ct4),sl4⟩)(c4:codeIn K cd4 "count_in" = true)(k4:keepIn K (.ref f4)=true)(a5:nsIn K mainGlobals "join_in" = some (some (.ref f5)))(l5:K.lookup f5=some ⟨oc5,od5,.func (fnOf "join_in" "join_in" (bH (aD 17)) (b8 (aD 17)) (aJ (aD 17)) .none kV5 dc5 pm5 an5 cd5 ct5),sl5⟩)(c5:codeIn K cd5 "join_in" = true)(k5:keepIn K (.ref f5)=true)(a6:nsIn K mainGlobals "with_kindled" = some (some (.ref f6)))(l6:K.lookup f6=some ⟨oc6,od6,.func (fnOf "with_kindled" "with_kindled" (bH (aD 21)) (b8 (aD 21)) (aJ (aD 21)) .none kV6 dc6 pm6 an6 cd6 ct6),sl6⟩)(c6:codeIn K cd6 "with_kindled" = true)(k6:keepIn K (.ref f6)=true)(a7:nsIn K mainGlobals "with_slice" = some (some (.ref f7)))(l7:K.lookup f7=some ⟨oc7,od7,.func (fnOf "with_slice" "with_slice" (bH (aD 13)) (b8 (aD 13)) (aJ (aD 13)) .none kV7 dc7 pm7 an7 cd7 ct7),sl7⟩)(c7:codeIn K cd7 "with_slice" = true)(k7:keepIn K (.ref f7)=true)(a8:nsIn K mainGlobals "settled" = some (some (.ref f8)))(l8:K.lookup f8=some ⟨oc8,od8,.func (fnOf "settled" "settled" (bH (aD 20)) (b8 (aD 20)) (aJ (aD 20)) .none kV8 dc8 pm8 an8 cd8 ct8),sl8⟩)(c8:codeIn K cd8 "settled" = true)(k8:keepIn K (.ref f8)=true)(a9:nsIn K mainGlobals "next_answer" = some (some (.ref f9)))(l9:K.lookup f9=some ⟨oc9,od9,.func (fnOf "next_answer" "next_answer" (bH (aD 19)) (b8 (aD 19)) (aJ (aD 19)) .none kV9 dc9 pm9 an9 cd9 ct9),sl9⟩)(c9:codeIn K cd9 "next_answer" = true)(k9:keepIn K (.ref f9)=true)(a10:nsIn K mainGlobals "answers_behind" = some (some (.ref f10)))(l10:K.lookup f10=some ⟨oc10,od10,.func (fnOf "answers_behind" "answers_behind" (bH (aD 18)) (b8 (aD 18)) (aJ (aD 18)) .none kV10 dc10 pm10 an10 cd10 ct10),sl10⟩)(c10:codeIn K cd10 "answers_behind" = true)(k10:keepIn K (.ref f10)=true)(a11:nsIn K mainGlobals "gone_through" = some (some (.ref f11)))(l11:K.lookup f11=some ⟨oc11,od11,.func (fnOf "gone_through" "gone_through" (bH (aD 16)) (b8 (aD 16)) (aJ (aD 16)) .none kV11 dc11 pm11 an11 cd11 ct11),sl11⟩)(c11:codeIn K cd11 "gone_through" = true)(k11:keepIn K (.ref f11)=true){cq12 pq12:ax}(a12:nsIn K mainGlobals "strip_count" = some (some (.ref f12)))(l12:K.lookup f12=some ⟨oc12,od12,.func (fnOf "strip_count" "strip_count" (bH (aD 10)) (b8 (aD 10)) (aJ (aD 10)) .none kV12 dc12 pm12 an12 (.ref cq12) ct12),sl12⟩)(c12:codeIn K (.ref cq12) "strip_count" = true)(k12:keepIn K (.ref f12)=true)(tb12:codeHdIn K cq12 pq12=true)(ng12:(mainGlobals==pq12)=false){cq13 pq13:ax}(a13:nsIn K mainGlobals "fewest" = some (some (.ref f13)))(l13:K.lookup f13=some ⟨oc13,od13,.func (fnOf "fewest" "fewest" (bH (aD 12)) (b8 (aD 12)) (aJ (aD 12)) .none kV13 dc13 pm13 an13 (.ref cq13) ct13),sl13⟩)(c13:codeIn K (.ref cq13) "fewest" = true)(k13:keepIn K (.ref f13)=true)(tb13:codeHdIn K cq13 pq13=true)(ng13:(mainGlobals==pq13)=false)(a14:nsIn K mainGlobals "strip_least" = some (some (.ref f14)))(l14:K.lookup f14=some ⟨oc14,od14,.func (fnOf "strip_least" "strip_least" (bH (aD 11)) (b8 (aD 11)) (aJ (aD 11)) .none kV14 dc14 pm14 an14 cd14 ct14),sl14⟩)(c14:codeIn K cd14 "strip_least" = true)(k14:keepIn K (.ref f14)=true)(a15:nsIn K mainGlobals "law" = some (some (.ref f15)))(l15:K.lookup f15=some ⟨oc15,od15,.func (fnOf "law" "law" (bH (aD 24)) (b8 (aD 24)) (aJ (aD 24)) .none kV15 dc15 pm15 an15 cd15 ct15),sl15⟩)(c15:codeIn K cd15 "law" = true)(k15:keepIn K (.ref f15)=true)(z_len:nsIn K mainGlobals "len" = some none)(z_range:nsIn K mainGlobals "range" = some none)(z_tuple:nsIn K mainGlobals "tuple" = some none)(z_list:nsIn K mainGlobals "list" = some none)(z_sorted:nsIn K mainGlobals "sorted" = some none)(z_all:nsIn K mainGlobals "all" = some none)(z_any:nsIn K mainGlobals "any" = some none)(z_zip:nsIn K mainGlobals "zip" = some none)(z_min:nsIn K mainGlobals "min" = some none)(z_max:nsIn K mainGlobals "max" = some none)(z_sum:nsIn K mainGlobals "sum" = some none)(z_isinstance:nsIn K mainGlobals "isinstance" = some none)(z_int:nsIn K mainGlobals "int" = some none)(z_bool:nsIn K mainGlobals "bool" = some none)(z_enumerate:nsIn K mainGlobals "enumerate" = some none){u_MOST_COUNTED:Nat}(z_MOST_COUNTEDx:nsIn K mainGlobals "MOST_COUNTED" = some (some (.int 300 u_MOST_COUNTED))){u_MOST_WANTED_ON_STRIPS:Nat}(z_MOST_WANTED_ON_STRIPSx:nsIn K mainGlobals "MOST_WANTED_ON_STRIPS" = some (some (.int 6 u_MOST_WANTED_ON_STRIPS))){u_MOST_WIDE:Nat}(z_MOST_WIDEx:nsIn K mainGlobals "MOST_WIDE" = some (some (.int 2 u_MOST_WIDE))){C_HearthError C_BadBoard C_TooMany:ax}(aX_HE:nsIn K mainGlobals "HearthError" = some (some (.ref C_HearthError)))(aX_BB:nsIn K mainGlobals "BadBoard" = some (some (.ref C_BadBoard)))(aX_TM:nsIn K mainGlobals "TooMany" = some (some (.ref C_TooMany)))(zX_BW:nsIn K mainGlobals "BadWeb" = some none)(zX_BS:nsIn K mainGlobals "BadSet" = some none)(zX_BO:nsIn K mainGlobals "BadOrder" = some none)(zX_BP:nsIn K mainGlobals "BadPrices" = some none)(zX_BD:nsIn K mainGlobals "BadDeed" = some none)(zX_NW:nsIn K mainGlobals "NotWood" = some none)(zX_NP:nsIn K mainGlobals "NoPaper" = some none)(zX_NS:nsIn K mainGlobals "NoSuch" = some none)(zX_NT:nsIn K mainGlobals "NoText" = some none)(zX_OR:nsIn K mainGlobals "OddRound" = some none)(y_fg:specialIn K (.builtin "object.__class__") "__get__" = some (some (.builtin "getset_descriptor.__get__")))(y_ft:takesIn K (.builtin "object.__class__")=some true)(z_VE:nsIn K mainGlobals "ValueError" = some none)(y1_HE:isClsIn K C_HearthError=true)(y2_HE:typeIn K (.ref C_HearthError)=some (.type "type"))(y3_HE:findIn K (.ref C_HearthError) "__getattribute__" = some (some (.builtin "BaseException.__getattribute__")))(y4_HE:findIn K (.ref C_HearthError) "__getattr__" = some none)(y5_HE:findIn K (.ref C_HearthError) "__class__" = some (some (.builtin "object.__class__")))(y6_HE:mroIn K C_HearthError (.type "object")=some true)(y7_HE:mroIn K C_HearthError (.type "BaseException")=some true)(y1_BB:isClsIn K C_BadBoard=true)(y2_BB:typeIn K (.ref C_BadBoard)=some (.type "type"))(y3_BB:findIn K (.ref C_BadBoard) "__getattribute__" = some (some (.builtin "BaseException.__getattribute__")))(y4_BB:findIn K (.ref C_BadBoard) "__getattr__" = some none)(y5_BB:findIn K (.ref C_BadBoard) "__class__" = some (some (.builtin "object.__class__")))(y6_BB:mroIn K C_BadBoard (.type "object")=some true)(y7_BB:mroIn K C_BadBoard (.type "BaseException")=some true)(y1_TM:isClsIn K C_TooMany=true)(y2_TM:typeIn K (.ref C_TooMany)=some (.type "type"))(y3_TM:findIn K (.ref C_TooMany) "__getattribute__" = some (some (.builtin "BaseException.__getattribute__")))(y4_TM:findIn K (.ref C_TooMany) "__getattr__" = some none)(y5_TM:findIn K (.ref C_TooMany) "__class__" = some (some (.builtin "object.__class__")))(y6_TM:mroIn K C_TooMany (.type "object")=some true)(y7_TM:mroIn K C_TooMany (.type "BaseException")=some true)(q_BB:excIn K C_BadBoard [.type "ValueError",.type "Exception",.type "BaseException",.type "object"] "ValueError.__new__" = true)(q_TM:excIn K C_TooMany [.type "ValueError",.type "Exception",.type "BaseException",.type "object"] "ValueError.__new__" = true)
 :∃fd:FuncData,(∀(s:aw) (v:av),BindsTo s fd ⟨[v],[]⟩ [("script",v)])/\∀base:Heap,K.In base->base.Ns mainGlobals mg->(∀z∈([(pq13,"fewest.<locals>.<lambda>"),(pq12,"strip_count.<locals>.<lambda>")]:List (ax×Str)),fN base mg z.1)->cE l.prog w K mg base bT 9 fa fd ["script"] (oK K [(pq13,"fewest.<locals>.<lambda>"),(pq12,"strip_count.<locals>.<lambda>")]):=by
 have e:=hfa.symm.trans (mg_of X G a15);cases e;have F0:=cY (st:=aD 8) l0 c0 k0;have m0:=mg_of X G a0;have F1:=cY (st:=aD 9) l1 c1 k1;have m1:=mg_of X G a1;have F2:=cY (st:=aD 14) l2 c2 k2;have m2:=mg_of X G a2;have F3:=cY (st:=aD 23) l3 c3 k3;have m3:=mg_of X G a3;have F4:=cY (st:=aD 15) l4 c4 k4;have m4:=mg_of X G a4;have F5:=cY (st:=aD 17) l5 c5 k5;have m5:=mg_of X G a5;have F6:=cY (st:=aD 21) l6 c6 k6;have m6:=mg_of X G a6;have F7:=cY (st:=aD 13) l7 c7 k7;have m7:=mg_of X G a7;have F8:=cY (st:=aD 20) l8 c8 k8;have m8:=mg_of X G a8;have F9:=cY (st:=aD 19) l9 c9 k9;have m9:=mg_of X G a9;have F10:=cY (st:=aD 18) l10 c10 k10;have m10:=mg_of X G a10;have F11:=cY (st:=aD 16) l11 c11 k11;have m11:=mg_of X G a11;have F12:=cY (st:=aD 10) l12 c12 k12;have m12:=mg_of X G a12;have F13:=cY (st:=aD 12) l13 c13 k13;have m13:=mg_of X G a13;have F14:=cY (st:=aD 11) l14 c14 k14;have m14:=mg_of X G a14;have F15:=cY (st:=aD 24) l15 c15 k15;have m15:=mg_of X G a15;have B:Bt mg:=⟨mg_none_of X G z_len,mg_none_of X G z_range,mg_none_of X G z_tuple,mg_none_of X G z_list,mg_none_of X G z_sorted,mg_none_of X G z_all,mg_none_of X G z_any,mg_none_of X G z_zip,mg_none_of X G z_min,mg_none_of X G z_max,mg_none_of X G z_sum,mg_none_of X G z_isinstance,mg_none_of X G z_int,mg_none_of X G z_bool,mg_none_of X G z_enumerate⟩;have fv_with_slice:o3 K mg "with_slice":=⟨_,m7,a7⟩;have m_MOST_COUNTED:=mg_of X G z_MOST_COUNTEDx;have m_MOST_WANTED_ON_STRIPS:=mg_of X G z_MOST_WANTED_ON_STRIPSx;have m_MOST_WIDE:=mg_of X G z_MOST_WIDEx;refine⟨fnOf "law" "law" (bH (aD 24)) (b8 (aD 24)) (aJ (aD 24)) .none kV15 dc15 pm15 an15 cd15 ct15,λs v=>.of_eq rfl,λbase KB _ bms=>?_⟩;have XK_HearthError:qY K C_HearthError:=⟨y1_HE,y2_HE,y3_HE,y4_HE,y5_HE,y_fg,y_ft,y6_HE,y7_HE⟩;have XK_BadBoard:qY K C_BadBoard:=⟨y1_BB,y2_BB,y3_BB,y4_BB,y5_BB,y_fg,y_ft,y6_BB,y7_BB⟩;have XK_TooMany:qY K C_TooMany:=⟨y1_TM,y2_TM,y3_TM,y4_TM,y5_TM,y_fg,y_ft,y6_TM,y7_TM⟩;have x_BadBoard:Xc K mg base "BadBoard":=⟨C_BadBoard,_,_,_,_,wQ KB (mg_of X G aX_BB) q_BB,PySem.F.excBase_ValueError,aX_BB⟩
 have x_TooMany:Xc K mg base "TooMany":=⟨C_TooMany,_,_,_,_,wQ KB (mg_of X G aX_TM) q_TM,PySem.F.excBase_ValueError,aX_TM⟩;have D0:=as0 (P:=l.prog) (w:=w) (base:=base) B F0 m0  x_BadBoard m_MOST_WIDE m_MOST_WANTED_ON_STRIPS;have D1:=as2 (P:=l.prog) (w:=w) (base:=base) B F1 m1  x_TooMany;have D2:=as4 (P:=l.prog) (w:=w) (base:=base) B F2 m2;have D3:=as6 (P:=l.prog) (w:=w) (base:=base) B F3 m3;have D4:=as8 (P:=l.prog) (w:=w) (base:=base) B F4 m4 D2;have D5AC:=as9 (P:=l.prog) (w:=w) (base:=base) F5 m5 (A1);have D5BC:=at0 (P:=l.prog) (w:=w) (base:=base) F5 m5 (A1);have D5AF:=at1 (P:=l.prog) (w:=w) (base:=base) F5 m5 (A2 B);have D5BF:=at2 (P:=l.prog) (w:=w) (base:=base) F5 m5 (A2 B);have D6:=at3 (P:=l.prog) (w:=w) (base:=base) B F6 m6 D2;have D7:=at5 (P:=l.prog) (w:=w) (base:=base) B F7 m7 D4;have D8:=at6 (P:=l.prog) (w:=w) (base:=base) B F8 m8 D6;have D9:=at8 (P:=l.prog) (w:=w) (base:=base) B F9 m9 D8;have D10:=at9 (P:=l.prog) (w:=w) (base:=base) B F10 m10 D9;have D11C:=au0 (P:=l.prog) (w:=w) (base:=base) B F11 m11 D10 D5AC D5BC ar8;have D11F:=au1 (P:=l.prog) (w:=w) (base:=base) B F11 m11 D10 D5AF D5BF fv_with_slice D7;have D12:=au3 (P:=l.prog) (w:=w) (base:=base) (T:=[(pq13,"fewest.<locals>.<lambda>"),(pq12,"strip_count.<locals>.<lambda>")]) l12 c12 k12 m12 tb12 (bms _ (aw4 _ av5)) (zC ng12) (aw4 _ av5) D0 D1 D11C m_MOST_COUNTED;have D13:=au5 (P:=l.prog) (w:=w) (base:=base) (T:=[(pq13,"fewest.<locals>.<lambda>"),(pq12,"strip_count.<locals>.<lambda>")]) l13 c13 k13 m13 tb13 (bms _ av5) (zC ng13) av5 D11F fv_with_slice;have D14:=au7 (P:=l.prog) (w:=w) (base:=base) B F14 m14 D0 D1 D13 m_MOST_COUNTED;exact ap4 (au8 (T:=[(pq13,"fewest.<locals>.<lambda>"),(pq12,"strip_count.<locals>.<lambda>")]) B F15 D3 D12 D14)
theorem av0 {l:OpenLaw}{q:ay}{loose:List Str}{XP:(Str->Option av)->Heap->Prop}{d:DefRec}{K:Params->Frag}{as:List ax}{e:∀P,as=(K P).map (·.1)}{P1 P2:ax}(hn:l.most=some 63)(hdf:d.params.defaults = [])(hN:∀p,(K p).lookup P1=none/\(K p).lookup P2=none){f1 c1:ax}(hA1:∀p,nsIn (K p) mainGlobals "fewest" = some (some (.ref f1)))(hL1:∀p,∃oc od kV doc pm an ct osl,(K p).lookup f1=some ⟨oc,od,.func (fnOf "fewest" "fewest" (bH (aD 12)) (b8 (aD 12)) (aJ (aD 12)) .none kV doc pm an (.ref c1) ct),osl⟩)(hC1:∀p,codeHdIn (K p) c1 P1=true){f2 c2:ax}(hA2:∀p,nsIn (K p) mainGlobals "strip_count" = some (some (.ref f2)))(hL2:∀p,∃oc od kV doc pm an ct osl,(K p).lookup f2=some ⟨oc,od,.func (fnOf "strip_count" "strip_count" (bH (aD 10)) (b8 (aD 10)) (aJ (aD 10)) .none kV doc pm an (.ref c2) ct),osl⟩)(hC2:∀p,codeHdIn (K p) c2 P2=true)(h12:P1≠P2)(F:∀(w:ba) (mg:Str->Option av) (fa:ax) (h:Heap),(K w.params).In h->h.Ns mainGlobals mg->mg d.name=some (.ref fa)->
   ∃fd:FuncData,(∀(s:aw) (u:av),BindsTo s fd ⟨[u],[]⟩ [("script",u)])/\∀base:Heap,(K w.params).In base->base.Ns mainGlobals mg->(∀z∈([(P1,"fewest.<locals>.<lambda>"),(P2,"strip_count.<locals>.<lambda>")]:List (ax×Str)),fN base mg z.1)->cE l.prog w (K w.params) mg base bT 9 fa fd ["script"] (oK (K w.params) [(P1,"fewest.<locals>.<lambda>"),(P2,"strip_count.<locals>.<lambda>")])) :
  WalkO q loose XP (kmHook K as e [P1,P2]).says l.row.toRowW d [] (λf vs=>PySem.call f vs):=
 L2.ak7 (n:=63) (k:=9) (x:="script") (CX:=λ_=>bT) (T:=[(P1,"fewest.<locals>.<lambda>"),(P2,"strip_count.<locals>.<lambda>")]) (sp:=λw=>oK (K w.params) [(P1,"fewest.<locals>.<lambda>"),(P2,"strip_count.<locals>.<lambda>")]) hn (by decide) hdf ⟨rfl,by decide,by decide⟩ (λw h Y=>km_in_of Y) (λw h Y=>⟨λz hz=>by
  simp only[aw6,ay4,aD6]at hz;rcases hz with rfl|rfl
  ·exact⟨km_tabs_of Y _ av5,(hN w.params).1,yJ (km_in_of Y) (hC1 w.params)⟩
  ·exact⟨km_tabs_of Y _ (aw4 _ av5),(hN w.params).2,yJ (km_in_of Y) (hC2 w.params)⟩,by simp only[ax2,List.map_nil,aA3,aw6,ay4,aD6,not_false_eq_true,aF8,and_true];exact h12⟩) F (λ_ _ a ns hl hO hT hS=>⟨hT,a,ns,rfl,ak6 hO hS,hl,λ_=>rfl⟩) λ_ _ _ _ _ z=>z
end K_k87
open PySem PySem.W PyProof.Rows
set_option maxRecDepth 100000 in
set_option maxHeartbeats 0 in
theorem PySem.Challenge.cw_kindleweb_k87_whole_strips_put_together_holds : PySem.Challenge.rw_kindleweb_k87_whole_strips_put_together.Holds := by
 w_on;o_law;k_head;(case hw => w_witness2)
 k_fill
 refine' K_k87.av0 (l := PySem.Challenge.rw_kindleweb_k87_whole_strips_put_together) rfl rfl ?hN ?hA1 ?hL1 ?hC1 ?hA2 ?hL2 ?hC2 ?h12 ?F
 (case hA1 => intro p;k_is)
 (case hL1 => intro p;apply PP.zB;k_is)
 (case hC1 => intro p;kernel_rfl)
 (case hA2 => intro p;k_is)
 (case hL2 => intro p;apply PP.zB;k_is)
 (case hC2 => intro p;kernel_rfl)
 (case hN => intro p;exact⟨by kernel_rfl, by kernel_rfl⟩)
 (case h12 => decide)
 case F =>
  intro w mg fa h KX G hmg
  refine' K_k87.au9 KX G hmg ?a0 ?l0 ?c0 ?k0 ?a1 ?l1 ?c1 ?k1 ?a2 ?l2 ?c2 ?k2 ?a3 ?l3 ?c3 ?k3 ?a4 ?l4 ?c4 ?k4 ?a5 ?l5 ?c5 ?k5 ?a6 ?l6 ?c6 ?k6 ?a7 ?l7 ?c7 ?k7 ?a8 ?l8 ?c8 ?k8 ?a9 ?l9 ?c9 ?k9 ?a10 ?l10 ?c10 ?k10 ?a11 ?l11 ?c11 ?k11 ?a12 ?l12 ?c12 ?k12 ?tb12 ?ng12 ?a13 ?l13 ?c13 ?k13 ?tb13 ?ng13 ?a14 ?l14 ?c14 ?k14 ?a15 ?l15 ?c15 ?k15 ?z_len ?z_range ?z_tuple ?z_list ?z_sorted ?z_all ?z_any ?z_zip ?z_min ?z_max ?z_sum ?z_isinstance ?z_int ?z_bool ?z_enumerate ?z_MOST_COUNTEDx ?z_MOST_WANTED_ON_STRIPSx ?z_MOST_WIDEx ?aX_HE ?aX_BB ?aX_TM ?zX_BW ?zX_BS ?zX_BO ?zX_BP ?zX_BD ?zX_NW ?zX_NP ?zX_NS ?zX_NT ?zX_OR ?y_fg ?y_ft ?z_VE ?y1_HE ?y2_HE ?y3_HE ?y4_HE ?y5_HE ?y6_HE ?y7_HE ?y1_BB ?y2_BB ?y3_BB ?y4_BB ?y5_BB ?y6_BB ?y7_BB ?y1_TM ?y2_TM ?y3_TM ?y4_TM ?y5_TM ?y6_TM ?y7_TM ?q_BB ?q_TM
  (case a0|l0|c0|k0|a1|l1|c1|k1|a2|l2|c2|k2|a3|l3|c3|k3|a4|l4|c4|k4|a5|l5|c5|k5|a6|l6|c6|k6|a7|l7|c7|k7|a8|l8|c8|k8|a9|l9|c9|k9|a10|l10|c10|k10|a11|l11|c11|k11|a12|l12|c12|k12 => k_is)
  (case tb12 => kernel_rfl)
  (case ng12 => decide)
  (case a13|l13|c13|k13 => k_is)
  (case tb13 => kernel_rfl)
  (case ng13 => decide)
  (case a14|l14|c14|k14|a15|l15|c15|k15|z_len|z_range|z_tuple|z_list|z_sorted|z_all|z_any|z_zip|z_min|z_max|z_sum|z_isinstance|z_int|z_bool|z_enumerate|z_MOST_COUNTEDx|z_MOST_WANTED_ON_STRIPSx|z_MOST_WIDEx|aX_HE|aX_BB|aX_TM|zX_BW|zX_BS|zX_BO|zX_BP|zX_BD|zX_NW|zX_NP|zX_NS|zX_NT|zX_OR|y_fg|y_ft|z_VE|y1_HE|y2_HE|y3_HE|y4_HE|y5_HE|y6_HE|y7_HE|y1_BB|y2_BB|y3_BB|y4_BB|y5_BB|y6_BB|y7_BB|y1_TM|y2_TM|y3_TM|y4_TM|y5_TM|y6_TM|y7_TM => k_is)
  (case q_BB|q_TM => k_exc)


