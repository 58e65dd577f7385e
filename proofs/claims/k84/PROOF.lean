import PyProof.Rows.All
import Wide.All
import OpenK.AllK
import Wide.FinOn
import Lean
import PyProof.EqAt
import PyProof.EqKinds
import PyProof.TupleCall
import PyProof.NeKinds
import PyProof.Draws
import PyProof.ZipIter
import PyProof.DictUpdate
import PyProof.AutoSeq1
import PyProof.ListRange
import PyProof.ListMulRoad
import PyProof.FactsAll.tuple_2
import PyProof.Rows.SortShell
import PyProof.EnumFor
import PyProof.EnumMake
import PyProof.EnumStmt
import PyProof.Rows.SortWalk
import KE.KDictList
import PyProof.SumAny
import PyProof.ConsumeWalk
import PyProof.WalksMore
import PyProof.Rows.TupAssign
import PyProof.ExcArgsOwn
import Wide.Seal
import PyProof.TupleKey
import KE.KLam
import PySem.Challenge.RW_kindleweb_k84_whole_rows_of_one
set_option Elab.async false
set_option linter.all false
set_option maxRecDepth 100000
set_option maxHeartbeats 4000000
section
open PySem PySem.Spec PyProof.Rows
noncomputable def aD7:=@wpAny_bind
noncomputable def aD8:=@List.length_map
noncomputable def aD9:=@List.size_toArray
noncomputable def aE0:=@List.mem_cons_self
noncomputable def aE1:=@Heap.get?_push_of_some
noncomputable def aE2:=@List.mem_cons
noncomputable def aE3:=@wpAny_pure
noncomputable def aE4:=@Nat.lt_of_lt_of_le
noncomputable def aE6:=@List.mem_singleton
noncomputable def aE7:=@decide_eq_false
noncomputable def aE8:=@Heap.lt_size
noncomputable def aF0:=@Nat.le_refl
noncomputable def aF1:=@Bool.false_ne_true
noncomputable def aF2:=@List.mem_cons_of_mem
noncomputable def aF3:=@Heap.get?_push_size
noncomputable def aF5:=@List.getElem?_eq_getElem
noncomputable def aF7:=@List.mem_append_right
noncomputable def aF8:=@List.getElem?_map
noncomputable def aF9:=@Option.some.inj
noncomputable def aG0:=@Bool.false_eq_true
noncomputable def aG1:=@List.getElem?_eq_some_iff
noncomputable def aG3:=@List.map_cons
noncomputable def aG4:=@List.map_append
noncomputable def aG5:=@decide_eq_true
noncomputable def aG6:=@List.not_mem_nil
noncomputable def aG7:=@List.length_append
noncomputable def aG8:=@Bool.and_eq_true
noncomputable def aG9:=@List.getElem?_set_ne
noncomputable def aH0:=@Nat.le_trans
noncomputable def aH2:=@Nat.ne_of_lt
noncomputable def aH3:=@List.find?_cons
noncomputable def aH4:=@PySem.mem_of_lookup
noncomputable def aH7:=@List.getD_eq_getElem?_getD
noncomputable def aH8:=@List.lookup_cons
noncomputable def aH9:=@wpAny_mono
noncomputable def aI1:=@List.mem_append
noncomputable def aI3:=@List.all_eq_true
noncomputable def aI4:=@or_false
noncomputable def aI5:=@Nat.lt_irrefl
noncomputable def aI6:=@List.mem_append_left
noncomputable def aI8:=@PySem.W.kia_one
noncomputable def aI9:=@List.nodup_cons
noncomputable def aJ1:=@decide_eq_true_eq
noncomputable def aJ3:=@List.length_set
noncomputable def aJ4:=@List.getElem?_set_self
noncomputable def aJ5:=@beq_self_eq_true
noncomputable def aJ6:=@PySem.F.plain_min_loop
noncomputable def aJ7:=@List.mem_map
noncomputable def aJ8:=@List.mem_nil_iff
noncomputable def aJ9:=@List.replicate_succ
noncomputable def aK1:=@if_false
noncomputable def aK2:=@List.length_cons
noncomputable def aK4:=@List.getElem?_cons_succ
noncomputable def aK5:=@wpAny_truthy_bool
noncomputable def aK6:=@Nat.ne_of_gt
noncomputable def aK8:=@Heap.size_push
noncomputable def aK9:=@wpAny_newObj_type
noncomputable def aL0:=@List.map_map
noncomputable def aL3:=@List.mem_of_find?_eq_some
noncomputable def aL5:=@List.zip_cons_cons
noncomputable def aL6:=@Array.eq_empty_of_size_eq_zero
noncomputable def aM0:=@List.mem_of_getElem?
noncomputable def aM1:=@Nat.zero_le
noncomputable def aM2:=@wpAny_callSpecial?_slot
noncomputable def aM3:=@Int.toNat_natCast
noncomputable def aM6:=@beq_eq_false_iff_ne
noncomputable def aM8:=@wpAny_holding
noncomputable def aM9:=@wpAny_call_entry
noncomputable def aN1:=@List.mem_range
noncomputable def aN3:=@List.length_replicate
noncomputable def aN4:=@Heap.get?_update_self
noncomputable def aN5:=@wpAny_passesOwn
noncomputable def aN6:=@Bool.eq_iff_iff
noncomputable def aN7:=@List.append_nil
noncomputable def aN8:=@Nat.le_of_lt
noncomputable def aN9:=@List.flatten_cons
noncomputable def aO0:=@wpAny_field
noncomputable def aO2:=@List.foldl_append
noncomputable def aO4:=@wpAny_seqItems
noncomputable def aO5:=@List.nodup_nil
noncomputable def aO7:=@True.intro
end
noncomputable abbrev av:=PySem.Value
noncomputable abbrev aw:=PySem.Shared
noncomputable abbrev ax:=PySem.Addr
noncomputable abbrev ay:=PySem.Program
noncomputable abbrev az:=PySem.Around
noncomputable abbrev ba:=PySem.World
noncomputable abbrev aa:=List (Int×Int)
noncomputable abbrev ad:=PySem.W.Frag
noncomputable abbrev ae:=List (List Int)
noncomputable abbrev ag:=List Int
namespace L2
open PySem PySem.Spec PyProof.Rows
noncomputable def iR (k:Int):av->Bool
 |.int i _=>i==k
 |.bool b=>(if b then 1 else 0)==k
 |_=>false
theorem kT {k:Int}{v:av}(h:iR k v=true):(∃t,v = .int k t)∨∃b:Bool,v = .bool b/\k=if b then 1 else 0:=by
 cases v with
 |int i t=>exact .inl ⟨t,by rw[show i=k from eq_of_beq h]⟩
 |bool b=>exact .inr ⟨b,rfl,(eq_of_beq h).symm⟩
 |_=>cases h
theorem K9 (b:Bool):reduceHash (if b then 1 else 0)=hashInt (if b then 1 else 0):=by cases b<;>decide +kernel
theorem L0 {prog:ay}{w:ba}{A:az}{E:av->aw->Prop}{s:aw}{b:Bool}{Q:Int->aw->Prop}(h:Q (hashInt (if b then 1 else 0)) { s with toks:=s.toks+1 }) :
  wpAny (model prog w) A (PySem.pyHash (.bool b)) Q E s:=by
 refine PySem.W.pyHash_slot (T:="bool") rfl F.slot_bool_hash entry_int_hash (args_int_hash _) (beq_builtin_none _) (.inl rfl) ?_;rw[<- K9]at h;cases b
 ·exact (show wpAny _ _ (do ret (<- mkInt 0)) _ _ s from aD7 (wpAny_mkInt (aE3 ⟨_,_,rfl,h⟩)))
 ·exact (show wpAny _ _ (do ret (<- mkInt 1)) _ _ s from aD7 (wpAny_mkInt (aE3 ⟨_,_,rfl,h⟩)))
noncomputable def gG (prog:ay)(w:ba):KeyKind prog w Int where
 is:=iR
 hash:=hashInt
 inj:=λv a b h1 h2=>by
  rcases kT h1 with⟨t,rfl⟩|⟨x,rfl,e⟩
  ·exact eq_of_beq h2
  ·rw[e];exact eq_of_beq h2
 byValue:=λk v h=>by
  rcases kT h with⟨t,rfl⟩|⟨x,rfl,e⟩<;>rfl
 pyHash:=λhv h=>by
  rcases kT hv with⟨t,rfl⟩|⟨x,rfl,e⟩
  ·exact wpAny_pyHash_int h
  ·exact L0 (by rw[<- e];exact h)
 eqBool:=λ{A E s a b u v Q} hu hv h=>by
  rcases kT hu with⟨t,rfl⟩|⟨x,rfl,e⟩<;>rcases kT hv with⟨t',rfl⟩|⟨y,rfl,e'⟩
  ·exact SeqAt.EqAt.int_int a t b t' prog w E Q h
  ·exact SeqAt.EqAt.int_bool a t y prog w E Q (by rw[<- e'];exact h)
  ·exact SeqAt.EqAt.bool_int x b t' prog w E Q (by rw[<- e];exact h)
  ·refine SeqAt.EqAt.bool_bool x y prog w E Q ?_
   have:(x==y)=decide (a=b):=by rw[e,e'];cases x<;>cases y<;>rfl
   rw[this];exact h
 «strs»:=λk x t v h=>by cases h
theorem pQ {α β:Type}{F G:α->β->Prop}:∀{l₁:List α}{l₂:List β},Paired F l₁ l₂->(∀a b,F a b->G a b)->Paired G l₁ l₂
 |_,_,.nil,_=>.nil
 |_,_,.cons r t,f=>.cons (f _ _ r) (pQ t f)
section
variable {prog:ay}{w:ba}{K:Type}[DecidableEq K]{knd:KeyKind prog w K}
noncomputable def dN (knd:KeyKind prog w K)(h:Heap)(ks:List (List K))(a:ax):Prop:=∃o items n,h.get? a=some o/\o.cls = .type "tuple"/\o.data = .seq items n/\Paired (λk v=>∃b,v=Value.ref b/\IsTupleKey knd h k b) ks items.toList
noncomputable def uA (knd:KeyKind prog w K)(ks:List (List K)):Int:=reduceHash (Builtin.Tuple.tupleHashOf (ks.map (tupleKeyHash knd)))
noncomputable def uB (ks:List (List K)):Nat:=(ks.map λk=>k.length+1).sum+1
theorem dN.typeIs {s:aw}{ks:List (List K)}{a:ax}(x:dN knd s.heap ks a):s.TypeIs (.ref a) "tuple":=let ⟨o,_,_,ho,hc,_⟩:=x;⟨o,ho,hc⟩
theorem uC {h:Heap}:∀{x y:List (List K)}{vs:List av},Paired (λk v=>∃b,v=Value.ref b/\IsTupleKey knd h k b) x vs->Paired (λk v=>∃b,v=Value.ref b/\IsTupleKey knd h k b) y vs->x=y
 |_,_,_,.nil,.nil=>rfl
 |_,_,_,.cons ⟨b,e,r⟩ t,.cons ⟨b',e',r'⟩ t'=>by
  rw[e]at e';cases e';rw[r.inj r',uC t t']
theorem dN.inj {h:Heap}{a:ax}{x y:List (List K)}(hx:dN knd h x a)(hy:dN knd h y a):x=y:=by
 obtain⟨o,items,n,ho,_,hd,hi⟩:=hx
 obtain⟨o',items',n',ho',_,hd',hi'⟩:=hy
 obtain rfl:o=o':=aF9 (ho.symm.trans ho');rw[hd]at hd';injection hd' with h1 _
 subst h1;exact uC hi hi'
theorem dN.keeps {h h':Heap}{ks:List (List K)}{a d:ax}{o:Obj}{es ep}(x:dN knd h ks a)(ho:h.get? d=some o)(hd:o.data = .dict es ep)(hs:Heap.SameBut d h h'):dN knd h' ks a:=by
 obtain⟨o',items,n,ho',hc,hd',hi⟩:=x
 have hne:a≠d:=by
  rintro rfl;obtain rfl:o'=o:=aF9 (ho'.symm.trans ho);rw[hd]at hd';exact nomatch hd'
 exact⟨o',items,n,(hs.2 a hne).trans ho',hc,hd',pQ hi λk v ⟨b,e,r⟩=>⟨b,e,r.keeps ho hd hs⟩⟩
variable {A:az}{E:av→aw→Prop}{s:aw}
theorem uD:∀{ks:List (List K)}{vs:List av}{A:az}{s:aw}{b:Array Int}{Q:Array Int->aw->Prop},A.units<cLine->Paired (λk v=>∃b,v=Value.ref b/\IsTupleKey knd s.heap k b) ks vs->
  (∀b':Array Int,b'.toList=b.toList++ks.map (tupleKeyHash knd)->Q b' { s with toks:=s.toks+(ks.map λk=>k.length+1).sum })->
  wpAny (model prog w) A (forIn vs b λx r=>do let h <- pyHash x;pure PUnit.unit;pure (ForInStep.yield (r.push h))) Q E s
 |[],_,A,s,b,Q,_,.nil,h=>aE3 (h b (by simp))
 |k::ks,_,A,s,b,Q,hu,.cons ⟨p,e,r⟩ t,h=>by
  subst e;rw[List.forIn_cons];refine aD7 (aD7 (wpAny_pyHash_tuple hu r ?_));refine aD7 (aE3 (aE3 ?_));exact uD (s:={ s with toks:=s.toks+(k.length+1) }) hu t λb' hb=>by
   have:=h b' (by rw[hb];simp)
   simpa[Nat.add_assoc] using this
theorem L1 {ks:List (List K)}{a:ax}{Q:Int->aw->Prop}(hu:A.units+1<cLine)(hk:dN knd s.heap ks a)(h:Q (uA knd ks) { s with toks:=s.toks+uB ks }) :
  wpAny (model prog w) A (pyHash (.ref a)) Q E s:=by
 have hT:=hk.typeIs
 obtain⟨o,items,n,ho,_,hd,hi⟩:=hk
 refine PySem.W.pyHash_slot (T:="tuple") hT F.slot_tuple_hash F.entry_tuple_hash (F.args_tuple_hash_1 _) (beq_builtin_none _) (.inr (by omega)) ?_;show wpAny _ _ (Builtin.Tuple.tupleItemsOf (.ref a) >>= _) _ _ s;refine aD7 (wpAny_tupleItemsOf ho hd ?_);refine aD7 ?_;rw[<- Array.forIn_toList];refine uD (by show A.units+1<cLine;exact hu) hi λb hb=>?_
 show wpAny _ _ (retInt (Builtin.Tuple.tupleHashOf b.toList)) _ _ _;rw[hb];exact aD7 (wpAny_mkInt (aE3 ⟨_,_,rfl,h⟩))
theorem L3 {x y:List (List K)}{a b:ax}{P:Fin->aw->Prop}(hu:A.units<cLine)(hx:dN knd s.heap x a)(hy:dN knd s.heap y b)(h:P (.done (.ret (.bool (decide (x=y))))) s) :
  wpAny (model prog w) A (Builtin.«tuple.__eq__» ⟨[.ref a,.ref b],[]⟩) P E s:=by
 have hTb:=hy.typeIs
 obtain⟨oa,xs,na,hoa,_,hda,hia⟩:=hx
 obtain⟨ob,ys,nb,hob,_,hdb,hib⟩:=hy
 show wpAny _ _ (isInstance (.ref b) (.type "tuple") >>= _) _ _ s;refine aD7 (wpAny_isInstance hTb isSubtype_tuple_tuple ?_);simp only[Bool.not_true,aG0,aK1];refine aD7 (wpAny_tupleItemsOf hoa hda ?_);refine aD7 (wpAny_tupleItemsOf hob hdb ?_);refine aD7 ?_;refine wpAny_forIn_list _
  (λrest r s'=>r.1=none/\s'=s/\∃x' y' xs' ys',rest=List.zip xs' ys'/\Paired (λk v=>∃b,v=Value.ref b/\IsTupleKey knd s.heap k b) x' xs'/\Paired (λk v=>∃b,v=Value.ref b/\IsTupleKey knd s.heap k b) y' ys'/\decide (x'=y')=decide (x=y)/\(xs'.length==ys'.length)=(xs.size==ys.size))
  _ ?_ ?_ _ _ ⟨rfl,rfl,x,y,xs.toList,ys.toList,rfl,hia,hib,rfl,by simp⟩
 ·rintro⟨u,v⟩ rest r s' ⟨hr,rfl,x',y',xs',ys',hz,hx',hy',hdec,ao⟩
  cases hx' with
  |nil=>simp at hz
  |@cons k1 u' x'' xs'' h1 hx''=>
   cases hy' with
   |nil=>simp at hz
   |@cons k2 v' y'' ys'' h2 hy''=>
    simp only[aL5,List.cons.injEq,Prod.mk.injEq]at hz
    obtain⟨⟨rfl,rfl⟩,rfl⟩:=hz
    obtain⟨b1,rfl,q1⟩:=h1
    obtain⟨b2,rfl,q2⟩:=h2
    refine aD7 (wpAny_eqBool_tuple (x:=k1) (y:=k2) hu q1 q2 ?_);by_cases hk:k1=k2
    ·subst hk
     rw[aG5 rfl];simp only[Bool.not_true,aG0,aK1];refine aE3 ⟨rfl,rfl,x'',y'',xs'',ys'',rfl,hx'',hy'',?_,by simpa using ao⟩;rw[<- hdec];by_cases hxy:x''=y''
     ·simp[hxy]
     ·simp[hxy]
    ·rw[aE7 hk]
     simp only[Bool.not_false,if_true];have hf:decide (x=y)=false:=by rw[<- hdec];simp[hk]
     rw[hf]at h;exact aD7 (aE3 (aE3 (aE3 h)))
 ·rintro⟨r1,r2⟩ s' ⟨hr,rfl,x',y',xs',ys',hz,hx',hy',hdec,ao⟩
  simp only at hr;subst hr;refine aE3 ?_;have hfin:(xs.size==ys.size)=decide (x=y):=by
   rw[<- hdec,<- ao];cases hx' with
   |nil=>
    cases hy' with
    |nil=>simp
    |cons _ _=>simp
   |cons _ _=>
    cases hy' with
    |nil=>simp
    |cons _ _=>simp at hz
  show P (.done (.ret (.bool (xs.size==ys.size)))) s';rw[hfin];exact h
theorem L4 {x y:List (List K)}{a b:ax}{Q:Bool->aw->Prop}(hu:A.units+8<cLine)(hx:dN knd s.heap x a)(hy:dN knd s.heap y b)(h:Q (decide (x=y)) s) :
  wpAny (model prog w) A (eqBool (.ref a) (.ref b)) Q E s:=by
 unfold eqBool
 try with_reducible refine aM8 ?_
 show wpAny _ _ (if (Value.ref a==Value.ref b)=true then _ else _) Q E s;by_cases hab:(Value.ref a==Value.ref b)=true
 ·rw[if_pos hab]
  have e:a=b:=by have:=eq_of_beq hab;injection this
  subst e;obtain rfl:=hx.inj hy;exact aD7 (wpAny_rule (aE3 (by simpa using h)))
 ·rw[if_neg hab]
  exact aD7 (wpAny_richCompare_same_room (op:=.Eq) hx.typeIs hy.typeIs F.slot_tuple_eq
   (aM9 F.slot_tuple_eq hx.typeIs F.entry_tuple_eq (L3 (by show A.units+1+0<cLine;omega) hx hy ⟨_,rfl,(λe=>nomatch e),aK5 h⟩) (F.args_tuple_eq_2 _ _)) (by omega))
theorem L5 {ks:List K}{a:ax}{n:Nat}{Q:Bool->aw->Prop}(hk:IsTupleKey knd s.heap ks a)(h:Q true s):wpAny (model prog w) A (eqIsQuiet (n+1) (.ref a)) Q E s:=by
 have hT:=hk.typeIs
 obtain⟨o,items,m,ho,_,hd,hi⟩:=hk
 unfold eqIsQuiet;refine aD7 (wpAny_specialOf hT F.slot_tuple_eq.lookup ?_);show wpAny _ _ (isInstance (.ref a) (.type "tuple") >>= _) _ _ s;refine aD7 (wpAny_isInstance hT isSubtype_tuple_tuple ?_);simp only[Bool.not_true,aG0,aK1];refine aD7 (aO4 ho hd ?_);refine aD7 ?_;show wpAny _ _ (forIn items _ _) _ _ s;rw[<- Array.forIn_toList];refine wpAny_forIn_list _ (λrest r s'=>r.1=none/\s'=s/\∀v∈rest,carriedByValue v=true) _ ?_ ?_ _ _ ⟨rfl,rfl,hi.byValue⟩
 ·rintro v rest r s' ⟨hr,rfl,hall⟩
  rw[eqIsQuiet_byValue _ (hall v aE0)];refine aD7 (aE3 ?_);simp only[Bool.not_true,aG0,aK1];exact aE3 ⟨rfl,rfl,λu hu'=>hall u (aF2 _ hu')⟩
 ·rintro⟨r1,r2⟩ s' ⟨hr,rfl,_⟩
  simp only at hr;subst hr;exact aE3 h
theorem uE {h:Heap}:∀{x:List (List K)}{vs:List av},Paired (λk v=>∃b,v=Value.ref b/\IsTupleKey knd h k b) x vs->∀v∈vs,∃k b,v = .ref b/\IsTupleKey knd h k b
 |_,_,.nil,v,hv=>by simp at hv
 |_,_,.cons ⟨b,e,r⟩ t,v,hv=>by
  rcases aE2.mp hv with rfl|hv
  ·exact⟨_,b,e,r⟩
  ·exact uE t v hv
theorem L6 {ks:List (List K)}{a:ax}{n:Nat}{Q:Bool->aw->Prop}(hk:dN knd s.heap ks a)(h:Q true s):wpAny (model prog w) A (eqIsQuiet (n+2) (.ref a)) Q E s:=by
 have hT:=hk.typeIs
 obtain⟨o,items,m,ho,_,hd,hi⟩:=hk
 unfold eqIsQuiet;refine aD7 (wpAny_specialOf hT F.slot_tuple_eq.lookup ?_);show wpAny _ _ (isInstance (.ref a) (.type "tuple") >>= _) _ _ s;refine aD7 (wpAny_isInstance hT isSubtype_tuple_tuple ?_);simp only[Bool.not_true,aG0,aK1];refine aD7 (aO4 ho hd ?_);refine aD7 ?_;show wpAny _ _ (forIn items _ _) _ _ s;rw[<- Array.forIn_toList];refine wpAny_forIn_list _ (λrest r s'=>r.1=none/\s'=s/\∀v∈rest,∃k b,v = .ref b/\IsTupleKey knd s.heap k b) _ ?_ ?_ _ _ ⟨rfl,rfl,uE hi⟩
 ·rintro v rest r s' ⟨hr,rfl,hall⟩
  obtain⟨k,b,rfl,q⟩:=hall v aE0
  refine aD7 (L5 q ?_);simp only[Bool.not_true,aG0,aK1];exact aE3 ⟨rfl,rfl,λu hu'=>hall u (aF2 _ hu')⟩
 ·rintro⟨r1,r2⟩ s' ⟨hr,rfl,_⟩
  simp only at hr;subst hr;exact aE3 h
end
noncomputable def kU {prog:ay}{w:ba}{K:Type}[DecidableEq K](knd:KeyKind prog w K):HeapKind prog w (List (List K)) where
 is:=dN knd
 hash:=uA knd
 draws:=uB
 room:=λA=>A.units+8<cLine
 inj:=λhx hy=>hx.inj hy
 keeps:=λx ho hd hs=>x.keeps ho hd hs
 pyHash:=λhu hk h=>L1 (Nat.lt_of_le_of_lt (Nat.add_le_add_left (by decide) _) hu) hk h
 eqBool:=λhu hx hy h=>L4 hu hx hy h
 quiet:=λhk h=>L6 hk h
noncomputable def cO (k:List (Int×Bool)):ae:=k.map λp=>[p.1,if p.2 then 1 else 0]
theorem pR:∀{k k':List (Int×Bool)},cO k=cO k'->k=k'
 |[],[],_=>rfl
 |[],_::_,h=>by simp[cO]at h
 |_::_,[],h=>by simp[cO]at h
 |(i,b)::r,(j,c)::r',h=>by
  simp only[cO,aG3,List.cons.injEq]at h
  obtain⟨⟨rfl,h2,_⟩,h3⟩:=h
  have:b=c:=by cases b<;>cases c<;>simp_all
  subst this;rw[pR h3]
noncomputable abbrev bL:=Sum Int Str
noncomputable def uF:bL->av->Bool
 |.inl k,v=>Value.isInt k v
 |.inr x,v=>Value.isStrOf x v
noncomputable def L7 (w:ba):bL->Int
 |.inl k=>hashInt k
 |.inr x=>hashStr w x
theorem gX:∀{k:bL}{v:av},uF k v=true->(∃i t,k=Sum.inl i/\v=Value.int i t)∨(∃x t,k=Sum.inr x/\v=Value.str x t)
 |.inl i,v,h=>by
  obtain⟨t,e⟩:=Value.isInt_shape (k:=i) (v:=v) h
  exact .inl ⟨i,t,rfl,e⟩
 |.inr x,v,h=>by
  obtain⟨t,e⟩:=Value.isStrOf_shape (x:=x) (v:=v) h
  exact .inr ⟨x,t,rfl,e⟩
theorem L8 (a b:Int):decide ((Sum.inl a:bL)=Sum.inl b)=(a==b):=by
 by_cases e:a=b
 ·subst e;simp
 ·have h:¬(Sum.inl a:bL)=Sum.inl b:=λq=>e (Sum.inl.inj q)
  rw[aE7 h];exact (aM6.mpr e).symm
theorem L9 (a b:Str):decide ((Sum.inr a:bL)=Sum.inr b)=decide (a=b):=by
 by_cases e:a=b
 ·subst e;simp
 ·have h:¬(Sum.inr a:bL)=Sum.inr b:=λq=>e (Sum.inr.inj q)
  rw[aE7 h,aE7 e]
theorem M0 (a:Int)(b:Str):decide ((Sum.inl a:bL)=Sum.inr b)=false:=aE7 (λq=>nomatch q)
theorem M3 (a:Str)(b:Int):decide ((Sum.inr a:bL)=Sum.inl b)=false:=aE7 (λq=>nomatch q)
noncomputable def n6 (prog:ay)(w:ba):PySem.KeyKind prog w bL where
 is:=uF
 hash:=L7 w
 inj:=λv a b ha hb=>by
  rcases gX ha with⟨i,t,rfl,rfl⟩|⟨x,t,rfl,rfl⟩
  ·rcases gX hb with⟨j,u,rfl,e⟩|⟨y,u,rfl,e⟩
   ·injection e with e1 _;rw[e1]
   ·exact nomatch e
  ·rcases gX hb with⟨j,u,rfl,e⟩|⟨y,u,rfl,e⟩
   ·exact nomatch e
   ·injection e with e1 _;rw[e1]
 byValue:=λk v h=>by
  rcases gX h with⟨i,t,rfl,rfl⟩|⟨x,t,rfl,rfl⟩<;>rfl
 pyHash:=λhv h=>by
  rcases gX hv with⟨i,t,rfl,rfl⟩|⟨x,t,rfl,rfl⟩
  ·exact wpAny_pyHash_int h
  ·exact wpAny_pyHash_str h
 eqBool:=λhu hv h=>by
  rcases gX hu with⟨i,t,rfl,rfl⟩|⟨x,t,rfl,rfl⟩
  ·rcases gX hv with⟨j,u,rfl,rfl⟩|⟨y,u,rfl,rfl⟩
   ·rw[L8]at h;exact wpAny_eqBool_int h
   ·rw[M0]at h;exact SeqAt.EqAt.int_str i t y u _ _ _ _ h
  ·rcases gX hv with⟨j,u,rfl,rfl⟩|⟨y,u,rfl,rfl⟩
   ·rw[M3]at h;exact SeqAt.EqAt.str_int x t j u _ _ _ _ h
   ·rw[L9]at h;exact wpAny_eqBool_str h
 «strs»:=λk x t v h=>by
  rcases gX h with⟨i,u,rfl,e⟩|⟨y,u,rfl,e⟩
  ·exact nomatch e
  ·injection e with e1 _
   subst e1;cases v<;>rfl
inductive V where
 |non|bl (b:Bool)|int (i:Int)|str (x:Str)|byt (b:Array UInt8)|flt (b:UInt64)|ref (a:ax)|ty (n:String)
 deriving DecidableEq
noncomputable def aR:V->av->Prop
 |.non,u=>u=Value.none
 |.bl b,u=>u=Value.bool b
 |.int i,u=>∃t,u=Value.int i t
 |.str x,u=>∃t,u=Value.str x t
 |.byt b,u=>∃t,u=Value.bytes b t
 |.flt b,u=>∃t,u=Value.float b t
 |.ref a,u=>u=Value.ref a
 |.ty n,u=>u=Value.type n
noncomputable abbrev aP:List V->List av->Prop:=Paired aR
theorem aP.length {xs:List V}{us:List av}(r:aP xs us):xs.length=us.length:=Paired.length r
theorem aP.get:∀{xs:List V}{us:List av}{i:Nat}{x:V},aP xs us->xs[i]? = some x->∃u,us[i]? = some u/\aR x u
 |_,_,_,_,.nil,e=>by simp at e
 |_,_,0,_,.cons r _,e=>by simp at e;subst e;exact⟨_,rfl,r⟩
 |_,_,i+1,x,.cons _ t,e=>by
  obtain⟨u,h1,h2⟩:=aP.get (i:=i) (x:=x) t (by simpa using e)
  exact⟨u,by simpa using h1,h2⟩
theorem aP.set {x:V}{u:av}(r:aR x u):∀{xs:List V}{us:List av} (i:Nat),aP xs us->aP (xs.set i x) (us.set i u)
 |_,_,_,.nil=>.nil
 |_,_,0,.cons _ t=>.cons r t
 |_,_,i+1,.cons q t=>.cons q (aP.set r i t)
theorem aP.append:∀{xs ys:List V}{us ws:List av},aP xs us->aP ys ws->aP (xs++ys) (us++ws)
 |_,_,_,_,.nil,s=>s
 |_,_,_,_,.cons r t,s=>.cons r (aP.append t s)
noncomputable def fV:Option V->Option av->Prop
 |some v,some u=>aR v u
 |none,none=>True
 |_,_=>False
noncomputable def KV {κ:Type}:List (κ×V)->List (κ×av)->Prop:=Paired λ(p:κ×V) (q:κ×av)=>p.1=q.1/\aR p.2 q.2
noncomputable def kV:bL->V
 |.inl i=>.int i
 |.inr x=>.str x
inductive HO where
 |lst (xs:List V)
 |tup (xs:List V)
 |dK (kvs:List (bL×V))|dT (kvs:List (List bL×V))
 |set (S:Int->Bool) (n:Nat)
 |ins (C dx:ax) (fs:List (Str×V))
 |own (x:ax)
 |xd (fs:List (Str×V))
 |met (f x:ax)
 |rng (lo hi:Int)
 |frz (o:Obj) (u:HO)
 |tbl (ps:Array av)
 |code (q:Str)
 |cd (c:ax) (q:Str)
 |dA (kvs:List (List (Int×Bool)×V))|dB (kvs:List (Int×V))
 |ext (φ:Heap->Prop)
noncomputable abbrev Hp:=ax->Option HO
noncomputable def upd (H:Hp)(a:ax)(o:HO):Hp:=λb=>if b=a then some o else H b
theorem bM {H:Hp}{a:ax}{o:HO}:upd H a o a=some o:=by unfold upd;rw[if_pos rfl]
theorem aL {H:Hp}{a b:ax}{o:HO}(h:b≠a):upd H a o b=H b:=by unfold upd;rw[if_neg h]
theorem uG {H:Hp}{a b:ax}{o u:HO}(h:H a=some o)(h':H b=some u)(d:o≠u):a≠b:=by
 intro e;subst e;rw[h]at h';exact d (aF9 h')
theorem cX {H:Hp}{a b:ax}{o:HO}(h:H a=some o)(h':H b=none):a≠b:=by
 intro e;subst e;rw[h]at h';cases h'
noncomputable def gH (h:Heap)(a:ax):Prop:=∀o,h.get? a=some o->o.dict=none
theorem gH.new (h:Heap)(o:Obj)(d:o.dict=none)(s:o.isFreed=false:=by rfl):gH (h.push o) h.objs.size:=λu e=>by
 rw[aF3 h (o:=o) s]at e;cases e;exact d
theorem gH.stay {h h':Heap}{a:ax}{o:Obj}(n:gH h a)(e:h.get? a=some o)(e':h'.get? a=some o):gH h' a:=λu hu=>by
 rw[e']at hu;cases hu;exact n _ e
noncomputable def dO (H:Hp)(k:List (Int×Bool))(b:ax):Prop:=∃us:List V,H b=some (.tup us)/\Paired (λ(p:Int×Bool) (u:V)=>∃c,u = .ref c/\H c=some (.tup [.int p.1,.bl p.2])) k us
theorem dO.keeps {H H':Hp}{k:List (Int×Bool)}{b:ax}(ht:∀b xs,H b=some (.tup xs)->H' b=some (.tup xs))(x:dO H k b):dO H' k b:=
 let ⟨us,e,r⟩:=x;⟨us,ht _ _ e,pQ r λ_ _ ⟨c,q,z⟩=>⟨c,q,ht _ _ z⟩⟩
section
variable (P:ay)(w:ba)
noncomputable def bG (H:Hp)(h:Heap)(a:ax):HO->Prop
 |.lst xs=>xs.length<=sizeLine/\∃(its:List av) (n:Nat),aP xs its/\h.get? a=some { cls:=.type "list",data:=.seq its.toArray n }
 |.tup xs=>xs.length<=sizeLine/\∃its:List av,aP xs its/\IsTup h a its.toArray/\gH h a
 |.dK kvs=>kvs.length<=sizeLine/\(a==sysModules)=false/\∃vs,KV kvs vs/\h.DictOf (n6 P w) a vs
 |.dT kvs=>kvs.length<=sizeLine/\(a==sysModules)=false/\∃xs:List (List bL×ax×av),
   Paired (λ(p:List bL×V) (q:List bL×ax×av)=>p.1=q.1/\H q.2.1=some (.tup (p.1.map kV))/\aR p.2 q.2.2) kvs xs/\
   ∃o es ep,h.get? a=some o/\o.ExactDict/\o.data = .dict es ep/\es.toList=xs.map (entryOfKey (tupleKind (n6 P w)))/\(xs.map (·.1)).Nodup
 |.set S n=>h.SetOf (intKind P w) a S n
 |.ins C dx fs=>H dx=some (.own a)/\fs.length<=1000/\dx≠a/\h.get? a=some (PySem.W.instObj C dx)/\
   ∃mA,h.Ns1 dx mA/\(∀f,fV (fs.lookup f) (mA f))/\PySem.Within mA (fs.map (·.1))
 |.own _=>∃o,h.get? a=some o
 |.xd fs=>∃mA,h.Ns1 a mA/\∀f,fV (fs.lookup f) (mA f)
 |.rng lo hi=>∃t u v,h.get? a=some { cls:=.type "range",data:=.fields #[.int lo t,.int hi u,.int 1 v] }
 |.frz o u=>h.get? a=some o/\bG H h a u
 |.tbl ps=>∃qs:Array av,h.get? a=some { cls:=.none,data:=.fields qs }/\TriplesOk qs.toList/\∀(pos:Pos) (cv:av),codeAmong pos qs.toList=some cv->∃(c:ax) (q:Str) (t:Tok),cv = .ref c/\H c=some (.code q)/\ps = #[.str q t]
 |.code q=>∃(oc:Obj) (vs:Array av) (t:Tok),h.get? a=some oc/\oc.data = .fields vs/\vs[1]? = some (.str q t)
 |.cd c q=>(∃o,h.get? a=some o)/\H c=some (.code q)
 |.dA kvs=>kvs.length<=sizeLine/\(a==sysModules)=false/\∃xs:List (ae×ax×av),
   Paired (λ(p:List (Int×Bool)×V) (q:ae×ax×av)=>cO p.1=q.1/\dO H p.1 q.2.1/\aR p.2 q.2.2) kvs xs/\
   ∃o es ep,h.get? a=some o/\o.ExactDict/\o.data = .dict es ep/\es.toList=xs.map (entryOfKey (kU (gG P w)))/\(xs.map (·.1)).Nodup
 |.dB kvs=>kvs.length<=sizeLine/\(a==sysModules)=false/\∃vs,KV kvs vs/\h.DictOf (gG P w) a vs
 |.met f x=>h.get? a=some (PySem.W.methodObj (.ref f) (.ref x))
 |.ext φ=>φ h/\(∃o,h.get? a=some o)/\∀h1 h2:Heap,φ h1->(∀o,h1.get? a=some o->h2.get? a=some o)->φ h2
noncomputable def bJ (H:Hp)(h:Heap):Prop:=∀a o,H a=some o->bG P w H h a o
end
section
variable {P:ay}{w:ba}{H H':Hp}{h h':Heap}{a:ax}{o:HO}
theorem bG.lt (x:bG P w H h a o):a<h.objs.size:=by
 cases o with
 |lst xs=>obtain⟨_,_,_,_,e⟩:=x;exact aE8 e
 |tup xs=>obtain⟨_,_,_,p,_⟩:=x;exact p.lt
 |dK kvs=>obtain⟨_,_,_,_,o,_,_,e,_⟩:=x;exact aE8 e
 |dT kvs=>obtain⟨_,_,_,_,o,_,_,e,_⟩:=x;exact aE8 e
 |set S n=>obtain⟨o,_,_,_,e,_⟩:=x;exact aE8 e
 |ins C dx fs=>obtain⟨_,_,_,e,_⟩:=x;exact aE8 e
 |own y=>obtain⟨_,e⟩:=x;exact aE8 e
 |xd fs=>obtain⟨_,⟨_,_,_,e,_⟩,_⟩:=x;exact aE8 e
 |rng lo hi=>obtain⟨_,_,_,e⟩:=x;exact aE8 e
 |frz ob u=>obtain⟨e,_⟩:=x;exact aE8 e
 |tbl ps=>obtain⟨_,e,_⟩:=x;exact aE8 e
 |code q=>obtain⟨_,_,_,e,_⟩:=x;exact aE8 e
 |cd c q=>obtain⟨⟨_,e⟩,_⟩:=x;exact aE8 e
 |dA kvs=>obtain⟨_,_,_,_,o,_,_,e,_⟩:=x;exact aE8 e
 |dB kvs=>obtain⟨_,_,_,_,o,_,_,e,_⟩:=x;exact aE8 e
 |met f y=>exact aE8 (show h.get? a=some _ from x)
 |ext φ=>obtain⟨_,⟨_,e⟩,_⟩:=x;exact aE8 e
theorem Paired.mapP {α β:Type}{F G:α->β->Prop}:∀{l₁:List α}{l₂:List β},Paired F l₁ l₂->(∀a b,F a b->G a b)->Paired G l₁ l₂
 |_,_,.nil,_=>.nil
 |_,_,.cons r t,f=>.cons (f _ _ r) (Paired.mapP t f)
theorem bG.stay (x:bG P w H h a o)(k:∀b u,(b=a∨H b=some (.own a))->h.get? b=some u->h'.get? b=some u)(ho:∀b,H b=some (.own a)->H' b=some (.own a))(ht:∀b xs,H b=some (.tup xs)->H' b=some (.tup xs))(hc:∀b q,H b=some (.code q)->H' b=some (.code q):=by
   first
    |exact λ_ _ e=>e
    |(intro c q e;rw[aL (cX e (by assumption))];exact e)
    |(intro c q e;rw[aL (λz=>by subst z;simp_all)];exact e)):bG P w H' h' a o:=by
 induction o with
 |lst xs=>obtain⟨z,its,n,r,e⟩:=x;exact⟨z,its,n,r,k _ _ (.inl rfl) e⟩
 |tup xs=>obtain⟨z,its,r,⟨ob,e,c⟩,nd⟩:=x;exact⟨z,its,r,⟨ob,k _ _ (.inl rfl) e,c⟩,nd.stay e (k _ _ (.inl rfl) e)⟩
 |dK kvs=>obtain⟨z,y,vs,r,ob,es,ep,e,c⟩:=x;exact⟨z,y,vs,r,ob,es,ep,k _ _ (.inl rfl) e,c⟩
 |dT kvs=>
  obtain⟨z,y,xs,r,ob,es,ep,e,c⟩:=x
  exact⟨z,y,xs,Paired.mapP r λp q z=>⟨z.1,ht _ _ z.2.1,z.2.2⟩,ob,es,ep,k _ _ (.inl rfl) e,c⟩
 |set S n=>obtain⟨ob,es,ep,t,e,c⟩:=x;exact⟨ob,es,ep,t,k _ _ (.inl rfl) e,c⟩
 |ins C dx fs=>
  obtain⟨d,z,ne,e,mA,⟨od,es,ep,e2,c⟩,r⟩:=x
  exact⟨ho _ d,z,ne,k _ _ (.inl rfl) e,mA,⟨od,es,ep,k _ _ (.inr d) e2,c⟩,r⟩
 |own y=>obtain⟨ob,e⟩:=x;exact⟨ob,k _ _ (.inl rfl) e⟩
 |xd fs=>obtain⟨mA,⟨od,es,ep,e,c⟩,r⟩:=x;exact⟨mA,⟨od,es,ep,k _ _ (.inl rfl) e,c⟩,r⟩
 |rng lo hi=>obtain⟨t,u,v,e⟩:=x;exact⟨t,u,v,k _ _ (.inl rfl) e⟩
 |frz ob u ih=>obtain⟨e,q⟩:=x;exact⟨k _ _ (.inl rfl) e,ih q⟩
 |tbl ps=>
  obtain⟨qs,e,tr,cs⟩:=x
  exact⟨qs,k _ _ (.inl rfl) e,tr,λpos cv z=>let ⟨c,q,t,e1,e2,e3⟩:=cs pos cv z;⟨c,q,t,e1,hc _ _ e2,e3⟩⟩
 |code q=>obtain⟨oc,vs,t,e,r⟩:=x;exact⟨oc,vs,t,k _ _ (.inl rfl) e,r⟩
 |cd c q=>obtain⟨⟨o,e⟩,r⟩:=x;exact⟨⟨o,k _ _ (.inl rfl) e⟩,hc _ _ r⟩
 |dA kvs=>
  obtain⟨z,y,xs,r,ob,es,ep,e,c⟩:=x
  exact⟨z,y,xs,Paired.mapP r λp q z=>⟨z.1,z.2.1.keeps ht,z.2.2⟩,ob,es,ep,k _ _ (.inl rfl) e,c⟩
 |dB kvs=>obtain⟨z,y,vs,r,ob,es,ep,e,c⟩:=x;exact⟨z,y,vs,r,ob,es,ep,k _ _ (.inl rfl) e,c⟩
 |met f y=>
  have e:h.get? a=some (PySem.W.methodObj (.ref f) (.ref y)):=x;show h'.get? a=some (PySem.W.methodObj (.ref f) (.ref y));exact k a _ (.inl rfl) e
 |ext φ=>obtain⟨p,⟨o,e⟩,st⟩:=x;exact⟨st _ _ p λo q=>k _ _ (.inl rfl) q,⟨o,k _ _ (.inl rfl) e⟩,st⟩
theorem bJ.lt (x:bJ P w H h)(e:H a=some o):a<h.objs.size:=(x a o e).lt
theorem bJ.fresh (x:bJ P w H h)(e:h.objs.size<=a):H a=none:=by
 cases q:H a with
 |none=>rfl
 |some u=>exact absurd (aE4 (x.lt q) e) (aI5 _)
theorem bJ.kept (x:bJ P w H h)(k:∀b u,h.get? b=some u->h'.get? b=some u):bJ P w H h':=λa o e=>
 (x a o e).stay (λb u _ q=>k b u q) (λ_ q=>q) λ_ _ q=>q
theorem bJ.laid (x:bJ P w H h)(k:∀b u,h.get? b=some u->h'.get? b=some u)(hp:h.objs.size<=a)(new:bG P w (upd H a o) h' a o):bJ P w (upd H a o) h':=λb u e=>by
 have hn:=x.fresh hp;by_cases hb:b=a
 ·subst hb;rw[bM]at e;cases e;exact new
 ·rw[aL hb]at e
  exact (x b u e).stay (λc v _ q=>k c v q) (λc q=>by rw[aL (cX q hn)];exact q) (λc xs q=>by rw[aL (cX q hn)];exact q) (λc r q=>by rw[aL (cX q hn)];exact q)
end
noncomputable def Rd (H:Hp)(a:ax)(u:HO):Prop:=H a=some u∨∃o,H a=some (.frz o u)
theorem Rd.ok {P:ay}{w:ba}{H:Hp}{h:Heap}{a:ax}{u:HO}(r:Rd H a u)(x:bJ P w H h):bG P w H h a u:=by
 rcases r with r|⟨o,r⟩
 ·exact x a u r
 ·obtain⟨_,q⟩:=x a _ r
  exact q
noncomputable def kW:Option HO->Prop
 |some (.lst _)=>True
 |some (.dK _)=>True
 |some (.dT _)=>True
 |some (.dA _)=>True
 |some (.dB _)=>True
 |some (.set _ _)=>True
 |some (.ins _ _ _)=>True
 |some (.ext _)=>True
 |_=>False
section
variable {P:ay}{w:ba}{H:Hp}{h h':Heap}{x e:ax}{o':HO}
theorem bJ.write (ok:bJ P w H h)(mu:kW (H x))(he:e=x∨H e=some (.own x))(k:∀b u,b≠e->h.get? b=some u->h'.get? b=some u)(heo:∃u,h'.get? e=some u)(new:bG P w (upd H x o') h' x o'):bJ P w (upd H x o') h':=λb u q=>by
 have nown:∀c y,H c=some (.own y)->c≠x:=λc y r z=>by subst z;rw[r]at mu;exact mu
 have ntup:∀c xs,H c=some (.tup xs)->c≠x:=λc xs r z=>by subst z;rw[r]at mu;exact mu
 by_cases hb:b=x
 ·subst hb;rw[bM]at q;cases q;exact new
 ·rw[aL hb]at q
  by_cases hbe:b=e
  ·have q':H b=some (.own x):=by
    rcases he with z|z
    ·exact absurd (hbe.trans z) hb
    ·rw[hbe];exact z
   rw[q]at q';cases q'
   obtain⟨v,hv⟩:=heo
   exact⟨v,by rw[hbe];exact hv⟩
  ·refine (ok b u q).stay (λc v hc r=>k c v ?_ r) (λc r=>by rw[aL (nown c b r)];exact r) (λc xs r=>by rw[aL (ntup c xs r)];exact r) (λc y r=>by rw[aL (λz=>by subst z;rw[r]at mu;exact mu)];exact r)
   rcases hc with rfl|hc
   ·exact hbe
   ·rintro rfl
    rcases he with z|z
    ·exact nown c b hc z
    ·rw[hc]at z;cases z;exact hb rfl
end
structure Un (fs ex:List ax)(H H':Hp)(h h':Heap):Prop where
 keep:∀b o,h.get? b=some o->H b=none->b∉fs->b∉ex->h'.get? b=some o
 slot:∀b o,h.get? b=some o->H b=none->b∈fs->b∉ex->∃sl,h'.get? b=some { o with slots:=sl }
 free:∀b o,h.get? b=some o->H b=none->b∉ex->H' b=none
 there:∀b o,h.get? b=some o->b∉ex->∃o',h'.get? b=some o'
 tups:∀b xs,H b=some (.tup xs)->H' b=some (.tup xs)
 frzs:∀b o u,H b=some (.frz o u)->H' b=some (.frz o u)
 tbls:∀b ps,H b=some (.tbl ps)->∃more,H' b=some (.tbl (ps++more))
section
variable {fs fs' ex ex':List ax}{H H1 H2:Hp}{h h1 h2 h':Heap}{a x e:ax}{o:HO}
theorem Un.any (u:Un fs ex H H1 h h1){b:ax}{ob:Obj}(q:h.get? b=some ob)(n:H b=none)(hx:b∉ex):∃sl,h1.get? b=some { ob with slots:=sl }:=by
 by_cases hb:b∈fs
 ·exact u.slot b ob q n hb hx
 ·exact⟨ob.slots,u.keep b ob q n hb hx⟩
theorem Un.kept (k:∀b u,h.get? b=some u->h'.get? b=some u):Un fs ex H H h h':=
 ⟨λb ob q _ _ _=>k b ob q,λb ob q _ _ _=>⟨ob.slots,k b ob q⟩,λ_ _ _ n _=>n,λb ob q _=>⟨ob,k b ob q⟩,λ_ _ q=>q,λ_ _ _ q=>q,λ_ ps q=>⟨#[],by rw[q];simp⟩⟩
theorem Un.refl:Un fs ex H H h h:=Un.kept λ_ _ q=>q
theorem Un.laid (k:∀b u,h.get? b=some u->h'.get? b=some u)(hp:h.objs.size<=a)(hn:H a=none):Un fs ex H (upd H a o) h h' where
 keep:=λb u q _ _ _=>k b u q
 slot:=λb u q _ _ _=>⟨u.slots,k b u q⟩
 free:=λb u q n _=>by rw[aL (aH2 (aE4 (aE8 q) hp))];exact n
 there:=λb u q _=>⟨u,k b u q⟩
 tups:=λb xs q=>by rw[aL (cX q hn)];exact q
 frzs:=λb u xs q=>by rw[aL (cX q hn)];exact q
 tbls:=λb ps q=>⟨#[],by rw[aL (cX q hn),q];simp⟩
theorem Un.write (mu:kW (H x))(he:e=x∨H e=some (.own x))(k:∀b u,b≠e->h.get? b=some u->h'.get? b=some u)(heo:∃u,h'.get? e=some u):Un fs ex H (upd H x o) h h':=by
 have hx:∀b,H b=none->b≠x:=λb n z=>by subst z;rw[n]at mu;exact mu
 have hb:∀b,H b=none->b≠e:=λb n z=>by
  subst z;rcases he with r|r
  ·exact hx b n r
  ·rw[n]at r;cases r
 have hm:∀b u,H b=some u->¬kW (some u)->b≠x:=λb u q nm z=>by subst z;rw[q]at mu;exact nm mu
 refine⟨λb u q n _ _=>k b u (hb b n) q,λb u q n _ _=>⟨u.slots,k b u (hb b n) q⟩,λb u q n _=>by rw[aL (hx b n)];exact n,λb u q _=>?_,
  λb xs q=>by rw[aL (hm b _ q λz=>z)];exact q,λb u xs q=>by rw[aL (hm b _ q λz=>z)];exact q,λb ps q=>⟨#[],by rw[aL (hm b _ q λz=>z),q];simp⟩⟩
 by_cases hbe:b=e
 ·subst hbe;exact heo
 ·exact⟨u,k b u hbe q⟩
end
noncomputable def n9 (h:Heap)(H:Hp):List ax:=(List.range h.objs.size).filter λa=>(H a).isSome
noncomputable def gI (h:Heap)(H:Hp):Heap:=PySem.W.hideAll h (n9 h H)
theorem M4 (h:Heap)(H:Hp):(gI h H).objs.size=h.objs.size:=PySem.W.hideAll_size _ _
theorem M5 {h:Heap}{H:Hp}{b:ax}{o:Obj}(e:h.get? b=some o)(n:H b=none):(gI h H).get? b=some o:=
 PySem.W.hideAll_get _ e λhm=>by
  have q:(H b).isSome=true:=(List.mem_filter.mp hm).2;rw[n]at q;simp at q
theorem M6 {h:Heap}{H:Hp}{b:ax}{o:Obj}(e:(gI h H).get? b=some o):h.get? b=some o/\H b=none:=by
 have e':h.get? b=some o:=PySem.W.of_hideAll (n9 h H) e;refine⟨e',?_⟩;cases q:H b with
 |none=>rfl
 |some x=>
  have hm:b∈n9 h H:=List.mem_filter.mpr ⟨aN1.mpr (aE8 e'),by simp[q]⟩;have z:(gI h H).get? b=none:=PySem.W.hideAll_none (n9 h H) hm;rw[z]at e;cases e
noncomputable def M7 (g h:Heap)(L:ax):List (ax×Obj):=(List.range h.objs.size).filterMap λa=>if a=L∨(g.get? a).isSome=true then none else (h.get? a).map λo=>(a,o)
noncomputable def rest (g h:Heap)(L d:ax):List (ax×Obj):=(M7 g h L).filter λp=>decide (p.1≠d)
structure Mod (K:ad)(mg:Str->Option av)(base:Heap):Prop where
 kin:K.In base
 glob:base.Ns mainGlobals mg
 blt:∃mb,base.Ns builtinsNs mb/\∀x:Str,x≠"__name__"->mb x=bootBuiltins x
 nolimit:base.NoLimit
structure Cx where
 prog:ay
 w:ba
 K:ad
 mg:Str->Option av
 base:Heap
 A:az
 N:List Str
 s₀:aw
 H₀:Hp
 env:Env
 outer:List Env
 stack:List Env
 ex:List ax
 fn:Str->Bool
 calm:Bool
 pn:List (ax×Obj)
 xe:av->aw->Prop
noncomputable def bS (l:List Env):List ax:=l.filterMap (·.frame)
noncomputable abbrev Cx.fs (X:Cx):List ax:=bS X.outer
noncomputable def d7 (sc:Scope)(x:Str):Prop:=sc.names.lookup x=some .local∨sc.names.lookup x=some .cell∨sc.names.lookup x=some .free
noncomputable def eZ (sc:Scope)(x:Str):Prop:=sc.names.lookup x=some .local∨sc.names.lookup x=some .cell
noncomputable def M8 (env:Env)(h:Heap)(m:Str->Option av)(x:Str)(u:av):Prop:=
 (env.kindOf x=some .local/\m x=some u)∨((env.kindOf x=some .cell∨env.kindOf x=some .free)/\∃c,env.cells.lookup x=some c/\h.IsCell c (some u))
structure Cx.Ok (X:Cx):Prop where
 mod:Mod X.K X.mg X.base
 kind:X.env.scope.kind = .function
 glob:X.env.globals=mainGlobals
 blt:X.env.builtins=builtinsNs
 above:X.s₀.heap.objs.size<=X.env.locals
 inj:∀x y c,X.env.cells.lookup x=some c->X.env.cells.lookup y=some c->x=y
 has:∀x,(X.env.kindOf x=some .cell∨X.env.kindOf x=some .free)->∃c,X.env.cells.lookup x=some c
 cab:∀x c,X.fn x=true->X.env.cells.lookup x=some c->X.s₀.heap.objs.size<=c
 hd:X.calm=true->X.A.handled=none
 frames:X.A.frames=some X.stack
 stk:X.stack=X.outer∨(X.stack=X.env::X.outer/\X.env.frame=some X.env.locals)
 exf:∀b∈X.ex,b≠X.env.locals/\∀x c,X.env.cells.lookup x=some c->c≠b
 bs:∀b o,X.base.get? b=some o->X.s₀.heap.get? b=some o/\X.H₀ b=none
 bsz:X.base.objs.size<=X.s₀.heap.objs.size
 noex:∀b o,X.base.get? b=some o->b∉X.ex
 exfs:∀b∈X.ex,b∉X.fs
 funs:X.s₀.heap.FunFrames X.base X.outer
 frf:∀b∈X.fs,X.H₀ b=none
structure aA (X:Cx)(ai:List (ax×Obj))(σ:List (Option V))(H:Hp)(s:aw):Prop where
 ok:X.Ok
 os:s.os=X.s₀.os
 bare:AllBare s.gens
 base:Un X.fs X.ex X.H₀ H X.s₀.heap s.heap
 loc:∃m,s.heap.Ns X.env.locals m/\∀(i:Nat) (x:Str) (v:V),X.N[i]? = some x->σ[i]? = some (some v)->d7 X.env.scope x->∃u,aR v u/\M8 X.env s.heap m x u
 cell:∀x c,X.env.cells.lookup x=some c->∃v,s.heap.IsCell c v
 free:H X.env.locals=none
 freeC:∀x c,X.env.cells.lookup x=some c->H c=none
 pin:∀p∈X.pn++ai,s.heap.get? p.1=some p.2/\H p.1=none/\p.1≠X.env.locals/\p.1∉X.fs/\∀v,p.2.data≠.cell v
 hok:bJ X.prog X.w H s.heap
 len:σ.length=X.N.length
section
variable {X:Cx}{ai:List (ax×Obj)}{σ:List (Option V)}{H H':Hp}{s:aw}{h':Heap}
theorem Cx.Ok.nofr (ok:X.Ok){b:ax}{o:Obj}(e:X.base.get? b=some o):b∉X.fs:=λhb=>by
 have:=(ok.funs.mem hb).1
 rw[e]at this;cases this
theorem aA.bs (I:aA X ai σ H s):∀b o,X.base.get? b=some o->s.heap.get? b=some o/\H b=none:=λb o e=>
 ⟨I.base.keep b o (I.ok.bs b o e).1 (I.ok.bs b o e).2 (I.ok.nofr e) (I.ok.noex b o e),I.base.free b o (I.ok.bs b o e).1 (I.ok.bs b o e).2 (I.ok.noex b o e)⟩
theorem aA.bk (I:aA X ai σ H s):∀b o,X.base.get? b=some o->s.heap.get? b=some o:=λb o e=>(I.bs b o e).1
theorem aA.mod (I:aA X ai σ H s):Mod X.K X.mg X.base:=I.ok.mod
theorem aA.kIn (I:aA X ai σ H s):X.K.In s.heap:=I.ok.mod.kin.keeps I.bk
theorem aA.fr (I:aA X ai σ H s):∃m,Fr X.base X.env.locals s.heap m:=
 let ⟨m,hn,_⟩:=I.loc
 ⟨m,hn,I.bk,aH0 I.ok.bsz I.ok.above⟩
theorem aA.lt (I:aA X ai σ H s):X.env.locals<s.heap.objs.size:=let ⟨_,hn,_⟩:=I.loc;hn.lt
theorem aA.sz (I:aA X ai σ H s):X.s₀.heap.objs.size<=s.heap.objs.size:=aH0 I.ok.above (aN8 I.lt)
theorem aA.nofs (I:aA X ai σ H s){a:ax}(h:s.heap.objs.size<=a):a∉X.fs:=λhb=>by
 obtain⟨_,o,ho,_⟩:=I.ok.funs.mem hb
 exact absurd (aE4 (aE8 ho) (aH0 I.sz h)) (aI5 _)
theorem aA.cne (I:aA X ai σ H s):∀x c,X.env.cells.lookup x=some c->c≠X.env.locals:=λx c e z=>by
 obtain⟨v,o,ho,hd⟩:=I.cell x c e
 obtain⟨m,⟨o',es,ep,ho',hd',_⟩,_⟩:=I.loc
 rw[z,ho']at ho;cases ho;rw[hd']at hd;cases hd
theorem aA.funs (I:aA X ai σ H s):s.heap.FunFrames X.base X.outer:=by
 have all:∀(l:List Env),(∀b∈bS l,b∈X.fs)->X.s₀.heap.FunFrames X.base l->s.heap.FunFrames X.base l:=by
  intro l
  induction l with
  |nil=>intro _ _;trivial
  |cons env r ih=>
   intro hs hl
   obtain⟨hk,⟨L,o,hf,hn,ho,hd⟩,hr⟩:=hl
   have hL:L∈X.fs:=hs L (by unfold bS;rw[List.filterMap_cons,hf];exact aE0)
   obtain⟨sl,e⟩:=I.base.slot L o ho (I.ok.frf L hL) hL λz=>I.ok.exfs L z hL
   exact⟨hk,⟨L,_,hf,hn,e,hd⟩,ih (λb hb=>hs b (by unfold bS;rw[List.filterMap_cons,hf];exact aF2 _ hb)) hr⟩
 exact all X.outer (λ_ hb=>hb) I.ok.funs
theorem aA.stack (I:aA X ai σ H s):s.heap.FunFrames X.base X.stack:=by
 rcases I.ok.stk with e|⟨e,hf⟩
 ·rw[e];exact I.funs
 ·rw[e]
  obtain⟨m,hn,_⟩:=I.loc
  refine .cons (by rw[I.ok.kind];decide) hf hn ?_ I.funs;exact Heap.get?_none_of_le (aH0 I.ok.bsz I.ok.above)
theorem aA.stkSub (I:aA X ai σ H s):∀b∈bS X.stack,b∈X.env.locals::X.fs:=λb hb=>by
 rcases I.ok.stk with e|⟨e,hf⟩
 ·rw[e]at hb;exact aF2 _ hb
 ·rw[e]at hb
  unfold bS at hb;rw[List.filterMap_cons,hf]at hb;exact hb
theorem aA.stkFree (I:aA X ai σ H s):∀b∈bS X.stack,H b=none:=λb hb=>by
 rcases aE2.mp (I.stkSub b hb) with e|hb
 ·rw[e];exact I.free
 ·obtain⟨_,o,ho,_⟩:=I.ok.funs.mem hb
  exact I.base.free b o ho (I.ok.frf b hb) λz=>I.ok.exfs b z hb
theorem aA.step {g':Array GenState}{t':Nat}{d':Drawn}{ch:List ax}(I:aA X ai σ H s)(hch:∀b∈ch,(b∈X.ex∨X.s₀.heap.objs.size<=b)/\b≠X.env.locals/\(∀x c,X.env.cells.lookup x=some c->c≠b)/\∀p∈X.pn++ai,p.1≠b)(keep:∀b o,b≠X.env.locals->b∉X.fs->b∉ch->s.heap.get? b=some o->H b=none->h'.get? b=some o)(slot:∀b o,b≠X.env.locals->b∈X.fs->b∉ch->s.heap.get? b=some o->H b=none->∃sl,h'.get? b=some { o with slots:=sl })(free:∀b o,b∉ch->s.heap.get? b=some o->H b=none->H' b=none)(there:∀b o,b∉ch->s.heap.get? b=some o->∃o',h'.get? b=some o')(tups:∀b xs,H b=some (.tup xs)->H' b=some (.tup xs))(frzs:∀b o u,H b=some (.frz o u)->H' b=some (.frz o u))(tbls:∀b ps,H b=some (.tbl ps)->∃more,H' b=some (.tbl (ps++more)))(ns:∀m,s.heap.Ns X.env.locals m->h'.Ns X.env.locals m)(hok:bJ X.prog X.w H' h')(hg:AllBare g') :
  aA X ai σ H' { s with heap:=h',gens:=g',drawn:=d',toks:=t' }:=by
 have neL:∀b o,X.s₀.heap.get? b=some o->b≠X.env.locals:=λb o e=>aH2 (aE4 (aE8 e) I.ok.above)
 have neC:∀b o,X.s₀.heap.get? b=some o->b∉X.ex->b∉ch:=λb o e hx hb=>by
  rcases (hch b hb).1 with z|z
  ·exact hx z
  ·exact absurd (aE4 (aE8 e) z) (aI5 _)
 have cellK:∀x c,X.env.cells.lookup x=some c->∀v,s.heap.IsCell c v->h'.IsCell c v:=λx c e v ⟨o,ho,hd⟩=>by
  have nch:c∉ch:=λz=>(hch c z).2.2.1 x c e rfl
  by_cases hc:c∈X.fs
  ·obtain⟨sl,q⟩:=slot c o (I.cne x c e) hc nch ho (I.freeC x c e)
   exact⟨_,q,hd⟩
  ·exact⟨o,keep c o (I.cne x c e) hc nch ho (I.freeC x c e),hd⟩
 refine⟨I.ok,I.os,hg,⟨λb o e n hb hx=>?_,λb o e n hb hx=>?_,λb o e n hx=>?_,λb o e hx=>?_,λb xs e=>tups b xs (I.base.tups b xs e),λb o xs e=>frzs b o xs (I.base.frzs b o xs e),λb ps e=>?_⟩,?_,λx c e=>?_,?_,λx c e=>?_,λp hp=>?_,hok,I.len⟩
 ·exact keep b o (neL b o e) hb (neC b o e hx) (I.base.keep b o e n hb hx) (I.base.free b o e n hx)
 ·obtain⟨sl,e1⟩:=I.base.slot b o e n hb hx
  obtain⟨sl',e2⟩:=slot b _ (neL b o e) hb (neC b o e hx) e1 (I.base.free b o e n hx)
  exact⟨sl',e2⟩
 ·obtain⟨o',e1⟩:=I.base.there b o e hx
  exact free b o' (neC b o e hx) e1 (I.base.free b o e n hx)
 ·obtain⟨o',e1⟩:=I.base.there b o e hx
  exact there b o' (neC b o e hx) e1
 ·obtain⟨m1,e1⟩:=I.base.tbls b ps e
  obtain⟨m2,e2⟩:=tbls b _ e1
  exact⟨m1++m2,by rw[e2,Array.append_assoc]⟩
 ·obtain⟨m,hn,hl⟩:=I.loc
  refine⟨m,ns m hn,λi x v e1 e2 e3=>?_⟩
  obtain⟨u,r,l⟩:=hl i x v e1 e2 e3
  refine⟨u,r,?_⟩;rcases l with l|⟨k,c,e,z⟩
  ·exact .inl l
  ·exact .inr ⟨k,c,e,cellK x c e _ z⟩
 ·obtain⟨v,z⟩:=I.cell x c e
  exact⟨v,cellK x c e v z⟩
 ·obtain⟨m,⟨o,_,_,ho,_⟩,_⟩:=I.loc
  exact free _ o (λz=>(hch _ z).2.1 rfl) ho I.free
 ·obtain⟨v,o,ho,hd⟩:=I.cell x c e
  exact free c o (λz=>(hch c z).2.2.1 x c e rfl) ho (I.freeC x c e)
 ·obtain⟨e,n,ne,nf,d⟩:=I.pin p hp
  have nch:p.1∉ch:=λz=>(hch p.1 z).2.2.2 p hp rfl
  exact⟨keep p.1 p.2 ne nf nch e n,free p.1 p.2 nch e n,ne,nf,d⟩
theorem aA.un {t':Nat}(I:aA X ai σ H s)(u:Un X.fs [] H H' s.heap h')(hok:bJ X.prog X.w H' h'):aA X ai σ H' { s with heap:=h',toks:=t' }:=by
 obtain⟨m,⟨o,es,ep,ho,r⟩,_⟩:=id I.loc
 obtain⟨sl,hL⟩:=u.any ho I.free (by simp)
 exact I.step (g':=s.gens) (d':=s.drawn) (ch:=[]) (λ_ z=>nomatch z) (λb o _ hb _ e n=>u.keep b o e n hb (by simp)) (λb o _ hb _ e n=>u.slot b o e n hb (by simp)) (λb o _ e n=>u.free b o e n (by simp)) (λb o _ e=>u.there b o e (by simp)) u.tups u.frzs u.tbls (λm' hm=>by
  obtain⟨o',es',ep',ho',r'⟩:=hm
  rw[ho]at ho';cases ho'
  exact⟨_,es',ep',hL,r'⟩) hok I.bare
theorem aA.call {g':Array GenState}{t':Nat}{d':Drawn}{ch:List ax}(I:aA X ai σ H s)(u:Un (bS X.stack) ch H H' s.heap h')(hok:bJ X.prog X.w H' h')(hg:AllBare g')(hch:∀b∈ch,(b∈X.ex∨X.s₀.heap.objs.size<=b)/\b≠X.env.locals/\(∀x c,X.env.cells.lookup x=some c->c≠b)/\∀p∈X.pn++ai,p.1≠b) :
  aA X ai σ H' { s with heap:=h',gens:=g',drawn:=d',toks:=t' }:=by
 obtain⟨m,⟨o,es,ep,ho,r⟩,_⟩:=id I.loc
 obtain⟨sl,hL⟩:=u.any ho I.free λz=>(hch _ z).2.1 rfl
 exact I.step (ch:=ch) hch (λb o hL hb hc e n=>u.keep b o e n (λz=>(aE2.mp (I.stkSub b z)).elim hL hb) hc) (λb o _ _ hc e n=>u.any e n hc) (λb o hc e n=>u.free b o e n hc) (λb o hc e=>u.there b o e hc) u.tups u.frzs u.tbls (λm' hm=>by
  obtain⟨o',es',ep',ho',r'⟩:=hm
  rw[ho]at ho';cases ho'
  exact⟨_,es',ep',hL,r'⟩) hok hg
theorem aA.turned {t':Nat}{it:ax}(I:aA X ai σ H s)(k:∀b o,b≠it->s.heap.get? b=some o->h'.get? b=some o)(hn:H it=none)(hL:it≠X.env.locals)(h1:it∈X.ex∨X.s₀.heap.objs.size<=it)(h2:∀x c,X.env.cells.lookup x=some c->c≠it)(h3:∀p∈X.pn++ai,p.1≠it):aA X ai σ H { s with heap:=h',toks:=t' }:=by
 have nit:∀b u,H b=some u->b≠it:=λb u e z=>by rw[z,hn]at e;cases e
 refine I.step (g':=s.gens) (d':=s.drawn) (ch:=[it]) (λb hb=>?_) (λb o _ _ hc e _=>k b o (λz=>hc (by simp[z])) e) (λb o _ _ hc e _=>⟨o.slots,k b o (λz=>hc (by simp[z])) e⟩) (λ_ _ _ _ n=>n)
  (λb o hc e=>⟨o,k b o (λz=>hc (by simp[z])) e⟩) (λ_ _ e=>e) (λ_ _ _ e=>e) (λb ps e=>⟨#[],by rw[e];simp⟩) (λm hm=>?_) (λb u e=>?_) I.bare
 ·have e:b=it:=by simpa using hb
  subst e
  exact⟨h1,hL,h2,h3⟩
 ·obtain⟨o,es,ep,ho,r⟩:=hm
  exact⟨o,es,ep,k _ o (Ne.symm hL) ho,r⟩
 ·refine (I.hok b u e).stay (λc v hc q=>k c v ?_ q) (λ_ q=>q) λ_ _ q=>q
  rcases hc with z|z
  ·rw[z];exact nit b u e
  ·exact nit c _ z
theorem aA.tok (I:aA X ai σ H s)(t:Nat):aA X ai σ H { s with toks:=t }:=I.un (h':=s.heap) (t':=t) Un.refl I.hok
theorem aA.kept {t':Nat}(I:aA X ai σ H s)(k:∀b u,s.heap.get? b=some u->h'.get? b=some u):aA X ai σ H { s with heap:=h',toks:=t' }:=I.un (Un.kept k) (I.hok.kept k)
theorem aA.laid {a:ax}{o:HO}{t':Nat}(I:aA X ai σ H s)(k:∀b u,s.heap.get? b=some u->h'.get? b=some u)(hp:s.heap.objs.size<=a)(new:bG X.prog X.w (upd H a o) h' a o) :
  aA X ai σ (upd H a o) { s with heap:=h',toks:=t' }:=I.un (Un.laid k hp (I.hok.fresh hp)) (I.hok.laid k hp new)
theorem aA.write {x e:ax}{o:HO}{t':Nat}(I:aA X ai σ H s)(mu:kW (H x))(he:e=x∨H e=some (.own x))(k:∀b u,b≠e->s.heap.get? b=some u->h'.get? b=some u)(heo:∃u,h'.get? e=some u)(new:bG X.prog X.w (upd H x o) h' x o):aA X ai σ (upd H x o) { s with heap:=h',toks:=t' }:=I.un (Un.write mu he k heo) (I.hok.write mu he k heo new)
theorem aA.weak {σ':List (Option V)}(I:aA X ai σ H s)(hl:σ'.length=σ.length)(w:∀(i:Nat) v,σ'[i]? = some (some v)->σ[i]? = some (some v)):aA X ai σ' H s:=
 ⟨I.ok,I.os,I.bare,I.base,let ⟨m,hn,hl'⟩:=I.loc;⟨m,hn,λi x v e1 e2 e3=>hl' i x v e1 (w i v e2) e3⟩,I.cell,I.free,I.freeC,I.pin,I.hok,hl.trans I.len⟩
theorem aA.pins_of {pins':List (ax×Obj)}(I:aA X ai σ H s)(h:∀p∈pins',s.heap.get? p.1=some p.2/\H p.1=none/\p.1≠X.env.locals/\p.1∉X.fs/\∀v,p.2.data≠.cell v):aA X pins' σ H s:=
 ⟨I.ok,I.os,I.bare,I.base,I.loc,I.cell,I.free,I.freeC,λp hp=>(aI1.mp hp).elim (λz=>I.pin p (aI6 _ z)) (h p),I.hok,I.len⟩
theorem uH {N:List Str}(hN:N.Nodup){i j:Nat}{x:Str}(a:N[i]? = some x)(b:N[j]? = some x):i=j:=by
 obtain⟨h1,e1⟩:=aG1.mp a
 obtain⟨h2,e2⟩:=aG1.mp b
 exact (List.getElem_inj hN).mp (e1.trans e2.symm)
theorem uI {M:Model}{A:az}{E:av->aw->Prop}{i:Nat}{x:Str}{v:V}{u:av}{Q:Unit->aw->Prop}(I:aA X ai σ H s)(hN:X.N.Nodup)(hi:X.N[i]? = some x)(hx:eZ X.env.scope x)(r:aR v u)(h:∀s',aA X ai (σ.set i (some v)) H s'->(∃a,Heap.SameBut a s.heap s'.heap/\(a=X.env.locals∨X.env.cells.lookup x=some a))->Q () s')(hf:X.fn x=true∨X.env.scope.names.lookup x=some .local:=by first|exact .inl rfl|exact .inr rfl|assumption):wpAny M A (storeName X.env x u) Q E s:=by
 obtain⟨m,hn,hl⟩:=id I.loc
 have hcls:(X.env.scope.kind==.class||(X.env.scope.kind==.module&&X.env.locals != X.env.globals))=false:=by rw[I.ok.kind];rfl
 have hiσ:i<σ.length:=by rw[I.len];exact (aG1.mp hi).1
 have cne:=I.cne;have tracked:∀{a:ax}{h':Heap},(∃o,s.heap.get? a=some o/\H a=none)->Heap.SameBut a s.heap h'->bJ X.prog X.w H h':=λ{a h'} ha hs b ob e=>by
  obtain⟨_,_,hfree⟩:=ha
  refine (I.hok b ob e).stay (λc w' hc q=>(hs.2 c ?_).trans q) (λ_ q=>q) λ_ _ q=>q
  rintro rfl;rcases hc with rfl|hc
  ·rw[hfree]at e;cases e
  ·rw[hfree]at hc;cases hc
 rcases hx with hk|hk
 ·refine wpAny_storeName_local hk hn (λh' hn' hs=>?_) hcls
  obtain⟨oL,_,_,hoL,_⟩:=id hn
  refine h _ ⟨I.ok,I.os,I.bare,⟨λb o e n hb hx=>?_,λb o e n hb hx=>?_,I.base.free,λb o e hx=>?_,I.base.tups,I.base.frzs,I.base.tbls⟩,⟨_,hn',λj y v' e1 e2 e3=>?_⟩,λy c e=>?_,I.free,I.freeC,λp hp=>?_,tracked ⟨oL,hoL,I.free⟩ hs,by simpa using I.len⟩ ⟨_,hs,.inl rfl⟩
  ·exact (hs.2 b (aH2 (aE4 (aE8 e) I.ok.above))).trans (I.base.keep b o e n hb hx)
  ·obtain⟨sl,e1⟩:=I.base.slot b o e n hb hx
   exact⟨sl,(hs.2 b (aH2 (aE4 (aE8 e) I.ok.above))).trans e1⟩
  ·obtain⟨o',e1⟩:=I.base.there b o e hx
   exact⟨o',(hs.2 b (aH2 (aE4 (aE8 e) I.ok.above))).trans e1⟩
  ·by_cases hj:j=i
   ·subst hj
    rw[hi]at e1;cases e1;rw[aJ4 hiσ]at e2;cases e2
    exact⟨u,r,.inl ⟨hk,by simp⟩⟩
   ·rw[aG9 (Ne.symm hj)]at e2
    obtain⟨u',r',q⟩:=hl j y v' e1 e2 e3
    refine⟨u',r',?_⟩;rcases q with⟨k,e⟩|⟨k,c,e,z⟩
    ·refine .inl ⟨k,?_⟩
     have:y≠x:=λe=>hj (uH hN e1 (e▸hi))
     simp[this,e]
    ·exact .inr ⟨k,c,e,z.sameBut hs (cne y c e)⟩
  ·obtain⟨w',z⟩:=I.cell y c e
   exact⟨w',z.sameBut hs (cne y c e)⟩
  ·obtain⟨e,n,ne,nf,d⟩:=I.pin p hp
   exact⟨(hs.2 p.1 ne).trans e,n,ne,nf,d⟩
 ·have hfn:X.fn x=true:=by
   rcases hf with z|z
   ·exact z
   ·rw[z]at hk;cases hk
  obtain⟨c,hc⟩:=I.ok.has x (.inl hk)
  obtain⟨w',z⟩:=I.cell x c hc
  refine wpAny_storeName_cell I.ok.kind hk hc z (λh' hc' hs=>?_)
  obtain⟨oc,hoc,hocd⟩:=id z
  refine h { s with heap:=h' } ⟨I.ok,I.os,I.bare,⟨λb o e n hb hx=>?_,λb o e n hb hx=>?_,I.base.free,λb o e hx=>?_,I.base.tups,I.base.frzs,I.base.tbls⟩,⟨m,hn.sameBut hs (Ne.symm (cne x c hc)),λj y v' e1 e2 e3=>?_⟩,λy c' e=>?_,I.free,I.freeC,λp hp=>?_,tracked ⟨oc,hoc,I.freeC x c hc⟩ hs,by simpa using I.len⟩ ⟨c,hs,.inr hc⟩
  ·exact (hs.2 b (aH2 (aE4 (aE8 e) (I.ok.cab x c hfn hc)))).trans (I.base.keep b o e n hb hx)
  ·obtain⟨sl,e1⟩:=I.base.slot b o e n hb hx
   exact⟨sl,(hs.2 b (aH2 (aE4 (aE8 e) (I.ok.cab x c hfn hc)))).trans e1⟩
  ·obtain⟨o',e1⟩:=I.base.there b o e hx
   exact⟨o',(hs.2 b (aH2 (aE4 (aE8 e) (I.ok.cab x c hfn hc)))).trans e1⟩
  ·by_cases hj:j=i
   ·subst hj
    rw[hi]at e1;cases e1;rw[aJ4 hiσ]at e2;cases e2
    exact⟨u,r,.inr ⟨.inl hk,c,hc,hc'⟩⟩
   ·rw[aG9 (Ne.symm hj)]at e2
    obtain⟨u',r',q⟩:=hl j y v' e1 e2 e3
    refine⟨u',r',?_⟩;rcases q with q|⟨k,c',e,z'⟩
    ·exact .inl q
    ·refine .inr ⟨k,c',e,z'.sameBut hs ?_⟩
     rintro rfl;exact hj (uH hN e1 (I.ok.inj _ _ _ e hc▸hi))
  ·by_cases hcc:c'=c
   ·subst hcc;exact⟨_,hc'⟩
   ·obtain⟨w2,z2⟩:=I.cell y c' e
    exact⟨w2,z2.sameBut hs hcc⟩
  ·obtain⟨e,n,ne,nf,d⟩:=I.pin p hp
   refine⟨(hs.2 p.1 ?_).trans e,n,ne,nf,d⟩;intro q;rw[q,hoc]at e;have q':oc=p.2:=aF9 e;exact d w' (by rw[<- q'];exact hocd)
theorem uJ {M:Model}{A:az}{E:av->aw->Prop}{i:Nat}{x:Str}{v:V}{u:av}{Q:Unit->aw->Prop}(I:aA X ai σ H s)(hN:X.N.Nodup)(hi:X.N[i]? = some x)(hx:eZ X.env.scope x)(r:aR v u)(h:∀s',aA X ai (σ.set i (some v)) H s'->Q () s')(hf:X.fn x=true∨X.env.scope.names.lookup x=some .local:=by first|exact .inl rfl|exact .inr rfl|assumption):wpAny M A (storeName X.env x u) Q E s:=
 uI I hN hi hx r (λs' I' _=>h s' I') hf
theorem aA.call' {s':aw}{ch:List ax}(I:aA X ai σ H s)(ho:s'.os=s.os)(u:Un (bS X.stack) ch H H' s.heap s'.heap)(hok:bJ X.prog X.w H' s'.heap)(hg:AllBare s'.gens)(hch:∀b∈ch,(b∈X.ex∨X.s₀.heap.objs.size<=b)/\b≠X.env.locals/\(∀x c,X.env.cells.lookup x=some c->c≠b)/\∀p∈X.pn++ai,p.1≠b):aA X ai σ H' s':=by
 obtain⟨h',g',d',t',o'⟩:=s'
 have e:o'=s.os:=ho;subst e;exact I.call (g':=g') (t':=t') (d':=d') u hok hg hch
end
noncomputable abbrev XK:=av->Option ax->Hp->Prop
noncomputable abbrev St:=List (Option V)
noncomputable abbrev VK:=V->Hp->Prop
noncomputable abbrev TE:=St->Hp->VK->Prop
noncomputable abbrev TT:=St->Hp->(Bool->Hp->Prop)->Prop
noncomputable abbrev TA:=St->Hp->(List V->Hp->Prop)->Prop
structure d8 where
 nx:St->Hp->Prop
 rt:VK
 bk:St->Hp->Prop:=λ_ _=>False
 ct:St->Hp->Prop:=λ_ _=>False
noncomputable abbrev TS:=d8->St->Hp->Prop
noncomputable def EP (X:Cx)(ai:List (ax×Obj))(σ:St)(Q:VK)(u:av)(s':aw):Prop:=∃v H',aA X ai σ H' s'/\aR v u/\Q v H'
noncomputable def TP (X:Cx)(ai:List (ax×Obj))(σ:St)(Q:Bool->Hp->Prop)(b:Bool)(s':aw):Prop:=∃H',aA X ai σ H' s'/\Q b H'
noncomputable def AP (X:Cx)(ai:List (ax×Obj))(σ:St)(Q:List V->Hp->Prop)(us:List av)(s':aw):Prop:=∃vs H',aA X ai σ H' s'/\aP vs us/\Q vs H'
noncomputable def SP (X:Cx)(ai:List (ax×Obj))(D:d8)(f:Flow)(s':aw):Prop:=
 match f with
 |.next=>∃σ' H',aA X ai σ' H' s'/\D.nx σ' H'
 |.brk=>∃σ' H',aA X ai σ' H' s'/\D.bk σ' H'
 |.cont=>∃σ' H',aA X ai σ' H' s'/\D.ct σ' H'
 |.ret u=>∃v σ' H',aA X ai σ' H' s'/\aR v u/\D.rt v H'
noncomputable def PE (X:Cx)(e:Expr)(t:TE):Prop:=
 ∀(ai:List (ax×Obj)) (s:aw) (σ:St) (H:Hp) (Q:VK),aA X ai σ H s->t σ H Q->wpAny (model X.prog X.w) X.A (eval e X.env) (EP X ai σ Q) X.xe s
noncomputable def PT (X:Cx)(e:Expr)(t:TT):Prop:=
 ∀(ai:List (ax×Obj)) (s:aw) (σ:St) (H:Hp) (Q:Bool->Hp->Prop),aA X ai σ H s->t σ H Q->wpAny (model X.prog X.w) X.A (isTrue e X.env (eval e X.env)) (TP X ai σ Q) X.xe s
noncomputable def PW (X:Cx)(e:Expr)(t:TT):Prop:=
 ∀(whole:Sem av) (ai:List (ax×Obj)) (s:aw) (σ:St) (H:Hp) (Q:Bool->Hp->Prop),aA X ai σ H s->t σ H Q->wpAny (model X.prog X.w) X.A (isTrue e X.env whole) (TP X ai σ Q) X.xe s
theorem PW.pt {X:Cx}{e:Expr}{t:TT}(h:PW X e t):PT X e t:=h _
noncomputable def PA (X:Cx)(es:List Expr)(t:TA):Prop:=
 ∀(pos:Pos) (ai:List (ax×Obj)) (s:aw) (σ:St) (H:Hp) (Q:List V->Hp->Prop),aA X ai σ H s->t σ H Q->wpAny (model X.prog X.w) X.A (spliced (backTo pos (starEach es X.env))) (AP X ai σ Q) X.xe s
noncomputable def PS (X:Cx)(st:Stmt)(t:TS):Prop:=
 ∀(ai:List (ax×Obj)) (s:aw) (σ:St) (H:Hp) (D:d8),aA X ai σ H s->t D σ H->wpAny (model X.prog X.w) X.A (exec st X.env) (SP X ai D) X.xe s
noncomputable def cQ (X:Cx)(st:List Stmt)(t:TS):Prop:=
 ∀(ai:List (ax×Obj)) (s:aw) (σ:St) (H:Hp) (D:d8),aA X ai σ H s->t D σ H->wpAny (model X.prog X.w) X.A (execs st X.env) (SP X ai D) X.xe s
theorem aM {α:Type}{t:Sem α}{Q Q':α->aw->Prop}{M:Model}{A:az}{E:av->aw->Prop}{s:aw}(h:wpAny M A t Q E s)(hQ:∀a s,Q a s->Q' a s):wpAny M A t Q' E s:=aH9 h hQ λ_ _ x=>x
section
variable {X:Cx}
theorem bin {a b:Expr}{ta tb:TE}(ha:PE X a ta)(hb:PE X b tb){ai:List (ax×Obj)}{s:aw}{σ:St}{H:Hp}{R:V->V->Hp->Prop}(I:aA X ai σ H s)(h:ta σ H λx H1=>tb σ H1 λy H2=>R x y H2){α:Type}{Q:α->aw->Prop}{f:av->av->Sem α}(hf:∀v u s2 x y H2,aA X ai σ H2 s2->aR x v->aR y u->R x y H2->wpAny (model X.prog X.w) X.A (f v u) Q X.xe s2) :
  wpAny (model X.prog X.w) X.A (eval a X.env) (λv s₁=>wpAny (model X.prog X.w) X.A (eval b X.env) (λu s₂=>wpAny (model X.prog X.w) X.A (f v u) Q X.xe s₂) X.xe s₁) X.xe s:=by
 refine aM (ha ai s σ H _ I h) λv s1 ⟨x,H1,I1,r1,q1⟩=>?_
 refine aM (hb ai s1 σ H1 _ I1 q1) λu s2 ⟨y,H2,I2,r2,q2⟩=>?_
 exact hf v u s2 x y H2 I2 r1 r2 q2
noncomputable def cH (i:Nat):TE:=λσ H Q=>∃v,σ[i]? = some (some v)/\Q v H
noncomputable def tC (v:V):TE:=λ_ H Q=>Q v H
theorem fC {i:Nat}{x:Str}{pos:Pos}(hN:X.N[i]? = some x)(hv:d7 X.env.scope x)(hd:(x==("__debug__":Str))=false:=by decide)(hcd:(x==("__classdict__":Str))=false:=by decide):PE X (.Name x pos) (cH i):=by
 intro ai s σ H Q I h
 obtain⟨v,e,h⟩:=h
 obtain⟨m,hn,hl⟩:=I.loc
 obtain⟨u,r,l⟩:=hl i x v hN e hv
 have fin:EP X ai σ Q u s:=⟨v,H,I,r,h⟩;rcases l with⟨hk,hm⟩|⟨hk,c,hc,hcell⟩
 ·exact wpAny_Name (wpAny_loadName_local I.ok.kind hk hn hm fin) hd
 ·rcases hk with hk|hk
  ·exact wpAny_Name (wpAny_loadName_cell I.ok.kind hk hc hcell fin) hd
  ·exact wpAny_Name (wpAny_loadName_free I.ok.kind hk hc hcell fin hcd) hd
theorem M9 {i j pos}:PE X (.Constant (.int i) j pos) (tC (.int i)):=λ_ _ _ H _ I h=>wpAny_Constant_int ⟨.int i,H,I.tok _,⟨_,rfl⟩,h⟩
theorem N0 {b j pos}:PE X (.Constant (.bool b) j pos) (tC (.bl b)):=λ_ _ _ H _ I h=>Constant_bool ⟨.bl b,H,I,rfl,h⟩
theorem N1 {x j pos}:PE X (.Constant (.str x) j pos) (tC (.str x)):=λ_ _ _ H _ I h=>Calls.Constant_str ⟨.str x,H,I.tok _,⟨_,rfl⟩,h⟩
noncomputable def Gl (X:Cx)(x:Str):Prop:=X.env.kindOf x=some .globalImplicit
theorem nA {E:av->aw->Prop}{ai:List (ax×Obj)}{s:aw}{σ:St}{H:Hp}{x:Str}{u:av}{pos:Pos}{Q:av->aw->Prop}(I:aA X ai σ H s)(hg:Gl X x)(hm:X.mg x=some u)(h:Q u s)(hd:(x==("__debug__":Str))=false:=by decide):wpAny (model X.prog X.w) X.A (eval (.Name x pos) X.env) Q E s:=
 Calls.Name_function_global I.ok.kind hg (Calls.loadGlobal_global (by rw[I.ok.glob];exact I.mod.glob.keeps I.bk) hm h) hd
theorem kX {E:av->aw->Prop}{ai:List (ax×Obj)}{s:aw}{σ:St}{H:Hp}{x:Str}{u:av}{pos:Pos}{Q:av->aw->Prop}(I:aA X ai σ H s)(hg:Gl X x)(hm:X.mg x=none)(hv:bootBuiltins x=some u)(h:Q u s)(hn:x≠"__name__":=by decide)(hd:(x==("__debug__":Str))=false:=by decide):wpAny (model X.prog X.w) X.A (eval (.Name x pos) X.env) Q E s:=by
 obtain⟨mb,h1,h2⟩:=I.mod.blt
 exact Calls.Name_function_global I.ok.kind hg (Calls.loadGlobal_builtin (by rw[I.ok.glob];exact I.mod.glob.keeps I.bk) hm (by rw[I.ok.blt];exact h1.keeps I.bk) ((h2 x hn).trans hv) h) hd
theorem N2 {x:Str}{v:V}{u:av}{pos:Pos}(hg:Gl X x)(hm:X.mg x=some u)(r:aR v u)(hd:(x==("__debug__":Str))=false:=by decide):PE X (.Name x pos) (tC v):=
 λ_ _ _ H _ I h=>nA I hg hm ⟨v,H,I,r,h⟩ hd
theorem N3 {x:Str}{v:V}{u:av}{pos:Pos}(hg:Gl X x)(hm:X.mg x=none)(hv:bootBuiltins x=some u)(r:aR v u)(hn:x≠"__name__":=by decide)(hd:(x==("__debug__":Str))=false:=by decide):PE X (.Name x pos) (tC v):=
 λ_ _ _ H _ I h=>kX I hg hm hv ⟨v,H,I,r,h⟩ hn hd
variable {a b:Expr}{ta tb:TE}{pos:Pos}
noncomputable def PC (X:Cx)(op:CmpOp)(a b:Expr)(t:TE):Prop:=
 ∀(ai:List (ax×Obj)) (s:aw) (σ:St) (H:Hp) (Q:VK),aA X ai σ H s->t σ H Q->
  wpAny (model X.prog X.w) X.A (eval a X.env) (λv s₁=>wpAny (model X.prog X.w) X.A (eval b X.env) (λu s₂=>wpAny (model X.prog X.w) X.A (compareOp op v u) (EP X ai σ Q) X.xe s₂) X.xe s₁) X.xe s
noncomputable def tB (t:TE):TT:=λσ H Q=>t σ H λx H1=>∃c,x = .bl c/\Q c H1
theorem uK {op:CmpOp}{t:TE}(h:PC X op a b t)(h1:behindInMarks op b=false:=by first|exact nobehind _ (by decide) (by decide)|rfl):PT X (.Compare a [op] [b] pos) (tB t):=by
 intro ai s σ H Q I hw;refine wpAny_isTrue_Compare1 (aM (h ai s σ H _ I hw) λv s1 h1=>aM h1 λu s2 h2=>aM h2 λc s3 ⟨x,H1,I1,r1,q1⟩=>?_) h1
 obtain⟨d,rfl,q⟩:=q1
 cases r1;exact aK5 ⟨H1,I1,q⟩
theorem N4 {e:Expr}{t:TE}(h:PE X e t)(he:∀whole,isTrue e X.env whole=(do let v <- whole;standAt e.pos;holding [v] (truthy v)):=by intro _;rfl):PT X e (tB t):=by
 intro ai s σ H Q I hw;refine isTrue_plain (aM (h ai s σ H _ I hw) λv s1 ⟨x,H1,I1,r1,q1⟩=>?_) (he _)
 obtain⟨d,rfl,q⟩:=q1
 cases r1;exact aK5 ⟨H1,I1,q⟩
variable {tA tB':TT}{rest:List Expr}
noncomputable def uL (t u:TT):TT:=λσ H Q=>t σ H λc H1=>if c=true then Q true H1 else u σ H1 Q
noncomputable def uM (t:TT):TT:=λσ H Q=>t σ H λc H1=>Q (!c) H1
theorem N5 (ha:PT X a tA):PW X (.BoolOp .Or [a] pos) tA:=by
 intro wh ai s σ H Q I h;refine isTrue_or (aM (ha ai s σ H Q I h) λc s1 e=>?_);cases c with
 |false=>exact isTrue_or_nil e
 |true=>exact e
theorem N6 (ha:PT X a tA)(hb:PW X (.BoolOp .Or (b::rest) pos) tB'):PW X (.BoolOp .Or (a::b::rest) pos) (uL tA tB'):=by
 intro wh ai s σ H Q I h;refine isTrue_or (aM (ha ai s σ H _ I h) λc s1 ⟨H1,I1,q1⟩=>?_);cases c with
 |true=>exact⟨H1,I1,q1⟩
 |false=>exact hb wh ai s1 σ H1 Q I1 q1
theorem N7 (ha:PT X a tA):PT X (.UnaryOp .Not a pos) (uM tA):=by
 intro ai s σ H Q I h;exact isTrue_not (ha ai s σ H (λc H1=>Q (!c) H1) I h)
noncomputable def uN (ta tb:TE):TE:=λσ H Q=>ta σ H λx H1=>∃c,x = .bl c/\if c=true then tb σ H1 Q else Q (.bl false) H1
noncomputable def uO (ta:TE):TE:=λσ H Q=>ta σ H λx H1=>∃c,x = .bl c/\Q (.bl (!c)) H1
theorem N8 {op}{t:TE}(h:PE X a t):PE X (.BoolOp op [a] pos) t:=λai s σ H Q I hw=>BoolOp_one (h ai s σ H Q I hw)
theorem N9 (ha:PE X a ta)(hb:PE X (.BoolOp .And (b::rest) pos) tb):PE X (.BoolOp .And (a::b::rest) pos) (uN ta tb):=by
 intro ai s σ H Q I h;refine BoolOp_and (aM (ha ai s σ H _ I h) λv s1 ⟨x,H1,I1,r1,q1⟩=>?_)
 obtain⟨c,rfl,q1⟩:=q1
 cases r1;refine aK5 ?_;cases c with
 |true=>exact hb ai s1 σ H1 Q I1 q1
 |false=>exact⟨.bl false,H1,I1,rfl,q1⟩
theorem O0 (ha:PE X a ta):PE X (.UnaryOp .Not a pos) (uO ta):=by
 intro ai s σ H Q I h;refine UnaryOp_ (aM (ha ai s σ H _ I h) λv s1 ⟨x,H1,I1,r1,q1⟩=>?_)
 obtain⟨c,rfl,q1⟩:=q1
 cases r1;exact not_of (aK5 ⟨.bl (!c),H1,I1,rfl,q1⟩)
end
noncomputable def b7 (K:ad)(H:Hp)(a:ax)(xs:List V):Prop:=
 Rd H a (.lst xs) ∨
  ∃(o:Obj) (its:Array av) (n:Nat),K.lookup a=some o/\o.cls = .type "list"/\o.dict=none/\o.data = .seq its n/\its.size<=sizeLine/\aP xs its.toList
noncomputable def aY (K:ad)(H:Hp)(a:ax)(xs:List V):Prop:=
 Rd H a (.tup xs) ∨
  ∃(o:Obj) (its:Array av) (n:Nat),K.lookup a=some o/\o.cls = .type "tuple"/\o.data = .seq its n/\its.size<=sizeLine/\aP xs its.toList
noncomputable def O1:av->Option V
 |.none=>some .non
 |.bool b=>some (.bl b)
 |.int i _=>some (.int i)
 |.str x _=>some (.str x)
 |.bytes b _=>some (.byt b)
 |.float b _=>some (.flt b)
 |.ref a=>some (.ref a)
 |.type n=>some (.ty n)
 |_=>none
theorem aR.abs {x:V}{u:av}(r:aR x u):O1 u=some x:=by
 cases x with
 |non=>cases r;rfl
 |bl _=>cases r;rfl
 |int _=>obtain⟨t,rfl⟩:=r;rfl
 |str _=>obtain⟨t,rfl⟩:=r;rfl
 |byt _=>obtain⟨t,rfl⟩:=r;rfl
 |flt _=>obtain⟨t,rfl⟩:=r;rfl
 |ref _=>cases r;rfl
 |ty _=>cases r;rfl
theorem aR.inj {x y:V}{u:av}(r:aR x u)(q:aR y u):x=y:=aF9 (r.abs.symm.trans q.abs)
theorem aP.inj:∀{xs ys:List V}{us:List av},aP xs us->aP ys us->xs=ys
 |_,_,_,.nil,.nil=>rfl
 |_,_,_,.cons r t,.cons r' t'=>by rw[r.inj r',aP.inj t t']
section
variable {X:Cx}{ai:List (ax×Obj)}{σ:St}{H:Hp}{s:aw}{a:ax}{xs ys:List V}
theorem b7.of {K:ad}(h:H a=some (.lst xs)):b7 K H a xs:=.inl (.inl h)
theorem aY.of {K:ad}(h:H a=some (.tup xs)):aY K H a xs:=.inl (.inl h)
theorem aA.list (I:aA X ai σ H s)(h:b7 X.K H a xs):∃its:List av,aP xs its/\PlainL s.heap a its.toArray/\xs.length<=sizeLine:=by
 rcases h with h|⟨o,its,n,hk,hc,hd,hs,hz,r⟩
 ·obtain⟨z,its,n,r,e⟩:=h.ok I.hok
  exact⟨its,r,⟨_,n,e,rfl,rfl,rfl⟩,z⟩
 ·refine⟨its.toList,r,⟨o,n,I.kIn a o hk,hc,hd,by simpa using hs⟩,?_⟩
  have e:=r.length;simp only[Array.length_toList]at e;omega
theorem aA.tuple (I:aA X ai σ H s)(h:aY X.K H a xs):∃its:List av,aP xs its/\IsTup s.heap a its.toArray/\xs.length<=sizeLine:=by
 rcases h with h|⟨o,its,n,hk,hc,hs,hz,r⟩
 ·obtain⟨z,its,r,p,_⟩:=h.ok I.hok
  exact⟨its,r,p,z⟩
 ·refine⟨its.toList,r,⟨o,I.kIn a o hk,hc,n,by simpa using hs⟩,?_⟩
  have e:=r.length;simp only[Array.length_toList]at e;omega
theorem aA.list_inj (I:aA X ai σ H s)(h:b7 X.K H a xs)(h':b7 X.K H a ys):xs=ys:=by
 obtain⟨its,r,⟨o,n,e,_,_,d⟩,_⟩:=I.list h
 obtain⟨its',r',⟨o',n',e',_,_,d'⟩,_⟩:=I.list h'
 rw[e]at e';cases e';rw[d]at d';injection d' with d1 _
 have:its=its':=by simpa using congrArg Array.toList d1
 subst this;exact r.inj r'
theorem aA.tuple_inj (I:aA X ai σ H s)(h:aY X.K H a xs)(h':aY X.K H a ys):xs=ys:=by
 obtain⟨its,r,⟨o,e,_,n,d⟩,_⟩:=I.tuple h
 obtain⟨its',r',⟨o',e',_,n',d'⟩,_⟩:=I.tuple h'
 rw[e]at e';cases e';rw[d]at d';injection d' with d1 _
 have:its=its':=by simpa using congrArg Array.toList d1
 subst this;exact r.inj r'
end
noncomputable abbrev Cx.wish (X:Cx)(E:av->aw->Prop):Cx:={ X with xe:=E }
noncomputable abbrev Cx.nox (X:Cx):Cx:=X.wish λ_ _=>False
theorem Cx.Ok.wish {X:Cx}(ok:X.Ok)(E:av->aw->Prop):(X.wish E).Ok:=
 ⟨ok.mod,ok.kind,ok.glob,ok.blt,ok.above,ok.inj,ok.has,ok.cab,ok.hd,ok.frames,ok.stk,ok.exf,ok.bs,ok.bsz,ok.noex,ok.exfs,ok.funs,ok.frf⟩
theorem Cx.Ok.unwish {X:Cx}{E:av->aw->Prop}(ok:(X.wish E).Ok):X.Ok:=
 ⟨ok.mod,ok.kind,ok.glob,ok.blt,ok.above,ok.inj,ok.has,ok.cab,ok.hd,ok.frames,ok.stk,ok.exf,ok.bs,ok.bsz,ok.noex,ok.exfs,ok.funs,ok.frf⟩
section
variable {X:Cx}{ai:List (ax×Obj)}{σ:St}{H:Hp}{s:aw}{E:av→aw→Prop}
theorem aA.wish (I:aA X ai σ H s)(E:av->aw->Prop):aA (X.wish E) ai σ H s:=⟨I.ok.wish E,I.os,I.bare,I.base,I.loc,I.cell,I.free,I.freeC,I.pin,I.hok,I.len⟩
theorem aA.unwish (I:aA (X.wish E) ai σ H s):aA X ai σ H s:=⟨I.ok.unwish,I.os,I.bare,I.base,I.loc,I.cell,I.free,I.freeC,I.pin,I.hok,I.len⟩
theorem SP.unwish {D:d8}{f:Flow}{s':aw}(h:SP (X.wish E) ai D f s'):SP X ai D f s':=by
 cases f with
 |next=>obtain⟨σ',H',I,q⟩:=h;exact⟨σ',H',I.unwish,q⟩
 |brk=>obtain⟨σ',H',I,q⟩:=h;exact⟨σ',H',I.unwish,q⟩
 |cont=>obtain⟨σ',H',I,q⟩:=h;exact⟨σ',H',I.unwish,q⟩
 |ret u=>obtain⟨v,σ',H',I,r,q⟩:=h;exact⟨v,σ',H',I.unwish,r,q⟩
theorem cQ.nox {st:List Stmt}{t:TS}(h:cQ X.nox st t):cQ X st t:=λai s σ H D I hw=>
 aH9 (h ai s σ H D (I.wish _) hw) (λ_ _ q=>q.unwish) λ_ _ z=>False.elim z
end
section
variable {X:Cx}{st:Stmt}{rest:List Stmt}{t u:TS}{e:Expr}{te:TE}{pos:Pos}
noncomputable def uP:TS:=λD σ H=>D.nx σ H
noncomputable def uQ (t u:TS):TS:=λD σ H=>t { D with nx:=u D } σ H
theorem O2:cQ X [] uP:=λ_ _ σ H _ I h=>wpAny_execs_nil ⟨σ,H,I,h⟩
theorem O3 (h1:PS X st t)(h2:cQ X rest u):cQ X (st::rest) (uQ t u):=by
 intro ai s σ H D I h;refine wpAny_execs_cons (aM (h1 ai s σ H { D with nx:=u D } I h) λf s1 q=>?_);cases f with
 |next=>
  obtain⟨σ',H',I',q⟩:=q
  exact h2 ai s1 σ' H' D I' q
 |ret v=>exact q
 |brk=>exact q
 |cont=>exact q
theorem eQ (h1:PS X st t):cQ X [st] t:=by
 intro ai s σ H D I h;refine wpAny_execs_cons (aM (h1 ai s σ H D I h) λf s1 q=>?_);cases f with
 |next=>exact wpAny_execs_nil q
 |ret v=>exact q
 |brk=>exact q
 |cont=>exact q
theorem aA.quiet {ai:List (ax×Obj)}{σ:St}{H:Hp}{s:aw}(I:aA X ai σ H s):interactive X.env=false:=by simp[interactive,I.ok.kind]
noncomputable def jK (te:TE):TS:=λD σ H=>te σ H λ_ H1=>D.nx σ H1
theorem kY (he:PE X e te)(hs:swapsWith e none pos.line X.env=pure false:=by rfl):PS X (.Expr e pos) (jK te):=by
 intro ai s σ H D I h;exact wpAny_Expr_any (aM (he ai s σ H _ I h) λv s1 ⟨x,H1,I1,r1,q1⟩=>⟨σ,H1,I1,q1⟩) I.quiet hs
noncomputable def pS (te:TE):TS:=λD σ H=>te σ H D.rt
theorem uR (he:PE X e te):PS X (.Return (some e) pos) (pS te):=by
 intro ai s σ H D I h;exact wpAny_Return_some (aM (he ai s σ H _ I h) λv s1 ⟨x,H1,I1,r1,q1⟩=>⟨x,σ,H1,I1,r1,q1⟩)
noncomputable def nC (c:TT)(t u:TS):TS:=λD σ H=>c σ H λb H1=>if b=true then t D σ H1 else u D σ H1
theorem kZ {c:Expr}{a b:List Stmt}{tc:TT}(hc:PT X c tc)(ha:cQ X a t)(hb:cQ X b u):PS X (.If c a b pos) (nC tc t u):=by
 intro ai s σ H D I h;refine wpAny_If (aM (hc ai s σ H _ I h) λd s1 ⟨H1,I1,q1⟩=>?_);cases d with
 |true=>exact ha ai s1 σ H1 D I1 q1
 |false=>exact hb ai s1 σ H1 D I1 q1
end
noncomputable abbrev TG:=V->St->Hp->(St->Hp->Prop)->Prop
noncomputable abbrev iS:=List V->St->Hp->(St->Hp->Prop)->Prop
noncomputable def PG (X:Cx)(target:Expr)(t:TG):Prop:=
 ∀(ai:List (ax×Obj)) (s:aw) (σ:St) (H:Hp) (v:V) (u:av) (Q:St->Hp->Prop),aA X ai σ H s->aR v u->t v σ H Q->
  wpAny (model X.prog X.w) X.A (assign target X.env u) (λ_ s'=>∃σ' H',aA X ai σ' H' s'/\Q σ' H') X.xe s
noncomputable def nD (X:Cx)(ts:List Expr)(t:iS):Prop:=
 ∀(ai:List (ax×Obj)) (s:aw) (σ:St) (H:Hp) (vs:List V) (us:List av) (Q:St->Hp->Prop),aA X ai σ H s->aP vs us->t vs σ H Q->
  wpAny (model X.prog X.w) X.A (assignInOrder ((assignEach ts X.env).map (·.2)) us) (λ_ s'=>∃σ' H',aA X ai σ' H' s'/\Q σ' H') X.xe s
noncomputable abbrev pT:=V->V->V->Hp->(Hp->Prop)->Prop
noncomputable def uS (X:Cx)(t:pT):Prop:=
 ∀(ai:List (ax×Obj)) (s:aw) (σ:St) (H:Hp) (o i v:V) (ov iv u:av) (Q:Hp->Prop),aA X ai σ H s->aR o ov->aR i iv->aR v u->t o i v H Q->
  wpAny (model X.prog X.w) X.A (setItem ov iv u) (λ_ s'=>∃H',aA X ai σ H' s'/\Q H') X.xe s
section
variable {X:Cx}{pos:Pos}
noncomputable def cU (i:Nat):TG:=λv σ H Q=>Q (σ.set i (some v)) H
theorem jL {i:Nat}{x:Str}(hN:X.N.Nodup)(hi:X.N[i]? = some x)(hx:eZ X.env.scope x)(hf:X.fn x=true∨X.env.scope.names.lookup x=some .local:=by first|exact .inl rfl|exact .inr rfl|assumption):PG X (.Name x pos) (cU i):=by
 intro ai s σ H v u Q I r h;exact wpAny_assign_Name (uJ I hN hi hx r (λs' I'=>⟨_,H,I',h⟩) hf)
noncomputable def nE:iS:=λvs σ H Q=>vs = []/\Q σ H
noncomputable def iT (t:TG)(u:iS):iS:=λvs σ H Q=>∃v r,vs=v::r/\t v σ H λσ' H'=>u r σ' H' Q
theorem uT:nD X [] nE:=by
 intro ai s σ H vs us Q I r h
 obtain⟨e,h⟩:=h
 subst e;cases r;exact assignInOrder_nil ⟨σ,H,I,h⟩
theorem nF {e:Expr}{es:List Expr}{t:TG}{u:iS}(h1:PG X e t)(h2:nD X es u)(hs:(assignEach (e::es) X.env).map (·.2)=assign e X.env::(assignEach es X.env).map (·.2):=by rfl):nD X (e::es) (iT t u):=by
 intro ai s σ H vs us Q I r h
 obtain⟨v,vr,e1,h⟩:=h
 subst e1;cases r with
 |cons r rr=>
  rw[hs];refine assignInOrder_cons (aM (h1 ai s σ H _ _ _ I r h) λ_ s1 ⟨σ1,H1,I1,q1⟩=>?_);exact h2 ai s1 σ1 H1 _ _ Q I1 rr q1
noncomputable def nG (K:ad)(n:Nat)(t:iS):TG:=λv σ H Q=>∃a xs,v = .ref a/\aY K H a xs/\xs.length=n/\t xs σ H Q
theorem uU {es:List Expr}{k:Nat}{t:iS}{n:Nat}(hc:X.calm=true)(h:nD X es t)(hn:(assignEach es X.env).length=n:=by rfl)(hst:(assignEach es X.env).findIdx? (·.1)=none:=by rfl):PG X (.Tuple es k pos) (nG X.K n t):=by
 intro ai s σ H v u Q I r hw
 obtain⟨a,xs,e1,hq,hl,hw⟩:=hw
 subst e1;cases r
 obtain⟨its,rv,ht,hz⟩:=I.tuple hq
 refine assign_Tuple_tuple (I.ok.hd hc) ht (by simp[hn,<- hl,rv.length]) hst λh' hx=>?_
 have I1:aA X ai σ H { s with heap:=h' }:=I.kept (t':=s.toks) λb o e=>hx b o (aH2 (aE8 e)) e
 exact h ai _ σ H xs _ Q I1 (by simpa using rv) hw
noncomputable def pU (to ti:TE)(t:pT):TG:=λv σ H Q=>to σ H λo H1=>ti σ H1 λi H2=>t o i v H2 λH3=>Q σ H3
theorem O4 {o i:Expr}{to ti:TE}{t:pT}(ho:PE X o to)(hi:PE X i ti)(hs:uS X t)(ha:∀v,assign (.Subscript o i pos) X.env v=(do
   let ov <- holding [v] (eval o X.env)
   let iv <- holding [v,ov] (eval i X.env)
   standAt pos
   holding [v,ov,iv] (setItem ov iv v)
   release [v,ov,iv] []):=by intro _;rfl):PG X (.Subscript o i pos) (pU to ti t):=by
 intro ai s σ H v u Q I r h;rw[ha];refine aD7 (aM8 (aM (ho ai s σ H _ I h) λov s1 ⟨x,H1,I1,r1,q1⟩=>?_));refine aD7 (aM8 (aM (hi ai s1 σ H1 _ I1 q1) λiv s2 ⟨y,H2,I2,r2,q2⟩=>?_));refine aD7 (wpAny_standAt (aD7 (aM8 (aM (hs ai s2 σ H2 x y v ov iv u _ I2 r1 r2 r q2) λ_ s3 ⟨H3,I3,q3⟩=>?_))));exact wpAny_release ⟨σ,H3,I3,q3⟩
noncomputable def gY (te:TE)(g:TG):TS:=λD σ H=>te σ H λx H1=>g x σ H1 D.nx
theorem O5 {tg e:Expr}{te:TE}{g:TG}(he:PE X e te)(hg:PG X tg g)(hs:swapsWithSole [tg] e pos.line X.env=pure false:=by rfl)(hw:swappedStores [tg] e X.env=pure none:=by rfl)(h1:(assignEach [tg] X.env).map (·.2) = [assign tg X.env]:=by rfl):PS X (.Assign [tg] e pos) (gY te g):=by
 intro ai s σ H D I h;refine wpAny_Assign_stores (aM (he ai s σ H _ I h) λv s1 ⟨x,H1,I1,r1,q1⟩=>?_) hs hw;rw[h1];exact aM (hg ai s1 σ H1 x v _ I1 r1 q1) λ_ s2 q=>q
theorem lA {i:Nat}{x:Str}{e:Expr}{te:TE}{pos':Pos}(hN:X.N.Nodup)(hi:X.N[i]? = some x)(hx:eZ X.env.scope x)(he:PE X e te)(hs:swapsWith e (some (.Name x pos')) pos.line X.env=pure false:=by rfl)(hf:X.fn x=true∨X.env.scope.names.lookup x=some .local:=by first|exact .inl rfl|exact .inr rfl|assumption) :
  PS X (.Assign [.Name x pos'] e pos) (gY te (cU i)):=by
 intro ai s σ H D I h;refine wpAny_Assign_Name (aM (he ai s σ H _ I h) λv s1 ⟨y,H1,I1,r1,q1⟩=>?_) hs;exact uJ I1 hN hi hx r1 (λs2 I2=>⟨_,H1,I2,q1⟩) hf
end
section
variable {X:Cx}{pos:Pos}
noncomputable def uV (c:TT)(tb:TS):TS:=λD σ H=>∃W:Nat->St->Hp->Prop,(∃m,W m σ H)/\∀m σ H,W m σ H->
 c σ H λb H1=>if b=true then ∃N:St->Hp->Prop,(∀σ' H',N σ' H'->∃m',m'<m/\W m' σ' H')/\tb { D with nx:=N,ct:=N,bk:=D.nx } σ H1 else D.nx σ H1
theorem O6 {c:Expr}{body:List Stmt}{tc:TT}{tb:TS}(hp:PassesOwn (model X.prog X.w) X.A X.env X.xe)(hc:PT X c tc)(hb:cQ X body tb):PS X (.While c body [] pos) (uV tc tb):=by
 intro ai s σ H D I h
 obtain⟨W,⟨m0,w0⟩,turn⟩:=h
 refine wpAny_While (codeAny_whileLoop (λn s'=>∃σ' H',aA X ai σ' H' s'/\W n σ' H') ?_ m0 ⟨σ,H,I,w0⟩);rintro n s1 ⟨σ1,H1,I1,w1⟩;refine aN5 hp (aM (hc ai s1 σ1 H1 _ I1 (turn n σ1 H1 w1)) λb s2 ⟨H2,I2,q2⟩=>?_);cases b with
 |true=>
  obtain⟨N,hN,q2⟩:=q2
  rw[if_pos rfl];refine aN5 hp (aM (hb ai s2 σ1 H2 _ I2 q2) λf s3 q3=>?_);cases f with
  |next=>
   obtain⟨σ3,H3,I3,n3⟩:=q3
   obtain⟨m',hm,w3⟩:=hN σ3 H3 n3
   exact⟨m',hm,σ3,H3,I3,w3⟩
  |cont=>
   obtain⟨σ3,H3,I3,n3⟩:=q3
   obtain⟨m',hm,w3⟩:=hN σ3 H3 n3
   exact⟨m',hm,σ3,H3,I3,w3⟩
  |brk=>exact q3
  |ret v=>exact q3
 |false=>
  rw[if_neg aF1];exact wpAny_execs_nil ⟨σ1,H2,I2,q2⟩
end
structure It where
 go:Nat->Hp->Prop
 yld:Nat->Hp->V->Hp->Prop
 stop:Nat->Hp->Prop
noncomputable def gK (X:Cx)(ai:List (ax×Obj))(H:Hp)(b:ax):Prop:=
 H b=none/\b≠X.env.locals/\b∉X.fs/\(b∈X.ex∨X.s₀.heap.objs.size<=b)/\(∀x c,X.env.cells.lookup x=some c->c≠b)/\∀p∈X.pn++ai,p.1≠b
theorem aA.fpOk {X:Cx}{ai:List (ax×Obj)}{σ:St}{H H':Hp}{s:aw}{b:ax}(I:aA X ai σ H s)(hb:s.heap.objs.size<=b)(hn:H' b=none):gK X ai H' b:=by
 refine⟨hn,aK6 (aE4 I.lt hb),I.nofs hb,.inr (aH0 I.sz hb),λx c e z=>?_,λp hp z=>?_⟩
 ·obtain⟨v,q⟩:=I.cell x c e
  exact absurd (aE4 q.lt (by rw[z];exact hb)) (aI5 _)
 ·exact absurd (aE4 (aE8 (I.pin p hp).1) (by rw[z];exact hb)) (aI5 _)
structure iA (P:ay)(w:ba)(K:ad)(tg:Expr)(J:It)(fp:List ax)(it:ax)(tn:Nat->Heap->Prop):Prop where
 mem:it∈fp
 obj:∀i h,tn i h->∀b∈fp,∃o,h.get? b=some o/\∀v,o.data≠.cell v
 keep:∀i h h',tn i h->(∀b∈fp,∀o,h.get? b=some o->h'.get? b=some o)->tn i h'
 item:∀(X:Cx),X.prog=P->X.w=w->X.K=K->X.calm=true->∀(i:Nat) (ai:List (ax×Obj)) (s:aw) (σ:St) (H:Hp) (E:av->aw->Prop),aA X ai σ H s->(∀b∈fp,gK X ai H b)->tn i s.heap->J.go i H->
  wpAny (model P w) X.A (pyNext (.ref it)) (λr s1=>∃u,r=some u/\
   wpAny (model P w) X.A (letOwnedTupleGo tg (.ref it) u) (λ_ s2=>∃x H',aA X ai σ H' s2/\aR x u/\J.yld i H x H'/\tn (i+1) s2.heap/\∀b∈fp,H' b=none) E s1) E s
 done:∀(X:Cx),X.prog=P->X.w=w->X.K=K->X.calm=true->∀(i:Nat) (ai:List (ax×Obj)) (s:aw) (σ:St) (H:Hp) (E:av->aw->Prop),aA X ai σ H s->(∀b∈fp,gK X ai H b)->tn i s.heap->J.stop i H->
  wpAny (model P w) X.A (pyNext (.ref it)) (λr s1=>r=none/\aA X ai σ H s1) E s
 self:∀(A:az) (i:Nat) (s:aw) (Q:av->aw->Prop) (E:av->aw->Prop),tn i s.heap->Q (.ref it) s->wpAny (model P w) A (pyIter (.ref it)) Q E s
noncomputable abbrev TI:=St->Hp->(It->Hp->Prop)->Prop
noncomputable def uW (X:Cx)(ai:List (ax×Obj))(σ:St)(tg:Expr)(R:It->Hp->Prop)(itv:av)(s2:aw):Prop:=
 ∃(it:ax) (fp:List ax) (tn:Nat->Heap->Prop) (J:It) (H':Hp),itv = .ref it/\aA X ai σ H' s2/\iA X.prog X.w X.K tg J fp it tn/\tn 0 s2.heap/\(∀b∈fp,gK X ai H' b)/\R J H'
noncomputable def PI (X:Cx)(tg iter:Expr)(wi:TI):Prop:=
 ∀(ai:List (ax×Obj)) (s:aw) (σ:St) (H:Hp) (R:It->Hp->Prop),aA X ai σ H s->wi σ H R->
  wpAny (model X.prog X.w) X.A (eval iter X.env) (λv s1=>wpAny (model X.prog X.w) X.A (pyIter v) (uW X ai σ tg R) X.xe s1) X.xe s
theorem nH {M:Model}{A:az}{E:av->aw->Prop}{s:aw}{tg:Expr}{it:ax}{u:av}{o:Obj}{n:String}{vs:Array av}{Q:Unit->aw->Prop}(ho:s.heap.get? it=some o)(hc:o.cls = .type n)(hd:o.data = .fields vs)(hn:["enumerate","zip","dict_itemiterator","dict_reverseitemiterator","odict_iterator","itertools.zip_longest","itertools.pairwise"].contains n=false)(hQ:Q () s):wpAny M A (letOwnedTupleGo tg (.ref it) u) Q E s:=by
  unfold letOwnedTupleGo;cases tg<;>first
    |exact aE3 hQ
    |(cases u<;>first
        |exact aE3 hQ
        | (refine aD7 (wpAny_load ho ?_)
           rw[hc,hd];show wpAny M A (if (["enumerate","zip","dict_itemiterator","dict_reverseitemiterator","odict_iterator","itertools.zip_longest","itertools.pairwise"].contains n&&vs[0]?==some (rawInt _))=true then _ else _) Q E s;rw[if_neg (by intro h;rw[hn,Bool.false_and]at h;cases h)]
           exact aE3 hQ))
noncomputable def pV (K:ad)(a:ax):It:=
 ⟨λi H=>∃xs x,b7 K H a xs/\xs[i]? = some x,λi H x H'=>H'=H/\∀xs,b7 K H a xs->xs[i]? = some x,λi H=>∃xs,b7 K H a xs/\xs.length<=i⟩
noncomputable def pW (K:ad)(a:ax):It:=
 ⟨λi H=>∃xs x,aY K H a xs/\xs[i]? = some x,λi H x H'=>H'=H/\∀xs,aY K H a xs->xs[i]? = some x,λi H=>∃xs,aY K H a xs/\xs.length<=i⟩
noncomputable def nI (lo:Int)(n:Nat):It:=⟨λi _=>i<n,λi H x H'=>H'=H/\x = .int (lo+i),λi _=>n<=i⟩
theorem O7 {P:ay}{w:ba}{K:ad}{tg:Expr}(a it:ax):iA P w K tg (pV K a) [it] it (λi h=>h.IsListIter it a i) where
 mem:=by simp
 obj:=λi h st b hb=>by
  have e:b=it:=by simpa using hb
  subst e
  obtain⟨o,e,c,d⟩:=st
  exact⟨o,e,λv z=>by rw[d]at z;cases z⟩
 keep:=λi h h' st k=>st.at λo e=>k it (by simp) o e
 item:=by
  intro X hP hw hK hc i ai s σ H E I hf st hg;subst hP hw hK
  obtain⟨xs,x,hq,hx⟩:=hg
  obtain⟨its,rv,p,hz⟩:=I.list hq
  obtain⟨u,hu,ru⟩:=rv.get hx
  obtain⟨f0,f1,f2,f3,f4,f5⟩:=hf it (by simp)
  refine wpAny_pyNext_list_item st p.isList (x:=u) (by simpa using hu) λh' st' sb=>?_
  have I1:aA X ai σ H { s with heap:=h' }:=I.turned (t':=s.toks) (λb o hb e=>(sb.2 b hb).trans e) f0 f1 f3 f4 f5
  obtain⟨o,e,c,d⟩:=id st'
  exact⟨u,rfl,nH (s:={ s with heap:=h' }) e c d (by decide) ⟨x,H,I1,ru,⟨rfl,λys hy=>by rw[I.list_inj hy hq];exact hx⟩,st',λb hb=>(hf b hb).1⟩⟩
 done:=by
  intro X hP hw hK hc i ai s σ H E I hf st hg;subst hP hw hK
  obtain⟨xs,hq,hx⟩:=hg
  obtain⟨its,rv,p,hz⟩:=I.list hq
  obtain⟨f0,f1,f2,f3,f4,f5⟩:=hf it (by simp)
  have hl:=rv.length;exact wpAny_pyNext_list_end (I.ok.hd hc) st p.isList (by simp;omega) λh' eb=>⟨rfl,I.turned (t':=s.toks) (λb o hb e=>eb b o hb e) f0 f1 f3 f4 f5⟩
 self:=λ_ _ _ _ _ st h=>wpAny_pyIter_listiter st h
theorem O8 {P:ay}{w:ba}{K:ad}{tg:Expr}(a it:ax):iA P w K tg (pW K a) [it] it (λi h=>h.IsTupleIter it a i) where
 mem:=by simp
 obj:=λi h st b hb=>by
  have e:b=it:=by simpa using hb
  subst e
  obtain⟨o,e,c,d⟩:=st
  exact⟨o,e,λv z=>by rw[d]at z;cases z⟩
 keep:=λi h h' st k=>st.at λo e=>k it (by simp) o e
 item:=by
  intro X hP hw hK hc i ai s σ H E I hf st hg;subst hP hw hK
  obtain⟨xs,x,hq,hx⟩:=hg
  obtain⟨its,rv,p,hz⟩:=I.tuple hq
  obtain⟨u,hu,ru⟩:=rv.get hx
  obtain⟨f0,f1,f2,f3,f4,f5⟩:=hf it (by simp)
  refine wpAny_pyNext_tuple_item st (show s.heap.IsTuple a its.toArray from p) (x:=u) (by simpa using hu) λh' st' sb=>?_
  have I1:aA X ai σ H { s with heap:=h' }:=I.turned (t':=s.toks) (λb o hb e=>(sb.2 b hb).trans e) f0 f1 f3 f4 f5
  obtain⟨o,e,c,d⟩:=id st'
  exact⟨u,rfl,nH (s:={ s with heap:=h' }) e c d (by decide) ⟨x,H,I1,ru,⟨rfl,λys hy=>by rw[I.tuple_inj hy hq];exact hx⟩,st',λb hb=>(hf b hb).1⟩⟩
 done:=by
  intro X hP hw hK hc i ai s σ H E I hf st hg;subst hP hw hK
  obtain⟨xs,hq,hx⟩:=hg
  obtain⟨its,rv,p,hz⟩:=I.tuple hq
  obtain⟨f0,f1,f2,f3,f4,f5⟩:=hf it (by simp)
  have hl:=rv.length;exact wpAny_pyNext_tuple_end (I.ok.hd hc) st (show s.heap.IsTuple a its.toArray from p) (by simp;omega) λh' eb=>⟨rfl,I.turned (t':=s.toks) (λb o hb e=>eb b o hb e) f0 f1 f3 f4 f5⟩
 self:=λ_ _ _ _ _ st h=>wpAny_pyIter_tupleiter st h
theorem O9 {P:ay}{w:ba}{K:ad}{tg:Expr}(it:ax)(lo:Int)(n:Nat):iA P w K tg (nI lo n) [it] it (λi h=>IsRangeIter h it (lo+(i:Nat)*1) ((n:Int)-(i:Nat)) 1) where
 mem:=by simp
 obj:=λi h st b hb=>by
  have e:b=it:=by simpa using hb
  subst e
  exact⟨_,st,λv z=>by
   have z':Data.fields _=Data.cell v:=z
   cases z'⟩
 keep:=λi h h' st k=>k it (by simp) _ st
 item:=by
  intro X hP hw hK hc i ai s σ H E I hf st hg;subst hP hw hK
  obtain⟨f0,f1,f2,f3,f4,f5⟩:=hf it (by simp)
  have W:=Walks.range (prog:=X.prog) (w:=X.w) (I.ok.hd hc) it lo 1 n;refine W.item i s _ _ hg st λv h' tk hv st' kk=>?_
  obtain⟨t,rfl⟩:=hv
  have I1:aA X ai σ H { s with heap:=h',toks:=tk }:=I.turned (λb o hb e=>kk b o (by simpa using hb) e) f0 f1 f3 f4 f5;refine⟨_,rfl,nH (s:={ s with heap:=h',toks:=tk }) (n:="range_iterator") st' rfl rfl (by decide) ⟨.int (lo+i),H,I1,⟨t,?_⟩,⟨rfl,rfl⟩,st',λb hb=>(hf b hb).1⟩⟩;rw[Int.mul_one]
 done:=by
  intro X hP hw hK hc i ai s σ H E I hf st hg;subst hP hw hK
  obtain⟨f0,f1,f2,f3,f4,f5⟩:=hf it (by simp)
  exact wpAny_pyNext_range_end (I.ok.hd hc) st (by have:n<=i:=hg;omega) λh' eb=>⟨rfl,I.turned (t':=s.toks) (λb o hb e=>eb b o hb e) f0 f1 f3 f4 f5⟩
 self:=λ_ _ _ _ _ st h=>wpAny_pyIter_rangeiter st h
section
variable {X:Cx}{tg:Expr}
theorem P3 {ai:List (ax×Obj)}{σ:St}{H:Hp}{s:aw}{R:It->Hp->Prop}{E:av->aw->Prop}{lo hi:Int}{t u v:Tok}{tk:Nat}(I:aA X ai σ H s)(h1:-(2^62)<=lo)(h2:lo<2^62)(h3:-(2^62)<=hi)(h4:hi<2^62)(q:R (nI lo (hi-lo).toNat) H):wpAny (model X.prog X.w) X.A (pyIter (.ref s.heap.objs.size)) (uW X ai σ tg R) E { s with heap:=s.heap.push { cls:=.type "range",data:=.fields #[.int lo t,.int hi u,.int 1 v] },toks:=tk }:=by
 refine wpAny_pyIter_range (IsRange.new ..) (small_one h1 h2 h3 h4) ?_;have I1:aA X ai σ H { s with heap:=s.heap.push { cls:=.type "range",data:=.fields #[.int lo t,.int hi u,.int 1 v] },toks:=tk }:=I.kept λb o e=>aE1 _ e
 refine⟨(s.heap.push { cls:=.type "range",data:=.fields #[.int lo t,.int hi u,.int 1 v] }).objs.size,[(s.heap.push { cls:=.type "range",data:=.fields #[.int lo t,.int hi u,.int 1 v] }).objs.size],_,_,H,rfl,
  I1.kept (t':=tk) λb o e=>aE1 _ e,O9 _ lo (hi-lo).toNat,?_,λb hb=>?_,q⟩
 ·have e1:lo+((0:Nat):Int)*1=lo:=by simp
  have e2:(((hi-lo).toNat:Nat):Int)-((0:Nat):Int)=Builtin.Range.rangeSize lo hi 1:=by rw[rangeSize_one];split<;>omega
  show IsRangeIter _ _ (lo+((0:Nat):Int)*1) ((((hi-lo).toNat:Nat):Int)-((0:Nat):Int)) 1;rw[e1,e2];exact aF3 _ rfl
 ·have e:b=(s.heap.push { cls:=.type "range",data:=.fields #[.int lo t,.int hi u,.int 1 v] }).objs.size:=by simpa using hb
  subst e;exact I1.fpOk (aF0 _) (I1.hok.fresh (aF0 _))
noncomputable def uX (ta:TA):TI:=λσ H R=>ta σ H λvs H1=>∃j:Int,vs = [.int j]/\-(2^62)<=j/\j<2^62/\R (nI 0 j.toNat) H1
theorem P4 {a:Expr}{ta:TA}{p pos:Pos}(hg:Gl X "range")(hm:X.mg "range" = none)(ha:PA X [a] ta)(hs:starEach [a] X.env = [(false,eval a X.env)]:=by rfl):PI X tg (.Call (.Name "range" p) [a] [] pos) (uX ta):=by
 intro ai s σ H R I h;refine Call_ (kX I hg hm boot_range (PyProof.Rows.callWith_type1 (aM (ha pos ai s σ H _ I h) λus s1 ⟨vs,H1,I1,r1,q1⟩=>?_) hs rfl))
 obtain⟨j,e,q1,q2,q⟩:=q1
 subst e;cases r1 with
 |cons r rr=>
  cases rr
  obtain⟨t,rfl⟩:=r
  exact call_range_1 (P3 I1 (by omega) (by omega) q1 q2 (by simpa using q))
noncomputable def uY (wi:TI)(g:TG)(tb:TS):TS:=λD σ H=>wi σ H λJ H1=>∃W:Nat->Nat->St->Hp->Prop,(∃m,W 0 m σ H1)/\∀i m σ H,W i m σ H->
 (J.stop i H/\D.nx σ H)∨(J.go i H/\∃N:St->Hp->Prop,(∀σ' H',N σ' H'->∃m',m'<m/\W (i+1) m' σ' H')/\∀x H',J.yld i H x H'->g x σ H' λσ2 H2=>tb { D with nx:=N,ct:=N,bk:=D.nx } σ2 H2)
noncomputable def lB (fp:List ax)(h:Heap):List (ax×Obj):=fp.filterMap λb=>(h.get? b).map λo=>(b,o)
theorem nJ {fp:List ax}{h:Heap}{b:ax}{o:Obj}(hb:b∈fp)(e:h.get? b=some o):(b,o)∈lB fp h:=List.mem_filterMap.mpr ⟨b,hb,by rw[e];rfl⟩
theorem P5 {fp:List ax}{h:Heap}{p:ax×Obj}(hp:p∈lB fp h):p.1∈fp/\h.get? p.1=some p.2:=by
 obtain⟨b,hb,e⟩:=List.mem_filterMap.mp hp
 cases q:h.get? b with
 |none=>rw[q]at e;cases e
 |some o=>
  rw[q]at e;have e':(b,o)=p:=aF9 e;subst e'
  exact⟨hb,q⟩
theorem aA.pinned {ai:List (ax×Obj)}{σ:St}{H:Hp}{s:aw}{fp:List ax}(I:aA X ai σ H s)(hf:∀b∈fp,gK X ai H b)(ho:∀b∈fp,∃o,s.heap.get? b=some o/\∀v,o.data≠.cell v):aA X (ai++lB fp s.heap) σ H s:=
 I.pins_of λp hp=>(aI1.mp hp).elim (λz=>I.pin p (aF7 _ z)) λz=>by
  obtain⟨hb,e⟩:=P5 z
  obtain⟨f0,f1,f2,_⟩:=hf p.1 hb
  obtain⟨o,e',d⟩:=ho p.1 hb
  rw[e]at e';cases e'
  exact⟨e,f0,f1,f2,d⟩
theorem aA.unpinned {ai pl:List (ax×Obj)}{σ:St}{H:Hp}{s:aw}(I:aA X (ai++pl) σ H s):aA X ai σ H s:=I.pins_of λp hp=>I.pin p (aF7 _ (aI6 _ hp))
theorem P6 {iter:Expr}{body:List Stmt}{wi:TI}{g:TG}{tb:TS}{pos:Pos}(hp:PassesOwn (model X.prog X.w) X.A X.env X.xe)(hc:X.calm=true)(hi:PI X tg iter wi)(hg:PG X tg g)(hb:cQ X body tb)(hs:∀x,foldedSetIterable iter X.env x=pure x:=by intro _;rfl):PS X (.For tg iter body [] pos) (uY wi g tb):=by
 intro ai s σ H D I h;refine wpAny_For (aM (hi ai s σ H _ I h) λv s1 h1=>aM h1 λitv s2 h2=>?_) hs
 obtain⟨it,fp,tn,J,H2,e,I2,T,st2,f2,W,⟨m0,w0⟩,turn⟩:=h2
 subst e;have stat:∀{H':Hp},(∀b∈fp,H' b=none)->∀b∈fp,gK X ai H' b:=λhn b hb=>⟨hn b hb,(f2 b hb).2⟩
 refine codeAny_forLoop_any (λn s'=>∃i σ' H',aA X ai σ' H' s'/\tn i s'.heap/\(∀b∈fp,H' b=none)/\W i n σ' H') ?_ m0 ⟨0,σ,H2,I2,st2,λb hb=>(f2 b hb).1,w0⟩;rintro n s3 ⟨i,σ3,H3,I3,st3,fr3,w3⟩;rcases turn i n σ3 H3 w3 with⟨stop,qn⟩|⟨go,N,hN,step⟩
 ·refine aN5 hp (aM (T.done X rfl rfl rfl hc i ai s3 σ3 H3 X.xe I3 (stat fr3) st3 stop) λr s4 ⟨hr,I4⟩=>?_)
  subst hr;exact wpAny_execs_nil ⟨σ3,H3,I4,qn⟩
 ·refine aN5 hp (aM (T.item X rfl rfl rfl hc i ai s3 σ3 H3 X.xe I3 (stat fr3) st3 go) λr s4 ⟨u,hr,h4⟩=>?_)
  subst hr;refine aN5 hp (aM h4 λ_ s5 ⟨x,H5,I5,r5,y5,st5,fr5⟩=>?_);have I5':=I5.pinned (stat fr5) (T.obj _ _ st5);refine aN5 hp (aM (hg _ s5 σ3 H5 x u _ I5' r5 (step x H5 y5)) λ_ s6 ⟨σ6,H6,I6,q6⟩=>?_);refine aN5 hp (aM (hb _ s6 σ6 H6 _ I6 q6) λf s7 q7=>?_);have again:∀{σ7:St}{H7:Hp},aA X (ai++lB fp s5.heap) σ7 H7 s7->N σ7 H7->∃m,m<n/\∃i σ' H',aA X ai σ' H' s7/\tn i s7.heap/\(∀b∈fp,H' b=none)/\W i m σ' H':=λ{σ7 H7} I7 n7=>by
   obtain⟨m',hm,w7⟩:=hN σ7 H7 n7
   refine⟨m',hm,i+1,σ7,H7,I7.unpinned,T.keep _ _ _ st5 λb hb o e=>(I7.pin (b,o) (aF7 _ (aF7 _ (nJ hb e)))).1,λb hb=>?_,w7⟩
   obtain⟨o,e,d⟩:=T.obj _ _ st5 b hb
   exact (I7.pin (b,o) (aF7 _ (aF7 _ (nJ hb e)))).2.1
  cases f with
  |next=>obtain⟨σ7,H7,I7,n7⟩:=q7;exact again I7 n7
  |cont=>obtain⟨σ7,H7,I7,n7⟩:=q7;exact again I7 n7
  |brk=>obtain⟨σ7,H7,I7,q7⟩:=q7;exact⟨σ7,H7,I7.unpinned,q7⟩
  |ret v=>obtain⟨x7,σ7,H7,I7,r7,q7⟩:=q7;exact⟨x7,σ7,H7,I7.unpinned,r7,q7⟩
end
noncomputable abbrev R2:=V->V->Hp->VK->Prop
noncomputable def bW (X:Cx)(f:av->av->Sem av)(r:R2):Prop:=
 ∀(ai:List (ax×Obj)) (s:aw) (σ:St) (H:Hp) (x y:V) (v u:av) (Q:VK),aA X ai σ H s->aR x v->aR y u->r x y H Q->
  wpAny (model X.prog X.w) X.A (f v u) (EP X ai σ Q) X.xe s
noncomputable def pX (X:Cx)(f:av->Sem av)(r:V->Hp->VK->Prop):Prop:=
 ∀(ai:List (ax×Obj)) (s:aw) (σ:St) (H:Hp) (x:V) (v:av) (Q:VK),aA X ai σ H s->aR x v->r x H Q->
  wpAny (model X.prog X.w) X.A (f v) (EP X ai σ Q) X.xe s
noncomputable def cR (X:Cx)(f:av)(r:List V->Hp->VK->Prop):Prop:=
 ∀(ai:List (ax×Obj)) (s:aw) (σ:St) (H:Hp) (xs:List V) (us:List av) (Q:VK),aA X ai σ H s->aP xs us->r xs H Q->
  wpAny (model X.prog X.w) X.A (call f us) (EP X ai σ Q) X.xe s
noncomputable def P7 (X:Cx)(r:V->Hp->(Bool->Hp->Prop)->Prop):Prop:=
 ∀(ai:List (ax×Obj)) (s:aw) (σ:St) (H:Hp) (x:V) (v:av) (Q:Bool->Hp->Prop),aA X ai σ H s->aR x v->r x H Q->
  wpAny (model X.prog X.w) X.A (truthy v) (TP X ai σ Q) X.xe s
noncomputable def lC (r:R2)(ta tb:TE):TE:=λσ H Q=>ta σ H λx H1=>tb σ H1 λy H2=>r x y H2 Q
noncomputable def P8 (r:V->Hp->VK->Prop)(ta:TE):TE:=λσ H Q=>ta σ H λx H1=>r x H1 Q
noncomputable def rI (C:Int->Int->Prop)(g:Int->Int->V):R2:=λx y H Q=>∃i j,x = .int i/\y = .int j/\C i j/\Q (g i j) H
noncomputable def fD (g:Int->Int->V):R2:=λx y H Q=>∃i j,x = .int i/\y = .int j/\Q (g i j) H
noncomputable def rU (g:Int->V):V->Hp->VK->Prop:=λx H Q=>∃i,x = .int i/\Q (g i) H
section
variable {X:Cx}{a b c:Expr}{ta tb tc:TE}{pos:Pos}
theorem pY (ha:PE X a ta)(hb:PE X b tb){ai:List (ax×Obj)}{s:aw}{σ:St}{H:Hp}{R:V->V->Hp->Prop}(I:aA X ai σ H s)(h:ta σ H λx H1=>tb σ H1 λy H2=>R x y H2){Q:av->aw->Prop}{f:av->av->Sem av}(hf:∀v u s2 x y H2,aA X ai σ H2 s2->aR x v->aR y u->R x y H2->wpAny (model X.prog X.w) X.A (f v u) Q X.xe s2) :
  wpAny (model X.prog X.w) X.A (eval a X.env) (λv s₁=>wpAny (model X.prog X.w) X.A (eval b X.env) (λu s₂=>wpAny (model X.prog X.w) X.A (f v u) Q X.xe s₂) X.xe s₁) X.xe s:=by
 refine aM (ha ai s σ H _ I h) λv s1 ⟨x,H1,I1,r1,q1⟩=>?_
 refine aM (hb ai s1 σ H1 _ I1 q1) λu s2 ⟨y,H2,I2,r2,q2⟩=>?_
 exact hf v u s2 x y H2 I2 r1 r2 q2
theorem P9 {op:Operator}{r:R2}(ho:bW X (binaryOp op) r)(ha:PE X a ta)(hb:PE X b tb):PE X (.BinOp a op b pos) (lC r ta tb):=by
 intro ai s σ H Q I h;exact wpAny_BinOp (pY ha hb I h λv u s2 x y H2 I2 rx ry q=>ho ai s2 σ H2 x y v u Q I2 rx ry q)
theorem Q0 {op:UnaryOp}{r:V->Hp->VK->Prop}(ho:pX X (unaryOp op) r)(ha:PE X a ta):PE X (.UnaryOp op a pos) (P8 r ta):=by
 intro ai s σ H Q I h;exact UnaryOp_ (aM (ha ai s σ H _ I h) λv s1 ⟨x,H1,I1,r1,q1⟩=>ho ai s1 σ H1 x v Q I1 r1 q1)
theorem jM {f:av->av->Sem av}{C:Int->Int->Prop}{g:Int->Int->Int}(rule:∀(i j:Int) (t u:Tok) (s:aw) (Q:av->aw->Prop) (E:av->aw->Prop),C i j->Q (.int (g i j) s.toks) { s with toks:=s.toks+1 }->wpAny (model X.prog X.w) X.A (f (.int i t) (.int j u)) Q E s) :
  bW X f (rI C λi j=>.int (g i j)):=by
 intro ai s σ H x y v u Q I rx ry h
 obtain⟨i,j,rfl,rfl,hc,q⟩:=h
 obtain⟨t,rfl⟩:=rx
 obtain⟨t',rfl⟩:=ry
 exact rule i j t t' s _ _ hc ⟨.int (g i j),H,I.tok _,⟨_,rfl⟩,q⟩
theorem nK {f:av->av->Sem av}{g:Int->Int->Int}(rule:∀(i j:Int) (t u:Tok) (s:aw) (Q:av->aw->Prop) (E:av->aw->Prop),Q (.int (g i j) s.toks) { s with toks:=s.toks+1 }->wpAny (model X.prog X.w) X.A (f (.int i t) (.int j u)) Q E s) :
  bW X f (fD λi j=>.int (g i j)):=by
 intro ai s σ H x y v u Q I rx ry h
 obtain⟨i,j,rfl,rfl,q⟩:=h
 obtain⟨t,rfl⟩:=rx
 obtain⟨t',rfl⟩:=ry
 exact rule i j t t' s _ _ ⟨.int (g i j),H,I.tok _,⟨_,rfl⟩,q⟩
theorem nL {f:av->av->Sem av}{g:Int->Int->Bool}(rule:∀(i j:Int) (t u:Tok) (s:aw) (Q:av->aw->Prop) (E:av->aw->Prop),Q (.bool (g i j)) s->wpAny (model X.prog X.w) X.A (f (.int i t) (.int j u)) Q E s) :
  bW X f (fD λi j=>.bl (g i j)):=by
 intro ai s σ H x y v u Q I rx ry h
 obtain⟨i,j,rfl,rfl,q⟩:=h
 obtain⟨t,rfl⟩:=rx
 obtain⟨t',rfl⟩:=ry
 exact rule i j t t' s _ _ ⟨.bl (g i j),H,I,rfl,q⟩
noncomputable def pZ (i j:Int):Prop:=0<j/\j<1073741824
noncomputable def jN (i j:Int):Prop:=0<=j/\j<=1000000/\i.natAbs<2^64
noncomputable def lD (i j:Int):Prop:=(-(2^64)<i/\i<2^64)∨(-(2^64)<j/\j<2^64)
theorem lD.ok {i j:Int}(h:lD i j):IntMulOk i j:=by
 rcases h with⟨h1,h2⟩|⟨h1,h2⟩
 ·exact .of_left (intBits_le_64 h1 h2)
 ·exact .of_right (intBits_le_64 h1 h2)
theorem Q1 (k:Nat):(0:Int)<=2^k:=by
 rw[two_pow_cast];exact Int.natCast_nonneg _
theorem Q2:bW X (binaryOp .Add) (fD λi j=>.int (i+j)):=nK λ_ _ _ _ _ _ _ q=>add_int q
theorem Q3:bW X (binaryOp .Sub) (fD λi j=>.int (i-j)):=nK λ_ _ _ _ _ _ _ q=>sub_int q
theorem Q4:bW X (binaryOp .Mult) (rI lD λi j=>.int (i*j)):=jM λ_ _ _ _ _ _ _ hc q=>mul_int q hc.ok
theorem Q5:bW X (binaryOp .FloorDiv) (rI pZ λi j=>.int (i/j)):=jM λi j _ _ _ _ _ hc q=>by
 have h1:(0:Int)<j:=hc.1;have h2:j<1073741824:=hc.2;exact floordiv_int (by omega) (by rw[Int.fdiv_eq_ediv_of_nonneg i (by omega)];exact q) (.inl (PyProof.noPylong_small (by omega)))
theorem Q6:bW X (binaryOp .Mod) (rI (λ_ j=>0<j) λi j=>.int (i%j)):=jM λi j _ _ _ _ _ hc q=>by
 have h1:(0:Int)<j:=hc;exact mod_int' (by omega) (by rw[Int.fmod_eq_emod_of_nonneg i (by omega)];exact q)
theorem Q7:bW X (binaryOp .Pow) (rI jN λi j=>.int (i^j.toNat)):=jM λ_ _ _ _ _ _ _ hc q=>pow_int_small hc.1 hc.2.1 hc.2.2 q
theorem Q8:bW X (binaryOp .LShift) (rI jN λi j=>.int (i*2^j.toNat)):=jM λ_ _ _ _ _ _ _ hc q=>lshift_int_small hc.1 hc.2.1 hc.2.2 q
theorem Q9:bW X (binaryOp .RShift) (rI (λ_ j=>0<=j) λi j=>.int (i/2^j.toNat)):=jM λi j _ _ _ _ _ hc q=>
 rshift_int hc (by rw[Int.fdiv_eq_ediv_of_nonneg i (Q1 _)];exact q)
theorem R0:bW X (binaryOp .BitAnd) (fD λi j=>.int (Builtin.bitAnd i j)):=nK λ_ _ _ _ _ _ _ q=>and_int q
theorem R3:bW X (binaryOp .BitOr) (fD λi j=>.int (Builtin.bitOr i j)):=nK λ_ _ _ _ _ _ _ q=>or_int q
theorem R4 {f:av->Sem av}{g:Int->Int}(rule:∀(i:Int) (t:Tok) (s:aw) (Q:av->aw->Prop) (E:av->aw->Prop),Q (.int (g i) s.toks) { s with toks:=s.toks+1 }->wpAny (model X.prog X.w) X.A (f (.int i t)) Q E s) :
  pX X f (rU λi=>.int (g i)):=by
 intro ai s σ H x v Q I rx h
 obtain⟨i,rfl,q⟩:=h
 obtain⟨t,rfl⟩:=rx
 exact rule i t s _ _ ⟨.int (g i),H,I.tok _,⟨_,rfl⟩,q⟩
theorem R5:pX X (unaryOp .USub) (rU λi=>.int (-i)):=R4 λ_ _ _ _ _ q=>neg_int q
end
noncomputable def uZ:V->V->Bool
 |.non,.non=>true|.non,.int _=>true|.int _,.non=>true|.non,.bl _=>true|.bl _,.non=>true|.non,.str _=>true|.str _,.non=>true
 |.int _,.int _=>true|.bl _,.bl _=>true|.str _,.str _=>true|.byt _,.byt _=>true
 |.int _,.str _=>true|.str _,.int _=>true|.bl _,.str _=>true|.str _,.bl _=>true
 |_,_=>false
noncomputable def v0:R2:=λx y H Q=>uZ x y=true/\Q (.bl (decide (x=y))) H
noncomputable def v5:R2:=λx y H Q=>uZ x y=true/\Q (.bl (!decide (x=y))) H
theorem v6 {i j:Int}:decide (V.int i=V.int j)=(i==j):=by
 rw[aN6];simp
theorem v7 {i j:Bool}:decide (V.bl i=V.bl j)=(i==j):=by
 rw[aN6];simp
theorem v8 {i j:Str}:decide (V.str i=V.str j)=(i==j):=by
 rw[aN6];simp
theorem v9 {i j:Array UInt8}:decide (V.byt i=V.byt j)=(i.toList==j.toList):=by
 rw[aN6];cases i;cases j;simp
section
variable {X:Cx}{a b c:Expr}{ta tb tc:TE}{pos:Pos}
theorem bT {ai:List (ax×Obj)}{σ:St}{H:Hp}{s:aw}{Q:VK}{k k':Bool}(I:aA X ai σ H s)(q:Q (.bl k) H)(e:k=k'):EP X ai σ Q (.bool k') s:=by
 subst e
 exact⟨.bl k,H,I,rfl,q⟩
theorem vA:bW X (compareOp .Eq) v0:=by
 intro ai s σ H x y v u Q I rx ry h
 obtain⟨hs,q⟩:=h
 cases x with
 |non=>
  cases rx;cases y with
  |non=>cases ry;exact PySem.EqNone.eq_none_none (bT I q (by simp))
  |bl j=>cases ry;exact PySem.EqNone.eq_none_bool (bT I q (by simp))
  |int j=>obtain⟨t',rfl⟩:=ry;exact PySem.EqNone.eq_none_int (bT I q (by simp))
  |str j=>obtain⟨t',rfl⟩:=ry;exact PySem.EqNone.eq_none_str (bT I q (by simp))
  |_=>exact absurd (show false=true from hs) aF1
 |bl i=>
  cases rx;cases y with
  |non=>cases ry;exact PySem.EqNone.eq_bool_none (bT I q (by simp))
  |bl j=>cases ry;exact eq_bool (bT I q v7)
  |str j=>obtain⟨t',rfl⟩:=ry;exact PySem.EqMixed.eq_bool_str (bT I q (by simp))
  |_=>exact absurd (show false=true from hs) aF1
 |int i=>
  obtain⟨t,rfl⟩:=rx
  cases y with
  |non=>cases ry;exact PySem.EqNone.eq_int_none (bT I q (by simp))
  |int j=>obtain⟨t',rfl⟩:=ry;exact eq_int (bT I q v6)
  |str j=>obtain⟨t',rfl⟩:=ry;exact PySem.EqMixed.eq_int_str (bT I q (by simp))
  |_=>exact absurd (show false=true from hs) aF1
 |str i=>
  obtain⟨t,rfl⟩:=rx
  cases y with
  |non=>cases ry;exact PySem.EqNone.eq_str_none (bT I q (by simp))
  |bl j=>cases ry;exact PySem.EqMixed.eq_str_bool (bT I q (by simp))
  |int j=>obtain⟨t',rfl⟩:=ry;exact PySem.EqMixed.eq_str_int (bT I q (by simp))
  |str j=>obtain⟨t',rfl⟩:=ry;exact eq_str (bT I q v8)
  |_=>exact absurd (show false=true from hs) aF1
 |byt i=>
  obtain⟨t,rfl⟩:=rx
  cases y with
  |byt j=>obtain⟨t',rfl⟩:=ry;exact PySem.W.eq_bytes (bT I q v9)
  |_=>exact absurd (show false=true from hs) aF1
 |_=>cases y<;>exact absurd (show false=true from hs) aF1
theorem R6:bW X (compareOp .NotEq) v5:=by
 intro ai s σ H x y v u Q I rx ry h
 obtain⟨hs,q⟩:=h
 cases x with
 |non=>
  cases rx;cases y with
  |non=>cases ry;exact PySem.EqNone.ne_none_none (bT I q (by simp))
  |bl j=>cases ry;exact PySem.EqNone.ne_none_bool (bT I q (by simp))
  |int j=>obtain⟨t',rfl⟩:=ry;exact PySem.EqNone.ne_none_int (bT I q (by simp))
  |str j=>obtain⟨t',rfl⟩:=ry;exact PySem.EqNone.ne_none_str (bT I q (by simp))
  |_=>exact absurd (show false=true from hs) aF1
 |bl i=>
  cases rx;cases y with
  |non=>cases ry;exact PySem.EqNone.ne_bool_none (bT I q (by simp))
  |bl j=>cases ry;exact ne_bool (bT I q (congrArg not v7))
  |str j=>obtain⟨t',rfl⟩:=ry;exact PySem.EqMixed.ne_bool_str (bT I q (by simp))
  |_=>exact absurd (show false=true from hs) aF1
 |int i=>
  obtain⟨t,rfl⟩:=rx
  cases y with
  |non=>cases ry;exact PySem.EqNone.ne_int_none (bT I q (by simp))
  |int j=>obtain⟨t',rfl⟩:=ry;exact ne_int (bT I q (congrArg not v6))
  |str j=>obtain⟨t',rfl⟩:=ry;exact PySem.EqMixed.ne_int_str (bT I q (by simp))
  |_=>exact absurd (show false=true from hs) aF1
 |str i=>
  obtain⟨t,rfl⟩:=rx
  cases y with
  |non=>cases ry;exact PySem.EqNone.ne_str_none (bT I q (by simp))
  |bl j=>cases ry;exact PySem.EqMixed.ne_str_bool (bT I q (by simp))
  |int j=>obtain⟨t',rfl⟩:=ry;exact PySem.EqMixed.ne_str_int (bT I q (by simp))
  |str j=>obtain⟨t',rfl⟩:=ry;exact ne_str (bT I q (congrArg not v8))
  |_=>exact absurd (show false=true from hs) aF1
 |byt i=>
  obtain⟨t,rfl⟩:=rx
  cases y with
  |byt j=>obtain⟨t',rfl⟩:=ry;exact PySem.W.ne_bytes (bT I q (congrArg not v9))
  |_=>exact absurd (show false=true from hs) aF1
 |_=>cases y<;>exact absurd (show false=true from hs) aF1
theorem R7:bW X (compareOp .Lt) (fD λi j=>.bl (decide (i<j))):=nL λ_ _ _ _ _ _ _ q=>lt_int q
theorem R8:bW X (compareOp .LtE) (fD λi j=>.bl (decide (i<=j))):=nL λ_ _ _ _ _ _ _ q=>le_int q
theorem R9:bW X (compareOp .Gt) (fD λi j=>.bl (decide (j<i))):=nL λ_ _ _ _ _ _ _ q=>gt_int q
theorem S0:bW X (compareOp .GtE) (fD λi j=>.bl (decide (j<=i))):=nL λ_ _ _ _ _ _ _ q=>ge_int q
theorem iU (b:Expr){op:CmpOp}(h:op≠.In:=by decide)(h2:op≠.NotIn:=by decide):behindInMarks op b=false:=by
 have e1:(op==CmpOp.In)=false:=by cases op<;>first|rfl|exact absurd rfl h
 have e2:(op==CmpOp.NotIn)=false:=by cases op<;>first|rfl|exact absurd rfl h2
 cases b<;>simp[behindInMarks,e1,e2]
theorem S2 {op:CmpOp}{r:R2}(ho:bW X (compareOp op) r)(ha:PE X a ta)(hb:PE X b tb)(hm:behindInMarks op b=false):PE X (.Compare a [op] [b] pos) (lC r ta tb):=by
 intro ai s σ H Q I h;exact wpAny_Compare1 (pY ha hb I h λv u s2 x y H2 I2 rx ry q=>ho ai s2 σ H2 x y v u Q I2 rx ry q) hm
noncomputable def S3 (t:TE):TT:=λσ H Q=>t σ H λx H'=>∃k,x = .bl k/\Q k H'
theorem S4 {op:CmpOp}{r:R2}(ho:bW X (compareOp op) r)(ha:PE X a ta)(hb:PE X b tb)(hm:behindInMarks op b=false):PT X (.Compare a [op] [b] pos) (S3 (lC r ta tb)):=by
 intro ai s σ H Q I h
 refine wpAny_isTrue_Compare1 (aM (ha ai s σ H _ I h) λv s1 ⟨x,H1,I1,r1,q1⟩=>aM (hb ai s1 σ H1 _ I1 q1) λu s2 ⟨y,H2,I2,r2,q2⟩=>
  aM (ho ai s2 σ H2 x y v u _ I2 r1 r2 q2) λc s3 ⟨z,H3,I3,r3,k,e,q3⟩=>?_) hm
 subst e;cases r3;exact aK5 ⟨H3,I3,q3⟩
noncomputable def qA (K:ad)(x:V)(H:Hp)(k:Bool):Prop:=
 match x with
 |.non=>k=false
 |.bl b=>k=b
 |.int i=>k=(i != 0)
 |.str y=>y.length<=sizeLine/\k=((y.length:Int) != 0)
 |.byt y=>y.size<=sizeLine/\k=((y.size:Int) != 0)
 |.ref p=>(∃xs,b7 K H p xs/\k = !xs.isEmpty)∨(∃xs,aY K H p xs/\k = !xs.isEmpty)∨∃kvs,H p=some (.dK kvs)/\k = !kvs.isEmpty
 |_=>False
theorem S5 {κ:Type}{kvs:List (κ×V)}{vs:List (κ×av)}(r:KV kvs vs):(!vs.isEmpty) = !kvs.isEmpty:=by
 cases r<;>rfl
theorem vB {xs:List V}{its:List av}(r:aP xs its):(!its.toArray.isEmpty) = !xs.isEmpty:=by
 cases r<;>simp
theorem jO:(sizeLine:Nat)<2^63:=by rw[sizeLine_eq];decide
theorem S6:P7 X (λx H Q=>∃k,qA X.K x H k/\Q k H):=by
 intro ai s σ H x v Q I rx h
 obtain⟨k,e,q⟩:=h
 have hl:=jO;have hs:sizeLine=16777216:=sizeLine_eq;cases x with
 |non=>
  cases rx;have e':k=false:=e;subst e';exact truthy_none ⟨H,I,q⟩
 |bl b=>
  cases rx;have e':k=b:=e;subst e';exact aK5 ⟨H,I,q⟩
 |int i=>
  obtain⟨t,rfl⟩:=rx
  have e':k=(i != 0):=e;subst e';exact PySem.P.truthy_int ⟨H,I,q⟩
 |str y=>
  obtain⟨t,rfl⟩:=rx
  obtain⟨hy,e'⟩:y.length<=sizeLine/\k=((y.length:Int) != 0):=e
  subst e';exact PySem.P.truthy_str (by omega) ⟨H,I.tok _,q⟩
 |byt y=>
  obtain⟨t,rfl⟩:=rx
  obtain⟨hy,e'⟩:y.size<=sizeLine/\k=((y.size:Int) != 0):=e
  subst e';exact PySem.W.truthy_bytes (by omega) ⟨H,I.tok _,q⟩
 |ref p=>
  cases rx;have e':(∃xs,b7 X.K H p xs/\k = !xs.isEmpty)∨(∃xs,aY X.K H p xs/\k = !xs.isEmpty)∨∃kvs,H p=some (.dK kvs)/\k = !kvs.isEmpty:=e
  rcases e' with⟨xs,hx,e'⟩|⟨xs,hx,e'⟩|⟨kvs,hx,e'⟩
  ·subst e'
   obtain⟨its,r,pl,hz⟩:=I.list hx
   have ao:=r.length;exact wpAny_truthy_list pl.isList (by simp only[aD9];omega) ⟨H,I.tok _,by rw[vB r];exact q⟩
  ·subst e'
   obtain⟨its,r,pl,hz⟩:=I.tuple hx
   have ao:=r.length;exact truthy_tuple pl (by simp only[aD9];omega) ⟨H,I.tok _,by rw[vB r];exact q⟩
  ·subst e'
   obtain⟨hz,hS,vs,r,m⟩:kvs.length<=sizeLine/\(p==sysModules)=false/\∃vs,KV kvs vs/\s.heap.DictOf (n6 X.prog X.w) p vs:=I.hok p _ hx
   have ao:kvs.length=vs.length:=Paired.length r;exact wpAny_truthy_dict hS m (by omega) ⟨H,I.tok _,by rw[S5 r];exact q⟩
 |_=>exact (show False from e).elim
theorem S7 (ha:PE X a ta)(he:∀whole,isTrue a X.env whole=(do let v <- whole;standAt a.pos;holding [v] (truthy v))) :
  PT X a (λσ H Q=>ta σ H λx H'=>∃k,qA X.K x H' k/\Q k H'):=by
 intro ai s σ H Q I h;exact isTrue_plain (aM (ha ai s σ H _ I h) λv s1 ⟨x,H1,I1,r1,q1⟩=>S6 ai s1 σ H1 x v Q I1 r1 q1) (he _)
theorem gZ {x:V}{us:List av}(r:aP [x] us):∃u,us = [u]/\aR x u:=by
 cases r with
 |cons r1 r2=>cases r2;exact⟨_,rfl,r1⟩
theorem nM {x y:V}{us:List av}(r:aP [x,y] us):∃u w',us = [u,w']/\aR x u/\aR y w':=by
 cases r with
 |cons r1 r2=>
  cases r2 with
  |cons r3 r4=>cases r4;exact⟨_,_,rfl,r1,r3⟩
theorem S8 (hc:X.calm=true):cR X (.builtin "min") (λxs H Q=>∃i j,xs = [.int i,.int j]/\Q (.int (if j<i then j else i)) H):=by
 intro ai s σ H xs us Q I r h
 obtain⟨i,j,rfl,q⟩:=h
 obtain⟨u,w',rfl,⟨t,rfl⟩,⟨t',rfl⟩⟩:=nM r
 refine min_two_ints (I.ok.hd hc) λh' tk k=>⟨_,H,I.kept k,?_,q⟩
 by_cases hj:j<i
 ·rw[if_pos hj,if_pos hj];exact⟨_,rfl⟩
 ·rw[if_neg hj,if_neg hj];exact⟨_,rfl⟩
theorem S9:cR X (.type "int") (λxs H Q=>(∃i,xs = [.int i]/\Q (.int i) H)∨∃k,xs = [.bl k]/\Q (.int (if k then 1 else 0)) H):=by
 intro ai s σ H xs us Q I r h;rcases h with⟨i,rfl,q⟩|⟨k,rfl,q⟩
 ·obtain⟨u,rfl,t,rfl⟩:=gZ r
  exact call_int_int ⟨.int i,H,I,⟨_,rfl⟩,q⟩
 ·obtain⟨u,rfl,r1⟩:=gZ r
  cases r1;exact call_int_bool ⟨.int (if k then 1 else 0),H,I.tok _,⟨_,rfl⟩,q⟩
end
structure qB (h:Heap)(x dx C:ax)(mA:Str->Option av):Prop where
 obj:h.get? x=some (PySem.W.instObj C dx)
 ns:h.Ns1 dx mA
 ne:dx≠x
theorem T0 {h:Heap}{dx:ax}{mA:Str->Option av}(n:h.Ns1 dx mA):∃od,h.get? dx=some od/\∀name,PySem.W.lookIn name od=some (mA name):=by
 obtain⟨o,es,ep,ho,hd,hk,_,hm⟩:=n
 refine⟨o,ho,λname=>?_⟩;have e:=hm name;unfold nsFind findBy at e;rw[<- Array.find?_toList]at e;unfold PySem.W.lookIn;rw[hd];dsimp only;split
 ·rename_i y q
  rw[q]at e;exact congrArg some e
 ·rename_i q
  rw[q]at e;have a:es.toList.any (·.refKey)=false:=by
   rw[List.any_eq_false];intro y hy
   obtain⟨z,t,hkey⟩:=hk y (Array.mem_toList_iff.mp hy)
   simp[DictEntry.refKey,hkey]
  have a':¬es.toList.any (·.refKey)=true:=by rw[a];exact aF1
  rw[if_neg a'];exact congrArg some e
theorem qB.look {h:Heap}{x dx C:ax}{mA:Str->Option av}(I:qB h x dx C mA):∃od,PySem.W.InstAt h x (PySem.W.instObj C dx) C (some od)/\∀name,PySem.W.lookIn name od=some (mA name):=
 let ⟨od,ho,hl⟩:=T0 I.ns
 ⟨od,⟨I.obj,rfl,rfl,ho⟩,hl⟩
theorem fV.some_of {v:V}{o:Option av}(r:fV (some v) o):∃u,o=some u/\aR v u:=by
 cases o with
 |none=>exact (show False from r).elim
 |some u=>exact⟨u,rfl,r⟩
section
variable {P:ay}{w:ba}{H H':Hp}{h h':Heap}{a C dx:ax}{fs fs':List (Str×V)}
theorem T1 (hok:bJ P w H h)(e:H a=some (.ins C dx fs)):∃mA,qB h a dx C mA/\(∀f,fV (fs.lookup f) (mA f))/\PySem.Within mA (fs.map (·.1))/\fs.length<=1000/\H dx=some (.own a):=by
 obtain⟨d,z,ne,ob,mA,n,r,q⟩:=(show bG P w H h a (.ins C dx fs) from hok a _ e)
 exact⟨mA,⟨ob,n,ne⟩,r,q,z,d⟩
end
structure qD (K:ad)(C:ax):Prop where
 pg:PySem.W.plainGet K C Str.empty=true
 hd:PySem.W.hasDictIn K C=true
 po:PySem.W.plainOver K C=true
 sa:PySem.W.findIn K (.ref C) "__setattr__" = some (some (.builtin "object.__setattr__"))
theorem qD.get {K:ad}{C:ax}(c:qD K C)(f:Str):PySem.W.plainGet K C f=true:=c.pg
section
variable {X:Cx}{ai:List (ax×Obj)}{σ:St}{H:Hp}{s:aw}{A:az}{E:av→aw→Prop}{Q:av→aw→Prop}{c:av}{b:Bool}
inductive e9 (K:ad)(H:Hp):V->av->Prop where
 |non:e9 K H .non (.type "NoneType")
 |bl (x:Bool):e9 K H (.bl x) (.type "bool")
 |int (i:Int):e9 K H (.int i) (.type "int")
 |str (x:Str):e9 K H (.str x) (.type "str")
 |flt (x:UInt64):e9 K H (.flt x) (.type "float")
 |lst {a:ax}{xs:List V} (e:H a=some (.lst xs)):e9 K H (.ref a) (.type "list")
 |frz {a:ax}{o:Obj}{xs:List V} (e:H a=some (.frz o (.lst xs))):e9 K H (.ref a) (.type "list")
 |tup {a:ax}{xs:List V} (e:H a=some (.tup xs)):e9 K H (.ref a) (.type "tuple")
 |dK {a:ax}{kvs:List (bL×V)} (e:H a=some (.dK kvs)):e9 K H (.ref a) (.type "dict")
 |dT {a:ax}{kvs:List (List bL×V)} (e:H a=some (.dT kvs)):e9 K H (.ref a) (.type "dict")
 |ins {a C dx:ax}{fs:List (Str×V)} (e:H a=some (.ins C dx fs)) (cl:qD K C) (ha:PySem.W.findIn K (.ref C) "__class__" = some (some (.builtin "object.__class__")))
   (hn:PySem.W.specialIn K (.builtin "object.__class__") "__get__" = some (some (.builtin "getset_descriptor.__get__"))) (htk:PySem.W.takesIn K (.builtin "object.__class__")=some true)
   (hm:PySem.W.mroIn K C (.type "object")=some true):e9 K H (.ref a) (.ref C)
theorem T2 {x:V}{u t:av}(I:aA X ai σ H s)(rx:aR x u)(ty:e9 X.K H x t)(e:PySem.W.kitOne X.K t c=some b)(h:∀tk,Q (.bool b) { s with toks:=tk }) :
  wpAny (model X.prog X.w) A (call (.builtin "isinstance") [u,c]) Q E s:=by
 cases ty with
 |non=>cases (show u=Value.none from rx);exact aI8 PySem.W.kitx_none I.kIn aO7 e (λz=>nomatch z) h
 |bl y=>cases (show u=Value.bool y from rx);exact aI8 PySem.W.kitx_bool I.kIn aO7 e (λz=>nomatch z) h
 |int i=>obtain⟨t,q⟩:=(show ∃t,u=Value.int i t from rx);cases q;exact aI8 PySem.W.kitx_int I.kIn aO7 e (λz=>nomatch z) h
 |str y=>obtain⟨t,q⟩:=(show ∃t,u=Value.str y t from rx);cases q;exact aI8 PySem.W.kitx_str I.kIn aO7 e (λz=>nomatch z) h
 |flt y=>obtain⟨t,q⟩:=(show ∃t,u=Value.float y t from rx);cases q;exact aI8 PySem.W.kitx_float I.kIn aO7 e (λz=>nomatch z) h
 |@lst a xs ea=>
  cases (show u=Value.ref a from rx)
  obtain⟨_,_,n,_,h1⟩:=(show bG X.prog X.w H s.heap a (.lst xs) from I.hok a _ ea)
  exact aI8 PySem.W.kitx_list I.kIn ⟨_,h1,rfl⟩ e (λz=>nomatch z) h
 |@frz a ob xs ea=>
  cases (show u=Value.ref a from rx)
  obtain⟨_,_,_,n,_,h1⟩:=(show bG X.prog X.w H s.heap a (.frz ob (.lst xs)) from I.hok a _ ea)
  exact aI8 PySem.W.kitx_list I.kIn ⟨_,h1,rfl⟩ e (λz=>nomatch z) h
 |@tup a xs ea=>
  cases (show u=Value.ref a from rx)
  obtain⟨_,_,_,p,_⟩:=(show bG X.prog X.w H s.heap a (.tup xs) from I.hok a _ ea)
  obtain⟨o,h1,h2,_⟩:=p
  exact aI8 PySem.W.kitx_tuple I.kIn ⟨o,h1,h2⟩ e (λz=>nomatch z) h
 |@dK a kvs ea=>
  cases (show u=Value.ref a from rx)
  obtain⟨_,_,vs,_,p⟩:=(show bG X.prog X.w H s.heap a (.dK kvs) from I.hok a _ ea)
  obtain⟨o,es,ep,h1,h2,_⟩:=p
  exact aI8 PySem.W.kitx_dict I.kIn ⟨o,h1,h2.1⟩ e (λz=>nomatch z) h
 |@dT a kvs ea=>
  cases (show u=Value.ref a from rx)
  obtain⟨_,_,xs,_,o,es,ep,h1,h2,_⟩:=(show bG X.prog X.w H s.heap a (.dT kvs) from I.hok a _ ea)
  exact aI8 PySem.W.kitx_dict I.kIn ⟨o,h1,h2.1⟩ e (λz=>nomatch z) h
 |@ins a C dx fs ea cl ha hn htk hm=>
  cases (show u=Value.ref a from rx)
  obtain⟨mA,O,_⟩:=T1 I.hok ea
  obtain⟨od,J,_⟩:=O.look
  exact aI8 (PySem.W.kitx_own (cl.get _) cl.hd ha hn htk hm) I.kIn J e (λz=>nomatch z) h
end
structure bI (k:Nat)(A:az):Prop where
 hd:A.handled=none
 dp:A.depth+3*k+5<recursionLimit
 un:A.units+16*k+200<cLine
theorem bI.mono {j k:Nat}{A:az}(r:bI k A)(h:j<=k):bI j A:=⟨r.hd,by have:=r.dp;omega,by have:=r.un;omega⟩
theorem bI.deeper {k:Nat}{A:az}(r:bI (k+1) A)(env:Env):bI k (A.deeper env):=
 ⟨r.hd,by have:=r.dp;show A.depth+1+3*k+5<_;omega,by have:=r.un;show A.units+3+16*k+200<_;omega⟩
theorem bI.depth {k:Nat}{A:az}(r:bI k A):A.depth<recursionLimit:=by have:=r.dp;omega
theorem bI.units {k:Nat}{A:az}(r:bI k A):A.units+64<cLine:=by have:=r.un;omega
noncomputable def iB:TA:=λ_ H Q=>Q [] H
noncomputable def eC (ta:TE)(tr:TA):TA:=λσ H Q=>ta σ H λx H1=>tr σ H1 λxs H2=>Q (x::xs) H2
section
variable {X:Cx}{e:Expr}{es:List Expr}{te:TE}{t:TA}{pos:Pos}
theorem iC:PA X [] iB:=λ_ _ _ _ H Q I h=>Calls.spliced_nil ⟨[],H,I,.nil,h⟩
theorem dP (ha:PE X e te)(hr:PA X es t)(hs:starEach (e::es) X.env=(false,eval e X.env)::starEach es X.env:=by rfl):PA X (e::es) (eC te t):=by
 intro pos ai s σ H Q I h;rw[hs];show wpAny _ _ (spliced ((false,eval e X.env)::backTo pos (starEach es X.env))) _ _ s;refine Calls.spliced_cons (aM (ha ai s σ H _ I h) λu s1 ⟨x,H1,I1,r1,q1⟩=>?_);exact aM (hr pos ai s1 σ H1 _ I1 q1) λus s2 ⟨xs,H2,I2,r2,q2⟩=>⟨x::xs,H2,I2,.cons r1 r2,q2⟩
noncomputable def vC (t:TA):TE:=λσ H Q=>t σ H λxs H1=>xs.length<=sizeLine/\∀p,H1 p=none->Q (.ref p) (upd H1 p (.tup xs))
noncomputable def vD (t:TA):TE:=λσ H Q=>t σ H λxs H1=>xs.length<=sizeLine/\∀p,H1 p=none->Q (.ref p) (upd H1 p (.lst xs))
theorem T3 {x1}(h:PA X es t):PE X (.Tuple es x1 pos) (vC t):=by
 intro ai s σ H Q I hq;refine wpAny_Tuple_spliced (aM (h pos ai s σ H _ I hq) λus s1 ⟨xs,H1,I1,r,z,q⟩=>⟨by rw[<- r.length];exact z,?_⟩);have hf:H1 s1.heap.objs.size=none:=I1.hok.fresh (aF0 _);refine⟨.ref s1.heap.objs.size,upd H1 s1.heap.objs.size (.tup xs),I1.laid (t':=s1.toks) (λb u e=>aE1 _ e) (aF0 _) ?_,rfl,q _ hf⟩
 exact⟨z,us,r,⟨_,aF3 _ rfl,rfl,_,rfl⟩,gH.new _ _ rfl⟩
theorem T4 (h:PA X es t):PE X (.List es pos) (vD t):=by
 intro ai s σ H Q I hq;refine wpAny_List_spliced (aM (h pos ai s σ H _ I hq) λus s1 ⟨xs,H1,I1,r,z,q⟩=>⟨by rw[<- r.length];exact z,?_⟩);have hf:H1 s1.heap.objs.size=none:=I1.hok.fresh (aF0 _);refine⟨.ref s1.heap.objs.size,upd H1 s1.heap.objs.size (.lst xs),I1.laid (t':=s1.toks) (λb u e=>aE1 _ e) (aF0 _) ?_,rfl,q _ hf⟩
 exact⟨z,us,0,r,aF3 _ rfl⟩
end
noncomputable abbrev Sp:=List V->Hp->VK->XK->Prop
noncomputable abbrev dG:=List Env->Hp->aw->XK->av->aw->Prop
structure lE (P:ay)(w:ba)(K:ad)(mg:Str->Option av)(base:Heap)(A:az)(outer:List Env)(s:aw)(H:Hp):Prop where
 frames:A.frames=some outer
 mod:Mod K mg base
 bs:∀b o,base.get? b=some o->s.heap.get? b=some o/\H b=none
 bsz:base.objs.size<=s.heap.objs.size
 funs:s.heap.FunFrames base outer
 frf:∀b∈bS outer,H b=none
 hok:bJ P w H s.heap
 bare:AllBare s.gens
noncomputable def CE (outer:List Env)(P:ay)(w:ba)(H:Hp)(s:aw)(Q:VK)(u:av)(s':aw):Prop:=
 ∃v H',s'.os=s.os/\AllBare s'.gens/\Un (bS outer) [] H H' s.heap s'.heap/\bJ P w H' s'.heap/\aR v u/\Q v H'
noncomputable def CR (CX:dG)(outer:List Env)(P:ay)(w:ba)(H:Hp)(s:aw)(Q:VK)(E:XK)(r:Result)(s':aw):Prop:=
 match r with
 |.ok (.ret u)=>CE outer P w H s Q u s'
 |.ok _=>False
 |.error e=>CX outer H s E e s'
structure cK (P:ay)(w:ba)(K:ad)(mg:Str->Option av)(base:Heap)(CX:dG)(k:Nat)(f:ax)(fd:FuncData)(ps:List Str)(sp:Sp):Prop where
 len:∀vs H Q E,sp vs H Q E->vs.length=ps.length
 run:∀(A:az) (outer:List Env) (s:aw) (H:Hp) (args:Args) (us:List av) (vs:List V) (Q:VK) (E:XK),bI k A->lE P w K mg base A outer s H->BindsTo s fd args (ps.zip us)->aP vs us->sp vs H Q E->
  codeAny (model P w) A (.call (.ref f) args) (CR CX outer P w H s Q E) s
theorem cK.imp {P:ay}{w:ba}{K:ad}{mg:Str->Option av}{base:Heap}{CX:dG}{k:Nat}{f:ax}{fd:FuncData}{ps:List Str}{sp sp':Sp}(F:cK P w K mg base CX k f fd ps sp)(h:∀vs H Q E,sp' vs H Q E->sp vs H Q E):cK P w K mg base CX k f fd ps sp':=
 ⟨λvs H Q E q=>F.len vs H Q E (h _ _ _ _ q),λA outer s H args us vs Q E hr he hb hv hs=>F.run A outer s H args us vs Q E hr he hb hv (h _ _ _ _ hs)⟩
section
variable {X:Cx}{ai:List (ax×Obj)}{σ:St}{H:Hp}{s s':aw}
theorem aA.env0 (I:aA X ai σ H s):lE X.prog X.w X.K X.mg X.base X.A X.stack s H:=
 ⟨I.ok.frames,I.ok.mod,I.bs,aH0 I.ok.bsz I.sz,I.stack,I.stkFree,I.hok,I.bare⟩
theorem aA.after {Q:VK}{u:av}(I:aA X ai σ H s)(h:CE X.stack X.prog X.w H s Q u s'):EP X ai σ Q u s':=by
 obtain⟨v,H',os,bare,un,hok,r,q⟩:=h
 obtain⟨hh,g,d,t,os'⟩:=s'
 obtain rfl:os'=s.os:=os
 exact⟨v,H',I.call (h':=hh) (g':=g) (d':=d) (t':=t) (ch:=[]) un hok bare (λb z=>absurd z (by simp)),r,q⟩
end
noncomputable def jP (sp:Sp)(dvs:List V)(E:XK)(t:TA):TE:=λσ H Q=>t σ H λvs H1=>sp (vs++dvs) H1 Q E
noncomputable def fW (K:ad)(fd:FuncData)(ps:List Str)(ds:List av):Prop:=
 ∀(s:aw) (us:List av),K.In s.heap->(us++ds).length=ps.length->BindsTo s fd ⟨us,[]⟩ (ps.zip (us++ds))
theorem fW.all {K:ad}{fd:FuncData}{ps:List Str}(h:∀us:List av,us.length=ps.length->bindArgs fd ⟨us,[]⟩=pure (ps.zip us)):fW K fd ps []:=λs us _ hl=>by
 rw[aN7]at hl ⊢;exact .of_eq (h us hl)
noncomputable def iV (CX:dG)(X:Cx)(E:XK):Prop:=∀(ai:List (ax×Obj)) (σ:St) (H:Hp) (s:aw) (e:av) (s':aw),aA X ai σ H s->CX X.stack H s E e s'->X.xe e s'
section
variable {X:Cx}{CX:dG}{k:Nat}{f C:ax}{fd:FuncData}{ps:List Str}{sp:Sp}{dvs:List V}{ds:List av}{E:XK}{x m:Str}{p pos aj:Pos}{e o:Expr}{es:List Expr}{ta:TE}{t:TA}
theorem vE {ai:List (ax×Obj)}{σ:St}{H:Hp}{s:aw}{Q:VK}{us:List av}{vs:List V}(F:cK X.prog X.w X.K X.mg X.base CX k f fd ps sp)(hr:bI k X.A)(hb:fW X.K fd ps ds)(hd:aP dvs ds)(hx:iV CX X E)(I:aA X ai σ H s)(r:aP vs us)(h:sp (vs++dvs) H Q E):wpAny (model X.prog X.w) X.A (call (.ref f) us) (EP X ai σ Q) X.xe s:=by
 have r2:aP (vs++dvs) (us++ds):=r.append hd;have hl:(us++ds).length=ps.length:=by rw[<- r2.length];exact F.len _ _ _ _ h
 refine wpAny_call (codeAny_mono (F.run X.A X.stack s H ⟨us,[]⟩ (us++ds) (vs++dvs) Q E hr I.env0 (hb s us I.kIn hl) r2 h) λr s' hq=>?_);cases r with
 |error e=>exact hx ai σ H s e s' I hq
 |ok fl=>
  cases fl with
  |ret u=>exact I.after hq
  |next=>exact False.elim hq
  |brk=>exact False.elim hq
  |cont=>exact False.elim hq
theorem lG (F:cK X.prog X.w X.K X.mg X.base CX k f fd ps sp)(hr:bI k X.A)(hg:Gl X x)(hm:X.mg x=some (.ref f))(hk:PySem.W.keepIn X.K (.ref f)=true)(hb:fW X.K fd ps ds)(hd:aP dvs ds)(hx:iV CX X E)(ha:PA X (e::es) t)(hdb:(x==("__debug__":Str))=false:=by decide)(he:starEach (e::es) X.env=(false,eval e X.env)::starEach es X.env:=by rfl)(hpl:(backTo pos (starEach es X.env)).any (·.1)=false:=by rfl) :
  PE X (.Call (.Name x p) (e::es) [] pos) (jP sp dvs E t):=by
 intro ai s σ H Q I h;refine wpAny_Call_Name_kw (nA I hg hm ?_ hdb);refine PySem.W.callWith_K (h₀:=X.base) I.ok.mod.kin hk (aM (ha pos ai s σ H _ I h) λus s1 ⟨vs,H1,I1,r,q⟩=>⟨I1.kIn,?_⟩) he hpl;exact vE F hr hb hd hx I1 r q
end
noncomputable def PK (X:Cx)(kws:List Keyword)(t:TA):Prop:=
 ∀(pos:Pos) (ai:List (ax×Obj)) (s:aw) (σ:St) (H:Hp) (Q:List V->Hp->Prop),aA X ai σ H s->t σ H Q->wpAny (model X.prog X.w) X.A (evalAll ((backToKw pos (keywordEach kws X.env)).map (·.2))) (AP X ai σ Q) X.xe s
structure FnScope (N P:List Str)(sc:Scope):Prop where
 kind:sc.kind = .function
 co:sc.isCoroutine=false
 gen:sc.isGenerator=false
 nd:N.Nodup
 pre:N.take P.length=P
 par:∀x∈P,sc.names.lookup x=some .local∨sc.names.lookup x=some .cell
 nofree:∀y∈sc.names,y.2≠.free
theorem vF {kindOf:Str->Option NameKind}{x:Str}:∀{binds:List (Str×av)}{m:Str->Option av},(∀v,(x,v)∉binds)->bindL kindOf binds m x=m x
 |[],_,_=>rfl
 |(n,v)::r,m,h=>by
  unfold bindL;rw[vF λw hw=>h w (aF2 _ hw)];split
  ·have:x≠n:=by rintro rfl;exact h v aE0
   simp[this]
  ·rfl
theorem vG {kindOf:Str->Option NameKind}{x:Str}:∀{binds:List (Str×av)}{m:Str->Option av},(∀v,(x,v)∉binds)->bindC kindOf binds m x=m x
 |[],_,_=>rfl
 |(n,v)::r,m,h=>by
  unfold bindC;rw[vG λw hw=>h w (aF2 _ hw)];split
  ·rfl
  ·have:x≠n:=by rintro rfl;exact h v aE0
   simp[this]
theorem vH {kindOf:Str->Option NameKind}{x:Str}{v:av}:∀{P:List Str}{vs:List av}{i:Nat}{m:Str->Option av},P.Nodup->P[i]? = some x->vs[i]? = some v->kindOf x=some .local->
  bindL kindOf (P.zip vs) m x=some v
 |[],_,_,_,_,h,_,_=>by simp at h
 |_::_,[],_,_,_,_,h,_=>by simp at h
 |p::P,w::vs,0,m,nd,h1,h2,hk=>by
  simp at h1 h2;subst h1;subst h2;show bindL kindOf ((p,w)::P.zip vs) m p=_;unfold bindL;rw[vF λv hv=>(aI9.mp nd).1 (List.of_mem_zip hv).1,if_pos hk];simp
 |p::P,w::vs,i+1,m,nd,h1,h2,hk=>by
  show bindL kindOf ((p,w)::P.zip vs) m x=_;unfold bindL;exact vH (i:=i) (aI9.mp nd).2 (by simpa using h1) (by simpa using h2) hk
theorem vI {kindOf:Str->Option NameKind}{x:Str}{v:av}:∀{P:List Str}{vs:List av}{i:Nat}{m:Str->Option av},P.Nodup->P[i]? = some x->vs[i]? = some v->kindOf x≠some .local->
  bindC kindOf (P.zip vs) m x=some v
 |[],_,_,_,_,h,_,_=>by simp at h
 |_::_,[],_,_,_,_,h,_=>by simp at h
 |p::P,w::vs,0,m,nd,h1,h2,hk=>by
  simp at h1 h2;subst h1;subst h2;show bindC kindOf ((p,w)::P.zip vs) m p=_;unfold bindC;rw[vG λv hv=>(aI9.mp nd).1 (List.of_mem_zip hv).1,if_neg hk];simp
 |p::P,w::vs,i+1,m,nd,h1,h2,hk=>by
  show bindC kindOf ((p,w)::P.zip vs) m x=_;unfold bindC;exact vI (i:=i) (aI9.mp nd).2 (by simpa using h1) (by simpa using h2) hk
noncomputable def dQ (N:List Str)(vs:List V):St:=vs.map some++List.replicate (N.length-vs.length) none
noncomputable def bV (CX:dG)(P:ay)(w:ba)(K:ad)(mg:Str->Option av)(base:Heap)(N:List Str)(qual:Str)(scope:Scope)(f:ax)(cd:av)(A:az)(outer:List Env)(s:aw)(H:Hp)(E:XK):Cx where
 prog:=P
 w:=w
 K:=K
 mg:=mg
 base:=base
 A:=A.deeper (envOfC qual scope s.heap.objs.size f cd)
 N:=N
 s₀:=s
 H₀:=H
 env:=envOfC qual scope s.heap.objs.size f cd
 outer:=outer
 stack:=envOfC qual scope s.heap.objs.size f cd::outer
 ex:=[]
 calm:=true
 fn:=λ_=>true
 pn:=[]
 xe:=λe s'=>wpAny (model P w) (A.deeper (envOfC qual scope s.heap.objs.size f cd)) (leaving (envOfC qual scope s.heap.objs.size f cd) e) (λ_ s''=>CX outer H s E e s'') (λe' s''=>CX outer H s E e' s'') s'
theorem vJ {sc:Scope}{n:Nat}{x:Str}(h:sc.names.lookup x=some .cell):∃c,(cellsFrom n sc.names []).lookup x=some c:=by
 have q:=PySem.W.cellsFrom_some sc.names n [] (.inl h);exact Option.isSome_iff_exists.mp q
theorem vK {CX:dG}{P:ay}{w:ba}{K:ad}{mg:Str->Option av}{base:Heap}{N ps:List Str}{qual:Str}{scope:Scope}{f:ax}{cd:av}{A:az}{outer:List Env}{s s1:aw}{H:Hp}{E:XK}{us:List av}{vs:List V}(S:FnScope N ps scope)(hd:A.handled=none)(e0:lE P w K mg base A outer s H)(hl:vs.length=ps.length)(r:aP vs us)(x:InCallC s s.heap.objs.size (bindL (envOfC qual scope s.heap.objs.size f cd).kindOf (ps.zip us) λ_=>none) (cellsFrom (s.heap.objs.size+1) scope.names []) (bindC (envOfC qual scope s.heap.objs.size f cd).kindOf (ps.zip us) λ_=>none) s1) :
  aA (bV CX P w K mg base N qual scope f cd A outer s H E) [] (dQ N vs) H s1:=by
 have hpl:ps.length<=N.length:=by have:=congrArg List.length S.pre;rw[List.length_take]at this;omega
 obtain⟨h1,tk,rfl,hk⟩:=x.done
 have noA:∀b:ax,b∉(bV CX P w K mg base N qual scope f cd A outer s H E).ex:=λb z=>absurd (show b∈([]:List ax) from z) (by simp)
 refine⟨⟨e0.mod,S.kind,rfl,rfl,aF0 _,λy z c h1 h2=>?_,λy hy=>?_,λy c _ h=>?_,λ_=>hd,Around.frames_deeper e0.frames,.inr ⟨rfl,rfl⟩,λb z=>absurd z (noA b),e0.bs,e0.bsz,λb _ _=>noA b,λb z=>absurd z (noA b),e0.funs,e0.frf⟩,
  rfl,e0.bare,Un.kept hk,⟨_,x.toInCall.ns,λi y v h1 h2 h3=>?_⟩,λy c h=>⟨_,x.cell y c h⟩,e0.hok.fresh (aF0 _),λy c h=>?_,λp hp=>absurd (show p∈([]:List (ax×Obj)) from hp) (by simp),e0.hok.kept hk,?_⟩
 ·exact name_of_addr x.apart (aH4 h1) (aH4 h2)
 ·have hy:scope.names.lookup y=some .cell∨scope.names.lookup y=some .free:=hy
  rcases hy with hy|hy
  ·exact vJ hy
  ·exact absurd rfl (S.nofree _ (aH4 hy))
 ·exact aN8 (x.above y c (aH4 h))
 ·have hi:i<vs.length:=by
   unfold dQ at h2;by_cases hi:i<vs.length
   ·exact hi
   ·rw[List.getElem?_append_right (by simpa using hi)]at h2
    rw[List.getElem?_replicate]at h2;split at h2<;>cases h2
  have ha:vs[i]? = some v:=by
   unfold dQ at h2;rw[List.getElem?_append_left (by simpa using hi),aF8]at h2;cases e:vs[i]? with
   |none=>rw[e]at h2;cases h2
   |some a=>rw[e]at h2;cases h2;rfl
  obtain⟨u,hu,rv⟩:=r.get ha
  have hp:ps[i]? = some y:=by
   rw[<- S.pre,List.getElem?_take_of_lt (by omega)];exact h1
  have ndP:ps.Nodup:=by rw[<- S.pre];exact S.nd.sublist (List.take_sublist _ _)
  refine⟨u,rv,?_⟩;rcases S.par y (aM0 hp) with k|k
  ·exact .inl ⟨k,vH ndP hp hu k⟩
  ·obtain⟨c,e⟩:=vJ (n:=s.heap.objs.size+1) k
   refine .inr ⟨.inl k,c,e,?_⟩;have q:=x.cell y c e;rw[vI ndP hp hu (by show scope.names.lookup y≠_;rw[k];decide)]at q;exact q
 ·exact e0.hok.fresh (aN8 (x.above y c (aH4 h)))
 ·unfold dQ
  show _=N.length;rw[aG7,aD8,aN3];omega
theorem qE {CX:dG}{P:ay}{w:ba}{K:ad}{mg:Str->Option av}{base:Heap}{k:Nat}{f:ax}{name qual:Str}{params:Arguments}{body:List Stmt}{scope:Scope}{dV kV doc pm cdv ct oc:av}{an od:Option ax}{osl:Array (Option av)}{N ps:List Str}{sp:Sp}(lk:K.lookup f=some ⟨oc,od,.func (PySem.W.fnOf name qual params body scope dV kV doc pm an cdv ct),osl⟩)(hcd:PySem.W.codeIn K cdv qual=true)(S:FnScope N ps scope)(len:∀vs H Q E,sp vs H Q E->vs.length=ps.length)(hbody:∀(A:az) (outer:List Env) (s:aw) (H:Hp) (vs:List V) (Q:VK) (E:XK),bI k (A.deeper (envOfC qual scope s.heap.objs.size f cdv))->sp vs H Q E->
   ∃t,cQ (bV CX P w K mg base N qual scope f cdv A outer s H E) body t/\t { nx:=λ_ H'=>Q .non H',rt:=Q } (dQ N vs) H) :
  cK P w K mg base CX (k+1) f (PySem.W.fnOf name qual params body scope dV kV doc pm an cdv ct) ps sp:=by
 refine⟨len,λA outer s H args us vs Q E hr e0 hb r hsp=>?_⟩;have hl:=len _ _ _ _ hsp;have KX:K.In s.heap:=e0.mod.kin.keeps λb o e=>(e0.bs b o e).1
 have lim:s.heap.NoLimit:=e0.mod.nolimit.keeps λb o e=>(e0.bs b o e).1
 have hkind:∀y∈ps.zip us,scope.names.lookup y.1=some .local∨(scope.names.lookup y.1=some .cell/\((cellsFrom (s.heap.objs.size+1) scope.names []).lookup y.1).isSome=true):=λ⟨n,v⟩ hy=>by
  rcases S.par n (List.of_mem_zip hy).1 with q|q
  ·exact .inl q
  ·exact .inr ⟨q,PySem.W.cellsFrom_some _ _ _ (.inl q)⟩
 refine codeAny_call_function hr.depth (KX _ _ lk) rfl S.co S.gen rfl (PySem.W.codeRec_of KX hcd) (hb _ _ _ _ ?_);refine wpAny_newFunctionEnv_cells S.kind hkind λenv he s1 x=>?_
 subst he;refine⟨lim.keeps x.toInCall.keep,codeAny_func ?_⟩
 obtain⟨t,ht,hq⟩:=hbody A outer s H vs Q E (hr.deeper _) hsp
 have I:aA (bV CX P w K mg base N qual scope f cdv A outer s H E) [] (dQ N vs) H s1:=vK S hr.hd e0 hl r x;refine aH9 (ht [] s1 (dQ N vs) H _ I hq) (λfl s' hs=>?_) λe s' hs=>hs
 have fin:∀{σ':St}{H':Hp}{v:V}{u:av},aA (bV CX P w K mg base N qual scope f cdv A outer s H E) [] σ' H' s'->aR v u->Q v H'->CE outer P w H s Q u s':=
  λ{σ' H' v u} J rv q=>⟨v,H',J.os,J.bare,J.base,J.hok,rv,q⟩
 cases fl with
 |ret u=>
  obtain⟨v,σ',H',J,rv,q⟩:=hs
  exact fin J rv q
 |next=>
  obtain⟨σ',H',J,q⟩:=hs
  exact fin (v:=V.non) (u:=Value.none) J rfl q
 |brk=>
  obtain⟨_,_,_,q⟩:=hs
  exact False.elim q
 |cont=>
  obtain⟨_,_,_,q⟩:=hs
  exact False.elim q
section
variable {X:Cx}{x:Str}{p pos:Pos}{e:Expr}{es:List Expr}{t:TA}{id T:String}{r:List V→Hp→VK→Prop}
noncomputable def qF (r:List V->Hp->VK->Prop)(t:TA):TE:=λσ H Q=>t σ H λvs H1=>r vs H1 Q
theorem vL (hc:cR X (.builtin id) r)(hg:Gl X x)(hm:X.mg x=none)(hv:bootBuiltins x=some (.builtin id))(ha:PA X (e::es) t)(hn:x≠"__name__":=by decide)(hdb:(x==("__debug__":Str))=false:=by decide)(he:starEach (e::es) X.env=(false,eval e X.env)::starEach es X.env:=by rfl)(hpl:(backTo pos (starEach es X.env)).any (·.1)=false:=by rfl):PE X (.Call (.Name x p) (e::es) [] pos) (qF r t):=by
 intro ai s σ H Q I h;refine wpAny_Call_Name_kw (kX I hg hm hv ?_ hn hdb);exact PyProof.Rows.callWith_builtin1 (aM (ha pos ai s σ H _ I h) λus s1 ⟨vs,H1,I1,r1,q1⟩=>hc ai s1 σ H1 vs us Q I1 r1 q1) he hpl
theorem T5 (hc:cR X (.type T) r)(hg:Gl X x)(hm:X.mg x=none)(hv:bootBuiltins x=some (.type T))(ha:PA X (e::es) t)(hn:x≠"__name__":=by decide)(hdb:(x==("__debug__":Str))=false:=by decide)(he:starEach (e::es) X.env=(false,eval e X.env)::starEach es X.env:=by rfl)(hpl:(backTo pos (starEach es X.env)).any (·.1)=false:=by rfl):PE X (.Call (.Name x p) (e::es) [] pos) (qF r t):=by
 intro ai s σ H Q I h;refine wpAny_Call_Name_kw (kX I hg hm hv ?_ hn hdb);exact PyProof.Rows.callWith_type1 (aM (ha pos ai s σ H _ I h) λus s1 ⟨vs,H1,I1,r1,q1⟩=>hc ai s1 σ H1 vs us Q I1 r1 q1) he hpl
end
end L2
namespace HT
open PySem PyProof.Rows
noncomputable def cE:ag->ag->Bool
 |[],[]=>false
 |[],_::_=>true
 |_::_,[]=>false
 |x::xs,y::ys=>if x=y then cE xs ys else decide (x<y)
theorem nO (x y:Int)(xs ys:ag):cE (x::xs) (y::ys)=if x=y then cE xs ys else decide (x<y):=rfl
theorem T6:cE [] []=false:=rfl
theorem T7 (y:Int)(ys:ag):cE [] (y::ys)=true:=rfl
theorem T8 (x:Int)(xs:ag):cE (x::xs) []=false:=rfl
theorem vM (A:az)(s:aw)(a:Int)(t:Tok)(c:Int)(u:Tok):∃e,SeqAt.EqAt A s (.int a t) (.int c u) e/\(e=true↔a=c):=
 ⟨(a==c),SeqAt.EqAt.int_int a t c u,by simp⟩
theorem vN (A:az)(s:aw)(a:Int)(t:Tok)(c:Int)(u:Tok)(prog:ay)(w:ba)(E:av->aw->Prop)(Q:av->aw->Prop)(h:Q (.bool (decide (a<c))) s) :
  wpAny (model prog w) A (richCompare .Lt (.int a t) (.int c u)) Q E s:=
 (PyProof.Rows.lt_int h:wpAny (model prog w) A (compareOp .Lt (.int a t) (.int c u)) Q E s)
section
open PySem.SeqAt
open PySem.AutoSeq1 (wpAny_loadPart')
open PySem.MeetsSeq PySem.MeetsSeq2 PySem.MeetsSeq3
theorem T9 (l b:ax)(items items2:Array av)(n n2:Nat)(dd dd2:Option ax)(sl sl2:Array (Option av))(ns ms:ag)(hi:IntsAre items.toList ns)(hj:IntsAre items2.toList ms) :
  Meets (Builtin.«tuple.__lt__» ⟨[.ref l,.ref b],[]⟩)
   (λ_ R s=>s.heap.get? l=some { cls:=.type "tuple",dict:=dd,data:=.seq items n,slots:=sl }/\s.heap.get? b=some { cls:=.type "tuple",dict:=dd2,data:=.seq items2 n2,slots:=sl2 }/\
    R (.ok (.ret (.bool (cE ns ms)))) s):=
 .of_wp λprog w A R s h=>by
  obtain⟨hp,g,d,tk,os⟩:=s;obtain⟨hl,hb,h⟩:=h
  have f2:=AutoSeq1.sub_tuple_tuple;have z1:items.size=ns.length:=by rw[<- hi.length];simp
  have z2:items2.size=ms.length:=by rw[<- hj.length];simp
  wp_walk using wpAny_loadPart' hl,wpAny_loadPart' hb,wpAny_forIn_list _ (λrest b s'=>b.1=none/\s'=⟨hp,g,d,tk,os⟩/\∃(vs ws:List av) (ns' ms':ag),rest=vs.zip ws/\
   IntsAre vs ns'/\IntsAre ws ms'/\ns'.length+items2.size=ms'.length+items.size/\R (.ok (.ret (.bool (cE ns' ms')))) ⟨hp,g,d,tk,os⟩) _
  case turn=>
   rintro⟨y,x⟩ rest b s' ⟨hb',rfl,vs,ws,ns',ms',hz,hvi,hwi,ao,hR⟩
   cases hvi with
   |nil=>rw[List.zip_nil_left]at hz;cases hz
   |cons a t hvi'=>
    cases hwi with
    |nil=>rw[List.zip_nil_right]at hz;cases hz
    |cons c u hwi'=>
     rw[aL5]at hz;injection hz with hyx hrest
     injection hyx with hy hx
     subst hy hx;rw[nO]at hR;simp only[aK2]at ao
     obtain⟨e,he,hiff⟩:=vM A.in1 ⟨hp,g,d,tk,os⟩ a t c u
     refine aD7 (he prog w _ _ ?_);cases e with
     |true=>
      rw[if_pos (hiff.mp rfl)]at hR
      wp_walk
      exact⟨rfl,rfl,_,_,_,_,hrest,hvi',hwi',by omega,hR⟩
     |false=>
      rw[if_neg (λq=>absurd (hiff.mpr q) aF1)]at hR;have hri:=vN A.in1 ⟨hp,g,d,tk,os⟩ a t c u prog w
      wp_walk using hri
      exact⟨_,rfl,by simpa using hR⟩
  case fin=>
   rintro⟨b1,b2⟩ s' ⟨hb',rfl,vs,ws,ns',ms',hz,hvi,hwi,ao,hR⟩
   simp only at hb';subst hb';have hv:cE ns' ms'=decide (items.size<items2.size):=by
    cases hvi with
    |nil=>
     cases hwi with
     |nil=>
      simp only[List.length_nil]at ao;rw[T6];exact (aE7 (by omega)).symm
     |cons c u hw=>
      simp only[List.length_nil,aK2]at ao;rw[T7];exact (aG5 (by omega)).symm
    |cons a t hv=>
     cases hwi with
     |nil=>
      simp only[List.length_nil,aK2]at ao;rw[T8];exact (aE7 (by omega)).symm
     |cons c u hw=>
      rw[aL5]at hz;cases hz
   rw[hv]at hR
   wp_walk
   exact⟨_,rfl,by simpa[Builtin.Tuple.tupleCompareSizes] using hR⟩
  case h=>
   exact⟨rfl,rfl,items.toList,items2.toList,ns,ms,rfl,hi,hj,by omega,h⟩
end
section
variable {prog:ay}{w:ba}{A:az}{E:av→aw→Prop}{s:aw}
theorem U0 {l b:ax}{items items2:Array av}{ns ms:ag}{Q:av->aw->Prop}(hl:IsTup s.heap l items)(hb:IsTup s.heap b items2)(hi:IntsAre items.toList ns)(hj:IntsAre items2.toList ms)(hu:A.units<cLine)(h:Q (.bool (cE ns ms)) s):wpAny (model prog w) A (compareOp .Lt (.ref l) (.ref b)) Q E s:=by
 obtain⟨⟨cls,dd,data,sl⟩,ho,hc,n,hd⟩:=id hl
 obtain⟨⟨cls2,dd2,data2,sl2⟩,ho2,hc2,n2,hd2⟩:=id hb
 simp only at hc hd hc2 hd2;subst hc hd hc2 hd2;exact richCompare_meets_room (op:=.Lt) ⟨_,ho,rfl⟩ ⟨_,ho2,rfl⟩ PySem.F.slot_tuple_lt PySem.F.entry_tuple_lt (PySem.F.args_tuple_lt_2 _ _) (T9 l b items items2 n n2 dd dd2 sl sl2 ns ms hi hj)
  ⟨ho,ho2,show Value.bool (cE ns ms)≠Value.notImplemented/\Q (.bool (cE ns ms)) s from ⟨(λx=>nomatch x),h⟩⟩ hu
theorem U1 {t b:ax}{vs ws:List av}{Q:av->aw->Prop}(ht:IsTup s.heap t vs.toArray)(hb:IsTup s.heap b ws.toArray)(hv:vs≠[])(h1:ws = []->Q (.ref t) s)(h2:ws≠[]->Q (.ref s.heap.objs.size) { s with heap:=s.heap.push { cls:=.type "tuple",data:=.seq (vs++ws).toArray } })(hsz:vs.length+ws.length<=sizeLine):wpAny (model prog w) A (binaryOp .Add (.ref t) (.ref b)) Q E s:=by
 obtain⟨⟨cls,dd,data,sl⟩,ho,hc,n,hd⟩:=id ht
 obtain⟨⟨cls2,dd2,data2,sl2⟩,ho2,hc2,n2,hd2⟩:=id hb
 simp only at hc hd hc2 hd2;subst hc hd hc2 hd2;have e:vs.toArray++ws.toArray=(vs++ws).toArray:=by simp
 by_cases hw:ws = []
 ·exact concat_meets ⟨_,ho,rfl⟩ ⟨_,ho2,rfl⟩ noFill_tuple_add seq_tuple_add PySem.F.slot_tuple_add PySem.F.entry_tuple_add (PySem.F.args_tuple_add_2 _ _)
   (tuple_addW1 t b vs.toArray ws.toArray n n2 dd dd2 sl sl2 (by simpa using hv) (by simp[hw])) ⟨ho,ho2,h1 hw⟩
 ·refine concat_meets ⟨_,ho,rfl⟩ ⟨_,ho2,rfl⟩ noFill_tuple_add seq_tuple_add PySem.F.slot_tuple_add PySem.F.entry_tuple_add (PySem.F.args_tuple_add_2 _ _)
   (tuple_addW2 t b vs.toArray ws.toArray n n2 dd dd2 sl sl2 (by simpa using hv) (by simpa using hw) (by rw[aD9,aD9];exact hsz)) ⟨ho,ho2,?_⟩
  rw[e];exact h2 hw
end
end HT
namespace L2
open PySem PySem.Spec PyProof.Rows
noncomputable abbrev TO:=St->Hp->(Option Int->Hp->Prop)->Prop
theorem jQ {ns:ag}:∀{us:List av},aP (ns.map V.int) us->IntsAre us ns:=by
 induction ns with
 |nil=>intro us r;rw[List.map_nil]at r;cases r;exact .nil
 |cons n ns ih=>
  intro us r;rw[aG3]at r;cases r with
  |cons r1 r2=>
   obtain⟨t,e⟩:=r1
   subst e;exact .cons n t (ih r2)
section
variable {X:Cx}{e:Expr}{te:TE}{lo hi:Option Expr}{tl th:TO}{pos p2:Pos}
noncomputable def U2 (K:ad):R2:=λx y H Q=>∃a b xs ys,x = .ref a/\y = .ref b/\aY K H a xs/\aY K H b ys/\xs≠[]/\xs.length+ys.length<=sizeLine/\
 (ys = []->Q (.ref a) H)/\(ys≠[]->∀p,H p=none->Q (.ref p) (upd H p (.tup (xs++ys))))
theorem aP.nil_iff {xs:List V}{us:List av}(r:aP xs us):us = []↔xs = []:=by
 cases r with
 |nil=>simp
 |cons _ _=>simp
theorem U3:bW X (binaryOp .Add) (U2 X.K):=by
 intro ai s σ H x y v u Q I rx ry h
 obtain⟨a,b,xs,ys,rfl,rfl,ha,hb,hx,hz,q1,q2⟩:=h
 cases rx;cases ry
 obtain⟨its,r1,p1,_⟩:=I.tuple ha
 obtain⟨aq,r2,p2,_⟩:=I.tuple hb
 refine HT.U1 p1 p2 (λz=>hx (r1.nil_iff.mp z)) (λz=>⟨.ref a,H,I,rfl,q1 (r2.nil_iff.mp z)⟩) (λz=>?_) (by rw[<- r1.length,<- r2.length];exact hz);refine⟨.ref s.heap.objs.size,_,I.laid (t':=s.toks) (o:=.tup (xs++ys)) (λb ob q=>aE1 _ q) (aF0 _) ?_,rfl,q2 (λw=>z (r2.nil_iff.mpr w)) _ (I.hok.fresh (aF0 _))⟩
 exact⟨by rw[aG7];exact hz,_,r1.append r2,IsTup.new _ _,gH.new _ _ rfl⟩
end
noncomputable def fE (n:Nat)(i:Int):Option Nat:=if 0<=i then (if i<n then some i.toNat else none) else if -(n:Int)<=i then some (i+n).toNat else none
noncomputable def atI {α:Type}(xs:List α)(i:Int):Option α:=(fE xs.length i).bind λj=>xs[j]?
theorem vO {n:Nat}{i:Int}{j:Nat}(h:fE n i=some j):seqIndex? i n=some j/\j<n/\-(n:Int)<=i/\i<n:=by
 unfold fE at h;by_cases h0:0<=i
 ·rw[if_pos h0]at h
  by_cases h1:i<n
  ·rw[if_pos h1]at h
   have e:i.toNat=j:=aF9 h
   exact⟨by rw[seqIndex_of h0 h1,e],by omega,by omega,h1⟩
  ·rw[if_neg h1]at h;cases h
 ·rw[if_neg h0]at h
  by_cases h1:-(n:Int)<=i
  ·rw[if_pos h1]at h
   have e:(i+n).toNat=j:=aF9 h
   exact⟨by rw[seqIndex_neg (by omega) h1,e],by omega,h1,by omega⟩
  ·rw[if_neg h1]at h;cases h
theorem qG {α:Type}{xs:List α}{i:Int}{v:α}(h:atI xs i=some v):∃j,seqIndex? i xs.length=some j/\xs[j]? = some v/\j<xs.length/\-(xs.length:Int)<=i/\i<xs.length:=by
 unfold atI at h;cases e:fE xs.length i with
 |none=>rw[e]at h;cases h
 |some j=>
  rw[e]at h
  obtain⟨h1,h2,h3,h4⟩:=vO e
  exact⟨j,h1,h,h2,h3,h4⟩
theorem qH {α:Type}{xs:List α}{j:Nat}{v:α}(h:xs[j]? = some v):atI xs (j:Int)=some v:=by
 have hj:j<xs.length:=(aG1.mp h).1;have e:fE xs.length (j:Int)=some j:=by
  unfold fE;rw[if_pos (by omega),if_pos (by omega)];simp
 unfold atI;rw[e];exact h
theorem U4 {α:Type}(xs:List α)(v:α):atI (xs++[v]) (-1)=some v:=by
 have hl:(xs++[v]).length=xs.length+1:=by simp
 have e:fE (xs++[v]).length (-1)=some xs.length:=by
  unfold fE;rw[hl,if_neg (by decide),if_pos (by omega)];congr 1;omega
 unfold atI;rw[e];show (xs++[v])[xs.length]? = some v;simp
noncomputable def vP (b:Expr):Prop:=∀o i,subscripted b false o i=operate [o,i] (getItem o i)
noncomputable def h8 (X:Cx)(r:R2):Prop:=
 ∀(value slice:Expr) (ai:List (ax×Obj)) (s:aw) (σ:St) (H:Hp) (x y:V) (v u:av) (Q:VK),aA X ai σ H s->aR x v->aR y u->r x y H Q->
  subscripted slice false v u=operate [v,u] (getItem v u)->wpAny (model X.prog X.w) X.A (subscriptTail value slice v u) (EP X ai σ Q) X.xe s
noncomputable def vQ (X:Cx)(id:String)(r:V->List V->Hp->VK->Prop):Prop:=
 ∀(ai:List (ax×Obj)) (s:aw) (σ:St) (H:Hp) (x:V) (xs:List V) (v:av) (us:List av) (Q:VK),aA X ai σ H s->aR x v->aP xs us->r x xs H Q->
  wpAny (model X.prog X.w) X.A (call (.builtin id) (v::us)) (EP X ai σ Q) X.xe s
section
variable {X:Cx}{a b:Expr}{ta tb:TE}{pos:Pos}
theorem h8.or {r r':R2}(h:h8 X r)(h':h8 X r'):h8 X (λx y H Q=>r x y H Q∨r' x y H Q):=by
 intro value slice ai s σ H x y v u Q I rx ry q hs;rcases q with q|q
 ·exact h value slice ai s σ H x y v u Q I rx ry q hs
 ·exact h' value slice ai s σ H x y v u Q I rx ry q hs
theorem U5 {r:R2}(hr:h8 X r)(ha:PE X a ta)(hb:PE X b tb)(hs:vP b):PE X (.Subscript a b pos) (lC r ta tb):=by
 intro ai s σ H Q I h;exact Subscript_ (pY ha hb I h λv u s2 x y H2 I2 rx ry q=>hr a b ai s2 σ H2 x y v u Q I2 rx ry q (hs _ _))
noncomputable def vR (K:ad):R2:=λx y H Q=>∃p xs i v,x = .ref p/\y = .int i/\b7 K H p xs/\atI xs i=some v/\Q v H
noncomputable def vS (K:ad):R2:=λx y H Q=>∃p xs i v,x = .ref p/\y = .int i/\aY K H p xs/\atI xs i=some v/\Q v H
noncomputable def vT:R2:=λx y H Q=>∃z i c,x = .str z/\y = .int i/\z.length<=sizeLine/\atI z.cps.toList i=some c/\Q (.str ⟨#[c]⟩) H
theorem U6:h8 X (vR X.K):=by
 intro value slice ai s σ H x y v u Q I rx ry h hs
 obtain⟨p,xs,i,z,rfl,rfl,hq,he,q⟩:=h
 cases rx
 obtain⟨t,rfl⟩:=ry
 obtain⟨its,r,pl,hz⟩:=I.list hq
 obtain⟨j,h1,h2,h3,h4,h5⟩:=qG he
 obtain⟨w,ew,rw'⟩:=r.get h2
 have hl:=r.length;have hn:=jO;have fin:EP X ai σ Q w s:=⟨z,H,I,rw',q⟩;by_cases h0:0<=i
 ·have hj:i.toNat=j:=by
   rw[seqIndex_of h0 h5]at h1;exact aF9 h1
  exact item_listR pl.isList h0 (by omega) (by rw[hj];simpa using ew) fin hs
 ·have hj:(i+(its.toArray.size:Int)).toNat=j:=by
   rw[seqIndex_neg (by omega) h4]at h1;rw[aD9,<- hl];exact aF9 h1
  exact subscriptTail_builtinR (x:=w) pl.isList.typeIs slot_list_getitem.lookup
   (wpAny_getItem_list_neg (Q:=λr s'=>r=w/\EP X ai σ Q r s') pl.isList (by omega) (by rw[aD9]<;>omega) (by omega) (by rw[hj];simpa using ew) ⟨rfl,fin⟩) hs
theorem U7:h8 X (vS X.K):=by
 intro value slice ai s σ H x y v u Q I rx ry h hs
 obtain⟨p,xs,i,z,rfl,rfl,hq,he,q⟩:=h
 cases rx
 obtain⟨t,rfl⟩:=ry
 obtain⟨its,r,pl,hz⟩:=I.tuple hq
 obtain⟨j,h1,h2,h3,h4,h5⟩:=qG he
 obtain⟨w,ew,rw'⟩:=r.get h2
 have hl:=r.length;have hn:=jO;have fin:EP X ai σ Q w s:=⟨z,H,I,rw',q⟩;exact subscriptTail_builtinR (x:=w) pl.typeIs slot_tuple_getitem.lookup
  (getItem_tuple (j:=j) (Q:=λr s'=>r=w/\EP X ai σ Q r s') pl (by omega) (by omega) (by rw[aD9,<- hl];exact h1) (by simpa using ew) ⟨rfl,fin⟩) hs
theorem U8:h8 X vT:=by
 intro value slice ai s σ H x y v u Q I rx ry h hs
 obtain⟨z,i,c,rfl,rfl,hz,he,q⟩:=h
 obtain⟨t,rfl⟩:=rx
 obtain⟨t',rfl⟩:=ry
 obtain⟨j,h1,h2,h3,h4,h5⟩:=qG he
 have hl:z.cps.toList.length=z.length:=by simp[Str.length]
 rw[hl]at h1 h4 h5;have hn:=jO
 exact tail_any (typeIs_str s z t) slot_str_getitem.lookup (getItem_str (c:=c) (by
  have e1:decide (i < -(2^63:Int))=false:=aE7 (by omega);have e2:decide (i >= 2^63)=false:=aE7 (by omega)
  rw[e1,e2,Bool.or_false]) (by rw[h1];simpa using h2) ⟨.str ⟨#[c]⟩,H,I.tok _,⟨_,rfl⟩,q⟩) hs
noncomputable def vU (K:ad):R2:=λx y H Q=>vR K x y H Q∨vS K x y H Q∨vT x y H Q
theorem U9:h8 X (vU X.K):=U6.or (U7.or U8)
theorem V0 (its:List av)(n j:Nat)(u:av):Obj.mapSeq (·.setIfInBounds j u) { cls:=.type "list",data:=.seq its.toArray n }={ cls:=.type "list",data:=.seq (its.set j u).toArray n }:=by
 simp[Obj.mapSeq]
theorem aA.lst {ai:List (ax×Obj)}{σ:St}{H:Hp}{s:aw}{p:ax}{xs:List V}(I:aA X ai σ H s)(h:H p=some (.lst xs)) :
  ∃(its:List av) (n:Nat),aP xs its/\s.heap.get? p=some { cls:=.type "list",data:=.seq its.toArray n }/\xs.length<=sizeLine:=by
 obtain⟨z,its,n,r,e⟩:=I.hok p _ h
 exact⟨its,n,r,e,z⟩
theorem aA.lstUpd {ai:List (ax×Obj)}{σ:St}{H:Hp}{s:aw}{p:ax}{xs ys:List V}{its its':List av}{n n':Nat}{f:Obj->Obj}(I:aA X ai σ H s)(h:H p=some (.lst xs))(ho:s.heap.get? p=some { cls:=.type "list",data:=.seq its.toArray n })(hf:f { cls:=.type "list",data:=.seq its.toArray n }={ cls:=.type "list",data:=.seq its'.toArray n' })(r:aP ys its')(hz:ys.length<=sizeLine)(t:Nat) :
  aA X ai σ (upd H p (.lst ys)) { s with heap:=s.heap.update p f,toks:=t }:=by
 have e:(s.heap.update p f).get? p=some { cls:=.type "list",data:=.seq its'.toArray n' }:=by
  rw[aN4 f ho (by rw[hf]<;>rfl),hf]
 refine I.write (x:=p) (e:=p) (by rw[h];trivial) (.inl rfl) (λb u hb q=>(Heap.get?_update_other _ _ (Ne.symm hb)).trans q) ⟨_,e⟩ ?_
 exact⟨hz,its',n',r,e⟩
noncomputable def qI:V->V->V->Hp->(Hp->Prop)->Prop:=λo i v H Q=>∃p xs k j,o = .ref p/\i = .int k/\H p=some (.lst xs)/\fE xs.length k=some j/\Q (upd H p (.lst (xs.set j v)))
theorem V1:uS X qI:=by
 intro ai s σ H o i v ov iv u Q I ro ri rv h
 obtain⟨p,xs,k,j,rfl,rfl,hp,hj,q⟩:=h
 cases ro
 obtain⟨t,rfl⟩:=ri
 obtain⟨its,n,r,ho,hz⟩:=I.lst hp
 obtain⟨h1,h2,h3,h4⟩:=vO hj
 have hl:=r.length;have hn:=jO;have I':aA X ai σ (upd H p (.lst (xs.set j v))) { s with heap:=s.heap.update p (Obj.mapSeq (·.setIfInBounds j u)) }:=
  I.lstUpd hp ho (V0 its n j u) (r.set rv j) (by rw[aJ3];exact hz) s.toks
 by_cases h0:0<=k
 ·have hk:k.toNat=j:=by
   rw[seqIndex_of h0 h4]at h1;exact aF9 h1
  exact PySem.W.ki_setAt ho h0 (by omega) (by rw[aD9,<- hl];exact h4) (by rw[hk];exact⟨_,I',q⟩)
 ·have hk:(k+(its.toArray.size:Int)).toNat=j:=by
   rw[seqIndex_neg (by omega) h3]at h1;rw[aD9,<- hl];exact aF9 h1
  exact PySem.W.ki_setBack ho (by omega) (by rw[aD9,<- hl];exact h3) (by omega) (by rw[hk];exact⟨_,I',q⟩)
theorem V2:cR X (.builtin "len") (λxs H Q=>∃p ys,xs = [.ref p]/\(b7 X.K H p ys∨aY X.K H p ys)/\Q (.int ys.length) H):=by
 intro ai s σ H xs us Q I r h
 obtain⟨p,ys,rfl,hq,q⟩:=h
 obtain⟨u,rfl,rx⟩:=gZ r
 cases rx;have hn:=jO;rcases hq with hq|hq
 ·obtain⟨its,r',pl,hz⟩:=I.list hq
  have ao:=r'.length;exact Calls.call_len_list pl.isList (by simp only[aD9]<;>omega) ⟨.int ys.length,H,I.tok _,⟨s.toks+1,by rw[aD9,ao]⟩,q⟩
 ·obtain⟨its,r',pl,hz⟩:=I.tuple hq
  have ao:=r'.length;exact len_tuple pl (by simp only[aD9]<;>omega) ⟨.int ys.length,H,I.tok _,⟨s.toks+1,by rw[aD9,ao]⟩,q⟩
theorem cR.or {f:av}{r r':List V->Hp->VK->Prop}(h:cR X f r)(h':cR X f r'):cR X f (λxs H Q=>r xs H Q∨r' xs H Q):=by
 intro ai s σ H xs us Q I rs q;rcases q with q|q
 ·exact h ai s σ H xs us Q I rs q
 ·exact h' ai s σ H xs us Q I rs q
theorem V3:cR X (.type "tuple") (λxs H Q=>∃p ys,xs = [.ref p]/\((b7 X.K H p ys/\∀l,H l=none->Q (.ref l) (upd H l (.tup ys)))∨(aY X.K H p ys/\Q (.ref p) H))):=by
 intro ai s σ H xs us Q I r h
 obtain⟨p,ys,rfl,h⟩:=h
 obtain⟨u,rfl,rx⟩:=gZ r
 cases rx;rcases h with⟨hq,q⟩|⟨hq,q⟩
 ·obtain⟨its,r',pl,hz⟩:=I.list hq
  have ao:=r'.length;refine call_tuple_list pl.isList (λh' kp=>?_) (by simp only[aD9]<;>omega);have I1:aA X ai σ H { s with heap:=h' }:=I.kept (t':=s.toks) kp;have I2:aA X ai σ (upd H h'.objs.size (.tup ys)) { s with heap:=h'.push { cls:=.type "tuple",data:=.seq its.toArray } }:=
   I1.laid (t':=s.toks) (λb o e=>aE1 _ e) (aF0 _) (show bG X.prog X.w _ _ _ (.tup ys) from ⟨hz,its,r',IsTup.new _ _,gH.new _ _ rfl⟩)
  exact⟨.ref h'.objs.size,_,I2,rfl,q _ (I1.hok.fresh (aF0 _))⟩
 ·obtain⟨its,r',pl,hz⟩:=I.tuple hq
  exact call_tuple_same pl ⟨.ref p,H,I,rfl,q⟩
noncomputable def lH (K:ad)(T:String)(x:V)(H:Hp):Prop:=match x with
 |.str _=>T="str"
 |.int _=>T="int"
 |.ref p=>(T="list"/\∃xs,b7 K H p xs)∨(T="tuple"/\∃o,K.lookup p=some o/\o.cls = .type "tuple"/\o.dict=none) ∨
   (T="dict"/\((∃kvs,H p=some (.dK kvs))∨∃kvs,H p=some (.dT kvs)))∨(T="set"/\∃S n,H p=some (.set S n))
 |_=>False
theorem vV {ai:List (ax×Obj)}{σ:St}{H:Hp}{s:aw}{T:String}{x:V}{v:av}(I:aA X ai σ H s)(r:aR x v)(ty:lH X.K T x H) :
  s.TypeIs v T/\∀a,v = .ref a->∃ob,s.heap.get? a=some ob/\ob.dict=none:=by
 cases x with
 |str z=>
  obtain⟨t,rfl⟩:=r
  cases (show T="str" from ty)
  exact⟨typeIs_str s z t,λ_ e=>nomatch e⟩
 |int i=>
  obtain⟨t,rfl⟩:=r
  cases (show T="int" from ty)
  exact⟨typeIs_int s i t,λ_ e=>nomatch e⟩
 |ref p=>
  cases r;rcases ty with⟨rfl,xs,hq⟩|⟨rfl,o,hk,hc,hd⟩|⟨rfl,hk⟩|⟨rfl,S,n,hk⟩
  ·obtain⟨its,_,pl,_⟩:=I.list hq
   refine⟨pl.isList.typeIs,λa e=>?_⟩;cases e
   obtain⟨o,n,e,c,hd,_⟩:=pl
   exact⟨o,e,hd⟩
  ·refine⟨⟨o,I.kIn p o hk,hc⟩,λa e=>?_⟩
   cases e
   exact⟨o,I.kIn _ o hk,hd⟩
  ·have z:∃o,s.heap.get? p=some o/\o.ExactDict:=by
    rcases hk with⟨kvs,hk⟩|⟨kvs,hk⟩
    ·obtain⟨_,_,_,_,o,_,_,e,ex,_⟩:=I.hok p _ hk
     exact⟨o,e,ex⟩
    ·obtain⟨_,_,_,_,o,_,_,e,ex,_⟩:=I.hok p _ hk
     exact⟨o,e,ex⟩
   obtain⟨o,e,ex⟩:=z
   refine⟨⟨o,e,ex.1⟩,λa e2=>?_⟩;cases e2
   exact⟨o,e,ex.2.1⟩
  ·obtain⟨o,_,_,_,e,ex,_⟩:=I.hok p _ hk
   refine⟨⟨o,e,ex.1⟩,λa e2=>?_⟩;cases e2
   exact⟨o,e,ex.2.1⟩
 |_=>exact False.elim ty
noncomputable def vW (K:ad)(T:String)(r:V->List V->Hp->VK->Prop)(to:TE):TE:=λσ H Q=>to σ H λx H1=>lH K T x H1/\r x [] H1 Q
noncomputable def qJ (K:ad)(T:String)(r:V->List V->Hp->VK->Prop)(to:TE)(t:TA):TE:=λσ H Q=>to σ H λx H1=>lH K T x H1/\t σ H1 λxs H2=>r x xs H2 Q
variable {o e:Expr}{es:List Expr}{to:TE}{t:TA}{name:Str}{aj am:Pos}{T id:String}{r:V→List V→Hp→VK→Prop}
theorem V4 (pa:PlainAttrs T)(slot:Slot T name id)(hty:typeOf (.builtin id)=pure (.type "method_descriptor"))(hm:vQ X id r)(ho:PE X o to)(hbase:attributeBase o name X.env (eval o X.env)=eval o X.env:=by rfl)(hline:(aj.endLine==am.line)=true:=by rfl):PE X (.Call (.Attribute o name aj) [] [] am) (vW X.K T r to):=by
 intro ai s σ H Q I h;refine wpAny_Call_method0_late hbase hline (aM (ho ai s σ H _ I h) λv s1 ⟨x,H1,I1,r1,ty,q1⟩=>?_)
 obtain⟨h1,h2⟩:=vV I1 r1 ty
 exact⟨T,id,pa,slot,hty,h1,h2,Calls.callWith_builtin rfl (PySem.evalArgs_none (hm ai s1 σ H1 x [] v [] Q I1 r1 .nil q1))⟩
theorem vX (pa:PlainAttrs T)(slot:Slot T name id)(hty:typeOf (.builtin id)=pure (.type "method_descriptor"))(hm:vQ X id r)(ho:PE X o to)(ha:PA X (e::es) t)(hbase:attributeBase o name X.env (eval o X.env)=eval o X.env:=by rfl)(hfew:((backTo am (starEach (e::es) X.env)).all (λx=>!x.1)&&(backToKw am (keywordEach [] X.env)).all (λx=>x.1.isSome)
  &&decide ((e::es).length+([]:List Keyword).length+(if ([]:List Keyword).isEmpty then 0 else 1)<30))=true:=by rfl)(hline:(aj.endLine==am.line)=true:=by rfl)(hs:starEach (e::es) X.env=(false,eval e X.env)::starEach es X.env:=by rfl)(ar:(backTo am (starEach es X.env)).any (·.1)=false:=by rfl) :
  PE X (.Call (.Attribute o name aj) (e::es) [] am) (qJ X.K T r to t):=by
 intro ai s σ H Q I h;refine wpAny_Call_method_late hbase hfew hline rfl (aM (ho ai s σ H _ I h) λv s1 ⟨x,H1,I1,r1,ty,q1⟩=>?_)
 obtain⟨h1,h2⟩:=vV I1 r1 ty
 refine⟨T,id,pa,slot,hty,h1,h2,?_⟩;have hA:=ha am ai s1 σ H1 _ I1 q1;rw[hs]at hA ⊢;refine Calls.callWith_builtin (by show (false||(backTo am (starEach es X.env)).any (·.1))=false;rw[ar]<;>rfl) (Calls.evalArgs_plain ?_);exact aM hA λus s2 ⟨vs,H2,I2,r2,q2⟩=>hm ai s2 σ H2 x vs v us Q I2 r1 r2 q2
end
noncomputable def lI (X:Cx)(id:String)(r:V->List V->Hp->VK->Prop):Prop:=
 ∀(ai:List (ax×Obj)) (s:aw) (σ:St) (H:Hp) (x:V) (xs:List V) (v:av) (us:List av) (Q:VK),aA X ai σ H s->aR x v->aP xs us->r x xs H Q->
  wpAny (model X.prog X.w) X.A (call (.builtin id) (v::us)) (EP X ai σ Q) X.xe s
theorem aP.one {x:V}{us:List av}(h:aP [x] us):∃u,us = [u]/\aR x u:=by
 cases h with
 |cons r t=>
  cases t
  exact⟨_,rfl,r⟩
theorem aP.two {x y:V}{us:List av}(h:aP [x,y] us):∃u v,us = [u,v]/\aR x u/\aR y v:=by
 cases h with
 |cons r t=>
  cases t with
  |cons q t=>
   cases t
   exact⟨_,_,rfl,r,q⟩
theorem aP.zero:∀{us:List av},aP [] us->us = []
 |_,.nil=>rfl
theorem aP.dropLast {xs:List V}{us:List av}(h:aP xs us):aP xs.dropLast us.dropLast:=by
 induction h with
 |nil=>exact .nil
 |cons r t ih=>
  cases t with
  |nil=>exact .nil
  |cons q t'=>exact .cons r ih
theorem aP.rep {xs:List V}{us:List av}(h:aP xs us):∀k:Nat,aP (List.replicate k xs).flatten (List.replicate k us).flatten
 |0=>.nil
 |k+1=>by
  rw[aJ9,aJ9,aN9,aN9];exact aP.append h (aP.rep h k)
theorem V5 {α:Type}(l:List α):l.eraseIdx (l.length-1)=l.dropLast:=by
 induction l with
 |nil=>rfl
 |cons a r ih=>
  cases r with
  |nil=>rfl
  |cons b r=>
   have e:(a::b::r).length-1=((b::r).length-1)+1:=by
    have h1:(a::b::r).length=r.length+2:=rfl;have h2:(b::r).length=r.length+1:=rfl;omega
   rw[e,List.eraseIdx_cons_succ,ih]
   all_goals rfl
theorem vY (its:List av):∀(k:Nat) (acc:List av),
  List.foldl (λx1 x2=>x1++x2) acc.toArray (List.replicate k its.toArray)=(acc++(List.replicate k its).flatten).toArray
 |0,acc=>by simp
 |k+1,acc=>by
  have e:acc.toArray++its.toArray=(acc++its).toArray:=by simp
  have e2:(acc++its)++(List.replicate k its).flatten=acc++(List.replicate (k+1) its).flatten:=by
   rw[aJ9,aN9,List.append_assoc]
  rw[<- e2,<- vY its k (acc++its),<- e,aJ9,List.foldl_cons]
section
variable {X:Cx}{ai:List (ax×Obj)}{σ:St}{H:Hp}{s:aw}{l b:ax}{xs ys zs:List V}
theorem aA.lset {its its':List av}{n:Nat}{f:Array av->Array av}{t':Nat}(I:aA X ai σ H s)(hH:H l=some (.lst xs))(e:s.heap.get? l=some { cls:=.type "list",data:=.seq its.toArray n })(hf:f its.toArray=its'.toArray)(hv:aP ys its')(hz:ys.length<=sizeLine) :
  aA X ai σ (upd H l (.lst ys)) { s with heap:=s.heap.update l (Obj.mapSeq f),toks:=t' }:=by
 have q:=PySem.IsL.update e f;rw[hf]at q;refine I.write (x:=l) (e:=l) (by rw[hH];exact trivial) (.inl rfl) (λb' u hb hu=>(Heap.get?_update_other s.heap (Obj.mapSeq f) (Ne.symm hb)).trans hu) ⟨_,q⟩ ?_
 exact⟨hz,its',_,hv,q⟩
theorem aA.lstM (I:aA X ai σ H s)(hH:H l=some (.lst xs)):xs.length<=sizeLine/\∃(its:List av) (n:Nat),aP xs its/\xs.length=its.length/\s.heap.get? l=some { cls:=.type "list",data:=.seq its.toArray n }:=by
 obtain⟨z,its,n,r,e⟩:=I.hok l _ hH
 exact⟨z,its,n,r,r.length,e⟩
theorem vZ {n:Nat}(h:n<=sizeLine):Builtin.List.listTooLong n=false:=by
 unfold Builtin.List.listTooLong;exact aE7 (by omega)
end
section
variable {X:Cx}
noncomputable def w4:V->List V->Hp->VK->Prop:=λx vs H Q=>∃l xs y,x = .ref l/\vs = [y]/\H l=some (.lst xs)/\xs.length<sizeLine/\Q .non (upd H l (.lst (xs++[y])))
theorem w5:lI X "list.append" w4:=by
 intro ai s σ H x vs v us Q I rx rv h
 obtain⟨l,xs,y,rfl,rfl,hH,hz,q⟩:=h
 cases rx
 obtain⟨u,rfl,ru⟩:=rv.one
 obtain⟨z,its,n,r,hl,e⟩:=I.lstM hH
 refine call_meets F.slot_list_append ⟨_,e,rfl⟩ F.entry_list_append (F.args_list_append_2 _ _) (PySem.list_append l its.toArray n u (by rw[aD9];omega)) ⟨e,?_⟩;refine⟨.non,_,I.lset (its':=its++[u]) hH e (by simp) (r.append (.cons ru .nil)) ?_,rfl,q⟩;rw[aG7,List.length_singleton];omega
noncomputable def w6:V->List V->Hp->VK->Prop:=λx vs H Q=>∃l b xs zs,x = .ref l/\vs = [.ref b]/\H l=some (.lst xs)/\H b=some (.lst zs)/\xs.length+zs.length<=sizeLine/\Q .non (upd H l (.lst (xs++zs)))
theorem V6:lI X "list.extend" w6:=by
 intro ai s σ H x vs v us Q I rx rv h
 obtain⟨l,b,xs,zs,rfl,rfl,hH,hB,hz,q⟩:=h
 cases rx
 obtain⟨u,rfl,ru⟩:=rv.one
 cases ru
 obtain⟨z,its,n,r,hl,e⟩:=I.lstM hH
 obtain⟨z2,aq,n2,r2,hl2,e2⟩:=I.lstM hB
 have hsz:its.toArray.size+aq.toArray.size<=sizeLine:=by rw[aD9,aD9];omega
 have hlong:¬(!its.toArray.isEmpty&&Builtin.List.listTooLong (its.toArray.size+aq.toArray.size))=true:=by
  rw[vZ hsz,Bool.and_false];exact aF1
 refine call_meets F.slot_list_extend ⟨_,e,rfl⟩ F.entry_list_extend (F.args_list_extend_2 _ _)
  (AutoSeq1.list_extend_list_list_0 l its.toArray n b aq.toArray n2 hlong (by rw[aD9];omega) (by omega)) ⟨e,e2,?_⟩
 refine⟨.non,_,I.lset (its':=its++aq) hH e (by simp) (r.append r2) ?_,rfl,q⟩;rw[aG7];omega
noncomputable def w9:V->List V->Hp->VK->Prop:=λx vs H Q=>∃l xs y,x = .ref l/\vs = []/\H l=some (.lst xs)/\xs[xs.length-1]? = some y/\Q y (upd H l (.lst xs.dropLast))
theorem V7:lI X "list.pop" w9:=by
 intro ai s σ H x vs v us Q I rx rv h
 obtain⟨l,xs,y,rfl,rfl,hH,hy,q⟩:=h
 cases rx;have hus:=rv.zero;subst hus
 obtain⟨z,its,n,r,hl,e⟩:=I.lstM hH
 obtain⟨u,hu,ru⟩:=r.get hy
 have hy':its.toArray[its.toArray.size-1]? = some u:=by
  show its.toArray[its.length-1]? = some u;rw[<- Array.getElem?_toList,<- hl];exact hu
 refine call_meets F.slot_list_pop ⟨_,e,rfl⟩ F.entry_list_pop (F.args_list_pop_1 _) (MeetsSeq.list_pop_last l its.toArray n u hy' (by rw[aD9];omega)) ⟨e,?_⟩;refine⟨y,_,I.lset (its':=its.dropLast) hH e ?_ r.dropLast ?_,ru,q⟩
 ·show its.toArray.eraseIdxIfInBounds (its.toArray.size-1)=its.dropLast.toArray
  rw[aD9,List.eraseIdxIfInBounds_toArray,V5]
 ·rw[List.length_dropLast]
  omega
theorem V8 {α:Type}(xs:List α)(k:Nat):(List.replicate k xs).flatten.length=k*xs.length:=by
 induction k with
 |zero=>simp
 |succ k ih=>rw[aJ9,aN9,aG7,ih,Nat.succ_mul,Nat.add_comm]
end
section
variable {κ:Type}[DecidableEq κ]
noncomputable def eR (kvs:List (κ×V))(k:κ):Option V:=(kvs.find? λkv=>decide (kv.1=k)).map (·.2)
noncomputable def dS (kvs:List (κ×V))(k:κ)(v:V):List (κ×V):=
 if (kvs.any λkv=>decide (kv.1=k))=true then kvs.map (λkv=>if kv.1=k then (kv.1,v) else kv) else kvs++[(k,v)]
theorem qK {p:κ×V}{r:List (κ×V)}{k:κ}(e:p.1=k):eR (p::r) k=some p.2:=by simp[eR,aH3,e]
theorem qL {p:κ×V}{r:List (κ×V)}{k:κ}(e:¬p.1=k):eR (p::r) k=eR r k:=by simp[eR,aH3,e]
theorem wA (k:κ):∀kvs:List (κ×V),(kvs.any λkv=>decide (kv.1=k))=(eR kvs k).isSome
 |[]=>rfl
 |p::r=>by
  rw[List.any_cons];by_cases e:p.1=k
  ·simp only[qK e,aG5 e,Bool.true_or,Option.isSome_some]
  ·rw[qL e,aE7 e,Bool.false_or];exact wA k r
theorem wB (kvs:List (κ×V))(k:κ)(v:V):(dS kvs k v).length<=kvs.length+1:=by
 unfold dS;split
 ·rw[aD8];omega
 ·rw[aG7,aK2,List.length_nil];omega
theorem fV.isSome_eq {o:Option V}{u:Option av}(r:fV o u):o.isSome=u.isSome:=by
 cases o with
 |none=>cases u with
  |none=>rfl
  |some _=>exact (show False from r).elim
 |some _=>cases u with
  |none=>exact (show False from r).elim
  |some _=>rfl
theorem KV.val {kvs:List (κ×V)}{vs:List (κ×av)}(r:KV kvs vs)(k:κ):fV (eR kvs k) (valueAt vs k):=by
 unfold KV at r
 induction r with
 |nil=>exact aO7
 |@cons p q ps qs h t ih=>
  obtain⟨h1,h2⟩:=h
  by_cases e:p.1=k
  ·have e':q.1=k:=h1.symm.trans e
   have b:valueAt (q::qs) k=some q.2:=by simp[valueAt,aH3,e']
   rw[qK e,b];exact h2
  ·have e':¬q.1=k:=λz=>e (h1.trans z)
   have b:valueAt (q::qs) k=valueAt qs k:=by simp[valueAt,aH3,e']
   rw[qL e,b];exact ih
theorem KV.any {kvs:List (κ×V)}{vs:List (κ×av)}(r:KV kvs vs)(k:κ):(kvs.any λkv=>decide (kv.1=k))=vs.any λkv=>decide (kv.1=k):=by
 unfold KV at r
 induction r with
 |nil=>rfl
 |cons h t ih=>rw[List.any_cons,List.any_cons,ih,h.1]
theorem KV.repl {kvs:List (κ×V)}{vs:List (κ×av)}(r:KV kvs vs)(k:κ){y:V}{u:av}(ry:aR y u) :
  KV (kvs.map λkv=>if kv.1=k then (kv.1,y) else kv) (vs.map λkv=>if kv.1=k then (kv.1,u) else kv):=by
 unfold KV at r ⊢
 induction r with
 |nil=>exact .nil
 |@cons p q ps qs h t ih=>
  rw[aG3,aG3];refine .cons ?_ ih
  obtain⟨h1,h2⟩:=h
  by_cases e:p.1=k
  ·rw[if_pos e,if_pos (h1.symm.trans e)];exact⟨h1,ry⟩
  ·rw[if_neg e,if_neg (λz=>e (h1.trans z))];exact⟨h1,h2⟩
theorem KV.put {kvs:List (κ×V)}{vs:List (κ×av)}(r:KV kvs vs)(k:κ){y:V}{u:av}(ry:aR y u):KV (dS kvs k y) (stored vs k u):=by
 unfold dS stored;rw[r.any k];by_cases e:(vs.any λkv=>decide (kv.1=k))=true
 ·rw[if_pos e,if_pos e];exact r.repl k ry
 ·rw[if_neg e,if_neg e];exact Paired.snoc r ⟨rfl,ry⟩
theorem KV.length {kvs:List (κ×V)}{vs:List (κ×av)}(r:KV kvs vs):kvs.length=vs.length:=Paired.length r
end
section
variable {P:ay}{w:ba}{H:Hp}{h:Heap}{a:ax}
theorem qM {u:HO}(ok:bJ P w H h)(e:Rd H a u):bG P w H h a u:=e.ok ok
theorem V9 {kvs:List (bL×V)}(ok:bJ P w H h)(e:Rd H a (.dK kvs)):kvs.length<=sizeLine/\(a==sysModules)=false/\∃vs,KV kvs vs/\h.DictOf (n6 P w) a vs:=
 show bG P w H h a (.dK kvs) from qM ok e
end
section
variable {X:Cx}{ai:List (ax×Obj)}{σ:St}{H:Hp}{s:aw}{a:ax}{y v:V}{u r:av}{o:Option V}{A:az}{E:av→aw→Prop}
theorem aA.big (I:aA X ai σ H s):sysModules<s.heap.objs.size:=by
 have h:mainGlobals<s.heap.objs.size:=(I.mod.glob.keeps I.bk).lt;exact Nat.lt_trans (by decide) h
theorem qN {h':Heap}{t':Nat}{ob:HO}(I:aA X ai σ H s)(mu:kW (H a))(hs:Heap.SameBut a s.heap h')(he:∃q,h'.get? a=some q)(new:bG X.prog X.w (upd H a ob) h' a ob) :
  aA X ai σ (upd H a ob) { s with heap:=h',toks:=t' }:=
 I.write (x:=a) (e:=a) mu (.inl rfl) (λb q hb z=>(hs.2 b hb).trans z) he new
end
section
variable {X:Cx}{ai:List (ax×Obj)}{σ:St}{H:Hp}{s:aw}{a:ax}{kvs:List (bL×V)}{k:bL}{u:av}{A:az}{E:av→aw→Prop}
theorem W0 {Q:av->aw->Prop}(I:aA X ai σ H s)(e:Rd H a (.dK kvs))(h:∀t s',aA X ai σ H s'->Q (.int kvs.length t) s'):wpAny (model X.prog X.w) A (call (.builtin "len") [.ref a]) Q E s:=by
 obtain⟨z,hd,vs,rel,dd⟩:=V9 I.hok e
 refine call_len_dict hd dd (by rw[<- rel.length];rw[sizeLine_eq]at z;omega) ?_;rw[<- rel.length];exact h _ _ (I.tok _)
end
noncomputable def qO (i:Expr):Prop:=∀ov iv,subscripted i false ov iv=operate [ov,iv] (getItem ov iv)
theorem W5 {prog:ay}{w:ba}{A:az}{E:av->aw->Prop}{s:aw}{env:Env}{value slice:Expr}{pos:Pos}{T id:String}{Q:av->aw->Prop}(hl:typeLookup (.type T) "__getitem__" = pure (some (.builtin id)))(hs:qO slice)(h:wpAny (model prog w) A (eval value env) (λo s₁=>wpAny (model prog w) A (eval slice env) (λi s₂=>s₂.TypeIs o T/\wpAny (model prog w) A (getItem o i) Q E s₂) E s₁) E s) :
  wpAny (model prog w) A (eval (.Subscript value slice pos) env) Q E s:=by
 refine Subscript_ (aH9 h (λo s₁ h₁=>aH9 h₁ (λi s₂ h₂=>?_) λ_ _ x=>x) λ_ _ x=>x)
 obtain⟨hT,h₂⟩:=h₂
 unfold subscriptTail;refine aD7 ?_;rw[getitemInPython_of_ne hT.not_modules];refine aD7 (wpAny_specialOf hT hl ?_);have fin:wpAny (model prog w) A (subscripted slice false o i) (λr s₃=>wpAny (model prog w) A (letTemporaryGo value o r >>= λ_=>pure r) Q E s₃) E s₂:=by
  rw[hs o i];exact wpAny_operating (aH9 h₂ (λr s₃ h₃=>aD7 (wpAny_letTemporaryGo (aE3 h₃))) λ_ _ x=>x)
 first
  |exact aE3 (aD7 fin)
  |exact aD7 (aE3 (aD7 fin))
  |exact aD7 fin
structure M1 (X:Cx)(o:Expr)(m:Str)(aj:Pos)(e:Expr)(am:Pos):Prop where
 base:attributeBase o m X.env (eval o X.env)=eval o X.env
 few:((backTo am (starEach [e] X.env)).all (λx=>!x.1)&&(backToKw am (keywordEach [] X.env)).all (λx=>x.1.isSome)
 &&decide (([e]:List Expr).length+([]:List Keyword).length+(if ([]:List Keyword).isEmpty then 0 else 1)<30))=true
 line:(aj.endLine==am.line)=true
 trees:backTo am (starEach [e] X.env) = [(false,eval e X.env)]
structure M2 (X:Cx)(o:Expr)(m:Str)(aj:Pos)(e f:Expr)(am:Pos):Prop where
 base:attributeBase o m X.env (eval o X.env)=eval o X.env
 few:((backTo am (starEach [e,f] X.env)).all (λx=>!x.1)&&(backToKw am (keywordEach [] X.env)).all (λx=>x.1.isSome)
 &&decide (([e,f]:List Expr).length+([]:List Keyword).length+(if ([]:List Keyword).isEmpty then 0 else 1)<30))=true
 line:(aj.endLine==am.line)=true
 trees:backTo am (starEach [e,f] X.env) = [(false,eval e X.env),(false,eval f X.env)]
end L2
namespace Att
open PySem PySem.W PySem.Calls PyProof.Rows
theorem W6 {P:Params}{h:Heap}:∀(ns:ag) (vs:List av),WellAll P h vs (ns.map WData.int)->IntsAre vs ns:=by
 intro ns
 induction ns with
 |nil=>
  intro vs w;rw[List.map_nil]at w;cases w;exact .nil
 |cons n ns ih=>
  intro vs w;rw[aG3]at w;cases w with
  |cons a b=>
   cases a;exact .cons _ _ (ih _ b)
theorem wC {l:OpenLaw}{n:Nat}(hn:l.most=some n){P:Params}{h:Heap}{args:List WData}{vals:List av}(hpre:l.row.toRowW.claim.pre args=true)(hwl:WellAll P h vals args) :
  ∃a vs ns,vals = [Value.ref a]/\args = [WData.list (ns.map WData.int)]/\h.get? a=some { cls:=.type "list",data:=.seq vs.toArray }/\IntsAre vs ns/\ns.length<=n:=by
 have hsh:WShape.hasAll [] args [.list .int]=true:=(pre_splitW hpre).1;have hc:l.pre.holds [] { args:=args }=true:=(pre_splitW hpre).2
 obtain⟨d,r,rfl,h1,h2⟩:=hasAllW_cons hsh
 obtain rfl:=hasAllW_nil h2
 obtain⟨xs,rfl,h3⟩:=hasW_list h1
 obtain⟨ns,rfl⟩:=items_int h3
 have ao:ns.length<=n:=by
  unfold OpenLaw.pre at hc;have h4:(WTm.not (.lt (.lit (.int (n:Int))) (.len (.arg 0)))).holds [] { args:=[.list (ns.map .int)] }=true:=by
   have h4:=(holds_andW hc).1;rw[hn]at h4;exact h4
  have h5:=condW_of h4 (w_not (w_lt w_lit (w_len_list (w_arg rfl))));rw[aD8]at h5;refine Nat.le_of_not_lt λq=>?_
  have q':(n:Int)<((ns.length:Nat):Int):=by omega
  first
   |(rw[aG5 q']at h5;exact absurd h5 (by decide))
   |(simp at h5;omega)
 cases hwl with
 |cons w1 w2=>
  cases w2;cases w1 with
  |list ho hall=>exact⟨_,_,ns,rfl,rfl,ho,W6 ns _ hall,ao⟩
theorem wD (l:OpenLaw)(args:List WData):l.row.toRowW.claim.post args (.bool true) args=true:=
 postW_of (r:=l.row.toRowW) (X:=(true==true))
  (show WShape.has [] (.bool true) .bool=true by first|rfl|decide|simp[WShape.has,WShape.arms,WShape.armsAll])
  (show (WTm.eq .res (.lit (.bool true))).value [] { args:=args,res:=some (.bool true),after:=args }=some (.bool (true==true)) from w_eq_bool (w_res rfl) w_lit) rfl
theorem aD4 {l:OpenLaw}{n:Nat}{q:ay}{loose:List Str}{XP:(Str->Option av)->Heap->Prop}{YP:ba->Heap->Prop}{d:DefRec}{x:Str}(hn:l.most=some n)(hdf:d.params.defaults = [])(hbind:∀pm cd doc v:av,bindArgs (docDef d.name d.params d.body d.scope pm cd doc) ⟨[v],[]⟩=pure [(x,v)])(hx:d.scope.names.lookup x=some .local∨d.scope.names.lookup x=some .cell)(hk:d.scope.kind = .function)(hco:d.scope.isCoroutine=false)(hgen:d.scope.isGenerator=false)(body:∀(w:ba) (s₀ s₁ s:aw) (mg mb:Str->Option av) (fa:ax) (o:Obj) (pm cd doc:av) (a:ax) (vs:List av) (ns:ag),
   Ground q loose [] XP w s₀ mg mb s₁.heap->YP w s₁.heap->
   s₁.heap.get? fa=some o->o.data = .func (docDef d.name d.params d.body d.scope pm cd doc)->s₁.heap.CodeRec cd d.name->mg d.name=some (.ref fa)->
   s₁.heap.get? a=some { cls:=.type "list",data:=.seq vs.toArray }->IntsAre vs ns->ns.length<=n->
   s.gens = #[]->s.os=s₁.os->
   Fr s₁.heap s₁.heap.objs.size s.heap (bindL (envOfC d.name d.scope s₁.heap.objs.size fa cd).kindOf [(x,.ref a)] λ_=>none)->
   Cl s₁.heap.objs.size (cellsFrom (s₁.heap.objs.size+1) d.scope.names []) s.heap (bindC (envOfC d.name d.scope s₁.heap.objs.size fa cd).kindOf [(x,.ref a)] λ_=>none)->
   wpAny (model l.prog w) (callerA.deeper (envOfC d.name d.scope s₁.heap.objs.size fa cd)) (execs d.body (envOfC d.name d.scope s₁.heap.objs.size fa cd))
    (λf s'=>f = .ret (.bool true)/\OldK s₁.heap s'.heap/\s'.os=s₁.os/\AllBare s'.gens) (λ_ _=>False) s) :
  WalkO q loose XP YP l.row.toRowW d [] (λf vs=>PySem.call f vs):=by
 intro w s₀ s₁ mg mb G Y fa o pm cd doc dV kV ho hd hcd hD hmg hg args vals as hpre hlay hrd hwl hlo;obtain rfl:dV = .none:=Dflts.none hD hdf;obtain rfl:kV = .none:=Dflts.noKw hD
 obtain⟨a,vs,ns,rfl,rfl,hobj,hints,ao⟩:=wC hn hpre hwl
 refine enter_call ?_;refine call_cells_ret (o:=o) (by rw[depth_caller];decide) ho (fd_plain hd) G.T.nolimit hcd (hbind pm cd doc (.ref a)) (λy hy=>?_) (λh₁ tk F X=>?_) hco hgen hk
 ·obtain rfl:y=(x,Value.ref a):=aE6.mp hy
  rcases hx with e|e
  ·exact .inl e
  ·exact .inr ⟨e,cellsFrom_some _ _ _ (.inl e)⟩
 ·refine aH9 (body w s₀ s₁ { s₁ with heap:=h₁,toks:=tk } mg mb fa o pm cd doc a vs ns G Y ho (fd_plain hd) hcd hmg hobj hints ao hg rfl F X) (λf s' hq=>?_) (λ_ _ hq=>hq)
  obtain⟨rfl,h2,h3,h4⟩:=hq
  exact⟨.inl ⟨.bool true,.bool true,[],rfl,λ_=>rfl,.bool true,wD l _,λ_=>⟨List.Pairwise.nil,λ_ hm=>(nomatch hm)⟩⟩,h2,h3,h4⟩
theorem W7 {l:OpenLaw}{n:Nat}{q:ay}{loose:List Str}{XP:(Str->Option av)->Heap->Prop}{YP:ba->Heap->Prop}{d:DefRec}(hn:l.most=some n)(hdf:d.params.defaults = [])(call:∀(w:ba) (s₀ s₁:aw) (mg mb:Str->Option av) (fa:ax) (o:Obj) (pm cd doc:av) (a:ax) (vs:List av) (ns:ag),
   Ground q loose [] XP w s₀ mg mb s₁.heap->YP w s₁.heap->
   s₁.heap.get? fa=some o->o.data = .func (docDef d.name d.params d.body d.scope pm cd doc)->s₁.heap.CodeRec cd d.name->mg d.name=some (.ref fa)->
   s₁.heap.get? a=some { cls:=.type "list",data:=.seq vs.toArray }->IntsAre vs ns->ns.length<=n->s₁.gens = #[]->
   codeAny (model l.prog w) callerA (.call (.ref fa) ⟨[.ref a],[]⟩) (λr s'=>r = .ok (.ret (.bool true))/\OldK s₁.heap s'.heap/\s'.os=s₁.os/\AllBare s'.gens) s₁) :
  WalkO q loose XP YP l.row.toRowW d [] (λf vs=>PySem.call f vs):=by
 intro w s₀ s₁ mg mb G Y fa o pm cd doc dV kV ho hd hcd hD hmg hg args vals as hpre hlay hrd hwl hlo;obtain rfl:dV = .none:=Dflts.none hD hdf;obtain rfl:kV = .none:=Dflts.noKw hD
 obtain⟨a,vs,ns,rfl,rfl,hobj,hints,ao⟩:=wC hn hpre hwl
 refine enter_call (codeAny_mono (call w s₀ s₁ mg mb fa o pm cd doc a vs ns G Y ho (fd_plain hd) hcd hmg hobj hints ao hg) λr s' hq=>?_)
 obtain⟨rfl,h2,h3,h4⟩:=hq
 exact⟨.inl ⟨.bool true,.bool true,[],rfl,λ_=>rfl,.bool true,wD l _,λ_=>⟨List.Pairwise.nil,λ_ hm=>(nomatch hm)⟩⟩,h2,h3,h4⟩
end Att
namespace L2
open PySem PySem.Spec PyProof.Rows
theorem wE:∀{vs:List av}{ns:ag},IntsAre vs ns->aP (ns.map V.int) vs
 |_,_,.nil=>.nil
 |_,_,.cons n t h=>.cons ⟨t,rfl⟩ (wE h)
noncomputable def bK (s:Stmt):Arguments:=match s with
 |.FunctionDef _ a _ _ _ _ _ _ _ _=>a
 |_=>{ posonlyargs:=[],args:=[],vararg:=none,kwonlyargs:=[],kw_defaults:=[],kwarg:=none,defaults:=[] }
noncomputable def bB (s:Stmt):List Stmt:=match s with
 |.FunctionDef _ _ b _ _ _ _ _ _ _=>b
 |_=>[]
noncomputable def aK (s:Stmt):Scope:=match s with
 |.FunctionDef _ _ _ _ _ _ sc _ _ _=>sc
 |_=>{ kind:=.function,names:=[],isGenerator:=false,isCoroutine:=false }
noncomputable abbrev bX:dG:=λ_ _ _ _ _ _=>False
noncomputable abbrev E0:XK:=λ_ _ _=>False
theorem jR {X:Cx}:iV bX X E0:=λ_ _ _ _ _ _ _ h=>h.elim
structure bN (K:ad)(x qual:Str)(st:Stmt)(f:ax)(fd:FuncData):Prop where
 ex:∃(oc:av) (od:Option ax) (kV doc pm:av) (an:Option ax) (cdv ct:av) (osl:Array (Option av)),
  fd=PySem.W.fnOf x qual (bK st) (bB st) (aK st) .none kV doc pm an cdv ct/\K.lookup f=some ⟨oc,od,.func fd,osl⟩/\PySem.W.codeIn K cdv qual=true
 kp:PySem.W.keepIn K (.ref f)=true
section
variable {P:ay}{w:ba}{K:ad}{mg:Str→Option av}{base:Heap}
theorem bN.ok {x qual:Str}{st:Stmt}{f:ax}{fd:FuncData}{N ps:List Str}{k:Nat}{sp:Sp}(F:bN K x qual st f fd)(S:FnScope N ps (aK st))(len:∀vs H Q E,sp vs H Q E->vs.length=ps.length)(hbody:∀(cdv:av) (A:az) (outer:List Env) (s:aw) (H:Hp) (vs:List V) (Q:VK) (E:XK),bI k (A.deeper (envOfC qual (aK st) s.heap.objs.size f cdv))->sp vs H Q E->
   ∃t,cQ (bV bX P w K mg base N qual (aK st) f cdv A outer s H E).nox (bB st) t/\t { nx:=λ_ H'=>Q .non H',rt:=Q } (dQ N vs) H):cK P w K mg base bX (k+1) f fd ps sp:=by
 obtain⟨oc,od,kV,doc,pm,an,cdv,ct,osl,rfl,lk,hcd⟩:=F.ex
 refine qE lk hcd S len λA outer s H vs Q E hr hsp=>?_
 obtain⟨t,h,q⟩:=hbody cdv A outer s H vs Q E hr hsp
 exact⟨t,h.nox,q⟩
theorem bN.binds {x qual:Str}{st:Stmt}{f:ax}{fd:FuncData}{ps:List Str}(F:bN K x qual st f fd)(h:∀(kV doc pm:av) (an:Option ax) (cdv ct:av) (us:List av),us.length=ps.length->bindArgs (PySem.W.fnOf x qual (bK st) (bB st) (aK st) .none kV doc pm an cdv ct) ⟨us,[]⟩=pure (ps.zip us)):fW K fd ps []:=by
 obtain⟨oc,od,kV,doc,pm,an,cdv,ct,osl,rfl,lk,hcd⟩:=F.ex
 exact .all (h kV doc pm an cdv ct)
theorem cY {x qual:Str}{st:Stmt}{f:ax}{oc:av}{od an:Option ax}{osl:Array (Option av)}{kV doc pm cdv ct:av}(l:K.lookup f=some ⟨oc,od,.func (PySem.W.fnOf x qual (bK st) (bB st) (aK st) .none kV doc pm an cdv ct),osl⟩)(c:PySem.W.codeIn K cdv qual=true)(k:PySem.W.keepIn K (.ref f)=true):bN K x qual st f (PySem.W.fnOf x qual (bK st) (bB st) (aK st) .none kV doc pm an cdv ct):=⟨⟨oc,od,kV,doc,pm,an,cdv,ct,osl,rfl,l,c⟩,k⟩
end
theorem W8 {n:Nat}(h:n<=1000):n<sizeLine:=Nat.lt_of_le_of_lt h (by decide)
section
variable {X:Cx}
theorem pv (i:Nat){x:Str}{pos:Pos}(hN:X.N[i]? = some x:=by rfl)(hv:d7 X.env.scope x:=by first|exact Or.inl rfl|exact Or.inr (Or.inl rfl)|exact Or.inr (Or.inr rfl))(hd:(x==("__debug__":Str))=false:=by decide)(hcd:(x==("__classdict__":Str))=false:=by decide):PE X (.Name x pos) (cH i):=fC hN hv hd hcd
theorem W9:cR X (.builtin "len") (λxs H Q=>∃a kvs,xs = [V.ref a]/\H a=some (.dK kvs)/\Q (.int kvs.length) H):=by
 intro ai s σ H xs us Q I r h
 obtain⟨a,kvs,rfl,ha,q⟩:=h
 obtain⟨u,rfl,ru⟩:=gZ r
 cases ru;exact W0 I (.inl ha) λt s' I'=>⟨.int kvs.length,H,I',⟨t,rfl⟩,q⟩
end
theorem cF {A B:Prop}(h:B):if false=true then A else B:=by
 rw[if_neg aF1];exact h
theorem cC {A B:Prop}(h:A):if true=true then A else B:=by
 rw[if_pos rfl];exact h
noncomputable def aJ (H H':Hp):Prop:=∀b o,H b=some o->H' b=some o
theorem aJ.refl (H:Hp):aJ H H:=λ_ _ h=>h
theorem aJ.trans {H H1 H2:Hp}(a:aJ H H1)(b:aJ H1 H2):aJ H H2:=λc o h=>b c o (a c o h)
theorem aJ.free {H H':Hp}(e:aJ H H'){l:ax}(h:H' l=Option.none):H l=Option.none:=by
 cases q:H l with
 |none=>rfl
 |some o=>
  rw[e l o q]at h;cases h
noncomputable def d9 (cells:List (Str×ax)):List (Str×NameKind)->List (Str×ax)->List (Str×ax)
 |[],cs=>cs
 |(n,k)::r,cs=>d9 cells r (if k==.free then (n,(cells.lookup n).getD 0)::cs else cs)
theorem qP {env:Env}:∀(ns:List (Str×NameKind)) (cs:List (Str×ax)),(∀x∈ns,x.2 = .free->∃c,env.cells.lookup x.1=some c)->
  (forIn ns cs (λ(x:Str×NameKind) r=>(match x with
   |(name,kind)=>if (kind==.free)=true then (do let y <- cellOf env name;pure (ForInStep.yield ((name,y)::r))) else pure (ForInStep.yield r)):_->_->Sem _))=(pure (d9 env.cells ns cs):Sem (List (Str×ax)))
 |[],cs,_=>by rw[List.forIn_nil];rfl
 |(n,k)::r,cs,h=>by
  rw[List.forIn_cons];have hr:∀x∈r,x.2 = .free->∃c,env.cells.lookup x.1=some c:=λx hx=>h x (aF2 _ hx)
  cases hk:(k==NameKind.free) with
  |true=>
   have e:k = .free:=by simpa using hk
   obtain⟨c,hc⟩:=h (n,k) aE0 e
   simp only[hk,if_true];have e1:cellOf env n=pure c:=by unfold cellOf;rw[hc]
   rw[e1];show ((pure c >>= λy=>pure (ForInStep.yield ((n,y)::cs))) >>= _:Sem _)=_;rw[pure_bind,pure_bind]
   have:=qP (env:=env) r ((n,c)::cs) hr
   refine this.trans ?_;unfold d9;simp only[hk,if_true,hc,Option.getD_some];cases r<;>rfl
  |false=>
   simp only[hk,aG0,aK1];rw[pure_bind]
   have:=qP (env:=env) r cs hr
   refine this.trans ?_
   conv=>rhs;unfold d9
   simp only[hk,aG0,aK1]
theorem wF {scope:Scope}{env:Env}(h:∀x∈scope.names,x.2 = .free->∃c,env.cells.lookup x.1=some c):closureFor scope env=pure (d9 env.cells scope.names []):=by
 have e:=qP (env:=env) scope.names [] h;unfold closureFor;rw[show (pure (d9 env.cells scope.names []):Sem (List (Str×ax)))=(pure (d9 env.cells scope.names []) >>= pure) by rw[pure_bind]];rw[<- e]
theorem nQ {cells:List (Str×ax)}:∀(ns:List (Str×NameKind)) (cs:List (Str×ax)) {x:Str}{c:ax},(∀y∈ns,y.2 = .free->∃c,cells.lookup y.1=some c)->
  (∀x c,cs.lookup x=some c->cells.lookup x=some c)->(d9 cells ns cs).lookup x=some c->cells.lookup x=some c
 |[],cs,x,c,_,hc,h=>hc x c h
 |(n,k)::r,cs,x,c,hn,hc,h=>by
  unfold d9 at h;have hr:∀y∈r,y.2 = .free->∃c,cells.lookup y.1=some c:=λy hy=>hn y (aF2 _ hy)
  cases hk:(k==NameKind.free) with
  |false=>
   simp only[hk,aG0,aK1]at h;exact nQ r cs hr hc h
  |true=>
   simp only[hk,if_true]at h;refine nQ r _ hr (λy d e=>?_) h
   obtain⟨c0,h0⟩:=hn (n,k) aE0 (by simpa using hk)
   have h0:cells.lookup n=some c0:=h0;rw[h0]at e;rw[aH8]at e;by_cases hyn:y=n
   ·subst hyn
    simp only[aJ5,Option.getD_some]at e;rw[h0];exact e
   ·have:(y==n)=false:=aM6.mpr hyn
    simp only[this]at e;exact hc y d e
theorem qQ {cells:List (Str×ax)}:∀(ns:List (Str×NameKind)) (cs:List (Str×ax)) {x:Str},((x,NameKind.free)∈ns∨∃c,cs.lookup x=some c)->∃c,(d9 cells ns cs).lookup x=some c
 |[],cs,x,h=>by
  rcases h with h|h
  ·simp at h
  ·exact h
 |(n,k)::r,cs,x,h=>by
  unfold d9;refine qQ r _ ?_;rcases h with h|⟨c,h⟩
  ·rcases aE2.mp h with e|e
   ·cases e
    exact .inr ⟨_,by simp[aH8];rfl⟩
   ·exact .inl e
  ·right
   cases hk:(k==NameKind.free) with
   |false=>exact⟨c,by simpa[hk] using h⟩
   |true=>
    simp only[if_true];rw[aH8];by_cases hxn:(x==n)=true
    ·simp only[hxn];exact⟨_,rfl⟩
    ·simp only[Bool.eq_false_iff.mpr hxn];exact⟨c,h⟩
theorem nR {env:Env}:∀{names:List (Str×NameKind)}{x:Str}{k:NameKind},(names.map λ(n,k)=>if (k==NameKind.free&&env.scope.kind==.function&&env.kindOf n==some .cell) then (n,NameKind.cell) else (n,k)).lookup x=some k->
  names.lookup x=some k∨(names.lookup x=some .free/\k = .cell)
 |[],_,_,h=>by simp at h
 |(n,q)::r,x,k,h=>by
  have ih:=@nR env r x k;rw[aG3]at h;by_cases hx:(x==n)=true
  ·have e:x=n:=by simpa using hx
   subst e;by_cases hc:(q==NameKind.free&&env.scope.kind==.function&&env.kindOf x==some .cell)=true
   ·simp only[hc,if_true,aH8,aJ5]at h
    have hq:q = .free:=by simp at hc;exact hc.1.1
    exact .inr ⟨by simp[aH8,hq],(aF9 h).symm⟩
   ·simp only[hc,aG0,aK1,aH8,aJ5]at h
    exact .inl (by simp[aH8];exact aF9 h)
  ·have hx':(x==n)=false:=Bool.eq_false_iff.mpr hx
   have h':(r.map λ(n,k)=>if (k==NameKind.free&&env.scope.kind==.function&&env.kindOf n==some .cell) then (n,NameKind.cell) else (n,k)).lookup x=some k:=by
    by_cases hc:(q==NameKind.free&&env.scope.kind==.function&&env.kindOf n==some .cell)=true
    ·simp only[hc,if_true,aH8,hx']at h;exact h
    ·simp only[hc,aG0,aK1,aH8,hx']at h;exact h
   simp only[aH8,hx'];exact ih h'
noncomputable def eS (fr:List (Option Nat))(σ:St):St:=fr.map λo=>o.bind λj=>(σ[j]?).join
noncomputable def Wk (σ₁ σ₂:St):Prop:=σ₁.length=σ₂.length/\∀(i:Nat) v,σ₁[i]? = some (some v)->σ₂[i]? = some (some v)
theorem h9:∀(ns:List (Str×NameKind)) (n:Nat) (cs:List (Str×ax)),cellsFrom n ns cs=cellsFrom n ns []++cs
 |[],_,_=>rfl
 |(x,k)::r,n,cs=>by
  unfold cellsFrom;split
  ·rw[h9 r (n+1) ((x,n)::cs),h9 r (n+1) [(x,n)]];simp
  ·exact h9 r n cs
theorem qR:∀(ns:List (Str×NameKind)) (n:Nat) {x:Str}{c:ax},(x,c)∈cellsFrom n ns []->(x,NameKind.cell)∈ns
 |[],_,_,_,h=>by simp[cellsFrom]at h
 |(y,k)::r,n,x,c,h=>by
  unfold cellsFrom at h;split at h
  ·rename_i hk
   rw[h9]at h;rcases aI1.mp h with z|z
   ·exact aF2 _ (qR r _ z)
   ·rw[aE6]at z
    cases z
    have:k = .cell:=by simpa using hk
    rw[this];exact aE0
  ·exact aF2 _ (qR r _ h)
theorem nT:∀(ns:List (Str×NameKind)) (n:Nat) {x:Str},(x,NameKind.cell)∈ns->∃c,(x,c)∈cellsFrom n ns []
 |(y,k)::r,n,x,h=>by
  unfold cellsFrom;rcases aE2.mp h with z|z
  ·cases z
   rw[if_pos (by rfl),h9]
   exact⟨n,aF7 _ (by simp)⟩
  ·split
   ·obtain⟨c,hc⟩:=nT r (n+1) z
    rw[h9]
    exact⟨c,aI6 _ hc⟩
   ·exact nT r n z
theorem qS {α:Type}:∀{l:List (Str×α)}{x:Str}{c:α},(x,c)∈l->∃d,l.lookup x=some d
 |(y,v)::r,x,c,h=>by
  rw[aH8];cases hb:x==y with
  |true=>exact⟨v,rfl⟩
  |false=>
   rcases aE2.mp h with z|z
   ·cases z;simp at hb
   ·exact qS z
theorem nU {α:Type}{x:Str}:∀(l r:List (Str×α)),(l++r).lookup x=(match l.lookup x with|some v=>some v|none=>r.lookup x)
 |[],_=>rfl
 |(y,v)::l,r=>by
  rw[List.cons_append,aH8,aH8];cases hb:x==y with
  |true=>rfl
  |false=>exact nU l r
noncomputable def fG (X:Cx)(scope:Scope)(C:ax):List (Str×ax):=cellsFrom (C+1) scope.names (d9 X.env.cells scope.names [])
theorem iW {X:Cx}{scope:Scope}{C:ax}{x:Str}{c:ax}(h:(fG X scope C).lookup x=some c) :
  (x,c)∈cellsFrom (C+1) scope.names []∨((∀d,(x,d)∉cellsFrom (C+1) scope.names [])/\(d9 X.env.cells scope.names []).lookup x=some c):=by
 unfold fG at h;rw[h9,nU]at h;cases e:(cellsFrom (C+1) scope.names []).lookup x with
 |some v=>rw[e]at h;cases h;exact .inl (aH4 e)
 |none=>
  rw[e]at h;refine .inr ⟨λd hd=>?_,h⟩
  obtain⟨d',z⟩:=qS hd
  rw[e]at z;cases z
theorem X0 {X:Cx}{scope:Scope}{C:ax}{x:Str}{c:ax}(hn:(x,NameKind.cell)∉scope.names)(h:(d9 X.env.cells scope.names []).lookup x=some c):(fG X scope C).lookup x=some c:=by
 unfold fG;rw[h9,nU];cases e:(cellsFrom (C+1) scope.names []).lookup x with
 |some v=>exact absurd (qR _ _ (aH4 e)) hn
 |none=>exact h
theorem wG {X:Cx}{scope:Scope}{C:ax}{x:Str}(h:(x,NameKind.cell)∈scope.names∨∃c,(d9 X.env.cells scope.names []).lookup x=some c):∃c,(fG X scope C).lookup x=some c:=by
 unfold fG;rw[h9,nU];cases e:(cellsFrom (C+1) scope.names []).lookup x with
 |some v=>exact⟨v,rfl⟩
 |none=>
  rcases h with h|h
  ·obtain⟨c,hc⟩:=nT scope.names (C+1) h
   obtain⟨d,hd⟩:=qS hc
   rw[e]at hd;cases hd
  ·exact h
noncomputable def bY (X:Cx)(scope:Scope)(N:List Str)(s:aw)(H:Hp)(C:ax)(fp:List ax)(E:av->aw->Prop):Cx:=
 { X with N:=N,s₀:=s,H₀:=H,env:=compEnvC scope (fG X scope C) C X.env,outer:=X.stack,ex:=fp,fn:=λx=>scope.names.lookup x==some .cell,pn:=[],xe:=E }
structure dH (X:Cx)(scope:Scope)(N:List Str)(fr:List (Option Nat)):Prop where
 kind:scope.kind = .function
 own:∀y∈scope.names,y.2 = .cell->scope.names.lookup y.1=some .cell
 names:∀y∈scope.names,y.2 = .local->scope.names.lookup y.1=some .local
 free:∀y∈scope.names,y.2 = .free->X.env.scope.names.lookup y.1=some .cell∨X.env.scope.names.lookup y.1=some .free
 len:fr.length=N.length
 from_:∀(i j:Nat),fr[i]? = some (some j)->∃x,N[i]? = some x/\X.N[j]? = some x/\scope.names.lookup x=some .free
section
variable {X:Cx}{ai:List (ax×Obj)}{σ:St}{H:Hp}{s:aw}{scope:Scope}{N:List Str}{fr:List (Option Nat)}
theorem dH.cells (S:dH X scope N fr)(I:aA X ai σ H s):∀y∈scope.names,y.2 = .free->∃c,X.env.cells.lookup y.1=some c:=λy hy hk=>I.ok.has y.1 (S.free y hy hk)
theorem X1 {C D:ax}{fp:List ax}{E:av->aw->Prop}{h1:Heap}{tk:Nat}{m:Str->Option av}(S:dH X scope N fr)(I:aA X ai σ H s)(hf:∀b∈fp,gK X ai H b)(hfl:∀b∈fp,b<s.heap.objs.size)(hD:s.heap.objs.size<=D)(hC:s.heap.objs.size<=C)(hDC:D<C)(old:∀b o,s.heap.get? b=some o->h1.get? b=some o)(hns:h1.Ns C m)(hacc:h1.get? D=some { cls:=.type "list",data:=.seq #[] 0 })(hco:CellsOk h1 (C+1) (cellsFrom (C+1) scope.names [])) :
  aA (bY X scope N s H C fp E) [] (eS fr σ) (upd H D (.lst [])) { s with heap:=h1,toks:=tk }:=by
 have hHD:H D=none:=I.hok.fresh hD;have cl:=S.cells I;have cs:∀{x:Str}{c:ax},(d9 X.env.cells scope.names []).lookup x=some c->X.env.cells.lookup x=some c:=λ{x c} h=>nQ scope.names [] cl (λ_ _ z=>by simp at z) h
 have clt:∀{x:Str}{c:ax},X.env.cells.lookup x=some c->c<s.heap.objs.size:=λ{x c} h=>by obtain⟨v,z⟩:=I.cell x c h;exact z.lt
 have nge:∀{x:Str}{c:ax},(x,c)∈cellsFrom (C+1) scope.names []->C<c:=λ{x c} h=>(hco.empty x c h).2
 refine⟨⟨I.ok.mod,?_,I.ok.glob,I.ok.blt,hC,?_,?_,?_,I.ok.hd,I.ok.frames,.inl rfl,?_,I.bs,aH0 I.ok.bsz I.sz,?_,?_,I.stack,I.stkFree⟩,rfl,I.bare,Un.laid old hD hHD,⟨m,hns,?_⟩,?_,?_,?_,λp hp=>absurd (show p∈([]:List (ax×Obj)) from hp) (by simp),?_,?_⟩
 ·exact S.kind
 ·intro x y c h1 h2
  rcases iW h1 with a|⟨_,a⟩<;>rcases iW h2 with b|⟨_,b⟩
  ·exact name_of_addr hco.apart a b
  ·exact absurd (aE4 (Nat.lt_trans (nge a) (clt (cs b))) hC) (aI5 _)
  ·exact absurd (aE4 (Nat.lt_trans (nge b) (clt (cs a))) hC) (aI5 _)
  ·exact I.ok.inj x y c (cs a) (cs b)
 ·intro x hx
  have hx:(relabel scope X.env).names.lookup x=some .cell∨(relabel scope X.env).names.lookup x=some .free:=hx;have fin:(x,NameKind.free)∈scope.names->∃c,(fG X scope C).lookup x=some c:=λz=>wG (.inr (qQ scope.names [] (.inl z)))
  rcases hx with hx|hx
  ·rcases nR hx with z|z
   ·exact wG (.inl (aH4 z))
   ·exact fin (aH4 z.1)
  ·rcases nR hx with z|z
   ·exact fin (aH4 z)
   ·exact absurd z.2 (by decide)
 ·intro x c hx h
  have hx:(scope.names.lookup x==some NameKind.cell)=true:=hx;have hx:scope.names.lookup x=some .cell:=by simpa using hx
  rcases iW h with a|⟨a,_⟩
  ·exact aH0 hC (aN8 (nge a))
  ·obtain⟨d,hd⟩:=nT scope.names (C+1) (aH4 hx)
   exact absurd hd (a d)
 ·intro b hb
  refine⟨aH2 (aE4 (hfl b hb) hC),λx c e=>?_⟩;rcases iW e with a|⟨_,a⟩
  ·exact aK6 (Nat.lt_trans (aE4 (hfl b hb) hC) (nge a))
  ·exact (hf b hb).2.2.2.2.1 x c (cs a)
 ·intro b o e hb
  rcases (hf b hb).2.2.2.1 with z|z
  ·exact I.ok.noex b o e z
  ·exact absurd (aE4 (aE8 e) (aH0 I.ok.bsz z)) (aI5 _)
 ·intro b hb z
  rcases aE2.mp (I.stkSub b z) with e|e
  ·exact (hf b hb).2.1 e
  ·exact (hf b hb).2.2.1 e
 ·intro i x v e1 e2 e3
  have e2:(fr.map λo=>o.bind λj=>(σ[j]?).join)[i]? = some (some v):=e2;rw[aF8]at e2;cases ef:fr[i]? with
  |none=>rw[ef]at e2;cases e2
  |some o=>
   rw[ef]at e2;cases o with
   |none=>cases e2
   |some j=>
    have e2:some ((σ[j]?).join)=some (some v):=e2;have ej:σ[j]? = some (some v):=by
     cases q:σ[j]? with
     |none=>rw[q]at e2;cases e2
     |some w=>rw[q]at e2;cases w with
      |none=>cases e2
      |some w=>cases e2;rfl
    obtain⟨y,a1,a2,a4⟩:=S.from_ i j ef
    have e1:N[i]? = some x:=e1;rw[e1]at a1;cases a1;have a3:(x,NameKind.free)∈scope.names:=aH4 a4;have vis:d7 X.env.scope x:=(S.free _ a3 rfl).elim (λz=>.inr (.inl z)) λz=>.inr (.inr z)
    obtain⟨m0,hn0,hl0⟩:=I.loc
    obtain⟨u,r,l⟩:=hl0 j x v a2 ej vis
    refine⟨u,r,.inr ⟨?_,?_⟩⟩
    ·have e3:(relabel scope X.env).names.lookup x=some .local∨(relabel scope X.env).names.lookup x=some .cell∨(relabel scope X.env).names.lookup x=some .free:=e3
     rcases e3 with z|z|z
     ·rcases nR z with y|y
      ·rw[a4]at y;cases y
      ·exact absurd y.2 (by decide)
     ·exact .inl z
     ·exact .inr z
    ·obtain⟨c,hc⟩:=qQ (cells:=X.env.cells) scope.names [] (x:=x) (.inl a3)
     refine⟨c,X0 (λz=>by have:=S.own _ z rfl;rw[a4]at this;cases this) hc,?_⟩;have hc':=cs hc;have S1:=S.free (x,.free) a3 rfl;rcases l with⟨k,_⟩|⟨_,c2,hc2,z⟩
     ·have k:X.env.scope.names.lookup x=some .local:=k
      rcases S1 with q|q<;>(have q:X.env.scope.names.lookup x=_:=q;rw[k]at q;cases q)
     ·rw[hc']at hc2;cases hc2
      obtain⟨oc,ho,hd⟩:=z
      exact⟨oc,old c oc ho,hd⟩
 ·intro x c e
  rcases iW e with a|⟨_,a⟩
  ·exact⟨_,(hco.empty x c a).1⟩
  ·obtain⟨v,oc,ho,hd⟩:=I.cell x c (cs a)
   exact⟨v,oc,old c oc ho,hd⟩
 ·show upd H D (.lst []) C=none
  rw[aL (aK6 hDC)];exact I.hok.fresh hC
 ·intro x c e
  show upd H D (.lst []) c=none;rcases iW e with a|⟨_,a⟩
  ·rw[aL (aK6 (Nat.lt_trans hDC (nge a)))];exact I.hok.fresh (aH0 hC (aN8 (nge a)))
  ·have q:=cs a
   rw[aL (aH2 (aE4 (clt q) hD))];exact I.freeC x c q
 ·exact I.hok.laid old hD ⟨aM1 _,[],0,.nil,hacc⟩
 ·show (eS fr σ).length=N.length
  unfold eS;rw[aD8];exact S.len
end
noncomputable def iX (X:Cx)(ifs:List Expr)(t:TT):Prop:=
 ∀(ai:List (ax×Obj)) (s:aw) (σ:St) (H:Hp) (Q:Bool->Hp->Prop),aA X ai σ H s->t σ H Q->
  wpAny (model X.prog X.w) X.A (forIn ifs true λc r=>if r=true then do let ok <- isTrue c X.env (eval c X.env);pure (ForInStep.yield ok) else pure (ForInStep.yield r)) (TP X ai σ Q) X.xe s
noncomputable def wH:TT:=λ_ H Q=>Q true H
theorem X2 {X:Cx}:iX X [] wH:=λ_ _ _ H _ I h=>wpAny_tests_nil ⟨H,I,h⟩
theorem X3 {X:Cx}{c:Expr}{t:TT}(h:PT X c t):iX X [c] t:=λai s σ H Q I hq=>wpAny_tests_one (h ai s σ H Q I hq)
section
variable {prog:ay}{w:ba}{A:az}
noncomputable def qT (prog:ay)(w:ba)(A:az)(elt tg:Expr)(ifs:List Expr)(it acc:av)(env:Env)(lost:av->aw->Prop)(stop next:aw->Prop)(s:aw):Prop:=
 let M:=model prog w
 let tests:Sem Bool:=forIn ifs true λc r=>if r=true then do let ok <- isTrue c env (eval c env);pure (ForInStep.yield ok) else pure (ForInStep.yield r)
 let put:aw->Prop:=wpAny M A (eval elt env) (λx=>wpAny M A (call (.builtin "list.append") [acc,x]) (λ_=>next) lost) lost
 let taken:av->aw->Prop:=λv=>wpAny M A (letOwnedTupleGo tg it v) (λ_=>wpAny M A (assign tg env v) (λ_=>wpAny M A tests (λok s'=>if ok=true then put s' else next s') lost) lost) lost
 wpAny M A (pyNext it) (λr s'=>match r with
  |none=>stop s'
  |some v=>taken v s') lost s
theorem X4 {R:Result->aw->Prop}{s:aw}{elt tg iter:Expr}{ifs:List Expr}{scope:Scope}{pos:Pos}{it acc:av}{env:Env}(I:Nat->aw->Prop)(turn:∀n s,I n s->qT prog w A elt tg ifs it acc env (notedBy (model prog w) A env λe=>R (.error e)) (R (.ok .next)) (λs'=>∃m,m<n/\I m s') s)(n:Nat)(h:I n s) :
  codeAny (model prog w) A (.compLoop (.ListComp elt [⟨tg,iter,ifs,0⟩] scope pos) 0 it acc env) R s:=by
 apply codeAny_loop rfl I _ n h;intro k s1 h1
 change wpAny _ A ((compTurn _ 0 it acc env).onRaise (λx=>do noteFrame x env;theTreesLotGoes x)) _ _ s1
 apply wpAny_noted;rw[compTurn_list];have t:=turn k s1 h1;unfold qT at t;apply aD7;apply wpAny_standAt;apply aD7;refine aH9 t (λr s2 h2=>?_) λ_ _ z=>z
 cases r with
 |none=>exact aE3 h2
 |some v=>
  apply aD7;refine aH9 h2 (λ_ s3 h3=>?_) λ_ _ z=>z
  apply aD7;refine aH9 h3 (λ_ s4 h4=>?_) λ_ _ z=>z
  apply aD7;refine aH9 h4 (λok s5 h5=>?_) λ_ _ z=>z
  cases ok with
  |false=>exact aE3 ⟨rfl,h5⟩
  |true=>
   apply aD7;apply aD7;refine aH9 h5 (λx s6 h6=>?_) λ_ _ z=>z
   apply aD7;exact aH9 h6 (λ_ s7 h7=>aE3 (aE3 ⟨rfl,h7⟩)) λ_ _ z=>z
end
noncomputable def wI (g:TG)(tc:TT)(te:TE)(σ0:St)(J:It)(D:ax)(Q:VK)(W:Nat->Nat->List V->Hp->Prop):Prop:=
 ∀i m acc H',W i m acc H'->H' D=some (.lst acc)/\((J.stop i H'/\Q (.ref D) H')∨(J.go i H'/\∀x H2,J.yld i H' x H2->g x σ0 H2 λσ2 H3=>Wk σ0 σ2/\tc σ2 H3 λb H4=>
  if b=true then te σ2 H4 λv H5=>H5 D=some (.lst acc)/\acc.length<sizeLine/\∃m',m'<m/\W (i+1) m' (acc++[v]) (upd H5 D (.lst (acc++[v]))) else ∃m',m'<m/\W (i+1) m' acc H4))
section
variable {M:Model}{A:az}{E:av→aw→Prop}{s:aw}
theorem X5 {scope:Scope}{globals:ax}{cl:List (Str×ax)}{qual:Str}{func:Option ax}{code:av}{builtins:ax}{outer:Env}{Q:Env->aw->Prop}(hQ:∀h',h'.Ns s.heap.objs.size (λ_=>none)->(∀b o,s.heap.get? b=some o->h'.get? b=some o)->CellsOk h' (s.heap.objs.size+1) (cellsFrom (s.heap.objs.size+1) scope.names [])->
   Q (newEnv scope s.heap.objs.size globals (cellsFrom (s.heap.objs.size+1) scope.names cl) qual func code (some outer) builtins) { s with heap:=h' }) :
  wpAny M A (newFunctionEnv scope globals cl [] qual func code (some outer) builtins) Q E s:=by
 simp only[newFunctionEnv,Option.isSome_some,if_true];refine aD7 (wpAny_alloc ?_);refine aD7 (wpAny_layCells _ (λname kind cells=>by cases hkc:kind==NameKind.cell<;>simp[hkc]) _ _ _ _ ?_);have ok:=cellsFrom_ok scope.names (s.heap.push { cls:=.type "dict",data:=.dict #[] }) (s.heap.objs.size+1) [] ⟨λ_ _ hm=>(nomatch hm),List.Pairwise.nil⟩ (by rw[aK8];exact aF0 _);rw[aK8]at ok;rw[show ({ s with heap:=s.heap.push { cls:=.type "dict",data:=.dict #[] } }:aw).heap.objs.size=s.heap.objs.size+1 from aK8 ..];rw[List.forIn_nil];refine aD7 (aE3 (aE3 (hQ _ ((Heap.Ns.new s.heap (.type "dict")).keeps (pushCells_keeps _ _)) (λb o e=>pushCells_keeps _ _ b o (aE1 _ e)) ok)))
end
section
variable {X:Cx}{ai:List (ax×Obj)}{σ:St}{H:Hp}{s:aw}{scope:Scope}{N:List Str}{fr:List (Option Nat)}{tg iter elt:Expr}{ifs:List Expr}{pos:Pos}{wi:TI}{g:TG}{tc:TT}{te:TE}
structure lJ (X:Cx)(scope:Scope)(N:List Str)(tg:Expr)(ifs:List Expr)(elt:Expr)(s:aw)(H:Hp)(g:TG)(tc:TT)(te:TE):Prop where
 tg:∀(C:ax) (fp:List ax),PG (bY X scope N s H C fp λ_ _=>False) tg g
 ifs:∀(C:ax) (fp:List ax),iX (bY X scope N s H C fp λ_ _=>False) ifs tc
 elt:∀(C:ax) (fp:List ax),PE (bY X scope N s H C fp λ_ _=>False) elt te
theorem X6 {C:ax}{fp:List ax}{E:av->aw->Prop}{pins':List (ax×Obj)}{σ':St}{H':Hp}{s':aw}(I:aA X ai σ H s)(hf:∀b∈fp,gK X ai H b)(I':aA (bY X scope N s H C fp E) pins' σ' H' s'):aA X ai σ H' s':=
 I.call' (ch:=fp) I'.os I'.base I'.hok I'.bare λb hb=>⟨(hf b hb).2.2.2.1,(hf b hb).2.1,(hf b hb).2.2.2.2.1,(hf b hb).2.2.2.2.2⟩
theorem wJ {Rr:av->ax->Result->aw->Prop}{J:It}{fp:List ax}{it:ax}{tn:Nat->Heap->Prop}{Q:VK}(hc:X.calm=true)(S:dH X scope N fr)(B:lJ X scope N tg ifs elt s H g tc te)(I:aA X ai σ H s)(T:iA X.prog X.w X.K tg J fp it tn)(hst:tn 0 s.heap)(hf:∀b∈fp,gK X ai H b)(h:∀D,H D=none->∃W:Nat->Nat->List V->Hp->Prop,(∃m,W 0 m [] (upd H D (.lst [])))/\wI g tc te (eS fr σ) J D Q W)(hend:∀(D C:ax) (s':aw) (H':Hp) (m:Str->Option av),s.heap.objs.size<=C->s.heap.objs.size<=D->aA X ai σ H' s'->s'.heap.Ns C m->H' C=none->Q (.ref D) H'->Rr (.ref D) C (.ok .next) s') :
  wpAny (model X.prog X.w) X.A (newList []) (λacc s₃=>wpAny (model X.prog X.w) X.A (newFunctionEnv scope X.env.globals (d9 X.env.cells scope.names []) [] X.env.qual none .none (some X.env)) (λcenv s₄=>
   codeAny (model X.prog X.w) X.A (.compStart (.ListComp elt [⟨tg,iter,ifs,0⟩] scope pos) 0 (.ref it) acc { cenv with scope:=relabel scope X.env }) (Rr acc cenv.locals) s₄) X.xe s₃) X.xe s:=by
 refine aK9 (X5 (λh₁ hns₁ keep₁ hco₁=>?_));dsimp only at hns₁ keep₁ hco₁ ⊢;generalize hH2:s.heap.push { cls:=.type "list",dict:=none,data:=.seq ([]:List av).toArray }=H2 at hns₁ keep₁ hco₁ ⊢;have hC:H2.objs.size=s.heap.objs.size+1:=by rw[<- hH2,aK8]
 have hDC:s.heap.objs.size<H2.objs.size:=by rw[hC];exact Nat.lt_succ_self _
 have hCle:s.heap.objs.size<=H2.objs.size:=by rw[hC];exact Nat.le_succ _
 have old:∀b o,s.heap.get? b=some o->h₁.get? b=some o:=λb o e=>keep₁ b o (hH2▸aE1 _ e)
 have hacc:h₁.get? s.heap.objs.size=some { cls:=.type "list",data:=.seq #[] 0 }:=keep₁ _ _ (hH2▸aF3 _ rfl);have hfl:∀b∈fp,b<s.heap.objs.size:=λb hb=>by obtain⟨o,e,_⟩:=T.obj _ _ hst b hb;exact aE8 e
 obtain⟨W,⟨m0,w0⟩,turn⟩:=h s.heap.objs.size (I.hok.fresh (aF0 _))
 have st1:tn 0 h₁:=T.keep _ _ _ hst λb _ o e=>old b o e
 have fr0:∀b∈fp,upd H s.heap.objs.size (.lst []) b=none:=λb hb=>by rw[aL (aH2 (hfl b hb))];exact (hf b hb).1
 have stat:∀{H':Hp},(∀b∈fp,H' b=none)->∀b∈fp,gK (bY X scope N s H H2.objs.size fp λ_ _=>False) [] H' b:=λ{H'} hn b hb=>by
  have f:=hf b hb;refine⟨hn b hb,aH2 (aE4 (hfl b hb) hCle),λz=>?_,.inl hb,λx c e=>(iW e).elim (λz=>aK6 (Nat.lt_trans (aE4 (hfl b hb) hCle) (hco₁.empty x c z).2)) λz=>f.2.2.2.2.1 x c (nQ scope.names [] (S.cells I) (λ_ _ z=>by simp at z) z.2),λp hp=>absurd (show p∈([]:List (ax×Obj)) from hp) (by simp)⟩;rcases aE2.mp (I.stkSub b z) with e|e
  ·exact f.2.1 e
  ·exact f.2.2.1 e
 generalize hX:bY X scope N s H H2.objs.size fp (λ_ _=>False)=Y at stat;have I0:aA Y [] (eS fr σ) (upd H s.heap.objs.size (.lst [])) { s with heap:=h₁ }:=hX▸X1 S I hf hfl (aF0 _) hCle hDC old hns₁ hacc hco₁;have bt:PG Y tg g:=hX▸B.tg H2.objs.size fp;have bi:iX Y ifs tc:=hX▸B.ifs H2.objs.size fp;have be:PE Y elt te:=hX▸B.elt H2.objs.size fp;have eP:Y.prog=X.prog:=by rw[<- hX];rfl
 have ew:Y.w=X.w:=by rw[<- hX];rfl
 have eK:Y.K=X.K:=by rw[<- hX];rfl
 have eA:Y.A=X.A:=by rw[<- hX];rfl
 have eE:Y.env=compEnvC scope (fG X scope H2.objs.size) H2.objs.size X.env:=by rw[<- hX];rfl
 have eX:Y.xe=λ_ _=>False:=by rw[<- hX];rfl
 have ec:Y.calm=true:=by rw[<- hX];exact hc
 have never:∀{E:av->aw->Prop} (e:av) (s':aw),Y.xe e s'->E e s':=λ{E} e s' z=>by rw[eX]at z;exact z.elim
 have out:∀{pins' σ' H' s'},aA Y pins' σ' H' s'->aA X ai σ H' s':=λ{_ _ _ _} I'=>X6 (C:=H2.objs.size) (E:=λ_ _=>False) (scope:=scope) (N:=N) I hf (hX▸I')
 have loop:codeAny (model X.prog X.w) X.A (.compLoop (.ListComp elt [⟨tg,iter,ifs,0⟩] scope pos) 0 (.ref it) (.ref s.heap.objs.size) (compEnvC scope (fG X scope H2.objs.size) H2.objs.size X.env))
   (Rr (.ref s.heap.objs.size) H2.objs.size) { s with heap:=h₁ }:=by
  refine X4 (λn s'=>∃i acc H',aA Y [] (eS fr σ) H' s'/\tn i s'.heap/\(∀b∈fp,H' b=none)/\W i n acc H') ?_ m0 ⟨0,[],_,I0,st1,fr0,w0⟩;rintro n s3 ⟨i,acc,H3,I3,st3,fr3,w3⟩;unfold qT;dsimp only
  obtain⟨hD3,step⟩:=turn i n acc H3 w3
  rcases step with⟨stop,qn⟩|⟨go,step⟩
  ·have z:=T.done Y eP ew eK ec i [] s3 _ H3 (notedBy (model X.prog X.w) X.A (compEnvC scope (fG X scope H2.objs.size) H2.objs.size X.env) λe s'=>Rr (.ref s.heap.objs.size) H2.objs.size (.error e) s') I3 (stat fr3) st3 stop
   rw[eA]at z;refine aM z λr s4 ⟨hr,I4⟩=>?_
   subst hr
   obtain⟨m4,hn4,_⟩:=I4.loc
   rw[eE]at hn4;have f4:=I4.free;rw[eE]at f4;exact hend _ _ s4 H3 m4 hCle (aF0 _) (out I4) hn4 f4 qn
  ·have z:=T.item Y eP ew eK ec i [] s3 _ H3 (notedBy (model X.prog X.w) X.A (compEnvC scope (fG X scope H2.objs.size) H2.objs.size X.env) λe s'=>Rr (.ref s.heap.objs.size) H2.objs.size (.error e) s') I3 (stat fr3) st3 go
   rw[eA]at z;refine aM z λr s4 ⟨u,hr,h4⟩=>?_
   subst hr;refine aM h4 λ_ s5 ⟨x,H5,I5,r5,y5,st5,fr5⟩=>?_
   have I5':=I5.pinned (stat fr5) (T.obj _ _ st5);have q1:=bt _ s5 _ H5 x u _ I5' r5 (step x H5 y5);rw[eP,ew,eA,eE]at q1;refine aH9 q1 (λ_ s6 ⟨σ6,H6,I6,wk,q6⟩=>?_) never;have q2:=bi _ s6 σ6 H6 _ I6 q6;rw[eP,ew,eA,eE]at q2;refine aH9 q2 (λb s7 ⟨H7,I7,q7⟩=>?_) never;have again:∀{H8:Hp}{s8:aw}{acc':List V},aA Y ([]++lB fp s5.heap) σ6 H8 s8->(∃m',m'<n/\W (i+1) m' acc' H8)->∃m,m<n/\∃i acc H',aA Y [] (eS fr σ) H' s8/\tn i s8.heap/\(∀b∈fp,H' b=none)/\W i m acc H':=λ{H8 s8 acc'} I8 n8=>by
    obtain⟨m',hm,w8⟩:=n8
    refine⟨m',hm,i+1,acc',H8,(I8.unpinned).weak wk.1 wk.2,T.keep _ _ _ st5 λb hb o e=>(I8.pin (b,o) (aF7 _ (aF7 _ (nJ hb e)))).1,λb hb=>?_,w8⟩
    obtain⟨o,e,d⟩:=T.obj _ _ st5 b hb
    exact (I8.pin (b,o) (aF7 _ (aF7 _ (nJ hb e)))).2.1
   cases b with
   |false=>
    rw[if_neg aF1]at q7 ⊢;exact again I7 q7
   |true=>
    rw[if_pos rfl]at q7 ⊢;have q3:=be _ s7 σ6 H7 _ I7 q7;rw[eP,ew,eA,eE]at q3;refine aH9 q3 (λv s8 ⟨y,H8,I8,r8,hD8,hz8,q8⟩=>?_) never;have q4:=w5 _ s8 σ6 H8 (.ref s.heap.objs.size) [y] (.ref s.heap.objs.size) [v] (λ_ H9=>∃m',m'<n/\W (i+1) m' (acc++[y]) H9) I8 rfl (.cons r8 .nil) ⟨_,_,_,rfl,rfl,hD8,hz8,q8⟩;rw[eP,ew,eA]at q4;exact aH9 q4 (λ_ s9 ⟨_,H9,I9,_,q9⟩=>again I9 q9) never
 exact codeAny_compStart_list loop (T.self _ 0 _ _ _ st1 loop)
end
section
variable {X:Cx}{scope:Scope}{N:List Str}{fr:List (Option Nat)}{tg iter elt:Expr}{ifs:List Expr}{pos:Pos}{wi:TI}{g:TG}{tc:TT}{te:TE}
theorem aA.drop {ai:List (ax×Obj)}{σ:St}{H H':Hp}{s s':aw}{C:ax}{h':Heap}(I0:aA X ai σ H s)(hC:s.heap.objs.size<=C){σ':St}(I:aA X ai σ' H' s')(hn:H' C=none)(sb:Heap.SameBut C s'.heap h'):aA X ai σ' H' { s' with heap:=h' }:=by
 refine I.turned (t':=s'.toks) (it:=C) (λb o hb e=>(sb.2 b hb).trans e) hn (aK6 (aE4 I0.lt hC)) (.inr (aH0 I0.sz hC)) (λx c e z=>?_) λp hp z=>?_
 ·obtain⟨v,q⟩:=I0.cell x c e
  exact absurd (aE4 q.lt (by rw[z];exact hC)) (aI5 _)
 ·exact absurd (aE4 (aE8 (I0.pin p hp).1) (by rw[z];exact hC)) (aI5 _)
variable {gh:Hp→TG}{tch:Hp→TT}{teh:Hp→TE}
noncomputable def qU (wi:TI)(fr:List (Option Nat))(gh:Hp->TG)(tch:Hp->TT)(teh:Hp->TE):TE:=λσ H Q=>wi σ H λJ H1=>∀D,H1 D=none->
 ∃W:Nat->Nat->List V->Hp->Prop,(∃m,W 0 m [] (upd H1 D (.lst [])))/\wI (gh H1) (tch H1) (teh H1) (eS fr σ) J D Q W
theorem qV (hc:X.calm=true)(S:dH X scope N fr)(hi:PI X tg iter wi)(B:∀(s:aw) (H:Hp),lJ X scope N tg ifs elt s H (gh H) (tch H) (teh H))(hs:∀x,foldedSetIterable iter X.env x=pure x:=by intro _;rfl):PE X (.ListComp elt [⟨tg,iter,ifs,0⟩] scope pos) (qU wi fr gh tch teh):=by
 intro ai s σ H Q I h;rw[eval_ListComp];refine wpAny_comprehension_free (use:=none) rfl hs (wF (S.cells I)) S.kind S.names (aM (hi ai s σ H _ I h) λv s1 h1=>aM h1 λitv s2 h2=>?_)
 obtain⟨it,fp,tn,J,H2,e,I2,T,st2,f2,hW⟩:=h2
 subst e;refine wJ (Rr:=λacc C=>compPost (model X.prog X.w) X.A X.xe none (EP X ai σ Q) acc C) hc S (B _ _) I2 T st2 f2 hW ?_;intro D C s' H' m hC hD I' hns hHC q
 exact⟨m,hns,λh' sb=>⟨.ref D,H',I2.drop hC I' hHC sb,rfl,q⟩⟩
theorem X7 {i:Nat}{x:Str}{px spos:Pos}(hc:X.calm=true)(S:dH X scope N fr)(hi:PI X tg iter wi)(B:∀(s:aw) (H:Hp),lJ X scope N tg ifs elt s H (gh H) (tch H) (teh H))(hN:X.N.Nodup)(hix:X.N[i]? = some x)(hx:X.env.scope.names.lookup x=some .local)(hsw:swapsWith (.ListComp elt [⟨tg,iter,ifs,0⟩] scope pos) (some (.Name x px)) spos.line X.env=pure true)(hs:∀x,foldedSetIterable iter X.env x=pure x:=by intro _;rfl) :
  PS X (.Assign [.Name x px] (.ListComp elt [⟨tg,iter,ifs,0⟩] scope pos) spos) (gY (qU wi fr gh tch teh) (cU i)):=by
 intro ai s σ H D I h;rw[exec_Assign_Name_used _ _ _ _ hsw];refine aD7 (wpAny_standAt (aD7 ?_));show wpAny _ _ (do let _ <- comprehension (.ListComp elt [⟨tg,iter,ifs,0⟩] scope pos) scope X.env _ (newList []) false (eval iter X.env) (some (assign (.Name x px) X.env))) _ _ s
 refine aD7 (aH9 (wpAny_comprehension_free (Q:=λ_ s'=>SP X ai D .next s') (use:=some (assign (.Name x px) X.env)) rfl hs (wF (S.cells I)) S.kind S.names (aM (hi ai s σ H _ I h) λv s1 h1=>aM h1 λitv s2 h2=>?_))
  (λ_ s' hq=>aE3 (aE3 hq)) λ_ _ e=>e)
 obtain⟨it,fp,tn,J,H2,e,I2,T,st2,f2,hW⟩:=h2
 subst e;refine wJ (Rr:=λacc C=>compPost (model X.prog X.w) X.A X.xe (some (assign (.Name x px) X.env)) (λ_ s'=>SP X ai D .next s') acc C) hc S (B _ _) I2 T st2 f2 hW ?_;intro D' C s' H' m hC hD I' hns hHC q;refine wpAny_assign_Name (uI I' hN hix (.inl hx) (v:=.ref D') rfl (λs'' I'' sb=>?_) (.inr hx))
 obtain⟨a,sb,ha⟩:=sb
 have hCa:C≠a:=by
  rcases ha with z|z
  ·rw[z];exact aK6 (aE4 I2.lt hC)
  ·intro e;subst e
   obtain⟨v,q⟩:=I2.cell x _ z
   exact absurd (aE4 q.lt hC) (aI5 _)
 exact⟨m,hns.sameBut sb hCa,λh' sb'=>⟨_,H',I2.drop hC I'' hHC sb',q⟩⟩
end
theorem cZ {H:Hp}{p:ax}(h:H p=none)(o:HO):aJ H (upd H p o):=λb u q=>by rw[aL (cX q h)];exact q
end L2
namespace Srt
open PySem PySem.W PyProof.Rows
noncomputable abbrev G (p:Array Nat)(i:Nat):Nat:=p.getD i 0
noncomputable def PP (n:Nat)(p:Array Nat):Prop:=p.toList.Perm (List.range n)
structure X8 (c:Nat->Nat->Bool):Prop where
 asym:∀{i j},c i j=true->c j i=false
 ntr:∀{i j k},c i j=false->c j k=false->c i k=false
end Srt
namespace Raw
open PySem PySem.W PySem.Calls PyProof.Rows
noncomputable def lK (h:Heap)(d:ax)(es:Array DictEntry)(ep:Nat):Prop:=∃o,h.get? d=some o/\o.ExactDict/\o.data = .dict es ep
theorem lK.ty {s:aw}{d:ax}{es:Array DictEntry}{ep:Nat}(x:lK s.heap d es ep):s.TypeIs (.ref d) "dict":=x.elim λo y=>⟨o,y.1,y.2.1.1⟩
section
variable {prog:ay}{w:ba}{A:az}{E:av→aw→Prop}{s:aw}{d it:ax}{es:Array DictEntry}{ep i:Nat}
theorem made (far:(d==sysModules)=false)(x:lK s.heap d es ep){Q:av->aw->Prop}(q:Q (.ref s.heap.objs.size) { s with heap:=s.heap.push { cls:=.type "dict_keyiterator",data:=.fields #[.ref d,.int 0 0,.int es.size 0,.int ep 0] } }):wpAny (model prog w) A (pyIter (.ref d)) Q E s:=by
 have T:=x.ty
 obtain⟨o,e1,e2,e3⟩:=x
 apply wpAny_pyIter_slot T PySem.F.slot_dict_iter;apply aM9 PySem.F.slot_dict_iter T PySem.F.entry_dict_iter _ (PySem.F.args_dict_iter_1 _);simp only[Builtin.«dict.__iter__»,Builtin.Dict.dictSlotNone];apply aD7;apply aD7;apply wpAny_notOrdered_dict T;apply aE3
 change wpAny _ _ (Builtin.Dict.showsAll d >>= _) _ _ s
 have far':Builtin.Dict.showsAll d=pure ():=by
  unfold Builtin.Dict.showsAll;simp only[far,aG0,aK1]
 rw[far',pure_bind];apply aD7;apply wpAny_dictEntries e1 e3;apply aD7;apply wpAny_dictEpoch e1 e3;apply aD7;refine aK9 (aE3 ?_);refine⟨.ref s.heap.objs.size,rfl,"dict_keyiterator",_,⟨_,aF3 _ rfl,rfl⟩,PySem.F.slot_dict_keyiterator_next.lookup,?_⟩;simpa only[rawInt] using q
theorem turn (hh:A.handled=none)(hi:s.heap.IsKeyIter it d i es.size ep)(x:lK s.heap d es ep){Q:Option av->aw->Prop}(yes:∀(lt:i<es.size) h',h'.IsKeyIter it d (i+1) es.size ep->Heap.SameBut it s.heap h'->Q (some es[i].key) { s with heap:=h' })(no:es.size<=i->∀h',Heap.ExtBut it s.heap h'->Q none { s with heap:=h' }):wpAny (model prog w) A (pyNext (.ref it)) Q E s:=by
 have T:=hi.typeIs
 obtain⟨oi,f1,f2,f3⟩:=hi
 obtain⟨o,e1,e2,e3⟩:=x
 have slot:=PySem.F.slot_dict_keyiterator_next;have plain:Builtin.Dict_items.ownsTuple "dict_keyiterator" = false:=by decide
 have isref:(Value.ref d==Value.none)=false:=rfl;have nn:¬(i:Int)<0:=by omega
 unfold pyNext;apply aD7;apply wpAny_attempt;apply aM2 (name:=Str.ofString "__next__") T slot;apply aM9 slot T PySem.F.entry_dict_keyiterator_next _ (PySem.F.args_dict_keyiterator_next_1 _);apply aD7;apply aE3;apply aD7;apply aD7;apply aD7
 first
  |apply wpAny_typeNameOfWhole_keyiter T
  |apply wpAny_typeNameOf_keyiter T
 apply aE3;apply aD7;apply wpAny_fieldsOf f1 f3;simp only[plain,aG0,aK1]
 change wpAny _ _ (if (Value.ref d==Value.none)=true then _ else _) _ _ s
 have adr:Builtin.Dict_items.addrOf (Value.ref d)=pure d:=rfl;simp only[isref,aG0,aK1,adr,pure_bind];apply aD7;apply wpAny_dictEntries e1 e3;simp only[bne_self_eq_false,aG0,aK1];apply aD7;apply wpAny_dictEpoch e1 e3;simp only[bne_self_eq_false,aG0,aK1];apply aE3;simp only[nn,aK1,aM3];by_cases lt:i<es.size
 ·simp only[Array.getElem?_eq_getElem lt]
  apply aD7;apply aD7
  first
   |apply wpAny_typeNameOfWhole_keyiter T
   |apply wpAny_typeNameOf_keyiter T
  apply aE3;apply aD7;apply wpAny_isOneOf_keyiter T
  change wpAny _ _ (setField (.ref it) 1 (rawInt ((i:Int)+1)) >>= _) _ _ s
  apply aD7;refine wpAny_setField f1 f3 (by simp) ?_;have again:(s.heap.update it (Obj.mapFields (·.setIfInBounds 1 (rawInt ((i:Int)+1))))).IsKeyIter it d (i+1) es.size ep:=by
   refine⟨_,aN4 _ f1 (Obj.isFreed_of_fields (Obj.data_mapFields f3 _)),?_,?_⟩
   ·rw[Obj.cls_mapFields];exact f2
   ·rw[Obj.data_mapFields f3];simp[rawInt]
  apply aD7;apply aM8;apply aD7;refine wpAny_isOneOf_keyiter (s:={ s with heap:=s.heap.update it (Obj.mapFields (·.setIfInBounds 1 (rawInt ((i:Int)+1)))) }) again.typeIs ?_
  change wpAny _ _ (pure es[i].key) _ _ _
  apply aE3;apply aE3
  exact⟨es[i].key,rfl,aE3 (yes lt _ again (Heap.SameBut.update ..))⟩
 ·have ge:es.size<=i:=Nat.le_of_not_lt lt
  simp only[Array.getElem?_eq_none ge];apply aD7;apply aD7
  first
   |apply wpAny_typeNameOfWhole_keyiter T
   |apply wpAny_typeNameOf_keyiter T
  apply aE3
  change wpAny _ _ (setField (.ref it) 0 .none >>= _) _ _ s
  apply aD7;refine wpAny_setField f1 f3 (by simp) ?_;apply aD7;simp only[newExc,newTuple];apply aD7;refine aK9 ?_ (by size_fits);apply aD7;refine wpAny_of_eq (a:=Value.none) (by first|rfl|(simp only[firstArgMember];rfl)) ?_;refine aK9 ?_ (by size_fits);unfold raiseNew;apply aD7;apply wpAny_handled;have quiet:A.in1.handled=none:=hh;rw[quiet];refine wpAny_throw ?_;apply aD7;refine wpAny_isInstance (T:="StopIteration") (b:=true) ⟨_,aF3 _ rfl,rfl⟩ isSubtype_stop ?_;exact aE3 (no ge _ (((Heap.SameBut.update ..).extBut.push _).push _))
end
end Raw
namespace L2
open PySem PySem.Spec PyProof.Rows
section
variable {X:Cx}
theorem X9:cR X (.builtin "isinstance") (λxs H Q=>∃x t n b,xs = [x,.ty n]/\e9 X.K H x t/\PySem.W.kitOne X.K t (.type n)=some b/\Q (.bl b) H):=by
 intro ai s σ H xs us Q I r h
 obtain⟨x,t,n,b,rfl,ty,e,q⟩:=h
 obtain⟨u,u',rfl,ru,ru'⟩:=nM r
 cases ru';exact T2 I ru ty e λtk=>⟨.bl b,H,I.tok tk,rfl,q⟩
end
noncomputable def wK (outer:List (Str×NameKind))(XN:List Str)(names:List (Str×NameKind))(N:List Str)(fr:List (Option Nat)):Bool:=
 names.all (λy=>!(y.2==.cell)||names.lookup y.1==some .cell)&&names.all (λy=>!(y.2==.local)||names.lookup y.1==some .local) &&
 names.all (λy=>!(y.2==.free)||(outer.lookup y.1==some .cell||outer.lookup y.1==some .free))&&fr.length==N.length &&
 (fr.zip N).all (λp=>match p.1 with
  |none=>true
  |some j=>XN[j]?==some p.2&&names.lookup p.2==some .free)
theorem dH.of {X:Cx}{scope:Scope}{N:List Str}{fr:List (Option Nat)}(hk:scope.kind = .function)(h:wK X.env.scope.names X.N scope.names N fr=true):dH X scope N fr:=by
 unfold wK at h;simp only[aG8]at h
 obtain⟨⟨⟨⟨h1,h2⟩,h3⟩,h4⟩,h5⟩:=h
 refine⟨hk,λy hy e=>?_,λy hy e=>?_,λy hy e=>?_,by simpa using h4,λi j e=>?_⟩
 ·have:=aI3.mp h1 y hy
  rw[e]at this;simpa using this
 ·have:=aI3.mp h2 y hy
  rw[e]at this;simpa using this
 ·have:=aI3.mp h3 y hy
  rw[e]at this;simpa using this
 ·have hl:fr.length=N.length:=by simpa using h4
  have hi:i<fr.length:=(aG1.mp e).1;have m:(some j,N[i]'(by omega))∈fr.zip N:=by
   have:(fr.zip N)[i]? = some (some j,N[i]'(by omega)):=by
    rw[List.getElem?_zip_eq_some]
    exact⟨e,by simp⟩
   exact aM0 this
  have:=aI3.mp h5 _ m
  simp only[aG8,beq_iff_eq]at this
  exact⟨N[i]'(by omega),by simp,this.1,this.2⟩
noncomputable def wL (ls:aa)(k:Int):ag:=ls.flatMap λl=>(if l.1=k then [l.2] else [])++(if l.2=k then [l.1] else [])
theorem Y0 {α:Type}{xs:List α}{i:Int}{v:α}(h0:0<=i)(h:xs[i.toNat]? = some v):atI xs i=some v:=by
 have:=qH h
 rwa [show ((i.toNat:Nat):Int)=i by omega]at this
theorem iD {n:Nat}(h:n<=16000000):n<sizeLine:=by rw[sizeLine_eq];omega
theorem qW {K:ad}{H:Hp}{p:ax}{xs:List V}(h:b7 K H p xs):lH K "list" (.ref p) H:=.inl ⟨rfl,xs,h⟩
end L2
namespace Zp
open PySem PyProof.Rows
section
variable {prog:ay}{w:ba}{A:az}{E:av→aw→Prop}{s:aw}
theorem Y1 {it t:ax}{i:Nat}{items:Array av}{x:av}{Q:av->aw->Prop}(hi:s.heap.IsTupleIter it t i)(ht:s.heap.IsTuple t items)(hx:items[i]? = some x)(q:∀h',h'.IsTupleIter it t (i+1)->Heap.SameBut it s.heap h'->Q x { s with heap:=h' }):wpAny (model prog w) A (Builtin.SmallTypes.nextOf (.ref it)) Q E s:=by
 have T:=hi.typeIs
 obtain⟨o,e1,e2,e3⟩:=hi
 obtain⟨u,f1,_,k,f3⟩:=ht
 have slot:=PySem.F.slot_tuple_iterator_next;have isref:(Value.ref t==Value.none)=false:=rfl;unfold Builtin.SmallTypes.nextOf;apply aD7;apply aM2 (name:=Str.ofString "__next__") T slot;apply aM9 slot T PySem.F.entry_tuple_iterator_next _ (PySem.F.args_tuple_iterator_next_1 _)
 change wpAny _ _ (field (.ref it) 0 >>= _) _ _ s
 apply aD7;refine aO0 e1 e3 (x:=.ref t) rfl ?_
 change wpAny _ _ (if (Value.ref t==Value.none)=true then _ else _) _ _ s
 simp only[isref,aG0,aK1]
 change wpAny _ _ (field (.ref it) 1 >>= _) _ _ s
 apply aD7;refine aO0 e1 e3 (x:=.int i 0) rfl ?_
 change wpAny _ _ (seqItems? (.ref t) >>= _) _ _ s
 apply aD7;apply aO4 f1 f3;simp only[aM3,hx];apply aD7;refine wpAny_setField e1 e3 (by simp) ?_;apply aE3;refine⟨x,rfl,aE3 (q _ ⟨_,aN4 _ e1 (Obj.isFreed_of_fields (Obj.data_mapFields e3 _)),?_,?_⟩ (Heap.SameBut.update ..))⟩
 ·rw[Obj.cls_mapFields];exact e2
 ·rw[Obj.data_mapFields e3];simp[rawInt]
theorem Y2 {it t:ax}{i:Nat}{items:Array av}{Q:av->aw->Prop}(hh:A.handled=none)(hi:s.heap.IsTupleIter it t i)(ht:s.heap.IsTuple t items)(hx:items[i]? = none)(q:∀h' e,Heap.ExtBut it s.heap h'->(∃o,h'.get? e=some o/\o.cls = .type "StopIteration")->E (.ref e) { s with heap:=h' }):wpAny (model prog w) A (Builtin.SmallTypes.nextOf (.ref it)) Q E s:=by
 have T:=hi.typeIs
 obtain⟨o,e1,e2,e3⟩:=hi
 obtain⟨u,f1,_,k,f3⟩:=ht
 have slot:=PySem.F.slot_tuple_iterator_next;have isref:(Value.ref t==Value.none)=false:=rfl;unfold Builtin.SmallTypes.nextOf;apply aD7;apply aM2 (name:=Str.ofString "__next__") T slot;apply aM9 slot T PySem.F.entry_tuple_iterator_next _ (PySem.F.args_tuple_iterator_next_1 _)
 change wpAny _ _ (field (.ref it) 0 >>= _) _ _ s
 apply aD7;refine aO0 e1 e3 (x:=.ref t) rfl ?_
 change wpAny _ _ (if (Value.ref t==Value.none)=true then _ else _) _ _ s
 simp only[isref,aG0,aK1]
 change wpAny _ _ (field (.ref it) 1 >>= _) _ _ s
 apply aD7;refine aO0 e1 e3 (x:=.int i 0) rfl ?_
 change wpAny _ _ (seqItems? (.ref t) >>= _) _ _ s
 apply aD7;apply aO4 f1 f3;simp only[aM3,hx];apply aD7;apply wpAny_rule;apply aD7;refine wpAny_setField e1 e3 (by simp) ?_;apply aD7;simp only[newExc,newTuple];apply aD7;refine aK9 ?_ (by size_fits);apply aD7;refine wpAny_of_eq (a:=Value.none) (by first|rfl|(simp only[firstArgMember];rfl)) ?_;refine aK9 ?_ (by size_fits);unfold raiseNew;apply aD7;apply wpAny_handled;have quiet:A.in1.handled=none:=hh;rw[quiet];refine wpAny_throw ?_;exact q _ _ (((Heap.SameBut.update ..).extBut.push _).push _) ⟨_,aF3 _ rfl,rfl⟩
end
end Zp
namespace L2
open PySem PySem.Spec PyProof.Rows
theorem Y3 (l:ax)(items:Array av)(n:Nat)(b:ax)(items2:Array av)(n2:Nat)(dd:Option ax)(ss:Array (Option av))(h0:¬(!items.isEmpty&&Builtin.List.listTooLong (items.size+items2.size))=true)(h1:items.size<=sizeLine)(h2:items.size+items2.size<=sizeLine+1) :
  Meets (Builtin.«list.extend» ⟨[.ref l,.ref b],[]⟩) (λ_ R s=>s.heap.get? l=some { cls:=.type "list",dict:=none,data:=.seq items n,slots:=#[] }/\s.heap.get? b=some { cls:=.type "tuple",dict:=dd,data:=.seq items2 n2,slots:=ss }/\R (.ok (.ret Value.none)) { s with heap:=s.heap.update l (Obj.mapSeq λx=>x++items2),toks:=s.toks }):=
 .of_wp λprog w A R s h=>by
  obtain⟨hp,g,d,tk,os⟩:=s;obtain⟨hl,hb,h⟩:=h;have f2:=AutoSeq1.sub_tuple_tuple;have f3:=AutoSeq1.sub_list_list;have f4:=AutoSeq1.sub_tuple_list;have f5:=AutoSeq1.sub_list_tuple
  have hz':(items++items2).size<=sizeLine+1:=by rw[Array.size_append];exact h2
  wp_walk using (wpAny_updateSeq hl rfl (hz:=h1) (_hz':=hz')),AutoSeq1.wpAny_loadPart' hl,AutoSeq1.wpAny_loadPart' hb
  exact⟨_,rfl,h⟩
noncomputable def wM (K:ad):V->List V->Hp->VK->Prop:=λx vs H Q=>∃(l b:ax) (xs zs:List V),x = .ref l/\vs = [.ref b]/\H l=some (.lst xs)/\aY K H b zs/\xs.length+zs.length<=sizeLine/\Q .non (upd H l (.lst (xs++zs)))
theorem Y4 {X:Cx}:lI X "list.extend" (wM X.K):=by
 intro ai s σ H x vs v us Q I rx rv h
 obtain⟨l,b,xs,zs,rfl,rfl,hH,hB,hz,q⟩:=h
 cases rx
 obtain⟨u,rfl,ru⟩:=rv.one
 cases ru
 obtain⟨z,its,n,r,hl,e⟩:=I.lstM hH
 obtain⟨aq,r2,⟨⟨cls,dd,data,ss⟩,e2,hc,n2,hd⟩,z2⟩:=I.tuple hB
 cases hc;cases hd;have hl2:=r2.length;have hsz:its.toArray.size+aq.toArray.size<=sizeLine:=by rw[aD9,aD9];omega
 have hlong:¬(!its.toArray.isEmpty&&Builtin.List.listTooLong (its.toArray.size+aq.toArray.size))=true:=by
  rw[vZ hsz,Bool.and_false];exact aF1
 refine call_meets F.slot_list_extend ⟨_,e,rfl⟩ F.entry_list_extend (F.args_list_extend_2 _ _)
  (Y3 l its.toArray n b aq.toArray n2 dd ss hlong (by rw[aD9];omega) (by omega)) ⟨e,e2,?_⟩
 refine⟨.non,_,I.lset (its':=its++aq) hH e (by simp) (r.append r2) ?_,rfl,q⟩;rw[aG7];omega
end L2
namespace L2
open PySem PySem.Spec PyProof.Rows PySem.W
structure b9 where
 qual:Str
 params:Arguments
 body:Expr
 scope:Scope
noncomputable abbrev qX (l:b9)(pm cv ctv:av):FuncData:=kla_fn "<lambda>" l.qual l.params l.body l.scope [] pm cv ctv
noncomputable abbrev wN (l:b9)(pm cv ctv:av):Obj:={ cls:=.type "function",data:=.func (qX l pm cv ctv) }
noncomputable def fH (H:Hp)(f:ax)(l:b9):Prop:=∃(pm ctv:av) (c:ax),H f=some (.frz (wN l pm (.ref c) ctv) (.cd c l.qual))
theorem fH.same {H H':Hp}{f:ax}{l:b9}(s:aJ H H')(h:fH H f l):fH H' f l:=
 let ⟨pm,ctv,c,e1⟩:=h;⟨pm,ctv,c,s _ _ e1⟩
structure fX (base:Heap)(mg:Str->Option av)(P:ax):Prop where
 ex:base.BuiltinsAt mg P
section
variable {X:Cx}{ai:List (ax×Obj)}{σ:St}{H:Hp}{s:aw}{P:ax}{l:b9}
theorem fX.at (B:fX X.base X.mg P)(I:aA X ai σ H s):s.heap.BuiltinsAt X.mg P:=
 let ⟨bm,o,h1,h2,h3,h4,h5,h6⟩:=B.ex;⟨bm,o,h1,h2,h3,h4,I.bk _ _ h5,h6⟩
theorem aA.table {t:Tok}{h':Heap}{tk:Nat}{qs qs':Array av}{c:ax}{oc:Obj}{vs:Array av}{tq:Tok}(I:aA X ai σ H s)(hP:H P=some (.tbl #[.str l.qual t]))(hx:Heap.ExtBut P s.heap h')(hge:s.heap.objs.size<=c)(hoc:h'.get? c=some oc)(hd:oc.data = .fields vs)(hv:vs[1]? = some (.str l.qual tq))(e:s.heap.get? P=some { cls:=.none,data:=.fields qs })(e':h'.get? P=some { cls:=.none,data:=.fields qs' })(tr:TriplesOk qs'.toList)(cs:∀(pos:Pos) (cv:av),codeAmong pos qs.toList=some cv->∃(c:ax) (q:Str) (t':Tok),cv = .ref c/\H c=some (.code q)/\#[.str l.qual t] = #[Value.str q t'])(new:∀(pos:Pos) (cv:av),codeAmong pos qs'.toList=some cv->codeAmong pos qs.toList=some cv∨cv = .ref c):aA X ai σ (upd H c (.code l.qual)) { s with heap:=h',toks:=tk }:=by
 have hn:H c=none:=I.hok.fresh hge;have cP:P≠c:=λz=>by rw[z,hn]at hP;cases hP
 have lt:∀{b o},s.heap.get? b=some o->b≠c:=λ{b o} g z=>absurd (aE8 g) (by rw[z];exact Nat.not_lt.mpr hge)
 have old:∀{b o},H b=some o->b≠c:=λ{b o} g z=>by rw[z,hn]at g;cases g
 refine I.un ⟨λb o g n _ _=>hx b o (λz=>by rw[z,hP]at n;cases n) g,λb o g n _ _=>⟨o.slots,hx b o (λz=>by rw[z,hP]at n;cases n) g⟩,λb o g n _=>by rw[aL (lt g)];exact n,λb o g _=>?_,λb xs g=>by rw[aL (old g)];exact g,λb o u g=>by rw[aL (old g)];exact g,λb ps g=>⟨#[],by rw[aL (old g),g];simp⟩⟩ λb u z=>?_
 ·by_cases hb:b=P
  ·subst hb;exact⟨_,e'⟩
  ·exact⟨o,hx b o hb g⟩
 ·by_cases hb:b=c
  ·subst hb;rw[bM]at z;cases z
   exact⟨oc,vs,tq,hoc,hd,hv⟩
  ·rw[aL hb]at z
   by_cases bP:b=P
   ·subst bP
    rw[hP]at z;cases z;refine⟨qs',e',tr,λpos cv h=>?_⟩;rcases new pos cv h with h|rfl
    ·obtain⟨c1,q,t',e1,e2,e3⟩:=cs pos cv h
     exact⟨c1,q,t',e1,by rw[aL (old e2)];exact e2,e3⟩
    ·exact⟨c,l.qual,t,rfl,bM,rfl⟩
   ·refine (I.hok b u z).stay (λc' v hc q=>hx c' v ?_ q) (λc' q=>by rw[aL (old q)];exact q) (λc' xs q=>by rw[aL (old q)];exact q) (λc' r q=>by rw[aL (old q)];exact q)
    rcases hc with rfl|hc
    ·exact bP
    ·intro w;rw[w,hP]at hc;cases hc
noncomputable def wO (P:ax)(l:b9):TE:=λ_ H Q=>(∃t:Tok,H P=some (.tbl #[.str l.qual t]))/\∀f H',aJ H H'->H f=none->fH H' f l->Q (.ref f) H'
theorem Y5 {pos:Pos}{c:av}:∀{l:List av},TriplesOk l->TriplesOk (l++[rawInt pos.line,rawInt pos.col,c]):=by
 intro l h
 fun_induction TriplesOk l with
 |case1=>exact trivial
 |case2 a b c d e r ih=>exact ih h
 |case3=>exact h.elim
theorem Y6 {pos pos':Pos}{c cv:av}:∀{l:List av},TriplesOk l->codeAmong pos' (l++[rawInt pos.line,rawInt pos.col,c])=some cv->codeAmong pos' l=some cv∨cv=c:=by
 intro l h g
 fun_induction TriplesOk l with
 |case1=>
  simp only[List.nil_append,codeAmong,rawInt]at g;split at g
  ·exact .inr (aF9 g).symm
  ·cases g
 |case2 a b d e f r ih=>
  simp only[List.cons_append,codeAmong]at g ⊢;split
  ·rename_i hh
   rw[if_pos hh]at g;exact .inl g
  ·rename_i hh
   rw[if_neg hh]at g;exact ih h g
 |case3=>exact h.elim
theorem Y7 {params:Arguments}{body:Expr}{scope:Scope}{pos:Pos}{c0:ax}(hl:l=⟨X.env.qual++"<lambda>",params,body,scope⟩)(hcode:X.env.code = .ref c0)(hK:codeHdIn X.K c0 P=true)(B:fX X.base X.mg P)(hgP:mainGlobals≠P)(hdef:defaultsOf params X.env=([],[]):=by rfl)(hcl:closureFor scope X.env=pure []:=by rfl):PE X (.Lambda params body scope pos) (wO P l):=by
 intro ai s σ H Q I ⟨⟨t,hP⟩,q⟩
 obtain⟨qs,e,tr,cs⟩:=(show bG X.prog X.w H s.heap P (.tbl #[.str l.qual t]) from I.hok P _ hP)
 have e0:s.heap.get? P=some (tabObj qs):=e;refine kla_eval hdef ?_;have lq:l.qual=X.env.qual++"<lambda>":=by rw[hl]
 cases hf:codeAmong pos qs.toList with
 |none=>
  refine kla_makeFunction hcl I.ok.glob (I.ok.mod.glob.keeps I.bk) hcode (codeHd_of_K I.kIn hK) e0 tr hf hgP (B.at I) λc' ctv h' tk hx hge hlt hrec htb=>?_
  obtain⟨c2,oc,vs,tq,ec,hoc,hd,hv⟩:=hrec
  cases ec;have hx2:Heap.ExtBut P s.heap h':=hx;have I1:aA X ai σ (upd H c' (.code l.qual)) { s with heap:=h',toks:=tk }:=I.table (l:=l) hP hx2 hge hoc hd (by rw[lq];exact hv) e htb (by rw[Array.toList_append];exact Y5 tr) cs λpos' cv h=>by
   rw[Array.toList_append]at h;exact Y6 tr h
  have fn:upd H c' (.code l.qual) h'.objs.size=none:=I1.hok.fresh (aF0 _);have cf:c'≠h'.objs.size:=aH2 hlt
  let fo:Obj:=kla_obj "<lambda>" (X.env.qual++"<lambda>") params body scope [] ((X.mg "__name__").getD .none) c' ctv
  have I2:aA X ai σ (upd (upd H c' (.code l.qual)) h'.objs.size (.frz fo (.cd c' l.qual))) { s with heap:=h'.push fo,toks:=tk }:=I1.laid (s:={ s with heap:=h',toks:=tk }) (a:=h'.objs.size) (o:=.frz fo (.cd c' l.qual)) (t':=tk) (λb o g=>aE1 _ g) (aF0 _) ⟨aF3 _ rfl,⟨fo,aF3 _ rfl⟩,by rw[aL cf,bM]⟩;refine⟨.ref h'.objs.size,_,I2,rfl,q _ _ (λb o g=>?_) ?_ ⟨(X.mg "__name__").getD .none,ctv,c',by rw[bM,hl]⟩⟩
  ·have b1:b≠c':=λz=>by rw[z,I.hok.fresh hge]at g;cases g
   have b2:b≠h'.objs.size:=λz=>by
    have:=I.hok.lt g
    rw[z]at this;exact absurd (aE4 (aE4 this hge) (aN8 hlt)) (aI5 _)
   rw[aL b2,aL b1];exact g
  ·cases z:H h'.objs.size with
   |none=>rfl
   |some u=>exact absurd (aE4 (aE4 (I.hok.lt z) hge) (aN8 hlt)) (aI5 _)
 |some cv=>
  obtain⟨c,q',t',rfl,hc,eq⟩:=cs pos cv hf
  have hq:q'=l.qual:=by
   have:=congrArg (λa:Array av=>a[0]?) eq
   simp at this;exact this.1.symm
  subst hq;refine kla_makeFunctionHit hcl I.ok.glob (I.ok.mod.glob.keeps I.bk) hcode (codeHd_of_K I.kIn hK) e0 tr hf (B.at I) λctv h' tk k hsz=>?_
  have I1:aA X ai σ H { s with heap:=h',toks:=tk }:=I.kept k
  let fo:Obj:={ cls:=.type "function",data:=.func (kla_fn "<lambda>" (X.env.qual++"<lambda>") params body scope [] ((X.mg "__name__").getD .none) (.ref c) ctv) }
  have I2:aA X ai σ (upd H h'.objs.size (.frz fo (.cd c l.qual))) { s with heap:=h'.push fo,toks:=tk }:=I1.laid (s:={ s with heap:=h',toks:=tk }) (a:=h'.objs.size) (o:=.frz fo (.cd c l.qual)) (t':=tk) (λb o g=>aE1 _ g) (aF0 _) ⟨aF3 _ rfl,⟨fo,aF3 _ rfl⟩,by rw[aL (λz=>by rw[z,I1.hok.fresh (aF0 _)]at hc;cases hc)];exact hc⟩;have fn:H h'.objs.size=none:=I1.hok.fresh (aF0 _);have old:∀{b o},H b=some o->b≠h'.objs.size:=λ{b o} g z=>by rw[z,fn]at g;cases g
  exact⟨.ref h'.objs.size,_,I2,rfl,q _ _ (λb o g=>by rw[aL (old g)];exact g) fn ⟨(X.mg "__name__").getD .none,ctv,c,by rw[bM,hl]⟩⟩
end
end L2
namespace L2
open PySem PySem.Spec PyProof.Rows
structure qY (P:ay)(w:ba)(K:ad)(mg:Str->Option av)(base:Heap)(CX:dG)(k:Nat)(l:b9)(sp:Sp):Prop where
 run:∀(A:az) (outer:List Env) (s:aw) (H:Hp) (f:ax) (us:List av) (vs:List V) (Q:VK) (E:XK),bI k A->lE P w K mg base A outer s H->fH H f l->aP vs us->sp vs H Q E->
  codeAny (model P w) A (.call (.ref f) ⟨us,[]⟩) (CR CX outer P w H s Q E) s
theorem fH.at {P:ay}{w:ba}{H:Hp}{h:Heap}{f:ax}{l:b9}(q:fH H f l)(ok:bJ P w H h):∃(pm ctv:av) (c:ax),h.get? f=some (wN l pm (.ref c) ctv)/\h.CodeRec (.ref c) l.qual:=by
 obtain⟨pm,ctv,c,e1⟩:=q
 have q1:=ok f _ e1
 obtain⟨oc,vs,t,g,d,e⟩:=(show bG P w H h c (.code l.qual) from ok c _ q1.2.2)
 exact⟨pm,ctv,c,q1.1,c,oc,vs,t,rfl,g,d,e⟩
theorem Y8 {CX:dG}{P:ay}{w:ba}{K:ad}{mg:Str->Option av}{base:Heap}{k:Nat}{l:b9}{N ps:List Str}{sp:Sp}(S:FnScope N ps l.scope)(hb:∀(pm cv ctv:av) (us:List av),us.length=ps.length->bindArgs (qX l pm cv ctv) ⟨us,[]⟩=pure (ps.zip us))(len:∀vs H Q E,sp vs H Q E->vs.length=ps.length)(hbody:∀(A:az) (outer:List Env) (s:aw) (H:Hp) (f:ax) (cv:av) (vs:List V) (Q:VK) (E:XK),bI k (A.deeper (envOfC l.qual l.scope s.heap.objs.size f cv))->sp vs H Q E->
   ∃t,PE (bV CX P w K mg base N l.qual l.scope f cv A outer s H E) l.body t/\t (dQ N vs) H Q) :
  qY P w K mg base CX (k+1) l sp:=by
 refine⟨λA outer s H f us vs Q E hr e0 hl r hsp=>?_⟩;have ao:=len _ _ _ _ hsp
 obtain⟨pm,ctv,c,ho,hcd⟩:=hl.at e0.hok
 have lim:s.heap.NoLimit:=e0.mod.nolimit.keeps λb o e=>(e0.bs b o e).1
 have hkind:∀y∈ps.zip us,l.scope.names.lookup y.1=some .local∨(l.scope.names.lookup y.1=some .cell/\((cellsFrom (s.heap.objs.size+1) l.scope.names []).lookup y.1).isSome=true):=λ⟨n,v⟩ hy=>by
  rcases S.par n (List.of_mem_zip hy).1 with q|q
  ·exact .inl q
  ·exact .inr ⟨q,PySem.W.cellsFrom_some _ _ _ (.inl q)⟩
 refine PySem.W.kla_callFunE hr.depth ho rfl S.co S.gen rfl hcd ?_;rw[hb pm (.ref c) ctv us (by rw[<- r.length];exact ao)];refine aE3 (wpAny_newFunctionEnv_cells S.kind hkind λenv he s1 x=>?_);subst he;refine⟨lim.keeps x.toInCall.keep,PySem.W.kla_codeExpr ?_⟩
 obtain⟨t,ht,hq⟩:=hbody A outer s H f (.ref c) vs Q E (hr.deeper _) hsp
 have I:aA (bV CX P w K mg base N l.qual l.scope f (.ref c) A outer s H E) [] (dQ N vs) H s1:=vK S hr.hd e0 ao r x;refine aH9 (ht [] s1 (dQ N vs) H _ I hq) (λu s' hs=>?_) λe s' hs=>hs
 obtain⟨v,H',J,rv,q⟩:=hs
 exact⟨v,H',J.os,J.bare,J.base,J.hok,rv,q⟩
end L2
namespace Raw
open PySem PySem.W PySem.Calls PyProof.Rows
section
variable {prog:ay}{w:ba}{K:Type}[DecidableEq K]{knd:HeapKind prog w K}{A:az}{E:av→aw→Prop}{s:aw}{env:Env}
theorem Y9 {k v:Expr}{pos:Pos}{Q:av->aw->Prop}(hu:knd.room A)(h:wpAny (model prog w) A (eval k env) (λkv s1=>wpAny (model prog w) A (eval v env) (λvv s2=>∃a κ,kv = .ref a/\knd.is s2.heap κ a/\s2.heap.DictOfH knd s.heap.objs.size []/\
   ∀h',h'.DictOfH knd s.heap.objs.size [(κ,a,vv)]->Heap.SameBut s.heap.objs.size s2.heap h'->Q (.ref s.heap.objs.size) { s2 with heap:=h',toks:=s2.toks+knd.draws κ }) E s1) E
   { s with heap:=s.heap.push { cls:=.type "dict",data:=.dict #[] } }):wpAny (model prog w) A (eval (.Dict [some k] [v] pos) env) Q E s:=by
 rw[arm_eval_Dict,zip_pairTrees [some k] [v] env pos rfl rfl,dictDisplay_pairs _ (by simp[pairTrees]) (by simp[pairTrees])];refine aD7 (wpAny_standAt (aD7 ?_));unfold subDict;refine aD7 (wpAny_alloc ?_);refine aD7 (aM8 ?_);rw[if_pos (by simp[pairTrees])];refine aD7 (pairTrees_cons_walk (aH9 h (λkv s1 h1=>aH9 h1 (λvv s2 h2=>pairTrees_nil_walk ?_) λ_ _ e=>e) λ_ _ e=>e))
 obtain⟨a,κ,rfl,hk,hm,hQ⟩:=h2
 refine aM8 ?_;refine aD7 ?_;rw[List.forIn_cons];refine aD7 (aD7 (wpAny_dictSet_heap (hsz:=by simp) hu hk hm λh' hm' hs'=>aE3 ?_));dsimp only;rw[List.forIn_nil];exact aE3 (aE3 (aE3 (aE3 (hQ h' (by simpa[storedH,atKey] using hm') hs'))))
end
end Raw
namespace L2
open PySem PySem.Spec PyProof.Rows
noncomputable abbrev eD (H:Hp):List (List (Int×Bool)×V)->List (ae×ax×av)->Prop:=Paired λp q=>cO p.1=q.1/\dO H p.1 q.2.1/\aR p.2 q.2.2
theorem eD.val {H:Hp}{kvs:List (List (Int×Bool)×V)}{xs:List (ae×ax×av)}(r:eD H kvs xs)(k:List (Int×Bool)):fV (eR kvs k) ((atKey xs (cO k)).map (·.2)):=by
 induction r with
 |nil=>exact aO7
 |@cons p q ps qs h t ih=>
  obtain⟨h1,_,h2⟩:=h
  by_cases e:p.1=k
  ·have e':q.1=cO k:=by rw[<- h1,e]
   have b:atKey (q::qs) (cO k)=some q.2:=by simp[atKey,aH3,e']
   rw[qK e,b];exact h2
  ·have e':¬q.1=cO k:=λz=>e (pR (h1.trans z))
   have b:atKey (q::qs) (cO k)=atKey qs (cO k):=by simp[atKey,aH3,e']
   rw[qL e,b];exact ih
theorem eD.repl {H:Hp}{kvs:List (List (Int×Bool)×V)}{xs:List (ae×ax×av)}(r:eD H kvs xs)(k:List (Int×Bool)){y:V}{u:av}(ry:aR y u) :
  eD H (kvs.map λkv=>if kv.1=k then (kv.1,y) else kv) (xs.map (putAt (cO k) u)):=by
 induction r with
 |nil=>exact .nil
 |@cons p q ps qs h t ih=>
  rw[aG3,aG3];refine .cons ?_ ih
  obtain⟨h1,h2,h3⟩:=h
  unfold putAt;by_cases e:p.1=k
  ·rw[if_pos e,if_pos (by rw[<- h1,e])];exact⟨h1,h2,ry⟩
  ·rw[if_neg e,if_neg (λz=>e (pR (h1.trans z)))];exact⟨h1,h2,h3⟩
theorem eD.put {H:Hp}{kvs:List (List (Int×Bool)×V)}{xs:List (ae×ax×av)}(r:eD H kvs xs)(k:List (Int×Bool)){b:ax}{y:V}{u:av}(hb:dO H k b)(ry:aR y u) :
  eD H (dS kvs k y) (storedH xs (cO k) b u):=by
 have e:(kvs.any λkv=>decide (kv.1=k))=(atKey xs (cO k)).isSome:=by
  rw[wA,(r.val k).isSome_eq,Option.isSome_map]
 unfold dS storedH;rw[e];by_cases q:(atKey xs (cO k)).isSome=true
 ·rw[if_pos q,if_pos q];exact r.repl k ry
 ·rw[if_neg q,if_neg q];exact Paired.snoc r ⟨rfl,hb,ry⟩
theorem eD.keeps {H H':Hp}{kvs:List (List (Int×Bool)×V)}{xs:List (ae×ax×av)}(r:eD H kvs xs)(ht:∀b ys,H b=some (.tup ys)->H' b=some (.tup ys)):eD H' kvs xs:=
 Paired.mapP r λ_ _ z=>⟨z.1,z.2.1.keeps ht,z.2.2⟩
section
variable {P:ay}{w:ba}{H:Hp}{h:Heap}{a:ax}
theorem nV (P:ay)(w:ba)(k:Int)(v:av):(gG P w).is k v=iR k v:=rfl
theorem Z0 {c:ax}{p:Int×Bool}(ok:bJ P w H h)(e:H c=some (.tup [.int p.1,.bl p.2])):IsTupleKey (gG P w) h [p.1,if p.2 then 1 else 0] c:=by
 obtain⟨_,its,r,⟨o,h1,h2,n,h3⟩,_⟩:=(show bG P w H h c (.tup [.int p.1,.bl p.2]) from ok c _ e)
 refine⟨o,its.toArray,n,h1,h2,h3,?_⟩;cases r with
 |@cons _ v1 _ vs1 r1 t1=>
  cases t1 with
  |@cons _ v2 _ vs2 r2 t2=>
   cases t2
   obtain⟨t,rfl⟩:=(show ∃t,v1=Value.int p.1 t from r1)
   cases (show v2=Value.bool p.2 from r2);exact .cons (by rw[nV];simp[iR]) (.cons (by rw[nV];simp[iR]) .nil)
theorem jS {k:List (Int×Bool)}{b:ax}(ok:bJ P w H h)(e:dO H k b):(kU (gG P w)).is h (cO k) b:=by
 obtain⟨us,e,r⟩:=e
 obtain⟨lz,its,rv,⟨o,h1,h2,n,h3⟩,nd⟩:=(show bG P w H h b (.tup us) from ok b _ e)
 refine⟨o,its.toArray,n,h1,h2,h3,?_⟩;show Paired _ _ its.toArray.toList;have e2:its.toArray.toList=its:=by simp
 rw[e2];clear h3 e2 e lz nd h1 h2
 induction r generalizing its with
 |nil=>cases rv;exact .nil
 |@cons p u ps us hd t ih=>
  cases rv with
  |@cons _ v _ vs r1 t1=>
   obtain⟨c,rfl,hc⟩:=hd
   cases (show v=Value.ref c from r1);exact .cons ⟨c,rfl,Z0 ok hc⟩ (ih _ t1)
theorem jT {kvs:List (List (Int×Bool)×V)}(ok:bJ P w H h)(e:Rd H a (.dA kvs)):kvs.length<=sizeLine/\(a==sysModules)=false/\
  ∃xs,eD H kvs xs/\h.DictOfH (kU (gG P w)) a xs:=by
 obtain⟨z,y,xs,r,o,es,ep,h1,h2,h3,h4,h5⟩:=(show bG P w H h a (.dA kvs) from qM ok e)
 refine⟨z,y,xs,r,o,es,ep,h1,h2,h3,h4,λx hx=>?_,h5⟩;have all:∀{l:List (List (Int×Bool)×V)}{m:List (ae×ax×av)},eD H l m->∀x∈m,(kU (gG P w)).is h x.1 x.2.1:=by
  intro l m q
  induction q with
  |nil=>intro x hx;exact nomatch hx
  |@cons p q ps qs hq t ih=>
   intro x hx;rcases aE2.mp hx with e|hx
   ·subst e
    rw[<- hq.1];exact jS ok hq.2.1
   ·exact ih x hx
 exact all r x hx
theorem lL {kvs:List (Int×V)}(ok:bJ P w H h)(e:Rd H a (.dB kvs)):kvs.length<=sizeLine/\(a==sysModules)=false/\∃vs,KV kvs vs/\h.DictOf (gG P w) a vs:=
 show bG P w H h a (.dB kvs) from qM ok e
end
noncomputable def iY (k:Int)(y:V):Prop:=y = .int k∨∃b:Bool,y = .bl b/\k=if b then 1 else 0
theorem iY.is {k:Int}{y:V}{u:av}{P:ay}{w:ba}(n:iY k y)(r:aR y u):(gG P w).is k u=true:=by
 rcases n with rfl|⟨b,rfl,rfl⟩
 ·obtain⟨t,rfl⟩:=(show ∃t,u=Value.int k t from r)
  rw[nV];simp[iR]
 ·cases (show u=Value.bool b from r)
  rw[nV];simp[iR]
noncomputable def iE (H:Hp)(a:ax)(y:V)(r:Option V):Prop:=
 (∃kvs k b,Rd H a (.dA kvs)/\y = .ref b/\dO H k b/\r=eR kvs k)∨∃kvs k,Rd H a (.dB kvs)/\iY k y/\r=eR kvs k
noncomputable def wP (H:Hp)(a:ax)(y v:V)(H':Hp):Prop:=
 (∃kvs k b,H a=some (.dA kvs)/\y = .ref b/\dO H k b/\kvs.length<sizeLine/\H'=upd H a (.dA (dS kvs k v))) ∨
 ∃kvs k,H a=some (.dB kvs)/\iY k y/\kvs.length<sizeLine/\H'=upd H a (.dB (dS kvs k v))
section
variable {X:Cx}{ai:List (ax×Obj)}{σ:St}{H:Hp}{s:aw}{a:ax}{y v:V}{u r:av}{o:Option V}{A:az}{E:av→aw→Prop}
theorem Z1 (I:aA X ai σ H s)(g:iE H a y o):s.TypeIs (.ref a) "dict":=by
 rcases g with⟨kvs,k,b,e,_,_,_⟩|⟨kvs,k,e,_,_⟩
 ·obtain⟨_,_,xs,_,dd⟩:=jT I.hok e
  exact dd.typeIs
 ·obtain⟨_,_,vs,_,dd⟩:=lL I.hok e
  exact dd.typeIs
theorem Z2 {Q:av->aw->Prop}(hu:A.units+16<cLine)(I:aA X ai σ H s)(g:iE H a y (some v))(ry:aR y u)(h:∀w' s',aA X ai σ H s'->aR v w'->Q w' s') :
  wpAny (model X.prog X.w) A (getItem (.ref a) u) Q E s:=by
 rcases g with⟨kvs,k,b,e,ey,eb,l⟩|⟨kvs,k,e,ey,l⟩
 ·subst ey
  cases (show u=Value.ref b from ry)
  obtain⟨z,hd,xs,rel,dd⟩:=jT I.hok e
  obtain⟨w',hw,rw'⟩:=fV.some_of (v:=v) (o:=(atKey xs (cO k)).map (·.2)) (by rw[l];exact rel.val k)
  obtain⟨p,hp,hp2⟩:=Option.map_eq_some_iff.mp hw
  refine wpAny_getItem_heap (show A.units+1+8<cLine by omega) (jS I.hok eb) dd hp ?_;rw[hp2];exact h w' _ (I.tok _) rw'
 ·obtain⟨z,hd,vs,rel,dd⟩:=lL I.hok e
  obtain⟨w',hw,rw'⟩:=fV.some_of (v:=v) (o:=valueAt vs k) (by rw[l];exact rel.val k)
  exact wpAny_getItem_of (ey.is ry) dd.mapOf hw (h w' _ (I.tok _) rw')
theorem Z3 {Q:av->aw->Prop}(hu:A.units+16<cLine)(I:aA X ai σ H s)(g:iE H a y o)(ry:aR y u)(h:∀s',aA X ai σ H s'->Q (.bool o.isSome) s') :
  wpAny (model X.prog X.w) A (compareOp .In u (.ref a)) Q E s:=by
 rcases g with⟨kvs,k,b,e,ey,eb,l⟩|⟨kvs,k,e,ey,l⟩
 ·subst ey
  cases (show u=Value.ref b from ry)
  obtain⟨z,hd,xs,rel,dd⟩:=jT I.hok e
  refine wpAny_in_heap (show A.units+1+8<cLine by omega) (jS I.hok eb) hd dd ?_;have q:=(rel.val k).isSome_eq;rw[Option.isSome_map]at q;rw[<- q,<- l];exact h _ (I.tok _)
 ·obtain⟨z,hd,vs,rel,dd⟩:=lL I.hok e
  refine wpAny_in_of (ey.is ry) hd dd.mapOf ?_;rw[<- (rel.val k).isSome_eq,<- l];exact h _ (I.tok _)
theorem Z4 {Q:av->aw->Prop}(hu:A.units+16<cLine)(I:aA X ai σ H s)(g:iE H a y o)(ry:aR y u)(h:∀s',aA X ai σ H s'->Q (.bool (!o.isSome)) s') :
  wpAny (model X.prog X.w) A (compareOp .NotIn u (.ref a)) Q E s:=by
 rcases g with⟨kvs,k,b,e,ey,eb,l⟩|⟨kvs,k,e,ey,l⟩
 ·subst ey
  cases (show u=Value.ref b from ry)
  obtain⟨z,hd,xs,rel,dd⟩:=jT I.hok e
  refine wpAny_notIn_heap (show A.units+1+8<cLine by omega) (jS I.hok eb) hd dd ?_;have q:=(rel.val k).isSome_eq;rw[Option.isSome_map]at q;rw[<- q,<- l];exact h _ (I.tok _)
 ·obtain⟨z,hd,vs,rel,dd⟩:=lL I.hok e
  refine wpAny_notIn_of (ey.is ry) hd dd.mapOf ?_;rw[<- (rel.val k).isSome_eq,<- l];exact h _ (I.tok _)
theorem Z5 {H':Hp}{Q:Unit->aw->Prop}(hu:A.units+16<cLine)(I:aA X ai σ H s)(g:wP H a y v H')(ry:aR y u)(rv:aR v r)(h:∀s',aA X ai σ H' s'->Q () s') :
  wpAny (model X.prog X.w) A (setItem (.ref a) u r) Q E s:=by
 rcases g with⟨kvs,k,b,e,ey,eb,l,eH⟩|⟨kvs,k,e,ey,l,eH⟩
 ·subst ey eH
  cases (show u=Value.ref b from ry)
  obtain⟨z,hd,xs,rel,dd⟩:=jT I.hok (.inl e)
  have hz:xs.length<=sizeLine:=by rw[<- Paired.length rel];exact z
  have hl:(dS kvs k v).length<=sizeLine:=by have:=wB kvs k v;omega
  refine wpAny_setItem_heap (hsz:=hz) (show A.units+1+8<cLine by omega) (jS I.hok eb) dd λh' dd' hs=>h _ ?_
  obtain⟨q,es,ep,hq,h2,h3,h4,_,h5⟩:=dd'
  refine qN I (by rw[e];exact aO7) hs ⟨q,hq⟩ ⟨hl,hd,_,(rel.put k eb rv).keeps λc ys ec=>?_,q,es,ep,hq,h2,h3,h4,h5⟩;rw[aL (uG ec e (λz=>nomatch z))];exact ec
 ·subst eH
  obtain⟨z,hd,vs,rel,dd⟩:=lL I.hok (.inl e)
  have hz:vs.length<=sizeLine:=by rw[<- rel.length];exact z
  have hl:(dS kvs k v).length<=sizeLine:=by have:=wB kvs k v;omega
  refine wpAny_setItem_pairs (hsz:=hz) (ey.is ry) dd λh' dd' hs=>h _ ?_
  have he:∃q,h'.get? a=some q:=let ⟨q,_,_,hq,_⟩:=dd';⟨q,hq⟩
  exact qN I (by rw[e];exact aO7) hs he ⟨hl,hd,_,rel.put k rv,dd'⟩
end
noncomputable def wQ (td ty:TE):TE:=λσ H Q=>td σ H λx H1=>ty σ H1 λy H2=>∃a v,x = .ref a/\iE H2 a y (some v)/\Q v H2
noncomputable def wR (ty td:TE):TE:=λσ H Q=>ty σ H λy H1=>td σ H1 λx H2=>∃a o,x = .ref a/\iE H2 a y o/\Q (.bl o.isSome) H2
noncomputable def wS (ty td:TE):TE:=λσ H Q=>ty σ H λy H1=>td σ H1 λx H2=>∃a o,x = .ref a/\iE H2 a y o/\Q (.bl (!o.isSome)) H2
noncomputable def jU (td ty tv:TE):TS:=λD σ H=>tv σ H λv H1=>td σ H1 λx H2=>ty σ H2 λy H3=>∃a H4,x = .ref a/\wP H3 a y v H4/\D.nx σ H4
noncomputable def wT:TE:=λ_ H Q=>∀p,H p=none->Q (.ref p) (upd H p (.dA []))
noncomputable def wU:TE:=λ_ H Q=>∀p,H p=none->Q (.ref p) (upd H p (.dB []))
noncomputable def wV (tk tv:TE):TE:=λσ H Q=>∀p,H p=none->tk σ (upd H p (.dA [])) λx H1=>tv σ H1 λy H2=>H2 p=some (.dA [])/\∃b k,x = .ref b/\dO H2 k b/\Q (.ref p) (upd H2 p (.dA [(k,y)]))
section
variable {X:Cx}{o i e value k v:Expr}{pos pos' tpos:Pos}{td ty tv tk:TE}
theorem Z6 (hu:X.A.units+16<cLine)(ho:PE X o td)(hi:PE X i ty)(hs:qO i):PE X (.Subscript o i pos) (wQ td ty):=by
 intro ai s σ H Q I h;refine W5 PySem.F.slot_dict_getitem.lookup hs (aM (ho ai s σ H _ I h) λu s1 ⟨x,H1,I1,rx,q1⟩=>aM (hi ai s1 σ H1 _ I1 q1) λiv s2 ⟨y,H2,I2,ry,a,v,ex,g,q2⟩=>?_);subst ex;obtain rfl:u=Value.ref a:=rx
 exact⟨Z1 I2 g,Z2 hu I2 g ry λw' s3 I3 rw'=>⟨v,H2,I3,rw',q2⟩⟩
theorem Z7 (hu:X.A.units+16<cLine)(hi:PE X i ty)(ho:PE X o td):PC X .In i o (wR ty td):=by
 intro ai s σ H Q I h;refine aM (hi ai s σ H _ I h) λiv s1 ⟨y,H1,I1,ry,q1⟩=>aM (ho ai s1 σ H1 _ I1 q1) λu s2 ⟨x,H2,I2,rx,a,ov,ex,g,q2⟩=>?_
 subst ex;obtain rfl:u=Value.ref a:=rx;exact Z3 hu I2 g ry λs3 I3=>⟨.bl ov.isSome,H2,I3,rfl,q2⟩
theorem Z8 (hu:X.A.units+16<cLine)(hi:PE X i ty)(ho:PE X o td):PC X .NotIn i o (wS ty td):=by
 intro ai s σ H Q I h;refine aM (hi ai s σ H _ I h) λiv s1 ⟨y,H1,I1,ry,q1⟩=>aM (ho ai s1 σ H1 _ I1 q1) λu s2 ⟨x,H2,I2,rx,a,ov,ex,g,q2⟩=>?_
 subst ex;obtain rfl:u=Value.ref a:=rx;exact Z4 hu I2 g ry λs3 I3=>⟨.bl (!ov.isSome),H2,I3,rfl,q2⟩
theorem hG (hu:X.A.units+16<cLine)(ho:PE X o td)(hi:PE X i ty)(hv:PE X value tv)(hs:swapsWith value (some (.Subscript o i pos')) pos.line X.env=pure false) :
  PS X (.Assign [.Subscript o i pos'] value pos) (jU td ty tv):=by
 intro ai s σ H D I h;refine wpAny_Assign_Subscript (aM (hv ai s σ H _ I h) λr s1 ⟨v,H1,I1,rv,q1⟩=>aM (ho ai s1 σ H1 _ I1 q1) λu s2 ⟨x,H2,I2,rx,q2⟩=>aM (hi ai s2 σ H2 _ I2 q2) λiv s3 ⟨y,H3,I3,ry,a,H4,ex,g,q3⟩=>?_) hs;subst ex;obtain rfl:u=Value.ref a:=rx;exact Z5 hu I3 g ry rv λs4 I4=>⟨σ,H4,I4,q3⟩
theorem wW {P:ay}{w:ba}{H:Hp}(h:Heap)(hb:sysModules<h.objs.size):bG P w H (h.push { cls:=.type "dict",data:=.dict #[] }) h.objs.size (.dA []):=
 ⟨aM1 _,aM6.mpr (Ne.symm (aH2 hb)),[],.nil,_,#[],0,aF3 _ rfl,⟨rfl,rfl,rfl⟩,rfl,rfl,aO5⟩
theorem Z9 {P:ay}{w:ba}{H:Hp}(h:Heap)(hb:sysModules<h.objs.size):bG P w H (h.push { cls:=.type "dict",data:=.dict #[] }) h.objs.size (.dB []):=
 ⟨aM1 _,aM6.mpr (Ne.symm (aH2 hb)),[],.nil,Heap.DictOf.new h⟩
theorem aa0:PE X (.Dict [] [] pos) wT:=λai s σ H Q I h=>
 wpAny_Dict_empty ⟨.ref s.heap.objs.size,_,I.laid (a:=s.heap.objs.size) (o:=.dA []) (t':=s.toks) (λ_ _ q=>aE1 _ q) (aF0 _) (wW s.heap I.big),rfl,h _ (I.hok.fresh (aF0 _))⟩
theorem aa1:PE X (.Dict [] [] pos) wU:=λai s σ H Q I h=>
 wpAny_Dict_empty ⟨.ref s.heap.objs.size,_,I.laid (a:=s.heap.objs.size) (o:=.dB []) (t':=s.toks) (λ_ _ q=>aE1 _ q) (aF0 _) (Z9 s.heap I.big),rfl,h _ (I.hok.fresh (aF0 _))⟩
theorem aa2 (hu:X.A.units+16<cLine)(hk:PE X k tk)(hv:PE X v tv):PE X (.Dict [some k] [v] pos) (wV tk tv):=by
 intro ai s σ H Q I q;have hn:=I.hok.fresh (aF0 s.heap.objs.size);have I1:=I.laid (a:=s.heap.objs.size) (o:=.dA []) (h':=s.heap.push { cls:=.type "dict",data:=.dict #[] }) (t':=s.toks) (λ_ _ q=>aE1 _ q) (aF0 _) (wW s.heap I.big);refine Raw.Y9 (knd:=kU (gG X.prog X.w)) (show X.A.units+8<cLine by omega) (aM (hk ai _ σ _ _ I1 (q _ hn)) λkv s1 ⟨x,H1,I2,rx,q1⟩=>aM (hv ai s1 σ H1 _ I2 q1) λvv s2 ⟨y,H2,I3,ry,e,b,κ,ex,nk,q2⟩=>?_);subst ex;obtain rfl:kv=Value.ref b:=rx
 obtain⟨z,hd,xs,rel,dd⟩:=jT I3.hok (.inl e)
 cases rel;refine⟨b,cO κ,rfl,jS I3.hok nk,dd,λh' dd' hs=>⟨.ref s.heap.objs.size,_,?_,rfl,q2⟩⟩
 obtain⟨ob,es,ep,hq,h2,h3,h4,_,h5⟩:=dd'
 refine qN I3 (by rw[e];exact aO7) hs ⟨ob,hq⟩ ⟨by show (1:Nat)<=sizeLine;rw[sizeLine_eq];omega,hd,_,eD.keeps (.cons ⟨rfl,nk,ry⟩ .nil) λc ys ec=>?_,ob,es,ep,hq,h2,h3,h4,h5⟩;rw[aL (uG ec e (λz=>nomatch z))];exact ec
end
end L2
namespace PP
open PySem L2
inductive PV where
 |non|bl (b:Bool)|int (i:Int)|str (x:Str)|tup (xs:List PV)|lst (xs:List PV)
 |dK (kvs:List (bL×PV))|dT (kvs:List (List bL×PV))|scr (ns:ag)|kt (xs:List PV)|exc (c:Str)|fK (kvs:List (bL×PV))|fT (kvs:List (List bL×PV))|fL (xs:List PV)|fn (x:Str)|ob (a:ax)
 |lm (l:b9)|dA (kvs:List (List (Int×Bool)×PV))|dB (kvs:List (Int×PV))|fA (kvs:List (List (Int×Bool)×PV))
mutual
noncomputable def flat:PV->Bool
 |.tup xs=>flats xs
 |.lst _=>false
 |.dK _=>false
 |.dT _=>false
 |.non=>true
 |.bl _=>true
 |.int _=>true
 |.str _=>true
 |.scr _=>true
 |.kt xs=>flats xs
 |.exc _=>true
 |.fK _=>false
 |.fT _=>false
 |.fL xs=>flats xs
 |.fn _=>true
 |.ob _=>true
 |.lm _=>true
 |.dA _=>false
 |.dB _=>false
 |.fA _=>false
noncomputable def flats:List PV->Bool
 |[]=>true
 |x::r=>flat x&&flats r
end
noncomputable def hI (K:ad)(H:Hp)(a:ax)(ns:ag):Prop:=(∃o,H a=some (.frz o (.lst (ns.map V.int)))) ∨
  ∃(o:Obj) (its:Array av) (n:Nat),K.lookup a=some o/\o.cls = .type "list"/\o.dict=none/\o.data = .seq its n/\its.size<=sizeLine/\aP (ns.map V.int) its.toList
noncomputable def lM (K:ad)(a:ax)(us:List V):Prop:=∃(o:Obj) (its:Array av) (n:Nat),K.lookup a=some o/\o.cls = .type "tuple"/\o.data = .seq its n/\its.size<=sizeLine/\aP us its.toList
mutual
inductive aH (K:ad)(M:ax->Prop)(H:Hp):V->PV->Prop
 |non:aH K M H .non .non
 |bl (b:Bool):aH K M H (.bl b) (.bl b)
 |int (i:Int):aH K M H (.int i) (.int i)
 |str (x:Str):aH K M H (.str x) (.str x)
 |tup {a:ax}{us:List V}{xs:List PV}:H a=some (.tup us)->Reps K M H us xs->aH K M H (.ref a) (.tup xs)
 |lst {a:ax}{us:List V}{xs:List PV}:M a->H a=some (.lst us)->Reps K M H us xs->aH K M H (.ref a) (.lst xs)
 |dK {a:ax}{kvs:List (bL×V)}{ps:List (bL×PV)}:M a->H a=some (.dK kvs)->kvs.map (·.1)=ps.map (·.1)->Reps K M H (kvs.map (·.2)) (ps.map (·.2))->aH K M H (.ref a) (.dK ps)
 |dT {a:ax}{kvs:List (List bL×V)}{ps:List (List bL×PV)}:M a->H a=some (.dT kvs)->kvs.map (·.1)=ps.map (·.1)->Reps K M H (kvs.map (·.2)) (ps.map (·.2))->aH K M H (.ref a) (.dT ps)
 |scr {a:ax}{ns:ag}:hI K H a ns->aH K M H (.ref a) (.scr ns)
 |kt {a:ax}{us:List V}{xs:List PV}:lM K a us->Reps K M H us xs->aH K M H (.ref a) (.kt xs)
 |exc {a C:ax}{o:Obj}{c:Str}:H a=some (.frz o (.own a))->PySem.W.nsIn K mainGlobals c=some (some (.ref C))->o.cls = .ref C->aH K M H (.ref a) (.exc c)
 |fK {a:ax}{o:Obj}{kvs:List (bL×V)}{ps:List (bL×PV)}:H a=some (.frz o (.dK kvs))->kvs.map (·.1)=ps.map (·.1)->Reps K M H (kvs.map (·.2)) (ps.map (·.2))->aH K M H (.ref a) (.fK ps)
 |fT {a:ax}{o:Obj}{kvs:List (List bL×V)}{ps:List (List bL×PV)}:H a=some (.frz o (.dT kvs))->kvs.map (·.1)=ps.map (·.1)->Reps K M H (kvs.map (·.2)) (ps.map (·.2))->aH K M H (.ref a) (.fT ps)
 |fL {a:ax}{o:Obj}{us:List V}{xs:List PV}:H a=some (.frz o (.lst us))->Reps K M H us xs->aH K M H (.ref a) (.fL xs)
 |fn {f:ax}{x:Str}:PySem.W.nsIn K mainGlobals x=some (some (.ref f))->aH K M H (.ref f) (.fn x)
 |ob {a:ax}:aH K M H (.ref a) (.ob a)
 |lm {f:ax}{l:b9}:fH H f l->aH K M H (.ref f) (.lm l)
 |dA {a:ax}{kvs:List (List (Int×Bool)×V)}{ps:List (List (Int×Bool)×PV)}:M a->H a=some (.dA kvs)->kvs.map (·.1)=ps.map (·.1)->Reps K M H (kvs.map (·.2)) (ps.map (·.2))->aH K M H (.ref a) (.dA ps)
 |dB {a:ax}{kvs:List (Int×V)}{ps:List (Int×PV)}:M a->H a=some (.dB kvs)->kvs.map (·.1)=ps.map (·.1)->Reps K M H (kvs.map (·.2)) (ps.map (·.2))->aH K M H (.ref a) (.dB ps)
 |fA {a:ax}{o:Obj}{kvs:List (List (Int×Bool)×V)}{ps:List (List (Int×Bool)×PV)}:H a=some (.frz o (.dA kvs))->kvs.map (·.1)=ps.map (·.1)->Reps K M H (kvs.map (·.2)) (ps.map (·.2))->aH K M H (.ref a) (.fA ps)
inductive Reps (K:ad)(M:ax->Prop)(H:Hp):List V->List PV->Prop
 |nil:Reps K M H [] []
 |cons {v:V}{x:PV}{vs:List V}{xs:List PV}:aH K M H v x->Reps K M H vs xs->Reps K M H (v::vs) (x::xs)
end
noncomputable def qZ:HO->Bool
 |.frz _ _=>true
 |_=>false
noncomputable def wX:HO->Bool
 |.frz _ u=>qZ u
 |.ins _ _ _=>true
 |.ext _=>true
 |_=>false
noncomputable def aa3:HO->Bool
 |.dA _=>true
 |.dB _=>true
 |_=>false
structure dU (M M':ax->Prop)(H H':Hp):Prop where
 lst:∀a us,M a->H a=some (.lst us)->M' a/\H' a=some (.lst us)
 dK:∀a kvs,M a->H a=some (.dK kvs)->M' a/\H' a=some (.dK kvs)
 dT:∀a kvs,M a->H a=some (.dT kvs)->M' a/\H' a=some (.dT kvs)
 tup:∀a us,H a=some (.tup us)->H' a=some (.tup us)
 frz:∀a o u,H a=some (.frz o u)->qZ u=false->H' a=some (.frz o u)
 dA:∀a u,aa3 u=true->M a->H a=some u->M' a/\H' a=some u
theorem hI.keep {K:ad}{H H':Hp}{a:ax}{ns:ag}(k:∀a o u,H a=some (.frz o u)->qZ u=false->H' a=some (.frz o u))(h:hI K H a ns):hI K H' a ns:=
 h.elim (λ⟨o,e⟩=>.inl ⟨o,k _ _ _ e rfl⟩) .inr
mutual
theorem aH.keep {K:ad}{M M':ax->Prop}{H H':Hp}(k:dU M M' H H'):∀{v:V}{x:PV},aH K M H v x->aH K M' H' v x
 |_,_,.non=>.non
 |_,_,.bl b=>.bl b
 |_,_,.int i=>.int i
 |_,_,.str x=>.str x
 |_,_,.tup h r=>.tup (k.tup _ _ h) (Reps.keep k r)
 |_,_,.lst m h r=>.lst (k.lst _ _ m h).1 (k.lst _ _ m h).2 (Reps.keep k r)
 |_,_,.dK m h e r=>.dK (k.dK _ _ m h).1 (k.dK _ _ m h).2 e (Reps.keep k r)
 |_,_,.dT m h e r=>.dT (k.dT _ _ m h).1 (k.dT _ _ m h).2 e (Reps.keep k r)
 |_,_,.scr h=>.scr (h.keep k.frz)
 |_,_,.kt h r=>.kt h (Reps.keep k r)
 |_,_,.exc h e c=>.exc (k.frz _ _ _ h rfl) e c
 |_,_,.fK h e r=>.fK (k.frz _ _ _ h rfl) e (Reps.keep k r)
 |_,_,.fT h e r=>.fT (k.frz _ _ _ h rfl) e (Reps.keep k r)
 |_,_,.fL h r=>.fL (k.frz _ _ _ h rfl) (Reps.keep k r)
 |_,_,.fn h=>.fn h
 |_,_,.ob=>.ob
 |_,_,.lm h=>.lm (let ⟨pm,ctv,c,e1⟩:=h;⟨pm,ctv,c,k.frz _ _ _ e1 rfl⟩)
 |_,_,.dA m h e r=>.dA (k.dA _ _ rfl m h).1 (k.dA _ _ rfl m h).2 e (Reps.keep k r)
 |_,_,.dB m h e r=>.dB (k.dA _ _ rfl m h).1 (k.dA _ _ rfl m h).2 e (Reps.keep k r)
 |_,_,.fA h e r=>.fA (k.frz _ _ _ h rfl) e (Reps.keep k r)
theorem Reps.keep {K:ad}{M M':ax->Prop}{H H':Hp}(k:dU M M' H H'):∀{vs:List V}{xs:List PV},Reps K M H vs xs->Reps K M' H' vs xs
 |_,_,.nil=>.nil
 |_,_,.cons r t=>.cons (aH.keep k r) (Reps.keep k t)
end
mutual
theorem aH.flat {K:ad}{M M':ax->Prop}{H:Hp}{v:V}{x:PV}(f:flat x=true)(r:aH K M H v x):aH K M' H v x:=by
 cases r with
 |non=>exact .non
 |bl b=>exact .bl b
 |int i=>exact .int i
 |str x=>exact .str x
 |tup h r=>exact .tup h (Reps.flat (by unfold PP.flat at f;exact f) r)
 |lst m h r=>unfold PP.flat at f;cases f
 |dK m h e r=>unfold PP.flat at f;cases f
 |dT m h e r=>unfold PP.flat at f;cases f
 |scr h=>exact .scr h
 |kt h r=>exact .kt h (Reps.flat (by unfold PP.flat at f;exact f) r)
 |exc h e c=>exact .exc h e c
 |fK h e r=>unfold PP.flat at f;cases f
 |fT h e r=>unfold PP.flat at f;cases f
 |fL h r=>exact .fL h (Reps.flat (by unfold PP.flat at f;exact f) r)
 |fn h=>exact .fn h
 |ob=>exact .ob
 |lm h=>exact .lm h
 |dA m h e r=>unfold PP.flat at f;cases f
 |dB m h e r=>unfold PP.flat at f;cases f
 |fA h e r=>unfold PP.flat at f;cases f
theorem Reps.flat {K:ad}{M M':ax->Prop}{H:Hp}{vs:List V}{xs:List PV}(f:flats xs=true)(r:Reps K M H vs xs):Reps K M' H vs xs:=by
 cases r with
 |nil=>exact .nil
 |cons r t=>
  unfold PP.flats at f;rw[aG8]at f;exact .cons (aH.flat f.1 r) (Reps.flat f.2 t)
end
theorem dU.same {M M':ax->Prop}{H H':Hp}(s:aJ H H')(m:∀a,M a->M' a):dU M M' H H':=
 ⟨λa _ h e=>⟨m a h,s _ _ e⟩,λa _ h e=>⟨m a h,s _ _ e⟩,λa _ h e=>⟨m a h,s _ _ e⟩,λ_ _ e=>s _ _ e,λ_ _ _ e _=>s _ _ e,λa _ _ h e=>⟨m a h,s _ _ e⟩⟩
theorem aH.same {K:ad}{M M':ax->Prop}{H H':Hp}{v:V}{x:PV}(r:aH K M H v x)(s:aJ H H')(m:∀a,M a->M' a):aH K M' H' v x:=r.keep (.same s m)
theorem Reps.same {K:ad}{M M':ax->Prop}{H H':Hp}{v:List V}{x:List PV}(r:Reps K M H v x)(s:aJ H H')(m:∀a,M a->M' a):Reps K M' H' v x:=r.keep (.same s m)
noncomputable def dI:HO->Bool
 |.lst _=>true
 |.dK _=>true
 |.dT _=>true
 |.dA _=>true
 |.dB _=>true
 |_=>false
theorem dU.upd {M M':ax->Prop}{H:Hp}{a:ax}{o o':HO}(h:H a=some o')(mu:dI o'=true)(m:∀b,M b->b≠a/\M' b):dU M M' H (upd H a o):=
 ⟨λb _ hb e=>⟨(m b hb).2,by rw[aL (m b hb).1];exact e⟩,λb _ hb e=>⟨(m b hb).2,by rw[aL (m b hb).1];exact e⟩,λb _ hb e=>⟨(m b hb).2,by rw[aL (m b hb).1];exact e⟩,
  λb _ e=>by rw[aL (λz=>by rw[z,h]at e;cases e;cases mu)];exact e,
  λb _ _ e _=>by rw[aL (λz=>by rw[z,h]at e;cases e;cases mu)];exact e,λb _ _ hb e=>⟨(m b hb).2,by rw[aL (m b hb).1];exact e⟩⟩
theorem Reps.length {K:ad}{M:ax->Prop}{H:Hp}:∀{vs:List V}{xs:List PV},Reps K M H vs xs->vs.length=xs.length
 |_,_,.nil=>rfl
 |_,_,.cons _ t=>congrArg (·+1) t.length
theorem Reps.get {K:ad}{M:ax->Prop}{H:Hp}:∀{vs:List V}{xs:List PV}{i:Nat}{v:V},Reps K M H vs xs->vs[i]? = some v->∃x,xs[i]? = some x/\aH K M H v x
 |_,_,_,_,.nil,e=>by simp at e
 |_,_,0,_,.cons r _,e=>by simp at e;subst e;exact⟨_,rfl,r⟩
 |_,_,i+1,v,.cons _ t,e=>by
  rw[aK4]at e
  obtain⟨x,h1,h2⟩:=t.get e
  exact⟨x,by rw[aK4];exact h1,h2⟩
theorem Reps.at {K:ad}{M:ax->Prop}{H:Hp}:∀{vs:List V}{xs:List PV}{i:Nat}{x:PV},Reps K M H vs xs->xs[i]? = some x->∃v,vs[i]? = some v/\aH K M H v x
 |_,_,_,_,.nil,e=>by simp at e
 |_,_,0,_,.cons r _,e=>by simp at e;subst e;exact⟨_,rfl,r⟩
 |_,_,i+1,v,.cons _ t,e=>by
  rw[aK4]at e
  obtain⟨x,h1,h2⟩:=t.at e
  exact⟨x,by rw[aK4];exact h1,h2⟩
theorem Reps.append {K:ad}{M:ax->Prop}{H:Hp}:∀{vs:List V}{xs:List PV}{us:List V}{ys:List PV},Reps K M H vs xs->Reps K M H us ys->Reps K M H (vs++us) (xs++ys)
 |_,_,_,_,.nil,s=>s
 |_,_,_,_,.cons r t,s=>.cons r (t.append s)
theorem Reps.set {K:ad}{M:ax->Prop}{H:Hp}{v:V}{x:PV}(q:aH K M H v x):∀(i:Nat) {vs:List V}{xs:List PV},Reps K M H vs xs->Reps K M H (vs.set i v) (xs.set i x)
 |_,_,_,.nil=>.nil
 |0,_,_,.cons r t=>.cons q t
 |i+1,_,_,.cons r t=>.cons r (Reps.set q i t)
theorem Reps.take {K:ad}{M:ax->Prop}{H:Hp}:∀(n:Nat) {vs:List V}{xs:List PV},Reps K M H vs xs->Reps K M H (vs.take n) (xs.take n)
 |0,_,_,_=>by simp;exact .nil
 |_+1,_,_,.nil=>.nil
 |n+1,_,_,.cons r t=>.cons r (Reps.take n t)
theorem Reps.drop {K:ad}{M:ax->Prop}{H:Hp}:∀(n:Nat) {vs:List V}{xs:List PV},Reps K M H vs xs->Reps K M H (vs.drop n) (xs.drop n)
 |0,_,_,r=>r
 |_+1,_,_,.nil=>.nil
 |n+1,_,_,.cons _ t=>Reps.drop n t
noncomputable abbrev intz (ns:ag):List PV:=ns.map PV.int
theorem Reps.intz {K:ad}{M:ax->Prop}{H:Hp}:∀(ns:ag),Reps K M H (ns.map V.int) (intz ns)
 |[]=>.nil
 |n::r=>.cons (.int n) (Reps.intz r)
theorem Reps.ofInts {K:ad}{M:ax->Prop}{H:Hp}:∀{ns:ag}{us:List V},Reps K M H us (PP.intz ns)->us=ns.map V.int
 |[],_,.nil=>rfl
 |n::r,_,.cons q t=>by
  cases q;rw[Reps.ofInts t];rfl
theorem nW:∀(ns:ag),flats (intz ns)=true
 |[]=>rfl
 |n::r=>by show (flat (.int n)&&flats (intz r))=true;rw[nW r];rfl
inductive Tg|rd|sh|nw|fr
inductive Slot|sh (g:Bool) (x:PV)|own (x:PV)|kp (g:Bool) (x:PV) (ks:List (ax×List PV×List PV))
noncomputable def Slot.val:Slot->PV
 |.sh _ x=>x
 |.own x=>x
 |.kp _ x _=>x
noncomputable def Slot.tag:Slot->Tg
 |.sh true _=>.nw
 |.sh false _=>.sh
 |.own _=>.rd
 |.kp _ _ _=>.nw
noncomputable abbrev bO:=List (Option Slot)
noncomputable def Ms (H0:Hp)(W:ax->Prop):Bool->ax->Prop
 |false,a=>¬W a
 |true,a=>¬W a/\H0 a=none
noncomputable def Mg (H0:Hp)(W:ax->Prop)(Hs:Hp):Tg->ax->Prop
 |.rd,_=>True
 |.sh,a=>¬W a
 |.nw,a=>¬W a/\H0 a=none
 |.fr,a=>Hs a=none
noncomputable def fJ (K:ad)(M:ax->Prop)(H:Hp)(a:ax):PV->Prop
 |.lst xs=>∃us,H a=some (.lst us)/\Reps K M H us xs
 |.dK ps=>∃kvs,H a=some (.dK kvs)/\kvs.map (·.1)=ps.map (·.1)/\Reps K M H (kvs.map (·.2)) (ps.map (·.2))
 |.dT ps=>∃kvs,H a=some (.dT kvs)/\kvs.map (·.1)=ps.map (·.1)/\Reps K M H (kvs.map (·.2)) (ps.map (·.2))
 |.dA ps=>∃kvs,H a=some (.dA kvs)/\kvs.map (·.1)=ps.map (·.1)/\Reps K M H (kvs.map (·.2)) (ps.map (·.2))
 |.dB ps=>∃kvs,H a=some (.dB kvs)/\kvs.map (·.1)=ps.map (·.1)/\Reps K M H (kvs.map (·.2)) (ps.map (·.2))
 |_=>False
noncomputable def kL (l:ax)(us:List V):HO:=.ext λh=>us.length<=sizeLine/\∃(its:List av) (n:Nat),aP us its/\h.get? l=some { cls:=.type "list",data:=.seq its.toArray n }
noncomputable def iZ (K:ad)(H0 H:Hp)(a:ax)(st un:List PV):Prop:=∃(C dx l1 l2:ax) (us1 us2:List V),PySem.W.nsIn K mainGlobals "Keeper" = some (some (.ref C))/\(H0 a=none/\H0 dx=none/\H0 l1=none/\H0 l2=none)/\l1≠l2/\H dx=some (.own a)/\
 H a=some (.ins C dx [("standing",.ref l1),("undone",.ref l2)])/\H l1=some (kL l1 us1)/\H l2=some (kL l2 us2)/\Reps K (λ_=>False) H us1 st/\Reps K (λ_=>False) H us2 un
theorem iZ.keep {K:ad}{H0 H H':Hp}{a:ax}{st un:List PV}(k:dU (λ_=>False) (λ_=>False) H H')(f:∀b o,H b=some o->dI o=false->H' b=some o)(h:iZ K H0 H a st un):iZ K H0 H' a st un:=by
 obtain⟨C,dx,l1,l2,us1,us2,h1,h2,h3,h4,h5,h6,h7,r1,r2⟩:=h
 exact⟨C,dx,l1,l2,us1,us2,h1,h2,h3,f _ _ h4 rfl,f _ _ h5 rfl,f _ _ h6 rfl,f _ _ h7 rfl,r1.keep k,r2.keep k⟩
noncomputable def Ap2 (H:Hp)(a b:ax):Prop:=a≠b/\∀C D dx dy l1 l2 m1 m2,H a=some (.ins C dx [("standing",.ref l1),("undone",.ref l2)])->H b=some (.ins D dy [("standing",.ref m1),("undone",.ref m2)])->l1≠m1/\l1≠m2/\l2≠m1/\l2≠m2
noncomputable def eT (K:ad)(H0 H:Hp)(ks:List (ax×List PV×List PV)):Prop:=(∀k∈ks,iZ K H0 H k.1 k.2.1 k.2.2)/\ks.Pairwise λk m=>Ap2 H k.1 m.1
theorem eT.keep {K:ad}{H0 H H':Hp}{ks:List (ax×List PV×List PV)}(k:dU (λ_=>False) (λ_=>False) H H')(f:∀b o,H b=some o->dI o=false->H' b=some o)(h:eT K H0 H ks):eT K H0 H' ks:=by
 refine⟨λx hx=>(h.1 x hx).keep k f,h.2.imp_of_mem λ{x y} hx hy r=>⟨r.1,λC D dx dy l1 l2 m1 m2 e1 e2=>?_⟩⟩
 obtain⟨C',dx',l1',l2',us1,us2,_,_,_,_,h5,_⟩:=h.1 x hx
 obtain⟨D',dy',m1',m2',ws1,ws2,_,_,_,_,g5,_⟩:=h.1 y hy
 have z1:=f _ _ h5 rfl;have z2:=f _ _ g5 rfl;rw[e1]at z1;rw[e2]at z2;cases z1;cases z2;exact r.2 _ _ _ _ _ _ _ _ h5 g5
theorem eT.same {K:ad}{H0 H H':Hp}{ks:List (ax×List PV×List PV)}(s:aJ H H')(h:eT K H0 H ks):eT K H0 H' ks:=h.keep (.same s λ_ z=>z) λ_ _ e _=>s _ _ e
theorem eT.upd {K:ad}{H0 H:Hp}{c:ax}{o o':HO}{ks:List (ax×List PV×List PV)}(e:H c=some o')(mu:dI o'=true)(h:eT K H0 H ks):eT K H0 (upd H c o) ks:=
 h.keep (.upd e mu λ_ z=>z.elim) λb u e2 m2=>by rw[aL (λz=>by rw[z,e]at e2;cases e2;rw[mu]at m2;cases m2)];exact e2
noncomputable def nX (K:ad)(H0:Hp)(W:ax->Prop)(H:Hp)(v:V):Slot->Prop
 |.sh g x=>aH K (Ms H0 W g) H v x
 |.own x=>∃a,v = .ref a/\W a/\fJ K (Ms H0 W true) H a x
 |.kp g x ks=>(aH K (λ_=>False) H v x/\flat x=true)/\eT K (cond g H0 λ_=>none) H ks
structure PX (K:ad)(H0:Hp)(W:ax->Prop)(σ:St)(ρ:bO)(H:Hp):Prop where
 len:ρ.length=σ.length
 same:aJ H0 H
 wm:∀a,W a->H0 a=none/\∃o,H a=some o/\dI o=true
 sl:∀(i:Nat) (m:Slot),ρ[i]? = some (some m)->∃v,σ[i]? = some (some v)/\nX K H0 W H v m
 dis:∀(i j:Nat) (x y:PV) (a:ax),ρ[i]? = some (some (.own x))->ρ[j]? = some (some (.own y))->σ[i]? = some (some (.ref a))->σ[j]? = some (some (.ref a))->i=j
theorem fJ.keep {K:ad}{M M':ax->Prop}{H H':Hp}{a:ax}(k:dU M M' H H')(ha:∀o,H a=some o->H' a=some o):∀{x:PV},fJ K M H a x->fJ K M' H' a x
 |.lst _,⟨us,e,r⟩=>⟨us,ha _ e,r.keep k⟩
 |.dK _,⟨us,e,q,r⟩=>⟨us,ha _ e,q,r.keep k⟩
 |.dT _,⟨us,e,q,r⟩=>⟨us,ha _ e,q,r.keep k⟩
 |.dA _,⟨us,e,q,r⟩=>⟨us,ha _ e,q,r.keep k⟩
 |.dB _,⟨us,e,q,r⟩=>⟨us,ha _ e,q,r.keep k⟩
theorem fJ.at {K:ad}{M:ax->Prop}{H:Hp}{a:ax}:∀{x:PV},fJ K M H a x->∃o,H a=some o/\dI o=true
 |.lst _,⟨us,e,r⟩=>⟨_,e,rfl⟩
 |.dK _,⟨us,e,q,r⟩=>⟨_,e,rfl⟩
 |.dT _,⟨us,e,q,r⟩=>⟨_,e,rfl⟩
 |.dA _,⟨us,e,q,r⟩=>⟨_,e,rfl⟩
 |.dB _,⟨us,e,q,r⟩=>⟨_,e,rfl⟩
theorem fJ.rep {K:ad}{M M':ax->Prop}{H:Hp}{a:ax}(m:∀b,M b->M' b)(ha:M' a):∀{x:PV},fJ K M H a x->aH K M' H (.ref a) x
 |.lst _,⟨us,e,r⟩=>.lst ha e (r.same (aJ.refl _) m)
 |.dK _,⟨us,e,q,r⟩=>.dK ha e q (r.same (aJ.refl _) m)
 |.dT _,⟨us,e,q,r⟩=>.dT ha e q (r.same (aJ.refl _) m)
 |.dA _,⟨us,e,q,r⟩=>.dA ha e q (r.same (aJ.refl _) m)
 |.dB _,⟨us,e,q,r⟩=>.dB ha e q (r.same (aJ.refl _) m)
section
variable {K:ad}{H0:Hp}{W W':ax→Prop}{σ:St}{ρ:bO}{H H':Hp}
theorem PX.mono (p:PX K H0 W σ ρ H)(s:aJ H H'):PX K H0 W σ ρ H':=by
 refine⟨p.len,p.same.trans s,λa h=>⟨(p.wm a h).1,let ⟨o,e,m⟩:=(p.wm a h).2;⟨o,s _ _ e,m⟩⟩,λi m h=>?_,p.dis⟩
 obtain⟨v,e,r⟩:=p.sl i m h
 refine⟨v,e,?_⟩;cases m with
 |sh g x=>exact aH.same r s λ_ z=>z
 |own x=>
  obtain⟨a,e1,e2,r⟩:=r
  exact⟨a,e1,e2,r.keep (.same s λ_ z=>z) λ_ z=>s _ _ z⟩
 |kp g x ks=>exact⟨⟨r.1.1.same s λ_ z=>z,r.1.2⟩,r.2.same s⟩
theorem PX.new (p:PX K H0 W σ ρ H){a:ax}(h:H a=none):¬W a/\H0 a=none:=
 ⟨λz=>(by obtain⟨_,o,e,_⟩:=p.wm a z;rw[h]at e;cases e),p.same.free h⟩
theorem Mg.back {g:Tg}{H1:Hp}(s:aJ H H1){a:ax}(h:Mg H0 W H1 g a):Mg H0 W H g a:=by
 cases g with
 |fr=>exact s.free h
 |rd=>exact h
 |sh=>exact h
 |nw=>exact h
end
noncomputable abbrev PK:=PV->Tg->Prop
noncomputable abbrev aE:=bO->PK->Prop
noncomputable abbrev cD:=bO->(Bool->Prop)->Prop
noncomputable abbrev bU:=bO->(List (PV×Tg)->Prop)->Prop
inductive fY (K:ad)(H0:Hp)(W:ax->Prop)(Hs H:Hp):List V->List (PV×Tg)->Prop
 |nil:fY K H0 W Hs H [] []
 |cons {v:V}{x:PV}{g:Tg}{vs:List V}{xs:List (PV×Tg)}:aH K (Mg H0 W Hs g) H v x->fY K H0 W Hs H vs xs->fY K H0 W Hs H (v::vs) ((x,g)::xs)
noncomputable def nY (K:ad)(H0:Hp)(W:ax->Prop)(H:Hp)(Q:PK)(Q':VK):Prop:=∀v H' x g,aJ H H'->aH K (Mg H0 W H g) H' v x->Q x g->Q' v H'
noncomputable def LE (X:Cx)(t:aE):TE:=λσ H Q'=>∃(W:ax->Prop) (ρ:bO) (Q:PK),PX X.K X.H₀ W σ ρ H/\t ρ Q/\nY X.K X.H₀ W H Q Q'
noncomputable def LT (X:Cx)(t:cD):TT:=λσ H Q'=>∃(W:ax->Prop) (ρ:bO) (Q:Bool->Prop),PX X.K X.H₀ W σ ρ H/\t ρ Q/\∀b H',aJ H H'->Q b->Q' b H'
noncomputable def LA (X:Cx)(t:bU):TA:=λσ H Q'=>∃(W:ax->Prop) (ρ:bO) (Q:List (PV×Tg)->Prop),PX X.K X.H₀ W σ ρ H/\t ρ Q/\∀vs H' xs,aJ H H'->fY X.K X.H₀ W H H' vs xs->Q xs->Q' vs H'
theorem fY.same {K:ad}{H0:Hp}{W:ax->Prop}{Hs Hs' H H':Hp}(s:aJ H H')(b:aJ Hs' Hs):∀{vs:List V}{xs:List (PV×Tg)},fY K H0 W Hs H vs xs->fY K H0 W Hs' H' vs xs
 |_,_,.nil=>.nil
 |_,_,.cons r t=>.cons (r.same s λ_ z=>Mg.back b z) (t.same s b)
theorem fY.any {K:ad}{H0:Hp}{W:ax->Prop}{Hs H:Hp}:∀{vs:List V}{xs:List (PV×Tg)},fY K H0 W Hs H vs xs->Reps K (λ_=>True) H vs (xs.map (·.1))
 |_,_,.nil=>.nil
 |_,_,.cons r t=>.cons (r.same (aJ.refl _) λ_ _=>trivial) t.any
noncomputable def Nw:Tg->PV->Prop
 |.fr,_=>True
 |.nw,_=>True
 |_,x=>flat x=true
section
variable {K:ad}{H0 Hs H:Hp}{W:ax→Prop}{σ:St}{ρ:bO}
theorem Nw.rep {g:Tg}{x:PV}{v:V}(px:PX K H0 W σ ρ Hs)(n:Nw g x)(r:aH K (Mg H0 W Hs g) H v x):aH K (Ms H0 W true) H v x:=by
 cases g with
 |fr=>exact r.same (aJ.refl _) λa z=>px.new z
 |nw=>exact r.same (aJ.refl _) λa z=>z
 |sh=>exact r.flat n
 |rd=>exact r.flat n
theorem wY {v:V}{m:Slot}(r:nX K H0 W H v m):aH K (Mg H0 W Hs m.tag) H v m.val:=by
 cases m with
 |sh g x=>
  cases g with
  |true=>exact aH.same r (aJ.refl _) λ_ z=>z
  |false=>exact aH.same r (aJ.refl _) λ_ z=>z
 |own x=>
  obtain⟨a,rfl,_,r⟩:=r
  exact r.rep (λ_ _=>trivial) trivial
 |kp g x ks=>exact r.1.1.flat r.1.2
end
section
variable {X:Cx}{σ:St}{H:Hp}{Q':VK}{ta tb:aE}
noncomputable def aC (i:Nat):aE:=λρ Q=>∃m,ρ[i]? = some (some m)/\Q m.val m.tag
noncomputable def qC (x:PV):aE:=λ_ Q=>Q x .fr
theorem aa4 {i:Nat}(h:LE X (aC i) σ H Q'):cH i σ H Q':=by
 obtain⟨W,ρ,Q,px,⟨m,e,q⟩,k⟩:=h
 obtain⟨v,ev,r⟩:=px.sl i m e
 exact⟨v,ev,k v H _ _ (aJ.refl _) (wY r) q⟩
theorem lN {x:PV}{v:V}(hr:∀M,aH X.K M H v x)(h:LE X (qC x) σ H Q'):tC v σ H Q':=by
 obtain⟨W,ρ,Q,px,q,k⟩:=h
 exact k v H _ _ (aJ.refl _) (hr _) q
noncomputable def fM (X:Cx)(R:PV->Tg->PV->Tg->PK->Prop)(r:R2):Prop:=∀(W:ax->Prop) (Hs H:Hp) (u v:V) (x y:PV) (g g':Tg) (Q:PK) (Q':VK),aJ Hs H->
 (∀a,Hs a=none->¬W a/\X.H₀ a=none)->aH X.K (Mg X.H₀ W Hs g) H u x->aH X.K (Mg X.H₀ W Hs g') H v y->R x g y g' Q->(∀w H' z gz,aJ H H'->aH X.K (Mg X.H₀ W Hs gz) H' w z->Q z gz->Q' w H')->r u v H Q'
noncomputable def q2 (R:PV->Tg->PV->Tg->PK->Prop)(ta tb:aE):aE:=λρ Q=>ta ρ λx g=>tb ρ λy g'=>R x g y g' Q
theorem nZ {R:PV->Tg->PV->Tg->PK->Prop}{r:R2}(c:fM X R r)(h:LE X (q2 R ta tb) σ H Q'):lC r (LE X ta) (LE X tb) σ H Q':=by
 obtain⟨W,ρ,Q,px,q,k⟩:=h
 refine⟨W,ρ,_,px,q,λu H1 x g s1 r1 q1=>⟨W,ρ,_,px.mono s1,q1,λv H2 y g' s2 r2 q2=>?_⟩⟩;exact c W H H2 u v x y g g' Q Q' (s1.trans s2) (λa z=>px.new z) (r1.same s2 λ_ z=>z) (r2.same (aJ.refl _) λ_ z=>Mg.back s1 z) q2 λw H' z gz s3 r3 q3=>k w H' z gz ((s1.trans s2).trans s3) r3 q3
noncomputable def RI (C:Int->Int->Prop)(f:Int->Int->PV):PV->Tg->PV->Tg->PK->Prop:=λx _ y _ Q=>∃i j,x = .int i/\y = .int j/\C i j/\Q (f i j) .fr
noncomputable def d0 (f:Int->Int->PV):PV->Tg->PV->Tg->PK->Prop:=λx _ y _ Q=>∃i j,x = .int i/\y = .int j/\Q (f i j) .fr
theorem jV {C:Int->Int->Prop}{f:Int->Int->Int}:fM X (RI C λi j=>.int (f i j)) (rI C λi j=>.int (f i j)):=by
 rintro W Hs H u v x y g g' Q Q' s n r1 r2 ⟨i,j,rfl,rfl,c,q⟩ k;cases r1;cases r2
 exact⟨i,j,rfl,rfl,c,k _ _ _ _ (aJ.refl _) (.int _) q⟩
theorem o3 {f:Int->Int->Int}:fM X (d0 λi j=>.int (f i j)) (fD λi j=>.int (f i j)):=by
 rintro W Hs H u v x y g g' Q Q' s n r1 r2 ⟨i,j,rfl,rfl,q⟩ k;cases r1;cases r2
 exact⟨i,j,rfl,rfl,k _ _ _ _ (aJ.refl _) (.int _) q⟩
theorem o5 {f:Int->Int->Bool}:fM X (d0 λi j=>.bl (f i j)) (fD λi j=>.bl (f i j)):=by
 rintro W Hs H u v x y g g' Q Q' s n r1 r2 ⟨i,j,rfl,rfl,q⟩ k;cases r1;cases r2
 exact⟨i,j,rfl,rfl,k _ _ _ _ (aJ.refl _) (.bl _) q⟩
noncomputable def j0 (neg:Bool):PV->Tg->PV->Tg->PK->Prop:=λx _ y _ Q=>(∃i j,x = .int i/\y = .int j/\Q (.bl (if neg=true then !decide (i=j) else decide (i=j))) .fr)∨(∃i j,x = .bl i/\y = .bl j/\Q (.bl (if neg=true then !decide (i=j) else decide (i=j))) .fr)
theorem wZ (i j:Int):decide (V.int i=V.int j)=decide (i=j):=by
 rw[aN6,aJ1,aJ1];exact⟨λz=>V.int.inj z,λz=>congrArg V.int z⟩
theorem x0 (i j:Bool):decide (V.bl i=V.bl j)=decide (i=j):=by
 rw[aN6,aJ1,aJ1];exact⟨λz=>V.bl.inj z,λz=>congrArg V.bl z⟩
theorem x3:fM X (j0 false) v0:=by
 rintro W Hs H u v x y g g' Q Q' s n r1 r2 (⟨i,j,rfl,rfl,q⟩|⟨i,j,rfl,rfl,q⟩) k
 ·cases r1;cases r2
  exact⟨rfl,by rw[wZ];exact k _ _ _ _ (aJ.refl _) (.bl _) q⟩
 ·cases r1;cases r2
  exact⟨rfl,by rw[x0];exact k _ _ _ _ (aJ.refl _) (.bl _) q⟩
theorem aa5:fM X (j0 true) v5:=by
 rintro W Hs H u v x y g g' Q Q' s n r1 r2 (⟨i,j,rfl,rfl,q⟩|⟨i,j,rfl,rfl,q⟩) k
 ·cases r1;cases r2
  exact⟨rfl,by rw[wZ];exact k _ _ _ _ (aJ.refl _) (.bl _) q⟩
 ·cases r1;cases r2
  exact⟨rfl,by rw[x0];exact k _ _ _ _ (aJ.refl _) (.bl _) q⟩
noncomputable def bZ (t:aE):cD:=λρ Q=>t ρ λx _=>∃b,x = .bl b/\Q b
theorem o6 {t:aE}{Q':Bool->Hp->Prop}(h:LT X (bZ t) σ H Q'):LE X t σ H λx H'=>∃k,x = .bl k/\Q' k H':=by
 obtain⟨W,ρ,Q,px,q,k⟩:=h
 refine⟨W,ρ,_,px,q,?_⟩;rintro v H1 x g s r ⟨b,rfl,q⟩;cases r
 exact⟨b,rfl,k _ _ s q⟩
noncomputable def j3 (t u:cD):cD:=λρ Q=>t ρ λc=>if c=true then Q true else u ρ Q
noncomputable def r6 (t:cD):cD:=λρ Q=>t ρ λc=>Q (!c)
variable {t u:cD}{Qb:Bool→Hp→Prop}
theorem aa6 (h:LT X (j3 t u) σ H Qb):uL (LT X t) (LT X u) σ H Qb:=by
 obtain⟨W,ρ,Q,px,q,k⟩:=h
 refine⟨W,ρ,_,px,q,λb H1 s1 q1=>?_⟩;cases b with
 |false=>exact cF ⟨W,ρ,Q,px.mono s1,by simpa using q1,λb H2 s2 q2=>k _ _ (s1.trans s2) q2⟩
 |true=>exact cC (k _ _ s1 (by simpa using q1))
theorem aa7 (h:LT X (r6 t) σ H Qb):uM (LT X t) σ H Qb:=by
 obtain⟨W,ρ,Q,px,q,k⟩:=h
 exact⟨W,ρ,_,px,q,λb H1 s1 q1=>k _ _ s1 q1⟩
noncomputable def o7 (ta tb:aE):aE:=λρ Q=>ta ρ λx _=>∃c,x = .bl c/\if c=true then tb ρ Q else Q (.bl false) .fr
noncomputable def r9 (ta:aE):aE:=λρ Q=>ta ρ λx _=>∃c,x = .bl c/\Q (.bl (!c)) .fr
theorem nY.back {K:ad}{H0:Hp}{W:ax->Prop}{H H1:Hp}{Q:PK}(k:nY K H0 W H Q Q')(s:aJ H H1):nY K H0 W H1 Q Q':=λv H' x g s' r q=>k v H' x g (s.trans s') (r.same (aJ.refl _) λ_ z=>Mg.back s z) q
theorem aa8 (h:LE X (o7 ta tb) σ H Q'):uN (LE X ta) (LE X tb) σ H Q':=by
 obtain⟨W,ρ,Q,px,q,k⟩:=h
 refine⟨W,ρ,_,px,q,?_⟩;rintro v H1 x g s1 r ⟨c,rfl,q⟩;cases r;refine⟨c,rfl,?_⟩;cases c with
 |true=>exact cC ⟨W,ρ,Q,px.mono s1,by simpa using q,k.back s1⟩
 |false=>exact cF (k _ _ _ _ s1 (.bl _) (by simpa using q))
theorem aa9 (h:LE X (r9 ta) σ H Q'):uO (LE X ta) σ H Q':=by
 obtain⟨W,ρ,Q,px,q,k⟩:=h
 refine⟨W,ρ,_,px,q,?_⟩;rintro v H1 x g s1 r ⟨c,rfl,q⟩;cases r
 exact⟨c,rfl,k _ _ _ _ s1 (.bl _) q⟩
noncomputable def aU:bU:=λ_ Q=>Q []
noncomputable def aI (te:aE)(tr:bU):bU:=λρ Q=>te ρ λx g=>tr ρ λxs=>Q ((x,g)::xs)
variable {Qa:List V→Hp→Prop}{tr:bU}
theorem ab0 (h:LA X aU σ H Qa):iB σ H Qa:=by
 obtain⟨W,ρ,Q,px,q,k⟩:=h
 exact k _ _ _ (aJ.refl _) .nil q
theorem ab1 (h:LA X (aI ta tr) σ H Qa):eC (LE X ta) (LA X tr) σ H Qa:=by
 obtain⟨W,ρ,Q,px,q,k⟩:=h
 refine⟨W,ρ,_,px,q,λv H1 x g s1 r1 q1=>⟨W,ρ,_,px.mono s1,q1,λvs H2 xs s2 r2 q2=>?_⟩⟩;exact k _ _ _ (s1.trans s2) (.cons (r1.same s2 λ_ z=>z) (r2.same (aJ.refl _) s1)) q2
noncomputable def fZ (t:bU):aE:=λρ Q=>t ρ λxs=>xs.length<=1000/\flats (xs.map (·.1))=true/\Q (.tup (xs.map (·.1))) .fr
noncomputable def j4 (t:bU):aE:=λρ Q=>t ρ λxs=>xs.length<=1000/\flats (xs.map (·.1))=true/\Q (.lst (xs.map (·.1))) .fr
theorem fY.length {K:ad}{H0:Hp}{W:ax->Prop}{Hs H:Hp}:∀{vs:List V}{xs:List (PV×Tg)},fY K H0 W Hs H vs xs->vs.length=xs.length
 |_,_,.nil=>rfl
 |_,_,.cons _ t=>congrArg (·+1) t.length
theorem rA {n:Nat}(h:n<=1000):n<=sizeLine:=aN8 (W8 h)
theorem ab2 (h:LE X (fZ tr) σ H Q'):vC (LA X tr) σ H Q':=by
 obtain⟨W,ρ,Q,px,q,k⟩:=h
 refine⟨W,ρ,_,px,q,?_⟩;rintro vs H1 xs s1 r ⟨hl,n,q⟩;refine⟨by rw[r.length];exact rA hl,λp hp=>k _ _ _ .fr (s1.trans (cZ hp _)) (.tup bM ?_) q⟩;exact (r.any.flat n).same (cZ hp _) λ_ z=>z
theorem ab3 (h:LE X (j4 tr) σ H Q'):vD (LA X tr) σ H Q':=by
 obtain⟨W,ρ,Q,px,q,k⟩:=h
 refine⟨W,ρ,_,px,q,?_⟩;rintro vs H1 xs s1 r ⟨hl,n,q⟩;refine⟨by rw[r.length];exact rA hl,λp hp=>k _ _ _ .fr (s1.trans (cZ hp _)) (.lst (s1.free hp) bM ?_) q⟩;exact (r.any.flat n).same (cZ hp _) λ_ z=>z
noncomputable def dJ (X:Cx)(R:List PV->(PV->Prop)->Prop)(r:List V->Hp->VK->Prop):Prop:=∀(H:Hp) (vs:List V) (xs:List PV) (Q:PV->Prop) (Q':VK),Reps X.K (λ_=>True) H vs xs->R xs Q->
 (∀w H' z,aJ H H'->aH X.K (λa=>H a=none) H' w z->Q z->Q' w H')->r vs H Q'
noncomputable def aZ (R:List PV->(PV->Prop)->Prop)(t:bU):aE:=λρ Q=>t ρ λxs=>R (xs.map (·.1)) λz=>Q z .fr
theorem x4 {R:List PV->(PV->Prop)->Prop}{r:List V->Hp->VK->Prop}(c:dJ X R r)(h:LE X (aZ R tr) σ H Q'):qF r (LA X tr) σ H Q':=by
 obtain⟨W,ρ,Q,px,q,k⟩:=h
 refine⟨W,ρ,_,px,q,λvs H1 xs s1 r1 q1=>c H1 vs _ _ Q' r1.any q1 λw H' z s2 r2 q2=>k w H' z .fr (s1.trans s2) (r2.same (aJ.refl _) λ_ z=>s1.free z) q2⟩
end
structure o8 where
 nx:bO->Prop
 rt:PV->Prop
 bk:bO->Prop:=λ_=>False
 ct:bO->Prop:=λ_=>False
noncomputable abbrev aX:=o8->bO->Prop
noncomputable def Ev (W:ax->Prop)(H:Hp)(W':ax->Prop)(H':Hp):Prop:=∀b o,H b=some o->¬W b->wX o=false->H' b=some o/\¬W' b
theorem Ev.trans {W W1 W2:ax->Prop}{H H1 H2:Hp}(a:Ev W H W1 H1)(b:Ev W1 H1 W2 H2):Ev W H W2 H2:=λc o h n z=>let ⟨h1,n1⟩:=a c o h n z;b c o h1 n1 z
theorem Ev.same {W:ax->Prop}{H H':Hp}(s:aJ H H'):Ev W H W H':=λc o h n _=>⟨s _ _ h,n⟩
theorem Ev.refl (W:ax->Prop)(H:Hp):Ev W H W H:=Ev.same (aJ.refl _)
structure o9 (X:Cx)(W:ax->Prop)(H:Hp)(D':o8)(D:d8):Prop where
 nx:∀W' σ' H' ρ',Ev W H W' H'->PX X.K X.H₀ W' σ' ρ' H'->D'.nx ρ'->D.nx σ' H'
 rt:∀v H' x,aJ X.H₀ H'->aH X.K (λa=>X.H₀ a=none) H' v x->D'.rt x->D.rt v H'
 bk:∀W' σ' H' ρ',Ev W H W' H'->PX X.K X.H₀ W' σ' ρ' H'->D'.bk ρ'->D.bk σ' H'
 ct:∀W' σ' H' ρ',Ev W H W' H'->PX X.K X.H₀ W' σ' ρ' H'->D'.ct ρ'->D.ct σ' H'
theorem o9.step {X:Cx}{W W1:ax->Prop}{H H1:Hp}{D':o8}{D:d8}(k:o9 X W H D' D)(e:Ev W H W1 H1):o9 X W1 H1 D' D:=
 ⟨λW' σ' H' ρ' e'=>k.nx W' σ' H' ρ' (e.trans e'),k.rt,λW' σ' H' ρ' e'=>k.bk W' σ' H' ρ' (e.trans e'),λW' σ' H' ρ' e'=>k.ct W' σ' H' ρ' (e.trans e')⟩
noncomputable def LS (X:Cx)(t:aX):TS:=λD σ H=>∃(W:ax->Prop) (ρ:bO) (D':o8),PX X.K X.H₀ W σ ρ H/\t D' ρ/\o9 X W H D' D
theorem eU {α:Type}{l:List α}{i j:Nat}{a b:α}(h:(l.set i a)[j]? = some b):(j=i/\i<l.length/\b=a)∨(j≠i/\l[j]? = some b):=by
 by_cases e:j=i
 ·subst e
  have hl:j<(l.set j a).length:=(aG1.mp h).1;rw[aJ3]at hl;rw[aJ4 hl]at h;exact .inl ⟨rfl,hl,(aF9 h).symm⟩
 ·rw[aG9 (Ne.symm e)]at h
  exact .inr ⟨e,h⟩
section
variable {K:ad}{H0:Hp}{W W':ax→Prop}{σ:St}{ρ:bO}{H H' Hs:Hp}
theorem PX.setSh {i:Nat}{v:V}{g:Bool}{x:PV}(p:PX K H0 W σ ρ H)(r:aH K (Ms H0 W g) H v x):PX K H0 W (σ.set i (some v)) (ρ.set i (some (.sh g x))) H:=by
 refine⟨by rw[aJ3,aJ3];exact p.len,p.same,p.wm,λj m h=>?_,λj k y z a h1 h2 h3 h4=>?_⟩
 ·rcases eU h with⟨rfl,hl,e⟩|⟨hne,h⟩
  ·cases e
   rw[p.len]at hl
   exact⟨v,aJ4 hl,r⟩
  ·obtain⟨u,e,q⟩:=p.sl j m h
   exact⟨u,by rw[aG9 (Ne.symm hne)];exact e,q⟩
 ·rcases eU h1 with⟨_,_,e⟩|⟨n1,h1⟩
  ·cases e
  ·rcases eU h2 with⟨_,_,e⟩|⟨n2,h2⟩
   ·cases e
   ·rw[aG9 (Ne.symm n1)]at h3
    rw[aG9 (Ne.symm n2)]at h4;exact p.dis j k y z a h1 h2 h3 h4
noncomputable def jW (W:ax->Prop)(a:ax):ax->Prop:=λb=>W b∨b=a
theorem oA {g:Bool}{a b:ax}(n:b≠a)(h:Ms H0 W g b):Ms H0 (jW W a) g b:=by
 cases g with
 |true=>exact⟨λz=>z.elim h.1 n,h.2⟩
 |false=>exact λz=>z.elim h n
theorem PX.setOwn {i:Nat}{a:ax}{x:PV}(p:PX K H0 W σ ρ Hs)(s:aJ Hs H)(ha:Hs a=none)(r:fJ K (Ms H0 (jW W a) true) H a x):PX K H0 (jW W a) (σ.set i (some (.ref a))) (ρ.set i (some (.own x))) H:=by
 have old:∀b o,Hs b=some o->b≠a:=λb o e z=>by rw[z,ha]at e;cases e
 have kp:∀g,dU (Ms H0 W g) (Ms H0 (jW W a) g) Hs H:=λg=>⟨λb _ m e=>⟨oA (old _ _ e) m,s _ _ e⟩,λb _ m e=>⟨oA (old _ _ e) m,s _ _ e⟩,λb _ m e=>⟨oA (old _ _ e) m,s _ _ e⟩,λ_ _ e=>s _ _ e,λ_ _ _ e _=>s _ _ e,λb _ _ m e=>⟨oA (old _ _ e) m,s _ _ e⟩⟩
 have wa:¬W a:=(p.new ha).1;refine⟨by rw[aJ3,aJ3];exact p.len,p.same.trans s,λb z=>?_,λj m h=>?_,λj k y z b h1 h2 h3 h4=>?_⟩
 ·rcases z with z|rfl
  ·obtain⟨h1,o,h2,h3⟩:=p.wm b z
   exact⟨h1,o,s _ _ h2,h3⟩
  ·exact⟨(p.new ha).2,r.at⟩
 ·rcases eU h with⟨rfl,hl,e⟩|⟨hne,h⟩
  ·cases e
   rw[p.len]at hl
   exact⟨_,aJ4 hl,a,rfl,.inr rfl,r⟩
  ·obtain⟨u,e,q⟩:=p.sl j m h
   refine⟨u,by rw[aG9 (Ne.symm hne)];exact e,?_⟩;cases m with
   |sh g y=>exact aH.keep (kp g) q
   |own y=>
    obtain⟨b,e1,e2,q⟩:=q
    exact⟨b,e1,.inl e2,q.keep (kp true) λo z=>s _ _ z⟩
   |kp g c ks=>exact⟨⟨q.1.1.same s λ_ z=>z,q.1.2⟩,q.2.same s⟩
 ·have ne:∀{j:Nat}{y:PV},ρ[j]? = some (some (.own y))->σ[j]?≠some (some (.ref a)):=λ{j y} h1 h2=>by
   obtain⟨u,e,c,e1,e2,_⟩:=p.sl j _ h1
   rw[h2]at e;cases e;cases e1;exact wa e2
  rcases eU h1 with⟨e1,l1,_⟩|⟨n1,h1⟩
  ·rcases eU h2 with⟨e2,_,_⟩|⟨n2,h2⟩
   ·rw[e1,e2]
   ·rw[e1,aJ4 (by rw[<- p.len];exact l1)]at h3
    rw[aG9 (Ne.symm n2)]at h4;cases h3;exact absurd h4 (ne h2)
  ·rw[aG9 (Ne.symm n1)]at h3
   rcases eU h2 with⟨e2,l2,_⟩|⟨n2,h2⟩
   ·rw[e2,aJ4 (by rw[<- p.len];exact l2)]at h4
    cases h4;exact absurd h3 (ne h1)
   ·rw[aG9 (Ne.symm n2)]at h4
    exact p.dis j k y z b h1 h2 h3 h4
theorem Ev.own {a:ax}(s:aJ Hs H)(ha:Hs a=none):Ev W Hs (jW W a) H:=λb o e n _=>⟨s _ _ e,λz=>z.elim n λz=>by rw[z,ha]at e;cases e⟩
theorem gL {g:Bool}{a b:ax}(wa:W a)(h:Ms H0 W g b):b≠a:=by
 cases g with
 |true=>exact λz=>h.1 (by rw[z];exact wa)
 |false=>exact λz=>h (by rw[z];exact wa)
theorem PX.updOwn {i:Nat}{a:ax}{x y:PV}{o:HO}(p:PX K H0 W σ ρ H)(hi:ρ[i]? = some (some (.own x)))(ha:σ[i]? = some (some (.ref a)))(wa:W a)(mu:dI o=true)(r:fJ K (Ms H0 W true) (upd H a o) a y) :
  PX K H0 W σ (ρ.set i (some (.own y))) (upd H a o):=by
 obtain⟨w0,o',e',mu'⟩:=p.wm a wa
 have kp:∀g,dU (Ms H0 W g) (Ms H0 W g) H (upd H a o):=λg=>.upd e' mu' λb m=>⟨gL wa m,m⟩
 refine⟨by rw[aJ3];exact p.len,λb u e=>by rw[aL (λz=>by rw[z,w0]at e;cases e)];exact p.same _ _ e,λb z=>?_,λj m h=>?_,λj k y' z b h1 h2 h3 h4=>?_⟩
 ·by_cases e:b=a
  ·subst e;exact⟨w0,o,bM,mu⟩
  ·obtain⟨h1,o2,h2,h3⟩:=p.wm b z
   exact⟨h1,o2,by rw[aL e];exact h2,h3⟩
 ·rcases eU h with⟨rfl,hl,e⟩|⟨hne,h⟩
  ·cases e
   exact⟨_,ha,a,rfl,wa,r⟩
  ·obtain⟨u,e,q⟩:=p.sl j m h
   refine⟨u,e,?_⟩;cases m with
   |sh g y=>exact aH.keep (kp g) q
   |own y=>
    obtain⟨b,e1,e2,q⟩:=q
    have hb:b≠a:=λz=>by
     subst e1;rw[z]at e;exact hne (p.dis j i _ _ a h hi e ha)
    exact⟨b,e1,e2,q.keep (kp true) λo z=>by rw[aL hb];exact z⟩
   |kp g c ks=>exact⟨⟨q.1.1.keep (.upd e' mu' λ_ z=>z.elim),q.1.2⟩,q.2.upd e' mu'⟩
 ·have g1:∃y,ρ[j]? = some (some (.own y)):=by
   rcases eU h1 with⟨e,_,_⟩|⟨_,h⟩
   ·exact⟨x,by rw[e];exact hi⟩
   ·exact⟨_,h⟩
  have g2:∃y,ρ[k]? = some (some (.own y)):=by
   rcases eU h2 with⟨e,_,_⟩|⟨_,h⟩
   ·exact⟨x,by rw[e];exact hi⟩
   ·exact⟨_,h⟩
  obtain⟨y1,g1⟩:=g1
  obtain⟨y2,g2⟩:=g2
  exact p.dis j k y1 y2 b g1 g2 h3 h4
theorem Ev.upd {a:ax}{o:HO}(wa:W a):Ev W H W (upd H a o):=λb u e n _=>⟨by rw[aL (λz=>n (by rw[z];exact wa))];exact e,n⟩
noncomputable def jX (W:ax->Prop)(a:ax):ax->Prop:=λb=>W b/\b≠a
theorem x5 {g:Bool}{a b:ax}(h:Ms H0 W g b):Ms H0 (jX W a) g b:=by
 cases g with
 |true=>exact⟨λz=>h.1 z.1,h.2⟩
 |false=>exact λz=>h z.1
end
section
variable {X:Cx}{σ:St}{H:Hp}{D:d8}{te:aE}{t u:aX}
noncomputable def g4:aX:=λD ρ=>D.nx ρ
noncomputable def bE (t u:aX):aX:=λD ρ=>t { D with nx:=u D } ρ
theorem ab4 (h:LS X g4 D σ H):uP D σ H:=by
 obtain⟨W,ρ,D',px,q,k⟩:=h
 exact k.nx W σ H ρ (Ev.refl _ _) px q
theorem ab5 (h:LS X (bE t u) D σ H):uQ (LS X t) (LS X u) D σ H:=by
 obtain⟨W,ρ,D',px,q,k⟩:=h
 exact⟨W,ρ,_,px,q,λW' σ' H' ρ' e px' q'=>⟨W',ρ',D',px',q',k.step e⟩,k.rt,k.bk,k.ct⟩
noncomputable def x6:Tg->PV->Bool
 |.fr,_=>true
 |.nw,_=>true
 |_,x=>flat x
noncomputable def x8:Tg->PV->Prop
 |.rd,x=>flat x=true
 |_,_=>True
theorem ab6 {K:ad}{H0 Hs H:Hp}{W:ax->Prop}{σ:St}{ρ:bO}{g:Tg}{x:PV}{v:V}(px:PX K H0 W σ ρ Hs)(n:x8 g x)(r:aH K (Mg H0 W Hs g) H v x):aH K (Ms H0 W (x6 g x)) H v x:=by
 cases g with
 |fr=>exact Nw.rep (g:=.fr) px trivial r
 |nw=>exact Nw.rep (g:=.nw) px trivial r
 |sh=>
  show aH K (Ms H0 W (flat x)) H v x;cases e:flat x with
  |true=>exact r.flat e
  |false=>exact r.same (aJ.refl _) λ_ z=>z
 |rd=>exact r.flat n
noncomputable def cV (i:Nat)(te:aE):aX:=λD ρ=>te ρ λx g=>x8 g x/\D.nx (ρ.set i (some (.sh (x6 g x) x)))
theorem x9 {i:Nat}(h:LS X (cV i te) D σ H):gY (LE X te) (cU i) D σ H:=by
 obtain⟨W,ρ,D',px,q,k⟩:=h
 refine⟨W,ρ,_,px,q,?_⟩;rintro v H1 x g s r ⟨n,q⟩;exact k.nx W _ H1 _ (Ev.same s) ((px.mono s).setSh (ab6 px n r)) q
noncomputable def xA:PV->Bool
 |.lst xs=>flats xs
 |.dK ps=>flats (ps.map (·.2))
 |.dT ps=>flats (ps.map (·.2))
 |_=>false
theorem ab7 {K:ad}{M:ax->Prop}{H:Hp}{v:V}{x:PV}(r:aH K M H v x)(o:xA x=true):∃a,v = .ref a/\M a/\∀M',fJ K M' H a x:=by
 cases r with
 |lst m e r=>exact⟨_,rfl,m,λ_=>⟨_,e,r.flat o⟩⟩
 |dK m e q r=>exact⟨_,rfl,m,λ_=>⟨_,e,q,r.flat o⟩⟩
 |dT m e q r=>exact⟨_,rfl,m,λ_=>⟨_,e,q,r.flat o⟩⟩
 |_=>cases o
noncomputable def lO (i:Nat)(te:aE):aX:=λD ρ=>te ρ λx g=>g = .fr/\xA x=true/\D.nx (ρ.set i (some (.own x)))
theorem ab8 {i:Nat}(h:LS X (lO i te) D σ H):gY (LE X te) (cU i) D σ H:=by
 obtain⟨W,ρ,D',px,q,k⟩:=h
 refine⟨W,ρ,_,px,q,?_⟩;rintro v H1 x g s r ⟨rfl,o,q⟩
 obtain⟨a,rfl,m,w⟩:=ab7 r o
 exact k.nx _ _ H1 _ (Ev.own s m) (px.setOwn s m (w _)) q
noncomputable def jY (te:aE):aX:=λD ρ=>te ρ λ_ _=>D.nx ρ
theorem ab9 (h:LS X (jY te) D σ H):jK (LE X te) D σ H:=by
 obtain⟨W,ρ,D',px,q,k⟩:=h
 exact⟨W,ρ,_,px,q,λv H1 x g s r q=>k.nx W σ H1 ρ (Ev.same s) (px.mono s) q⟩
noncomputable def dL (te:aE):aX:=λD ρ=>te ρ λx g=>Nw g x/\D.rt x
theorem ac0 (h:LS X (dL te) D σ H):pS (LE X te) D σ H:=by
 obtain⟨W,ρ,D',px,q,k⟩:=h
 refine⟨W,ρ,_,px,q,?_⟩;rintro v H1 x g s r ⟨n,q⟩;exact k.rt v H1 x (px.same.trans s) ((Nw.rep px n r).same (aJ.refl _) λ_ z=>z.2) q
noncomputable def Slot.nw:Slot->Prop
 |.own _=>True
 |.kp _ _ _=>True
 |.sh true _=>True
 |.sh false x=>flat x=true
noncomputable def oB (i:Nat):aX:=λD ρ=>∃m,ρ[i]? = some (some m)/\m.nw/\D.rt m.val
theorem ac1 {i:Nat}(h:LS X (oB i) D σ H):pS (cH i) D σ H:=by
 obtain⟨W,ρ,D',px,⟨m,hi,n,q⟩,k⟩:=h
 obtain⟨v,ev,r⟩:=px.sl i _ hi
 refine⟨v,ev,k.rt v H _ px.same ?_ q⟩;cases m with
 |own x=>
  obtain⟨a,rfl,wa,r⟩:=r
  exact r.rep (λ_ z=>z.2) (px.wm a wa).1
 |sh g x=>
  cases g with
  |true=>exact aH.same r (aJ.refl _) λ_ z=>z.2
  |false=>exact aH.flat n r
 |kp g x ks=>exact r.1.1.flat r.1.2
noncomputable def g8 (c:cD)(t u:aX):aX:=λD ρ=>c ρ λb=>if b=true then t D ρ else u D ρ
theorem ac2 {c:cD}(h:LS X (g8 c t u) D σ H):nC (LT X c) (LS X t) (LS X u) D σ H:=by
 obtain⟨W,ρ,D',px,q,k⟩:=h
 refine⟨W,ρ,_,px,q,λb H1 s q1=>?_⟩;cases b with
 |true=>exact cC ⟨W,ρ,D',px.mono s,by simpa using q1,k.step (Ev.same s)⟩
 |false=>exact cF ⟨W,ρ,D',px.mono s,by simpa using q1,k.step (Ev.same s)⟩
noncomputable def lP (c:cD)(tb:aX):aX:=λD ρ=>∃I:Nat->bO->Prop,(∃m,I m ρ)/\∀m ρ',I m ρ'->c ρ' λb=>if b=true then tb { D with nx:=λρ2=>∃m',m'<m/\I m' ρ2,ct:=λρ2=>∃m',m'<m/\I m' ρ2,bk:=D.nx } ρ' else D.nx ρ'
theorem ac3 {c:cD}{tb:aX}(h:LS X (lP c tb) D σ H):uV (LT X c) (LS X tb) D σ H:=by
 obtain⟨W,ρ,D',px,⟨I,⟨m0,i0⟩,turn⟩,k⟩:=h
 refine⟨λm σ2 H2=>∃W2 ρ2,PX X.K X.H₀ W2 σ2 ρ2 H2/\Ev W H W2 H2/\I m ρ2,⟨m0,W,ρ,px,Ev.refl _ _,i0⟩,?_⟩;rintro m σ2 H2 ⟨W2,ρ2,px2,e2,i2⟩;refine⟨W2,ρ2,_,px2,turn m ρ2 i2,λb H3 s3 q3=>?_⟩;cases b with
 |true=>
  refine cC ⟨λσ4 H4=>∃W4 ρ4,PX X.K X.H₀ W4 σ4 ρ4 H4/\Ev W H W4 H4/\∃m',m'<m/\I m' ρ4,λσ4 H4 ⟨W4,ρ4,a,b,m',c,d⟩=>⟨m',c,W4,ρ4,a,b,d⟩,W2,ρ2,_,px2.mono s3,by simpa using q3,?_⟩;have e3:Ev W H W2 H3:=e2.trans (Ev.same s3)
  exact⟨λW' σ' H' ρ' e p q=>⟨W',ρ',p,e3.trans e,q⟩,k.rt,λW' σ' H' ρ' e p q=>k.nx W' σ' H' ρ' (e3.trans e) p q,λW' σ' H' ρ' e p q=>⟨W',ρ',p,e3.trans e,q⟩⟩
 |false=>exact cF (k.nx W2 σ2 H3 ρ2 (e2.trans (Ev.same s3)) (px2.mono s3) (by simpa using q3))
end
theorem lim {n:Nat}(h:n<=16000000):n<=sizeLine:=aN8 (iD h)
theorem aH.sqT {K:ad}{M:ax->Prop}{H:Hp}{v:V}{xs:List PV}(r:aH K M H v (.tup xs)):∃a us,v = .ref a/\H a=some (.tup us)/\Reps K M H us xs:=by
 cases r with
 |tup e r=>exact⟨_,_,rfl,e,r⟩
theorem aH.sqL {K:ad}{M:ax->Prop}{H:Hp}{v:V}{xs:List PV}(r:aH K M H v (.lst xs)):∃a us,v = .ref a/\M a/\H a=some (.lst us)/\Reps K M H us xs:=by
 cases r with
 |lst m e r=>exact⟨_,_,rfl,m,e,r⟩
theorem hI.sqL {K:ad}{H:Hp}{a:ax}{ns:ag}(h:hI K H a ns):b7 K H a (ns.map V.int):=h.elim (λz=>.inl (.inr z)) .inr
noncomputable def jZ:PV->Option (List PV)
 |.tup xs=>some xs
 |.lst xs=>some xs
 |.scr ns=>some (intz ns)
 |.kt xs=>some xs
 |.fL xs=>some xs
 |_=>none
theorem aH.seq {K:ad}{M:ax->Prop}{H:Hp}{v:V}{x:PV}{xs:List PV}(r:aH K M H v x)(e:jZ x=some xs):∃a us,v = .ref a/\(b7 K H a us∨aY K H a us)/\Reps K M H us xs:=by
 cases r with
 |tup h r=>cases e;exact⟨_,_,rfl,.inr (aY.of h),r⟩
 |lst m h r=>cases e;exact⟨_,_,rfl,.inl (b7.of h),r⟩
 |scr h=>cases e;exact⟨_,_,rfl,.inl h.sqL,Reps.intz _⟩
 |kt h r=>cases e;exact⟨_,_,rfl,.inr (.inr h),r⟩
 |fL h r=>cases e;exact⟨_,_,rfl,.inl (.inl (.inr ⟨_,h⟩)),r⟩
 |_=>cases e
section
variable {X:Cx}{σ:St}{H:Hp}{D:d8}{te ti to:aE}{t u:aX}{Q':VK}
theorem _root_.PP.PX.updL {K:ad}{H0:Hp}{W:ax->Prop}{σ:St}{ρ:bO}{H:Hp}{i:Nat}{a:ax}{x:PV}{us:List V}{ys:List PV}(p:PX K H0 W σ ρ H)(hi:ρ[i]? = some (some (.own x)))(ha:σ[i]? = some (some (.ref a)))(wa:W a)(r:Reps K (Ms H0 W true) (upd H a (.lst us)) us ys) :
  PX K H0 W σ (ρ.set i (some (.own (.lst ys)))) (upd H a (.lst us)):=p.updOwn hi ha wa rfl (y:=.lst ys) ⟨us,bM,r⟩
noncomputable def rB (i:Nat)(te:aE):aX:=λD ρ=>∃xs,ρ[i]? = some (some (.own (.lst xs)))/\te ρ λx g=>Nw g x/\xs.length<16000000/\D.nx (ρ.set i (some (.own (.lst (xs++[x])))))
theorem ac4 {i:Nat}(h:LS X (rB i te) D σ H):jK (qJ X.K "list" w4 (cH i) (eC (LE X te) iB)) D σ H:=by
 obtain⟨W,ρ,D',px,⟨xs,hi,q⟩,k⟩:=h
 obtain⟨v,ev,a,rfl,wa,us,ea,r⟩:=px.sl i _ hi
 refine⟨_,ev,qW (b7.of ea),W,ρ,_,px,q,?_⟩;rintro w H1 x g s rx ⟨n,hl,q⟩;have ea1:=s _ _ ea;refine⟨a,us,w,rfl,rfl,ea1,iD (by rw[r.length];omega),?_⟩;refine k.nx W σ _ _ ((Ev.same s).trans (Ev.upd wa)) ((px.mono s).updL hi ev wa ?_) q;exact ((r.same s λ_ z=>z).append (.cons (Nw.rep px n rx) .nil)).keep (.upd ea1 rfl λb m=>⟨gL wa m,m⟩)
noncomputable def xB (K:ad):V->List V->Hp->VK->Prop:=λx vs H Q=>w6 x vs H Q∨wM K x vs H Q
noncomputable def rC (i:Nat)(te:aE):aX:=λD ρ=>∃xs,ρ[i]? = some (some (.own (.lst xs)))/\te ρ λy g=>∃ys,(y = .tup ys∨y = .lst ys)/\(Nw g y∨flats ys=true)/\xs.length+ys.length<=16000000/\D.nx (ρ.set i (some (.own (.lst (xs++ys)))))
theorem ac5 {i:Nat}(h:LS X (rC i te) D σ H):jK (qJ X.K "list" (xB X.K) (cH i) (eC (LE X te) iB)) D σ H:=by
 obtain⟨W,ρ,D',px,⟨xs,hi,q⟩,k⟩:=h
 obtain⟨v,ev,a,rfl,wa,us,ea,r⟩:=px.sl i _ hi
 refine⟨_,ev,qW (b7.of ea),W,ρ,_,px,q,?_⟩;rintro w H1 y g s ry ⟨ys,hy,n,hl,q⟩;have ea1:=s _ _ ea;have key:∀(zs:List V),Reps X.K (Ms X.H₀ W true) H1 zs ys->D.nx σ (upd H1 a (.lst (us++zs))):=λzs rz=>by
  refine k.nx W σ _ _ ((Ev.same s).trans (Ev.upd wa)) ((px.mono s).updL hi ev wa ?_) q;exact ((r.same s λ_ z=>z).append rz).keep (.upd ea1 rfl λb m=>⟨gL wa m,m⟩)
 have lr:=r.length;rcases hy with rfl|rfl
 ·obtain⟨b,zs,rfl,eb,rz⟩:=ry.sqT
  have lz:=rz.length;refine .inr ⟨a,b,us,zs,rfl,rfl,ea1,aY.of eb,lim (by omega),key zs ?_⟩;rcases n with n|n
  ·obtain⟨b',zs',e1,e2,rz'⟩:=(Nw.rep px n ry).sqT
   cases e1;rw[eb]at e2;cases e2;exact rz'
  ·exact rz.flat n
 ·obtain⟨b,zs,rfl,_,eb,rz⟩:=ry.sqL
  have lz:=rz.length;refine .inl ⟨a,b,us,zs,rfl,rfl,ea1,eb,lim (by omega),key zs ?_⟩;rcases n with n|n
  ·obtain⟨b',zs',e1,_,e2,rz'⟩:=(Nw.rep px n ry).sqL
   cases e1;rw[eb]at e2;cases e2;exact rz'
  ·exact rz.flat n
noncomputable def oC (i:Nat)(tk te:aE):aX:=λD ρ=>te ρ λx g=>∃xs,ρ[i]? = some (some (.own (.lst xs)))/\tk ρ λy _=>∃n j,y = .int n/\fE xs.length n=some j/\Nw g x/\D.nx (ρ.set i (some (.own (.lst (xs.set j x)))))
theorem ac6 {i:Nat}{tk:aE}(h:LS X (oC i tk te) D σ H):gY (LE X te) (pU (cH i) (LE X tk) qI) D σ H:=by
 obtain⟨W,ρ,D',px,q,k⟩:=h
 refine⟨W,ρ,_,px,q,?_⟩;rintro w H1 x g s rx ⟨xs,hi,q1⟩
 obtain⟨v,ev,a,rfl,wa,us,ea,r⟩:=(px.mono s).sl i _ hi
 refine⟨_,ev,W,ρ,_,px.mono s,q1,?_⟩;rintro kv H2 y gy s2 ry ⟨n,j,rfl,hj,nw,q2⟩;cases ry;have ea2:=s2 _ _ ea;refine⟨a,us,n,j,rfl,rfl,ea2,by rw[r.length];exact hj,?_⟩;refine k.nx W σ _ _ ((Ev.same (s.trans s2)).trans (Ev.upd wa)) ((px.mono (s.trans s2)).updL hi ev wa ?_) q2;exact (Reps.set ((Nw.rep px nw rx).same s2 λ_ z=>z) j (r.same s2 λ_ z=>z)).keep (.upd ea2 rfl λb m=>⟨gL wa m,m⟩)
noncomputable def rD (i j:Nat):aX:=λD ρ=>∃xs y,ρ[i]? = some (some (.own (.lst (xs++[y]))))/\D.nx ((ρ.set i (some (.own (.lst xs)))).set j (some (.sh true y)))
theorem Reps.snoc_inv {K:ad}{M:ax->Prop}{H:Hp}{us:List V}{xs:List PV}{y:PV}(r:Reps K M H us (xs++[y])):∃vs v,us=vs++[v]/\Reps K M H vs xs/\aH K M H v y:=by
 have l:=r.length;have h1:=r.take xs.length;have h2:=r.drop xs.length;rw[List.take_left]at h1;rw[List.drop_left]at h2;generalize hd:us.drop xs.length=ds at h2;cases h2 with
 |cons q t=>
  cases t
  exact⟨_,_,by rw[<- hd,List.take_append_drop],h1,q⟩
theorem ac7 {i j:Nat}(h:LS X (rD i j) D σ H):gY (vW X.K "list" w9 (cH i)) (cU j) D σ H:=by
 obtain⟨W,ρ,D',px,⟨xs,y,hi,q⟩,k⟩:=h
 obtain⟨v,ev,a,rfl,wa,us,ea,r⟩:=px.sl i _ hi
 obtain⟨vs,w,rfl,r1,ry⟩:=r.snoc_inv
 refine⟨_,ev,qW (b7.of ea),a,_,w,rfl,rfl,ea,by simp,?_⟩;rw[List.dropLast_concat];have kp:dU (Ms X.H₀ W true) (Ms X.H₀ W true) H (upd H a (.lst vs)):=.upd ea rfl λb m=>⟨gL wa m,m⟩
 exact k.nx W _ _ _ (Ev.upd wa) ((px.updL hi ev wa (r1.keep kp)).setSh (ry.keep kp)) q
end
theorem Reps.atI {K:ad}{M:ax->Prop}{H:Hp}{us:List V}{xs:List PV}{i:Int}{z:PV}(r:Reps K M H us xs)(h:L2.atI xs i=some z):∃v,L2.atI us i=some v/\aH K M H v z:=by
 unfold L2.atI at h ⊢;rw[r.length];cases e:fE xs.length i with
 |none=>rw[e]at h;cases h
 |some j=>rw[e]at h;exact r.at h
section
variable {X:Cx}{σ:St}{H:Hp}{Q':VK}{ta tb te:aE}{tr:bU}
noncomputable def rE:PV->Tg->PV->Tg->PK->Prop:=λx g y _ Q=>∃xs i z,jZ x=some xs/\y = .int i/\L2.atI xs i=some z/\Q z g
theorem ac8:fM X rE (vU X.K):=by
 rintro W Hs H u v x y g g' Q Q' s n r1 r2 ⟨xs,i,z,e,rfl,hz,q⟩ k;cases r2
 obtain⟨a,us,rfl,hs,r⟩:=r1.seq e
 obtain⟨v,hv,rv⟩:=r.atI hz
 rcases hs with hs|hs
 ·exact .inl ⟨a,us,i,v,rfl,rfl,hs,hv,k v H z g (aJ.refl _) rv q⟩
 ·exact .inr (.inl ⟨a,us,i,v,rfl,rfl,hs,hv,k v H z g (aJ.refl _) rv q⟩)
noncomputable def lQ:PV->Option Nat
 |.tup xs=>some xs.length
 |.lst xs=>some xs.length
 |.scr ns=>some ns.length
 |.dK ps=>some ps.length
 |.kt xs=>some xs.length
 |.fL xs=>some xs.length
 |_=>none
noncomputable def gM:List PV->(PV->Prop)->Prop:=λxs Q=>∃x n,xs = [x]/\lQ x=some n/\Q (.int n)
theorem Reps.one {K:ad}{M:ax->Prop}{H:Hp}{vs:List V}{x:PV}(r:Reps K M H vs [x]):∃v,vs = [v]/\aH K M H v x:=by
 cases r with
 |cons r t=>cases t;exact⟨_,rfl,r⟩
theorem Reps.two {K:ad}{M:ax->Prop}{H:Hp}{vs:List V}{x y:PV}(r:Reps K M H vs [x,y]):∃v w,vs = [v,w]/\aH K M H v x/\aH K M H w y:=by
 cases r with
 |cons r t=>
  obtain⟨w,rfl,q⟩:=t.one
  exact⟨_,_,rfl,r,q⟩
theorem ac9:dJ X gM (λxs H Q=>(∃p ys,xs = [.ref p]/\(b7 X.K H p ys∨aY X.K H p ys)/\Q (.int ys.length) H)∨∃a kvs,xs = [V.ref a]/\H a=some (.dK kvs)/\Q (.int kvs.length) H):=by
 rintro H vs xs Q Q' r ⟨x,n,rfl,e,q⟩ k
 obtain⟨v,rfl,r1⟩:=r.one
 have fin:∀{m:Nat},m=n->Q' (.int m) H:=λ{m} z=>by rw[z];exact k _ _ _ (aJ.refl _) (.int _) q
 cases r1 with
 |tup h r2=>cases e;exact .inl ⟨_,_,rfl,.inr (aY.of h),fin r2.length⟩
 |lst m h r2=>cases e;exact .inl ⟨_,_,rfl,.inl (b7.of h),fin r2.length⟩
 |scr h=>cases e;exact .inl ⟨_,_,rfl,.inl h.sqL,fin (by rw[aD8])⟩
 |kt h r2=>cases e;exact .inl ⟨_,_,rfl,.inr (.inr h),fin r2.length⟩
 |fL h r2=>cases e;exact .inl ⟨_,_,rfl,.inl (.inl (.inr ⟨_,h⟩)),fin r2.length⟩
 |dK m h e' r=>
  cases e;refine .inr ⟨_,_,rfl,h,fin ?_⟩
  have:=congrArg List.length e'
  rw[aD8,aD8]at this;exact this
 |_=>cases e
noncomputable def ad0:PV->Option (List PV)
 |.kt _=>none
 |x=>jZ x
noncomputable def xC:List PV->(PV->Prop)->Prop:=λxs Q=>∃x ys,xs = [x]/\ad0 x=some ys/\flats ys=true/\Q (.tup ys)
theorem ad1:dJ X (λxs Q=>xC xs Q/\∀ns,xs≠[.scr ns]) (λxs H Q=>∃p ys,xs = [.ref p]/\((b7 X.K H p ys/\∀l,H l=none->Q (.ref l) (upd H l (.tup ys)))∨(aY X.K H p ys/\Q (.ref p) H))):=by
 rintro H vs xs Q Q' r ⟨⟨x,ys,rfl,e,f,q⟩,nsc⟩ k
 obtain⟨v,rfl,r1⟩:=r.one
 cases r1 with
 |tup h r2=>cases e;exact⟨_,_,rfl,.inr ⟨aY.of h,k _ _ _ (aJ.refl _) (.tup h (r2.flat f)) q⟩⟩
 |lst m h r2=>cases e;exact⟨_,_,rfl,.inl ⟨b7.of h,λl hl=>k _ _ _ (cZ hl _) (.tup bM ((r2.flat f).same (cZ hl _) λ_ z=>z)) q⟩⟩
 |scr h=>exact absurd rfl (nsc _)
 |fL h r2=>cases e;exact⟨_,_,rfl,.inl ⟨.inl (.inr ⟨_,h⟩),λl hl=>k _ _ _ (cZ hl _) (.tup bM ((r2.flat f).same (cZ hl _) λ_ z=>z)) q⟩⟩
 |_=>cases e
noncomputable def oD:List PV->(PV->Prop)->Prop:=λxs Q=>∃i j,xs = [.int i,.int j]/\Q (.int (if j<i then j else i))
theorem ad2:dJ X oD (λxs H Q=>∃i j,xs = [.int i,.int j]/\Q (.int (if j<i then j else i)) H):=by
 rintro H vs xs Q Q' r ⟨i,j,rfl,q⟩ k
 obtain⟨v,w,rfl,r1,r2⟩:=r.two
 cases r1;cases r2
 exact⟨i,j,rfl,k _ _ _ (aJ.refl _) (.int _) q⟩
noncomputable abbrev b8:=List PV->(PV->Prop)->Prop
noncomputable def kA (K:ad)(p:b8):Sp:=λvs H Q _=>∃xs Qp,Reps K (λ_=>True) H vs xs/\p xs Qp/\∀v H' x,aJ H H'->aH K (λa=>H a=none) H' v x->Qp x->Q v H'
theorem ad3 {p:b8}{E:XK}(h:LE X (aZ p tr) σ H Q'):jP (kA X.K p) [] E (LA X tr) σ H Q':=by
 obtain⟨W,ρ,Q,px,q,k⟩:=h
 refine⟨W,ρ,_,px,q,λvs H1 xs s1 r1 q1=>⟨_,_,by rw[aN7];exact r1.any,q1,λv H' x s2 r2 q2=>k v H' x .fr (s1.trans s2) (r2.same (aJ.refl _) λ_ z=>s1.free z) q2⟩⟩
noncomputable def ad4:PV->Option Bool
 |.non=>some false
 |.bl b=>some b
 |.int i=>some (i != 0)
 |.tup xs=>some (!xs.isEmpty)
 |.lst xs=>some (!xs.isEmpty)
 |.dK ps=>some (!ps.isEmpty)
 |_=>none
noncomputable def lR (t:aE):cD:=λρ Q=>t ρ λx _=>∃b,ad4 x=some b/\Q b
theorem rG {α β:Type}:∀{l:List α}{m:List β},l.length=m.length->l.isEmpty=m.isEmpty
 |[],[],_=>rfl
 |_::_,_::_,_=>rfl
theorem ad5 {t:aE}{Qb:Bool->Hp->Prop}(h:LT X (lR t) σ H Qb):LE X t σ H λx H'=>∃k,qA X.K x H' k/\Qb k H':=by
 obtain⟨W,ρ,Q,px,q,k⟩:=h
 refine⟨W,ρ,_,px,q,?_⟩;rintro v H1 x g s r ⟨b,e,q⟩;refine⟨b,?_,k _ _ s q⟩;cases r with
 |non=>cases e;rfl
 |bl b=>cases e;rfl
 |int i=>cases e;rfl
 |str x=>cases e
 |tup h r=>cases e;exact .inr (.inl ⟨_,aY.of h,by rw[rG r.length]⟩)
 |lst m h r=>cases e;exact .inl ⟨_,b7.of h,by rw[rG r.length]⟩
 |dK m h e' r=>
  cases e;refine .inr (.inr ⟨_,h,?_⟩)
  have:=congrArg List.length e'
  rw[aD8,aD8]at this;rw[rG this]
 |dT m h e' r=>cases e
 |scr h=>cases e
 |kt h r=>cases e
 |exc h e' c=>cases e
 |fK h e' r=>cases e
 |fT h e' r=>cases e
 |fL h r=>cases e
 |fn h=>cases e
 |ob=>cases e
 |lm h=>cases e
 |dA m h e' r=>cases e
 |dB m h e' r=>cases e
 |fA h e' r=>cases e
end
structure kB (K:ad)(H0:Hp)(W:ax->Prop)(g:Bool)(H1:Hp)(J:It)(xs:List PV):Prop where
 go:∀W' H' i,Ev W H1 W' H'->i<xs.length->J.go i H'
 yld:∀W' H' i v H2,Ev W H1 W' H'->J.yld i H' v H2->i<xs.length->aJ H' H2/\∃x,xs[i]? = some x/\aH K (Ms H0 W' g) H2 v x
 stop:∀W' H',Ev W H1 W' H'->J.stop xs.length H'
noncomputable abbrev dW:=bO->(List PV->Bool->Prop)->Prop
noncomputable def LI (X:Cx)(t:dW):TI:=λσ H R=>∃(W:ax->Prop) (ρ:bO) (Q:List PV->Bool->Prop),PX X.K X.H₀ W σ ρ H/\t ρ Q/\∀J H1 xs g,aJ H H1->kB X.K X.H₀ W g H1 J xs->Q xs g->R J H1
theorem Ev.keep {H0:Hp}{W W':ax->Prop}{H H':Hp}{g:Bool}(e:Ev W H W' H')(tw:∀a,W a->∃o,H a=some o/\dI o=true):dU (Ms H0 W g) (Ms H0 W' g) H H':=by
 have m:∀{a:ax}{o:HO},Ms H0 W g a->H a=some o->wX o=false->Ms H0 W' g a/\H' a=some o:=λ{a o} z h hk=>by
  cases g with
  |true=>
   obtain⟨h1,h2⟩:=e a _ h z.1 hk
   exact⟨⟨h2,z.2⟩,h1⟩
  |false=>
   obtain⟨h1,h2⟩:=e a _ h z hk
   exact⟨h2,h1⟩
 refine⟨λa _ z h=>m z h rfl,λa _ z h=>m z h rfl,λa _ z h=>m z h rfl,λa _ h=>(e a _ h (λz=>?_) rfl).1,λa _ _ h f=>(e a _ h (λz=>?_) f).1,λa u d z h=>m z h (by cases u<;>first|rfl|cases d)⟩
 ·obtain⟨o,h',mu⟩:=tw a z;rw[h]at h';cases h';cases mu
 ·obtain⟨o,h',mu⟩:=tw a z;rw[h]at h';cases h';cases mu
section
variable {X:Cx}{σ:St}{H:Hp}{te:aE}{tr:bU}{R:It→Hp→Prop}
noncomputable def xD (K:ad)(tl:TE):TI:=λσ H R=>tl σ H λx H1=>∃a,x = .ref a/\((∃xs,b7 K H1 a xs/\R (pV K a) H1)∨(∃xs,aY K H1 a xs/\R (pW K a) H1))
noncomputable def rH:Tg->List PV->Bool
 |.fr,_=>true
 |.nw,_=>true
 |_,xs=>flats xs
noncomputable def lS (te:aE):dW:=λρ Q=>te ρ λx g=>∃xs,jZ x=some xs/\(g = .rd->flat x=true)/\Q xs (rH g xs)
theorem rJ {K:ad}{H0:Hp}{W:ax->Prop}{g:Bool}{H1:Hp}{a:ax}{us:List V}{xs:List PV}(tw:∀a,W a->∃o,H1 a=some o/\dI o=true)(ha:∀W' H',Ev W H1 W' H'->b7 K H' a us)(r:Reps K (Ms H0 W g) H1 us xs):kB K H0 W g H1 (pV K a) xs:=by
 have lr:=r.length;refine⟨λW' H' i e hi=>⟨us,us[i]'(by omega),ha W' H' e,by simp⟩,λW' H' i v H2 e y hi=>?_,λW' H' e=>⟨us,ha W' H' e,by omega⟩⟩
 obtain⟨rfl,y⟩:=y
 obtain⟨x,hx,rx⟩:=r.get (y us (ha W' _ e))
 exact⟨aJ.refl _,x,hx,rx.keep (e.keep tw)⟩
theorem xE {K:ad}{H0:Hp}{W:ax->Prop}{g:Bool}{H1:Hp}{a:ax}{us:List V}{xs:List PV}(tw:∀a,W a->∃o,H1 a=some o/\dI o=true)(ha:∀W' H',Ev W H1 W' H'->aY K H' a us)(r:Reps K (Ms H0 W g) H1 us xs):kB K H0 W g H1 (pW K a) xs:=by
 have lr:=r.length;refine⟨λW' H' i e hi=>⟨us,us[i]'(by omega),ha W' H' e,by simp⟩,λW' H' i v H2 e y hi=>?_,λW' H' e=>⟨us,ha W' H' e,by omega⟩⟩
 obtain⟨rfl,y⟩:=y
 obtain⟨x,hx,rx⟩:=r.get (y us (ha W' _ e))
 exact⟨aJ.refl _,x,hx,rx.keep (e.keep tw)⟩
theorem j5 {K:ad}{H0 Hs H:Hp}{W:ax->Prop}{σ:St}{ρ:bO}{g:Tg}{us:List V}{xs:List PV}(px:PX K H0 W σ ρ Hs)(hg:g = .rd->flats xs=true)(r:Reps K (Mg H0 W Hs g) H us xs):Reps K (Ms H0 W (rH g xs)) H us xs:=by
 cases g with
 |fr=>exact r.same (aJ.refl _) λ_ z=>px.new z
 |nw=>exact r.same (aJ.refl _) λ_ z=>z
 |sh=>
  show Reps K (Ms H0 W (flats xs)) H us xs;cases e:flats xs with
  |true=>exact r.flat e
  |false=>exact r.same (aJ.refl _) λ_ z=>z
 |rd=>exact r.flat (hg rfl)
theorem ad6 (h:LI X (lS te) σ H R):xD X.K (LE X te) σ H R:=by
 obtain⟨W,ρ,Q,px,q,k⟩:=h
 refine⟨W,ρ,_,px,q,?_⟩;rintro v H1 x g s r ⟨xs,e,hg,q⟩;have px1:=px.mono s;have tw:∀a,W a->∃o,H1 a=some o/\dI o=true:=λa z=>(px1.wm a z).2
 cases r with
 |tup h r=>
  cases e;refine⟨_,rfl,.inr ⟨_,aY.of h,k _ _ _ _ s (xE tw (λW' H' e=>aY.of (e _ _ h (λz=>?_) rfl).1) (j5 px (λz=>by have:=hg z;unfold flat at this;exact this) r)) q⟩⟩
  obtain⟨o,h',mu⟩:=tw _ z;rw[h]at h';cases h';cases mu
 |@lst a us xs' m h r=>
  cases e;have wa:¬W a:=by
   cases g with
   |fr=>exact (px.new m).1
   |nw=>exact m.1
   |sh=>exact m
   |rd=>have:=hg rfl;unfold flat at this;cases this
  exact⟨_,rfl,.inl ⟨_,b7.of h,k _ _ _ _ s (rJ tw (λW' H' e=>b7.of (e _ _ h wa rfl).1) (j5 px (λz=>by have:=hg z;unfold flat at this;cases this) r)) q⟩⟩
 |scr h=>
  cases e;refine⟨_,rfl,.inl ⟨_,h.sqL,k _ _ _ _ s (rJ tw (λW' H' e=>(hI.keep (λa o u hz f=>(e _ _ hz (λz=>?_) f).1) h).sqL) (j5 (g:=g) px (λz=>nW _) (Reps.intz _))) q⟩⟩
  obtain⟨o,h',mu⟩:=tw _ z;rw[hz]at h';cases h';cases mu
 |kt h r=>
  cases e
  exact⟨_,rfl,.inr ⟨_,.inr h,k _ _ _ _ s (xE tw (λW' H' e=>.inr h) (j5 px (λz=>by have:=hg z;unfold flat at this;exact this) r)) q⟩⟩
 |fL h r=>
  cases e;refine⟨_,rfl,.inl ⟨_,.inl (.inr ⟨_,h⟩),k _ _ _ _ s (rJ tw (λW' H' e=>.inl (.inr ⟨_,(e _ _ h (λz=>?_) rfl).1⟩)) (j5 px (λz=>by have:=hg z;unfold flat at this;exact this) r)) q⟩⟩
  obtain⟨o,h',mu⟩:=tw _ z;rw[h]at h';cases h';cases mu
 |_=>cases e
noncomputable def g9 (lo:Int)(n:Nat):List PV:=(List.range n).map λ(i:Nat)=>PV.int (lo+(i:Int))
theorem eF (lo:Int)(n:Nat):(g9 lo n).length=n:=by unfold g9;rw[aD8,List.length_range]
theorem lT {lo:Int}{n i:Nat}(h:i<n):(g9 lo n)[i]? = some (.int (lo+i)):=by unfold g9;rw[aF8,List.getElem?_range h];rfl
noncomputable def j6 (te:aE):dW:=λρ Q=>te ρ λx _=>∃j:Int,x = .int j/\-1000000<=j/\j<=1000000/\Q (g9 0 j.toNat) true
theorem ad7 {K:ad}{H0:Hp}{W:ax->Prop}{H1:Hp}(lo:Int)(n:Nat):kB K H0 W true H1 (nI lo n) (g9 lo n):=by
 refine⟨λW' H' i e hi=>by rw[eF]at hi;exact hi,λW' H' i v H2 e y hi=>?_,λW' H' e=>by show n<=(g9 lo n).length;rw[eF];exact aF0 _⟩;rw[eF]at hi
 obtain⟨rfl,rfl⟩:=y
 exact⟨aJ.refl _,_,lT hi,.int _⟩
theorem ad8 (h:LI X (j6 te) σ H R):uX (eC (LE X te) iB) σ H R:=by
 obtain⟨W,ρ,Q,px,q,k⟩:=h
 refine⟨W,ρ,_,px,q,?_⟩;rintro v H1 x g s r ⟨j,rfl,h1,h2,q⟩;cases r
 exact⟨j,rfl,by omega,by omega,k _ _ _ _ s (ad7 0 j.toNat) q⟩
end
noncomputable abbrev iF:=PV->Bool->bO->(bO->Prop)->Prop
noncomputable def lU (K:ad)(own:Nat->Prop)(p:iF)(t:TG):Prop:=∀(H0:Hp) (W:ax->Prop) (σ:St) (ρ:bO) (H:Hp) (v:V) (x:PV) (g:Bool) (Q:bO->Prop) (Q':St->Hp->Prop),
 PX K H0 W σ ρ H->aH K (Ms H0 W g) H v x->p x g ρ Q->(∀σ' ρ',PX K H0 W σ' ρ' H->(∀i,¬own i->σ'[i]? = σ[i]?)->σ'.length=σ.length->Q ρ'->Q' σ' H)->t v σ H Q'
noncomputable def eV (i:Nat):iF:=λx g ρ Q=>Q (ρ.set i (some (.sh (g||flat x) x)))
theorem oE {K:ad}{H0 H:Hp}{W:ax->Prop}{v:V}{x:PV}{g:Bool}(r:aH K (Ms H0 W g) H v x):aH K (Ms H0 W (g||flat x)) H v x:=by
 cases g with
 |true=>exact r
 |false=>
  show aH K (Ms H0 W (flat x)) H v x;cases e:flat x with
  |true=>exact r.flat e
  |false=>exact r
theorem oF (K:ad)(i:Nat):lU K (· = i) (eV i) (cU i):=by
 intro H0 W σ ρ H v x g Q Q' px r q k;exact k _ _ (px.setSh (oE r)) (λj hj=>by rw[aG9 (Ne.symm hj)]) (aJ3 ..) q
noncomputable def kC (i j:Nat):iF:=λx g ρ Q=>∃y z,x = .tup [y,z]/\Q ((ρ.set i (some (.sh (g||flat y) y))).set j (some (.sh (g||flat z) z)))
theorem xF (K:ad)(i j:Nat):lU K (λk=>k=i∨k=j) (kC i j) (nG K 2 (iT (cU i) (iT (cU j) nE))):=by
 intro H0 W σ ρ H v x g Q Q' px r q k
 obtain⟨y,z,rfl,q⟩:=q
 obtain⟨a,us,rfl,h,r⟩:=r.sqT
 obtain⟨u1,u2,rfl,r1,r2⟩:=r.two
 refine⟨a,_,rfl,aY.of h,rfl,u1,_,rfl,u2,_,rfl,rfl,k _ _ ((px.setSh (oE r1)).setSh (oE r2)) (λk hk=>?_) (by rw[aJ3,aJ3]) q⟩;rw[aG9 (λe=>hk (.inr e.symm)),aG9 (λe=>hk (.inl e.symm))]
section
variable {X:Cx}{σ:St}{H:Hp}{D:d8}
noncomputable def gA (ti:dW)(p:iF)(tb:aX):aX:=λD ρ=>ti ρ λxs g=>∃I:Nat->bO->Prop,I 0 ρ/\(∀i x ρ',xs[i]? = some x->I i ρ'->p x g ρ' λρ2=>tb { D with nx:=I (i+1),ct:=I (i+1),bk:=D.nx } ρ2)/\∀ρ',I xs.length ρ'->D.nx ρ'
theorem ad9 {ti:dW}{p:iF}{g:TG}{tb:aX}{own:Nat->Prop}(hg:lU X.K own p g)(h:LS X (gA ti p tb) D σ H):uY (LI X ti) g (LS X tb) D σ H:=by
 obtain⟨W,ρ,D',px,q,k⟩:=h
 refine⟨W,ρ,_,px,q,?_⟩;rintro J H1 xs gb s it ⟨I,i0,turn,fin⟩;refine⟨λi m σ2 H2=>m=xs.length-i/\i<=xs.length/\∃W2 ρ2,PX X.K X.H₀ W2 σ2 ρ2 H2/\Ev W H1 W2 H2/\I i ρ2,⟨xs.length,by omega,aM1 _,W,ρ,px.mono s,Ev.refl _ _,i0⟩,?_⟩;rintro i m σ2 H2 ⟨rfl,hi,W2,ρ2,px2,e2,i2⟩;have e0:Ev W H W2 H2:=(Ev.same s).trans e2;by_cases hlt:i<xs.length
 ·refine .inr ⟨it.go W2 H2 i e2 hlt,λσ3 H3=>∃W3 ρ3,PX X.K X.H₀ W3 σ3 ρ3 H3/\Ev W H1 W3 H3/\I (i+1) ρ3,λσ3 H3 ⟨W3,ρ3,a,b,c⟩=>⟨xs.length-(i+1),by omega,rfl,hlt,W3,ρ3,a,b,c⟩,λv H3 y=>?_⟩
  obtain⟨s3,x,hx,rx⟩:=it.yld W2 H2 i v H3 e2 y hlt
  refine hg X.H₀ W2 σ2 ρ2 H3 v x gb _ _ (px2.mono s3) rx (turn i x ρ2 hx i2) λσ4 ρ4 px4 _ _ q4=>?_
  have e3:Ev W H1 W2 H3:=e2.trans (Ev.same s3);have e3':Ev W H W2 H3:=e0.trans (Ev.same s3)
  exact⟨W2,ρ4,_,px4,q4,λW' σ' H' ρ' e p q=>⟨W',ρ',p,e3.trans e,q⟩,k.rt,λW' σ' H' ρ' e p q=>k.nx W' σ' H' ρ' (e3'.trans e) p q,λW' σ' H' ρ' e p q=>⟨W',ρ',p,e3.trans e,q⟩⟩
 ·have e:i=xs.length:=by omega
  subst e;exact .inl ⟨it.stop W2 H2 e2,k.nx W2 σ2 H2 ρ2 e0 px2 (fin ρ2 i2)⟩
end
noncomputable def Slot.blk:Slot->Slot
 |.kp _ x ks=>.kp false x ks
 |.sh _ x=>.sh false x
 |.own x=>.sh false x
noncomputable def kD (fr:List (Option Nat))(ρ:bO):bO:=fr.map λo=>o.bind λj=>(ρ[j]?).join.map Slot.blk
theorem iZ.any {K:ad}{H0 H:Hp}{a:ax}{st un:List PV}(h:iZ K H0 H a st un):iZ K (λ_=>none) H a st un:=by
 obtain⟨C,dx,l1,l2,us1,us2,h1,h2,h⟩:=h
 exact⟨C,dx,l1,l2,us1,us2,h1,⟨rfl,rfl,rfl,rfl⟩,h⟩
theorem eT.any {K:ad}{H0 H:Hp}{ks:List (ax×List PV×List PV)}(h:eT K H0 H ks):eT K (λ_=>none) H ks:=⟨λk hk=>(h.1 k hk).any,h.2⟩
theorem Slot.blk_own {m:Slot}{x:PV}(h:m.blk = .own x):False:=by
 cases m<;>cases h
theorem ae0 {K:ad}{H0 H1 H1' H':Hp}{W W':ax->Prop}{v:V}{m:Slot}(r:nX K H0 W H1 v m)(k:dU (λ_=>False) (λ_=>False) H1 H')(f:∀b o,H1 b=some o->dI o=false->H' b=some o)(rv:aH K (λa=>¬W' a) H' v m.val):nX K H1' W' H' v m.blk:=by
 cases m with
 |sh g x=>exact rv
 |own x=>exact rv
 |kp g x ks=>exact⟨⟨r.1.1.keep k,r.1.2⟩,r.2.any.keep k f⟩
noncomputable def j7 (D:ax):ax->Prop:=λa=>a=D
theorem ae1 {K:ad}{H0:Hp}{W:ax->Prop}{σ:St}{ρ:bO}{H1 H':Hp}{D:ax}{acc:List V}{fr:List (Option Nat)}(px:PX K H0 W σ ρ H1)(hD:H1 D=none)(s:aJ H1 H')(ha:H' D=some (.lst acc)) :
  PX K H1 (j7 D) (eS fr σ) (kD fr ρ) H':=by
 have old:∀{a:ax}{o:HO},H1 a=some o->a≠D:=λ{a o} e z=>by rw[z,hD]at e;cases e
 refine⟨by unfold eS kD;rw[aD8,aD8],s,λa z=>by cases z;exact⟨hD,_,ha,rfl⟩,λi m h=>?_,λi j x y a h1=>?_⟩
 ·unfold kD at h
  rw[aF8]at h;cases ef:fr[i]? with
  |none=>rw[ef]at h;cases h
  |some o=>
   rw[ef]at h;cases o with
   |none=>cases h
   |some j=>
    have h:some ((ρ[j]?).join.map Slot.blk)=some (some m):=h;cases er:ρ[j]? with
    |none=>rw[er]at h;cases h
    |some o=>
     rw[er]at h;cases o with
     |none=>cases h
     |some m0=>
      cases h
      obtain⟨v,ev,r⟩:=px.sl j m0 er
      refine⟨v,?_,?_⟩
      ·unfold eS
       rw[aF8,ef];show some ((σ[j]?).join)=_;rw[ev];rfl
      ·have r':aH K (λ_=>True) H1 v m0.val:=(wY (Hs:=H1) r).same (aJ.refl _) λ_ _=>trivial
       refine ae0 r (.same s λ_ z=>z) (λ_ _ e _=>s _ _ e) ?_;exact r'.keep ⟨λa _ _ e=>⟨old e,s _ _ e⟩,λa _ _ e=>⟨old e,s _ _ e⟩,λa _ _ e=>⟨old e,s _ _ e⟩,λ_ _ e=>s _ _ e,λ_ _ _ e _=>s _ _ e,λa _ _ _ e=>⟨old e,s _ _ e⟩⟩
 ·unfold kD at h1
  rw[aF8]at h1;cases ef:fr[i]? with
  |none=>rw[ef]at h1;cases h1
  |some o=>
   rw[ef]at h1;cases o with
   |none=>cases h1
   |some j=>
    have h1:some ((ρ[j]?).join.map Slot.blk)=some (some (Slot.own x)):=h1;cases er:ρ[j]? with
    |none=>rw[er]at h1;cases h1
    |some o=>
     rw[er]at h1;cases o with
     |none=>cases h1
     |some m0=>exact (Slot.blk_own (aF9 (aF9 h1))).elim
section
variable {X:Cx}{σ:St}{H:Hp}{Q':VK}
noncomputable abbrev _root_.L2.Cx.frm (X:Cx)(H1:Hp):Cx:={ X with H₀:=H1 }
noncomputable def hU (ti:dW)(fr:List (Option Nat))(p:iF)(tc:cD)(te:aE):aE:=λρ Q=>ti ρ λxs g=>xs.length<=16000000/\∃I:Nat->List PV->Prop,I 0 []/\
 (∀i x acc,xs[i]? = some x->I i acc->p x false (kD fr ρ) λρ2=>tc ρ2 λb=>if b=true then te ρ2 λy gy=>Nw gy y/\I (i+1) (acc++[y]) else I (i+1) acc)/\∀acc,I xs.length acc->Q (.lst acc) .fr
theorem oG {ti:dW}{fr:List (Option Nat)}{p:iF}{g:TG}{tc:cD}{te:aE}{own:Nat->Prop}(hg:lU X.K own p g)(ho:∀i,own i->fr[i]? = some none)(h:LE X (hU ti fr p tc te) σ H Q') :
  qU (LI X ti) fr (λ_=>g) (λH1=>LT (X.frm H1) tc) (λH1=>LE (X.frm H1) te) σ H Q':=by
 obtain⟨W,ρ,Q,px,q,k⟩:=h
 refine⟨W,ρ,_,px,q,?_⟩;rintro J H1 xs gb s it ⟨hl,I,i0,turn,fin⟩ D hD;have px1:=px.mono s;refine⟨λi m acc H'=>m=xs.length-i/\i<=xs.length/\aJ H1 H'/\H' D=some (.lst acc)/\∃ys,Reps X.K (Ms H1 (j7 D) true) H' acc ys/\ys.length<=i/\I i ys,⟨xs.length,by omega,aM1 _,cZ hD _,bM,[],.nil,aF0 _,i0⟩,?_⟩;rintro i m acc H' ⟨rfl,hi,sm,ha,ys,ry,hy,iy⟩;refine⟨ha,?_⟩;have ev:Ev W H1 (jW W D) H':=Ev.own sm hD;by_cases hlt:i<xs.length
 ·refine .inr ⟨it.go _ H' i ev hlt,λv H2 y=>?_⟩
  obtain⟨s2,x,hx,rx⟩:=it.yld _ H' i v H2 ev y hlt
  have ha2:=s2 _ _ ha;have pxb:PX X.K H1 (j7 D) (eS fr σ) (kD fr ρ) H2:=ae1 px1 hD (sm.trans s2) ha2;have rx':aH X.K (Ms H1 (j7 D) false) H2 v x:=rx.same (aJ.refl _) λa z=>by
   cases gb with
   |true=>exact λe=>z.1 (.inr e)
   |false=>exact λe=>z (.inr e)
  refine hg H1 (j7 D) _ _ H2 v x false _ _ pxb rx' (turn i x ys hx iy) λσ2 ρ2 px2 hown ao q2=>⟨⟨ao.symm,λj w e=>?_⟩,?_⟩
  ·by_cases oj:own j
   ·have:=ho j oj
    unfold eS at e;rw[aF8,this]at e;cases e
   ·rw[hown j oj];exact e
  ·refine⟨j7 D,ρ2,_,px2,q2,λb H4 s4 q4=>?_⟩
   have ha4:=s4 _ _ ha2;have sm4:=(sm.trans s2).trans s4;cases b with
   |false=>
    refine cF ⟨xs.length-(i+1),by omega,rfl,hlt,sm4,ha4,ys,ry.same (s2.trans s4) λ_ z=>z,by omega,by simpa using q4⟩
   |true=>
    refine cC ⟨j7 D,ρ2,_,px2.mono s4,by simpa using q4,?_⟩;rintro w H5 y gy s5 ryy ⟨nw,q5⟩;have ha5:=s5 _ _ ha4;have lr:=ry.length;refine⟨ha5,iD (by omega),xs.length-(i+1),by omega,rfl,hlt,λb o e=>?_,bM,ys++[y],?_,by rw[aG7,List.length_singleton];omega,q5⟩
    ·rw[aL (λz=>by rw[z,hD]at e;cases e)]
     exact s5 _ _ (sm4 _ _ e)
    ·exact ((ry.same ((s2.trans s4).trans s5) λ_ z=>z).append (.cons (Nw.rep (px2.mono s4) nw ryy) .nil)).keep (.upd ha5 rfl λb m=>⟨m.1,m⟩)
 ·have e:i=xs.length:=by omega
  subst e;refine .inl ⟨it.stop _ H' ev,k _ H' _ .fr (s.trans sm) (.lst (s.free hD) ha (ry.same (aJ.refl _) λ_ z=>s.free z.2)) (fin ys iy)⟩
noncomputable def gB:cD:=λ_ Q=>Q true
theorem ae2 {Qb:Bool->Hp->Prop}(h:LT X gB σ H Qb):wH σ H Qb:=by
 obtain⟨W,ρ,Q,px,q,k⟩:=h
 exact k _ _ (aJ.refl _) q
end
section
variable {κ:Type}[DecidableEq κ]
noncomputable def cS (ps:List (κ×PV))(k:κ):Option PV:=(ps.find? λp=>decide (p.1=k)).map (·.2)
noncomputable def dX (ps:List (κ×PV))(k:κ)(x:PV):List (κ×PV):=if (ps.any λp=>decide (p.1=k))=true then ps.map (λp=>if p.1=k then (p.1,x) else p) else ps++[(k,x)]
variable {K:ad}{M:ax→Prop}{H:Hp}
theorem j8 (k:κ):∀{kvs:List (κ×V)}{ps:List (κ×PV)},kvs.map (·.1)=ps.map (·.1)->Reps K M H (kvs.map (·.2)) (ps.map (·.2))->(cS ps k=none->eR kvs k=none)/\∀x,cS ps k=some x->∃v,eR kvs k=some v/\aH K M H v x
 |[],[],_,_=>⟨λ_=>rfl,λx h=>by cases h⟩
 |[],_::_,e,_=>by cases e
 |_::_,[],e,_=>by cases e
 |(k1,v)::kvs,(k2,x)::ps,e,r=>by
  injection e with e1 e2
  have e1:k1=k2:=e1;subst e1;cases r with
  |cons r t=>
   obtain⟨h1,h2⟩:=j8 k e2 t
   unfold cS eR at h1 h2 ⊢;by_cases e:k1=k
   ·simp only[aH3,e,decide_true,Option.map_some]
    exact⟨λz=>(by cases z),λy z=>(by cases z;exact⟨v,rfl,r⟩)⟩
   ·simp only[aH3,e,decide_false]
    exact⟨h1,h2⟩
theorem ae3 (k:κ){kvs:List (κ×V)}{ps:List (κ×PV)}(e:kvs.map (·.1)=ps.map (·.1)):(kvs.any λp=>decide (p.1=k))=ps.any λp=>decide (p.1=k):=by
 have h1:(kvs.any λp=>decide (p.1=k))=(kvs.map (·.1)).any λz=>decide (z=k):=by rw[List.any_map];rfl
 have h2:(ps.any λp=>decide (p.1=k))=(ps.map (·.1)).any λz=>decide (z=k):=by rw[List.any_map];rfl
 rw[h1,h2,e]
theorem xG (k:κ){w:V}{y:PV}(q:aH K M H w y):∀{kvs:List (κ×V)}{ps:List (κ×PV)},kvs.map (·.1)=ps.map (·.1)->Reps K M H (kvs.map (·.2)) (ps.map (·.2))->
  (kvs.map λkv=>if kv.1=k then (kv.1,w) else kv).map (·.1)=(ps.map λkv=>if kv.1=k then (kv.1,y) else kv).map (·.1)/\Reps K M H ((kvs.map λkv=>if kv.1=k then (kv.1,w) else kv).map (·.2)) ((ps.map λkv=>if kv.1=k then (kv.1,y) else kv).map (·.2))
 |[],[],_,_=>⟨rfl,.nil⟩
 |[],_::_,e,_=>by cases e
 |_::_,[],e,_=>by cases e
 |(k1,v)::kvs,(k2,x)::ps,e,r=>by
  injection e with e1 e2
  have e1:k1=k2:=e1;subst e1;cases r with
  |cons r t=>
   obtain⟨h1,h2⟩:=xG k q e2 t
   by_cases e:k1=k
   ·simp only[aG3,e,if_true]
    exact⟨by rw[h1],.cons q h2⟩
   ·simp only[aG3,e,aK1]
    exact⟨by rw[h1],.cons r h2⟩
theorem rK (k:κ){w:V}{y:PV}(q:aH K M H w y){kvs:List (κ×V)}{ps:List (κ×PV)}(e:kvs.map (·.1)=ps.map (·.1))(r:Reps K M H (kvs.map (·.2)) (ps.map (·.2))) :
  (dS kvs k w).map (·.1)=(dX ps k y).map (·.1)/\Reps K M H ((dS kvs k w).map (·.2)) ((dX ps k y).map (·.2)):=by
 unfold dS dX;rw[ae3 k e];split
 ·exact xG k q e r
 ·rw[aG4,aG4,aG4,aG4,e]
  exact⟨rfl,r.append (.cons q .nil)⟩
end
section
variable {X:Cx}{σ:St}{H:Hp}{D:d8}{tk td te:aE}{Q':VK}
theorem xH {α β:Type}{o:Option α}{o':Option β}{P:β->α->Prop}(h1:o=none->o'=none)(h2:∀z,o=some z->∃u,o'=some u/\P u z):o'.isSome=o.isSome:=by
 cases o with
 |none=>rw[h1 rfl];rfl
 |some z=>obtain⟨u,e,_⟩:=h2 z rfl;rw[e];rfl
theorem kE {κ α β:Type}{l:List (κ×α)}{m:List (κ×β)}(e:l.map (·.1)=m.map (·.1)):l.length=m.length:=by
 have:=congrArg List.length e
 rw[aD8,aD8]at this;exact this
end
noncomputable def dC:Nat->PV->PV->Bool
 |_,.non,.non=>true
 |_,.bl a,.bl b=>a==b
 |_,.int a,.int b=>a==b
 |_,.str a,.str b=>a==b
 |n+1,.tup xs,.tup ys=>(xs.zip ys).all (λp=>dC n p.1 p.2)&&xs.length==ys.length
 |n+1,.lst xs,.lst ys=>(xs.zip ys).all (λp=>dC n p.1 p.2)&&xs.length==ys.length
 |n+1,.kt xs,.kt ys=>(xs.zip ys).all (λp=>dC n p.1 p.2)&&xs.length==ys.length
 |_,_,_=>false
noncomputable def fO:Nat->PV->PV->Bool
 |_,.non,.non=>true
 |_,.bl _,.bl _=>true
 |_,.int _,.int _=>true
 |_,.str _,.str _=>true
 |_,.non,.int _=>true
 |_,.int _,.non=>true
 |n+1,.tup xs,.tup ys=>(xs.zip ys).all (λp=>fO n p.1 p.2)
 |n+1,.lst xs,.lst ys=>(xs.zip ys).all (λp=>fO n p.1 p.2)
 |n+1,.kt xs,.kt ys=>(xs.zip ys).all (λp=>fO n p.1 p.2)
 |_+1,.non,.tup _=>true
 |_+1,.tup _,.non=>true
 |_,_,_=>false
theorem ae4 (n:Nat)(a b:Int):dC n (.int a) (.int b)=(a==b):=by cases n<;>rfl
theorem xI (n:Nat):∀(a b:ag),((((intz a).zip (intz b)).all λp=>dC n p.1 p.2)&&(intz a).length==(intz b).length)=decide (a=b)
 |[],[]=>rfl
 |[],_::_=>by simp
 |_::_,[]=>by simp
 |x::a,y::b=>by
  have ih:=xI n a b;simp only[aG3,aL5,List.all_cons,aK2,ae4]at ih ⊢;by_cases e:x=y
  ·subst e
   have:((intz a).length+1==(intz b).length+1)=((intz a).length==(intz b).length):=by simp
   rw[this,aJ5,Bool.true_and,ih];simp
  ·have:(x==y)=false:=aM6.mpr e
   rw[this,Bool.false_and,Bool.false_and];simp[e]
theorem ae5 (n:Nat)(a b:ag):dC (n+1) (.tup (intz a)) (.tup (intz b))=decide (a=b):=xI n a b
theorem xJ (n:Nat):∀(a b:ag),(((intz a).zip (intz b)).all λp=>fO n p.1 p.2)=true
 |[],_=>by simp
 |_::_,[]=>by simp
 |x::a,y::b=>by
  simp only[aG3,aL5,List.all_cons,xJ n a b,Bool.and_true];cases n<;>rfl
theorem ae6 (n:Nat)(a b:ag):fO (n+1) (.tup (intz a)) (.tup (intz b))=true:=xJ n a b
noncomputable def oH (ta:aE):aE:=λρ Q=>ta ρ λx _=>∃i,x = .int i/\Q (.int (-i)) .fr
noncomputable def xK:PV->Option String
 |.non=>some "NoneType"
 |.bl _=>some "bool"
 |.int _=>some "int"
 |.str _=>some "str"
 |.tup _=>some "tuple"
 |.kt _=>some "tuple"
 |.lst _=>some "list"
 |_=>none
noncomputable def lV (K:ad)(n:String)(te:aE):aE:=λρ Q=>te ρ λx _=>∃T b,xK x=some T/\PySem.W.kitOne K (.type T) (.type n)=some b/\Q (.bl b) .fr
noncomputable def bF (N:List Str)(xs:List PV):bO:=xs.map (λx=>some (.sh (flat x) x))++List.replicate (N.length-xs.length) none
noncomputable abbrev j9 (ta tb:aE):aE:=q2 (d0 λi j=>.int (i+j)) ta tb
noncomputable abbrev lW (ta tb:aE):aE:=q2 (d0 λi j=>.int (i-j)) ta tb
noncomputable abbrev xL (ta tb:aE):aE:=q2 (RI lD λi j=>.int (i*j)) ta tb
noncomputable abbrev rL (ta tb:aE):aE:=q2 (RI pZ λi j=>.int (i/j)) ta tb
noncomputable abbrev rM (ta tb:aE):aE:=q2 (RI (λ_ j=>0<j) λi j=>.int (i%j)) ta tb
noncomputable abbrev ae7 (ta tb:aE):aE:=q2 (RI jN λi j=>.int (i^j.toNat)) ta tb
noncomputable abbrev xM (ta tb:aE):aE:=q2 (RI jN λi j=>.int (i*2^j.toNat)) ta tb
noncomputable abbrev oI (ta tb:aE):aE:=q2 (d0 λi j=>.bl (decide (i<j))) ta tb
noncomputable abbrev qLe (ta tb:aE):aE:=q2 (d0 λi j=>.bl (decide (i<=j))) ta tb
noncomputable abbrev rO (ta tb:aE):aE:=q2 (d0 λi j=>.bl (decide (j<i))) ta tb
noncomputable abbrev qGe (ta tb:aE):aE:=q2 (d0 λi j=>.bl (decide (j<=i))) ta tb
noncomputable abbrev rQ (ta tb:aE):aE:=q2 (j0 false) ta tb
noncomputable abbrev rR (ta tb:aE):aE:=q2 (j0 true) ta tb
noncomputable abbrev cL (ta tb:aE):aE:=q2 rE ta tb
noncomputable def xN:List PV->(PV->Prop)->Prop:=λxs Q=>xC xs Q/\∀ns,xs≠[.scr ns]
noncomputable def QE (X:Cx)(e:Expr)(t:aE):Prop:=PE X e (LE X t)
noncomputable def QT (X:Cx)(e:Expr)(t:cD):Prop:=PT X e (LT X t)
noncomputable def QW (X:Cx)(e:Expr)(t:cD):Prop:=PW X e (LT X t)
noncomputable def QA (X:Cx)(es:List Expr)(t:bU):Prop:=PA X es (LA X t)
noncomputable def QS (X:Cx)(st:Stmt)(t:aX):Prop:=PS X st (LS X t)
noncomputable def dY (X:Cx)(st:List Stmt)(t:aX):Prop:=cQ X st (LS X t)
noncomputable def QI (X:Cx)(tg iter:Expr)(t:dW):Prop:=PI X tg iter (LI X t)
section
variable {X:Cx}
theorem bQ {e:Expr}{t t':TE}(h:PE X e t)(m:∀σ H Q,t' σ H Q->t σ H Q):PE X e t':=λai s σ H Q I q=>h ai s σ H Q I (m σ H Q q)
theorem kF {e:Expr}{t t':TT}(h:PT X e t)(m:∀σ H Q,t' σ H Q->t σ H Q):PT X e t':=λai s σ H Q I q=>h ai s σ H Q I (m σ H Q q)
theorem pwI {e:Expr}{t t':TT}(h:PW X e t)(m:∀σ H Q,t' σ H Q->t σ H Q):PW X e t':=λwh ai s σ H Q I q=>h wh ai s σ H Q I (m σ H Q q)
theorem xO {e:List Expr}{t t':TA}(h:PA X e t)(m:∀σ H Q,t' σ H Q->t σ H Q):PA X e t':=λpos ai s σ H Q I q=>h pos ai s σ H Q I (m σ H Q q)
theorem cW {e:Stmt}{t t':TS}(h:PS X e t)(m:∀D σ H,t' D σ H->t D σ H):PS X e t':=λai s σ H D I q=>h ai s σ H D I (m D σ H q)
theorem xP {e:List Stmt}{t t':TS}(h:cQ X e t)(m:∀D σ H,t' D σ H->t D σ H):cQ X e t':=λai s σ H D I q=>h ai s σ H D I (m D σ H q)
theorem oJ {tg e:Expr}{t t':TI}(h:PI X tg e t)(m:∀σ H R,t' σ H R->t σ H R):PI X tg e t':=λai s σ H R I q=>h ai s σ H R I (m σ H R q)
variable {a b c e o:Expr}{es rest:List Expr}{ta tb te to tk:aE}{tr:bU}{tA tB' tc:cD}{pos p2 px:Pos}{st:Stmt}{sts:List Stmt}{t u:aX}
theorem qv (i:Nat){x:Str}{pos:Pos}(hN:X.N[i]? = some x:=by rfl)(hv:d7 X.env.scope x:=by first|exact Or.inl rfl|exact Or.inr (Or.inl rfl)|exact Or.inr (Or.inr rfl))(hd:(x==("__debug__":Str))=false:=by decide)(hcd:(x==("__classdict__":Str))=false:=by decide):QE X (.Name x pos) (aC i):=bQ (fC hN hv hd hcd) λ_ _ _=>aa4
theorem aV {i j}:QE X (.Constant (.int i) j pos) (qC (.int i)):=bQ M9 λ_ _ _=>lN λ_=>.int i
theorem iG {i j}:QE X (.Constant (.bool i) j pos) (qC (.bl i)):=bQ N0 λ_ _ _=>lN λ_=>.bl i
theorem rS {i j}:QE X (.Constant (.str i) j pos) (qC (.str i)):=bQ N1 λ_ _ _=>lN λ_=>.str i
theorem fP {op:Operator}{R:PV->Tg->PV->Tg->PK->Prop}{r:R2}(ho:bW X (binaryOp op) r)(cv:fM X R r)(ha:QE X a ta)(hb:QE X b tb):QE X (.BinOp a op b pos) (q2 R ta tb):=bQ (P9 ho ha hb) λ_ _ _=>nZ cv
theorem iH (ha:QE X a ta)(hb:QE X b tb):QE X (.BinOp a .Add b pos) (q2 (d0 λi j=>.int (i+j)) ta tb):=fP Q2 o3 ha hb
theorem lX (ha:QE X a ta)(hb:QE X b tb):QE X (.BinOp a .Sub b pos) (q2 (d0 λi j=>.int (i-j)) ta tb):=fP Q3 o3 ha hb
theorem xQ (ha:QE X a ta)(hb:QE X b tb):QE X (.BinOp a .Mult b pos) (q2 (RI lD λi j=>.int (i*j)) ta tb):=fP Q4 jV ha hb
theorem rT (ha:QE X a ta)(hb:QE X b tb):QE X (.BinOp a .FloorDiv b pos) (q2 (RI pZ λi j=>.int (i/j)) ta tb):=fP Q5 jV ha hb
theorem rV (ha:QE X a ta)(hb:QE X b tb):QE X (.BinOp a .Mod b pos) (q2 (RI (λ_ j=>0<j) λi j=>.int (i%j)) ta tb):=fP Q6 jV ha hb
theorem ae8 (ha:QE X a ta)(hb:QE X b tb):QE X (.BinOp a .Pow b pos) (q2 (RI jN λi j=>.int (i^j.toNat)) ta tb):=fP Q7 jV ha hb
theorem rW (ha:QE X a ta)(hb:QE X b tb):QE X (.BinOp a .LShift b pos) (q2 (RI jN λi j=>.int (i*2^j.toNat)) ta tb):=fP Q8 jV ha hb
theorem ae9 (ha:QE X a ta)(hb:QE X b tb):QE X (.BinOp a .RShift b pos) (q2 (RI (λ_ j=>0<=j) λi j=>.int (i/2^j.toNat)) ta tb):=fP Q9 jV ha hb
theorem af0 {op:CmpOp}{R:PV->Tg->PV->Tg->PK->Prop}{r:R2}(ho:bW X (compareOp op) r)(cv:fM X R r)(ha:QE X a ta)(hb:QE X b tb)(hm:behindInMarks op b=false):QE X (.Compare a [op] [b] pos) (q2 R ta tb):=bQ (S2 ho ha hb hm) λ_ _ _=>nZ cv
theorem kG {op:CmpOp}{R:PV->Tg->PV->Tg->PK->Prop}{r:R2}(ho:bW X (compareOp op) r)(cv:fM X R r)(ha:QE X a ta)(hb:QE X b tb)(hm:behindInMarks op b=false):QT X (.Compare a [op] [b] pos) (bZ (q2 R ta tb)):=kF (S4 ho ha hb hm) λ_ _ _ h=>nZ cv (o6 h)
theorem xR (ha:QE X a ta)(hb:QE X b tb):QE X (.Compare a [.Eq] [b] pos) (q2 (j0 false) ta tb):=af0 vA x3 ha hb (iU _)
theorem oK (ha:QE X a ta)(hb:QE X b tb):QT X (.Compare a [.Lt] [b] pos) (bZ (q2 (d0 λi j=>.bl (decide (i<j))) ta tb)):=kG R7 o5 ha hb (iU _)
theorem af1 (ha:QE X a ta)(hb:QE X b tb):QT X (.Compare a [.LtE] [b] pos) (bZ (q2 (d0 λi j=>.bl (decide (i<=j))) ta tb)):=kG R8 o5 ha hb (iU _)
theorem rX (ha:QE X a ta)(hb:QE X b tb):QT X (.Compare a [.Gt] [b] pos) (bZ (q2 (d0 λi j=>.bl (decide (j<i))) ta tb)):=kG R9 o5 ha hb (iU _)
theorem af2 (ha:QE X a ta)(hb:QE X b tb):QT X (.Compare a [.GtE] [b] pos) (bZ (q2 (d0 λi j=>.bl (decide (j<=i))) ta tb)):=kG S0 o5 ha hb (iU _)
theorem af3 (ha:QE X a ta)(hb:QE X b tb):QT X (.Compare a [.Eq] [b] pos) (bZ (q2 (j0 false) ta tb)):=kG vA x3 ha hb (iU _)
theorem rY (ha:QE X a ta)(hb:QE X b tb):QT X (.Compare a [.NotEq] [b] pos) (bZ (q2 (j0 true) ta tb)):=kG R6 aa5 ha hb (iU _)
theorem af4 (h:QE X e te)(he:∀whole,isTrue e X.env whole=(do let v <- whole;standAt e.pos;holding [v] (truthy v)):=by intro _;rfl):QT X e (bZ te):=kF (N4 h he) λ_ _ _ h=>o6 h
theorem oM (h:QE X e te)(he:∀whole,isTrue e X.env whole=(do let v <- whole;standAt e.pos;holding [v] (truthy v)):=by intro _;rfl):QT X e (lR te):=kF (S7 h he) λ_ _ _ h=>ad5 h
theorem xS (ha:QT X a tA):QW X (.BoolOp .Or [a] pos) tA:=N5 ha
theorem lY (ha:QT X a tA)(hb:QW X (.BoolOp .Or (b::rest) pos) tB'):QW X (.BoolOp .Or (a::b::rest) pos) (j3 tA tB'):=pwI (N6 ha hb) λ_ _ _=>aa6
theorem xT (h:QW X e tA):QT X e tA:=PW.pt h
theorem af5 (ha:QT X a tA):QT X (.UnaryOp .Not a pos) (r6 tA):=kF (N7 ha) λ_ _ _=>aa7
theorem xU {op}(h:QE X a ta):QE X (.BoolOp op [a] pos) ta:=N8 h
theorem xV (ha:QE X a ta)(hb:QE X (.BoolOp .And (b::rest) pos) tb):QE X (.BoolOp .And (a::b::rest) pos) (o7 ta tb):=bQ (N9 ha hb) λ_ _ _=>aa8
theorem af6 (ha:QE X a ta):QE X (.UnaryOp .Not a pos) (r9 ta):=bQ (O0 ha) λ_ _ _=>aa9
theorem aQ:QA X [] aU:=xO iC λ_ _ _=>ab0
theorem aG (ha:QE X e te)(hr:QA X es tr)(hs:starEach (e::es) X.env=(false,eval e X.env)::starEach es X.env:=by rfl):QA X (e::es) (aI te tr):=xO (dP ha hr hs) λ_ _ _=>ab1
theorem gC {x1}(h:QA X es tr):QE X (.Tuple es x1 pos) (fZ tr):=bQ (T3 h) λ_ _ _=>ab2
theorem lZ (h:QA X es tr):QE X (.List es pos) (j4 tr):=bQ (T4 h) λ_ _ _=>ab3
theorem cG (ha:QE X a ta)(hb:QE X b tb)(hs:vP b:=by exact λ_ _=>rfl):QE X (.Subscript a b pos) (q2 rE ta tb):=bQ (U5 U9 ha hb hs) λ_ _ _=>nZ ac8
theorem mB {x:Str}{id:String}{R:List PV->(PV->Prop)->Prop}{r:List V->Hp->VK->Prop}(hc:cR X (.builtin id) r)(cv:dJ X R r)(hg:Gl X x)(hm:X.mg x=none)(hv:bootBuiltins x=some (.builtin id))(ha:QA X (e::es) tr)(hn:x≠"__name__":=by decide)(hdb:(x==("__debug__":Str))=false:=by decide)(he:starEach (e::es) X.env=(false,eval e X.env)::starEach es X.env:=by rfl)(hpl:(backTo pos (starEach es X.env)).any (·.1)=false:=by rfl):QE X (.Call (.Name x p2) (e::es) [] pos) (aZ R tr):=bQ (vL hc hg hm hv ha hn hdb he hpl) λ_ _ _=>x4 cv
theorem xW {x:Str}{T:String}{R:List PV->(PV->Prop)->Prop}{r:List V->Hp->VK->Prop}(hc:cR X (.type T) r)(cv:dJ X R r)(hg:Gl X x)(hm:X.mg x=none)(hv:bootBuiltins x=some (.type T))(ha:QA X (e::es) tr)(hn:x≠"__name__":=by decide)(hdb:(x==("__debug__":Str))=false:=by decide)(he:starEach (e::es) X.env=(false,eval e X.env)::starEach es X.env:=by rfl)(hpl:(backTo pos (starEach es X.env)).any (·.1)=false:=by rfl):QE X (.Call (.Name x p2) (e::es) [] pos) (aZ R tr):=bQ (T5 hc hg hm hv ha hn hdb he hpl) λ_ _ _=>x4 cv
theorem gN:dY X [] g4:=xP O2 λ_ _ _=>ab4
theorem bA (h1:QS X st t)(h2:dY X sts u):dY X (st::sts) (bE t u):=xP (O3 h1 h2) λ_ _ _=>ab5
theorem bD (h1:QS X st t):dY X [st] t:=eQ h1
theorem d2 {i:Nat}{x:Str}(hN:X.N.Nodup)(he:QE X e te)(hi:X.N[i]? = some x:=by rfl)(hx:eZ X.env.scope x:=by first|exact Or.inl rfl|exact Or.inr rfl)(hs:swapsWith e (some (.Name x p2)) pos.line X.env=pure false:=by rfl)(hf:X.fn x=true∨X.env.scope.names.lookup x=some .local:=by first|exact .inl rfl|exact .inr rfl) :
  QS X (.Assign [.Name x p2] e pos) (cV i te):=cW (lA hN hi hx he hs hf) λ_ _ _=>x9
theorem rZ {i:Nat}{x:Str}(hN:X.N.Nodup)(he:QE X e te)(hi:X.N[i]? = some x:=by rfl)(hx:eZ X.env.scope x:=by first|exact Or.inl rfl|exact Or.inr rfl)(hs:swapsWith e (some (.Name x p2)) pos.line X.env=pure false:=by rfl)(hf:X.fn x=true∨X.env.scope.names.lookup x=some .local:=by first|exact .inl rfl|exact .inr rfl) :
  QS X (.Assign [.Name x p2] e pos) (lO i te):=cW (lA hN hi hx he hs hf) λ_ _ _=>ab8
theorem oN (he:QE X e te)(hs:swapsWith e none pos.line X.env=pure false:=by rfl):QS X (.Expr e pos) (jY te):=cW (kY he hs) λ_ _ _=>ab9
theorem dZ (he:QE X e te):QS X (.Return (some e) pos) (dL te):=cW (uR he) λ_ _ _=>ac0
theorem xX (i:Nat){x:Str}(hN:X.N[i]? = some x:=by rfl)(hv:d7 X.env.scope x:=by first|exact Or.inl rfl|exact Or.inr (Or.inl rfl)|exact Or.inr (Or.inr rfl))(hd:(x==("__debug__":Str))=false:=by decide)(hcd:(x==("__classdict__":Str))=false:=by decide) :
  QS X (.Return (some (.Name x p2)) pos) (oB i):=cW (uR (fC hN hv hd hcd)) λ_ _ _=>ac1
theorem gO {sa sb:List Stmt}(hc:QT X c tc)(ha:dY X sa t)(hb:dY X sb u):QS X (.If c sa sb pos) (g8 tc t u):=cW (kZ hc ha hb) λ_ _ _=>ac2
theorem sA {body:List Stmt}(hp:PassesOwn (model X.prog X.w) X.A X.env X.xe)(hc:QT X c tc)(hb:dY X body t):QS X (.While c body [] pos) (lP tc t):=cW (O6 hp hc hb) λ_ _ _=>ac3
theorem af7 (i:Nat){x:Str}{aj am xpos:Pos}(he:QE X e te)(hN:X.N[i]? = some x:=by rfl)(hv:d7 X.env.scope x:=by first|exact Or.inl rfl|exact Or.inr (Or.inl rfl)|exact Or.inr (Or.inr rfl))(hd:(x==("__debug__":Str))=false:=by decide)(hcd:(x==("__classdict__":Str))=false:=by decide)(hbase:attributeBase (.Name x xpos) "append" X.env (eval (.Name x xpos) X.env)=eval (.Name x xpos) X.env:=by rfl)(hfew:((backTo am (starEach [e] X.env)).all (λx=>!x.1)&&(backToKw am (keywordEach [] X.env)).all (λx=>x.1.isSome)&&decide (([e]:List Expr).length+([]:List Keyword).length+(if ([]:List Keyword).isEmpty then 0 else 1)<30))=true:=by rfl)(hline:(aj.endLine==am.line)=true:=by rfl)(hs:starEach [e] X.env=(false,eval e X.env)::starEach [] X.env:=by rfl)(ar:(backTo am (starEach [] X.env)).any (·.1)=false:=by rfl)(hsw:swapsWith (.Call (.Attribute (.Name x xpos) "append" aj) [e] [] am) none pos.line X.env=pure false:=by rfl) :
  QS X (.Expr (.Call (.Attribute (.Name x xpos) "append" aj) [e] [] am) pos) (rB i te):=
 cW (kY (vX PySem.F.plainAttrs_list PySem.F.slot_list_append PySem.F.type_list_append w5 (fC hN hv hd hcd) (dP he iC hs) hbase hfew hline hs ar) hsw) λ_ _ _=>ac4
theorem af8 {tg l:Expr}{tl:TE}(hl:PE X l tl):PI X tg l (xD X.K tl):=by
 intro ai s σ H R I h;refine aM (hl ai s σ H _ I h) λv s1 ⟨x,H1,I1,r1,q1⟩=>?_
 obtain⟨a,e,q⟩:=q1
 subst e;cases r1;rcases q with⟨xs,hq,q⟩|⟨xs,hq,q⟩
 ·obtain⟨its,rv,p,hz⟩:=I1.list hq
  refine wpAny_pyIter_list p.isList ?_;refine⟨s1.heap.objs.size,[s1.heap.objs.size],_,_,H1,rfl,I1.kept (t':=s1.toks) λb o e=>aE1 _ e,O7 a _,⟨_,aF3 _ rfl,rfl,rfl⟩,λb hb=>?_,q⟩;have e:b=s1.heap.objs.size:=by simpa using hb
  subst e;exact I1.fpOk (aF0 _) (I1.hok.fresh (aF0 _))
 ·obtain⟨its,rv,p,hz⟩:=I1.tuple hq
  refine wpAny_pyIter_tuple (show s1.heap.IsTuple a its.toArray from p) ?_;refine⟨s1.heap.objs.size,[s1.heap.objs.size],_,_,H1,rfl,I1.kept (t':=s1.toks) λb o e=>aE1 _ e,O8 a _,⟨_,aF3 _ rfl,rfl,rfl⟩,λb hb=>?_,q⟩;have e:b=s1.heap.objs.size:=by simpa using hb
  subst e;exact I1.fpOk (aF0 _) (I1.hok.fresh (aF0 _))
theorem oO {tg l:Expr}(hl:QE X l te):QI X tg l (lS te):=oJ (af8 hl) λ_ _ _=>ad6
theorem kH {tg:Expr}(hg:Gl X "range")(hm:X.mg "range" = none)(ha:QE X a ta)(hs:starEach [a] X.env = [(false,eval a X.env)]:=by rfl):QI X tg (.Call (.Name "range" p2) [a] [] pos) (j6 ta):=oJ (P4 hg hm (dP ha iC hs) hs) λ_ _ _=>ad8
theorem xY {tg:Expr}{body:List Stmt}{ti:dW}{p:iF}{g:TG}{own:Nat->Prop}(hp:PassesOwn (model X.prog X.w) X.A X.env X.xe)(hc:X.calm=true)(hi:QI X tg e ti)(hg:PG X tg g)(ht:lU X.K own p g)(hb:dY X body t)(hs:∀x,foldedSetIterable e X.env x=pure x:=by intro _;rfl):QS X (.For tg e body [] pos) (gA ti p t):=cW (P6 hp hc hi hg hb hs) λ_ _ _=>ad9 ht
end
section
variable {X:Cx}{ai:List (ax×Obj)}{σ:St}{H:Hp}{s:aw}{K:ad}{M M':ax→Prop}
theorem lM.inj {a:ax}{us ws:List V}(h:lM K a us)(h':lM K a ws):us=ws:=by
 obtain⟨o,its,n,e1,_,e2,_,v⟩:=h
 obtain⟨o',its',n',e1',_,e2',_,v'⟩:=h'
 rw[e1]at e1';cases e1';rw[e2]at e2';cases e2';exact v.inj v'
theorem Reps.self_of {n:Nat}(ih:∀{v:V}{x y:PV},aH K M H v x->aH K M' H v y->fO n x y=true->dC n x y=true):∀{vs:List V}{xs ys:List PV},Reps K M H vs xs->Reps K M' H vs ys->((xs.zip ys).all λp=>fO n p.1 p.2)=true->(((xs.zip ys).all λp=>dC n p.1 p.2)&&xs.length==ys.length)=true
 |_,_,_,.nil,.nil,_=>rfl
 |_,_,_,.cons r t,.cons r' t',o=>by
  simp only[aL5,List.all_cons,aG8]at o;have h1:=ih r r' o.1;have h2:=Reps.self_of ih t t' o.2;simp only[aL5,List.all_cons,h1,Bool.true_and,aK2]at h2 ⊢;rw[<- h2];congr 1;simp
theorem aH.self:∀(n:Nat) {v:V}{x y:PV},aH K M H v x->aH K M' H v y->fO n x y=true->dC n x y=true:=by
 intro n
 induction n with
 |zero=>
  intro v x y r r' o;cases r with
  |non=>cases r';rfl
  |bl b=>cases r';exact aJ5 b
  |int i=>cases r';exact aJ5 i
  |str z=>cases r';exact aJ5 z
  |_=>cases o
 |succ n ih=>
  intro v x y r r' o;cases r with
  |non=>cases r';rfl
  |bl b=>cases r';exact aJ5 b
  |int i=>cases r';exact aJ5 i
  |str z=>cases r';exact aJ5 z
  |tup h rr=>
   cases r' with
   |tup h' rr'=>rw[h]at h';cases h';exact Reps.self_of ih rr rr' o
   |_=>cases o
  |lst _ h rr=>
   cases r' with
   |lst _ h' rr'=>rw[h]at h';cases h';exact Reps.self_of ih rr rr' o
   |_=>cases o
  |kt h rr=>
   cases r' with
   |kt h' rr'=>cases lM.inj h h';exact Reps.self_of ih rr rr' o
   |_=>cases o
  |_=>cases o
theorem Reps.self (n:Nat){vs:List V}{xs ys:List PV}(r:Reps K M H vs xs)(r':Reps K M' H vs ys)(o:((xs.zip ys).all λp=>fO n p.1 p.2)=true):(((xs.zip ys).all λp=>dC n p.1 p.2)&&xs.length==ys.length)=true:=Reps.self_of (aH.self n) r r' o
theorem sB (n:Nat)(xs ys:List PV):(List.range (min xs.length ys.length)).all (λj=>dC n (xs.getD j .non) (ys.getD j .non))=(xs.zip ys).all λp=>dC n p.1 p.2:=by
 rw[aN6];simp only[aI3,aN1];constructor
 ·intro h p hp
  obtain⟨j,hj,e⟩:=List.getElem_of_mem hp
  have hj':j<min xs.length ys.length:=by simpa using hj
  have:=h j hj'
  rw[List.getElem_zip]at e;subst e;have h1:j<xs.length:=by omega
  have h2:j<ys.length:=by omega
  simpa[aH7,h1,h2] using this
 ·intro h j hj
  have h1:j<xs.length:=by omega
  have h2:j<ys.length:=by omega
  have hz:j<(xs.zip ys).length:=by simp;omega
  have:=h _ (List.getElem_mem hz)
  rw[List.getElem_zip]at this;simpa[aH7,h1,h2] using this
theorem af9 (I:aA X ai σ H s):∀(n:Nat) {A:az}{v w:V}{x y:PV}{a b:av},A.units+n<cLine->aH X.K M H v x->aH X.K M' H w y->aR v a->aR w b->fO n x y=true->SeqAt.EqAt A s a b (dC n x y):=by
 intro n
 induction n with
 |zero=>
  intro A v w x y a b hu rx ry ra rb o;cases rx with
  |non=>
   cases ra;cases ry with
   |non=>cases rb;exact SeqAt.EqAt.same _
   |int i=>obtain⟨t',rfl⟩:=rb;exact SeqAt.EqAt.none_int _ _
   |_=>cases o
  |bl i=>
   cases ra;cases ry with
   |bl j=>cases rb;exact SeqAt.EqAt.bool_bool _ _
   |_=>cases o
  |int i=>
   obtain⟨t,rfl⟩:=ra
   cases ry with
   |int j=>obtain⟨t',rfl⟩:=rb;exact SeqAt.EqAt.int_int _ _ _ _
   |non=>cases rb;exact SeqAt.EqAt.int_none _ _
   |_=>cases o
  |str i=>
   obtain⟨t,rfl⟩:=ra
   cases ry with
   |str j=>obtain⟨t',rfl⟩:=rb;exact SeqAt.EqAt.str_str _ _ _ _
   |_=>cases o
  |_=>cases o
 |succ n ih=>
  intro A v w x y a b hu rx ry ra rb o;have items:∀{us ws:List V}{xs ys:List PV}{its aq:List av},Reps X.K M H us xs->Reps X.K M' H ws ys->aP us its->aP ws aq->((xs.zip ys).all λp=>fO n p.1 p.2)=true->
    ∀j (h1:j<its.toArray.size) (h2:j<aq.toArray.size),SeqAt.EqAt A.in1 s its.toArray[j] aq.toArray[j] (dC n (xs.getD j .non) (ys.getD j .non)):=λ{us ws xs ys its aq} r1 r2 v1 v2 ok j h1 h2=>by
   have l1:=v1.length;have l2:=v2.length;have m1:=r1.length;have m2:=r2.length;have k1:j<its.length:=by simpa using h1
   have k2:j<aq.length:=by simpa using h2
   have j1:j<us.length:=by omega
   have j2:j<ws.length:=by omega
   have i1:j<xs.length:=by omega
   have i2:j<ys.length:=by omega
   obtain⟨u,hu',ru⟩:=v1.get (aF5 j1)
   obtain⟨u2,hu2',ru2⟩:=v2.get (aF5 j2)
   obtain⟨x,hx,rx⟩:=r1.get (aF5 j1)
   obtain⟨y,hy,ry⟩:=r2.get (aF5 j2)
   have e1:its.toArray[j]=u:=by
    rw[aF5 k1]at hu';simpa using hu'
   have e2:aq.toArray[j]=u2:=by
    rw[aF5 k2]at hu2';simpa using hu2'
   have ok':fO n x y=true:=by
    rw[aI3]at ok;have hz:j<(xs.zip ys).length:=by simp;omega
    have:=ok _ (List.getElem_mem hz)
    rw[List.getElem_zip]at this;rw[aF5 i1]at hx;rw[aF5 i2]at hy;cases hx;cases hy;exact this
   rw[e1,e2];have g1:xs.getD j .non=x:=by rw[aH7,hx];rfl
   have g2:ys.getD j .non=y:=by rw[aH7,hy];rfl
   rw[g1,g2];exact ih (by show A.units+1+n<cLine;omega) rx ry ru ru2 ok'
  have huA:A.units<cLine:=by omega
  cases rx with
  |@kt p us xs h1 r1=>
   obtain⟨its,v1,p1,_⟩:=I.tuple (.inr h1)
   cases (show a=Value.ref p from ra);cases ry with
   |@kt p2 ws ys h2 r2=>
    obtain⟨aq,v2,p2',_⟩:=I.tuple (.inr h2)
    cases (show b=Value.ref p2 from rb);by_cases e:p=p2
    ·subst e
     have:=aH.self (K:=X.K) (M:=M) (M':=M') (n+1) (.kt h1 r1) (.kt h2 r2) o
     rw[this];exact SeqAt.EqAt.same _
    ·have:=SeqAt.RcAt.tuples p1 p2' huA (items r1 r2 v1 v2 o)
     refine .of_refs e ?_;have l1:=v1.length;have l2:=v2.length;have m1:=r1.length;have m2:=r2.length;rw[aD9,aD9,<- l1,<- l2,m1,m2,sB]at this;exact this
   |_=>cases o
  |@tup p us xs h1 r1=>
   obtain⟨its,v1,p1,_⟩:=I.tuple (aY.of (K:=X.K) h1)
   cases (show a=Value.ref p from ra);cases ry with
   |@tup p2 ws ys h2 r2=>
    obtain⟨aq,v2,p2',_⟩:=I.tuple (aY.of (K:=X.K) h2)
    cases (show b=Value.ref p2 from rb);by_cases e:p=p2
    ·subst e
     have:=aH.self (K:=X.K) (M:=M) (M':=M') (n+1) (.tup h1 r1) (.tup h2 r2) o
     rw[this];exact SeqAt.EqAt.same _
    ·have:=SeqAt.RcAt.tuples p1 p2' huA (items r1 r2 v1 v2 o)
     refine .of_refs e ?_;have l1:=v1.length;have l2:=v2.length;have m1:=r1.length;have m2:=r2.length;rw[aD9,aD9,<- l1,<- l2,m1,m2,sB]at this;exact this
   |non=>cases rb;exact SeqAt.EqAt.tuple_none p1 huA
   |_=>cases o
  |@lst p us xs _ h1 r1=>
   obtain⟨its,v1,p1,_⟩:=I.list (b7.of (K:=X.K) h1)
   cases (show a=Value.ref p from ra);cases ry with
   |@lst p2 ws ys _ h2 r2=>
    obtain⟨aq,v2,p2',_⟩:=I.list (b7.of (K:=X.K) h2)
    cases (show b=Value.ref p2 from rb);have l1:=v1.length;have l2:=v2.length;have m1:=r1.length;have m2:=r2.length;by_cases e:p=p2
    ·subst e
     rw[h1]at h2;cases h2
     have:=Reps.self n r1 r2 o
     show SeqAt.EqAt A s _ _ ((xs.zip ys).all (λp=>dC n p.1 p.2)&&xs.length==ys.length);rw[this];exact SeqAt.EqAt.same _
    ·refine .of_refs e ?_
     by_cases hl:xs.length=ys.length
     ·have:=SeqAt.RcAt.lists p1.isList p2'.isList (by rw[aD9,aD9];omega) huA (items r1 r2 v1 v2 o)
      have hm:min xs.length ys.length=its.length:=by omega
      rw[aD9,<- hm,sB]at this;show SeqAt.RcAt A s _ _ ((xs.zip ys).all (λp=>dC n p.1 p.2)&&xs.length==ys.length);rw[show (xs.length==ys.length)=true by simpa using hl,Bool.and_true];exact this
     ·have:=SeqAt.RcAt.lists_lengths (A:=A) p1.isList p2'.isList (by rw[aD9,aD9];simp;omega) huA
      show SeqAt.RcAt A s _ _ ((xs.zip ys).all (λp=>dC n p.1 p.2)&&xs.length==ys.length);rw[show (xs.length==ys.length)=false by simpa using hl,Bool.and_false];exact this
   |_=>cases o
  |non=>
   cases ra;cases ry with
   |non=>cases rb;exact SeqAt.EqAt.same _
   |int i=>obtain⟨t',rfl⟩:=rb;exact SeqAt.EqAt.none_int _ _
   |@tup p2 ws ys h2 r2=>
    obtain⟨aq,v2,p2',_⟩:=I.tuple (aY.of (K:=X.K) h2)
    cases (show b=Value.ref p2 from rb);exact SeqAt.EqAt.none_tuple p2' huA
   |_=>cases o
  |bl i=>
   cases ra;cases ry with
   |bl j=>cases rb;exact SeqAt.EqAt.bool_bool _ _
   |_=>cases o
  |int i=>
   obtain⟨t,rfl⟩:=ra
   cases ry with
   |int j=>obtain⟨t',rfl⟩:=rb;exact SeqAt.EqAt.int_int _ _ _ _
   |non=>cases rb;exact SeqAt.EqAt.int_none _ _
   |_=>cases o
  |str i=>
   obtain⟨t,rfl⟩:=ra
   cases ry with
   |str j=>obtain⟨t',rfl⟩:=rb;exact SeqAt.EqAt.str_str _ _ _ _
   |_=>cases o
  |_=>cases o
end
structure Bt (mg:Str->Option av):Prop where
 len:mg "len" = none
 range:mg "range" = none
 tuple:mg "tuple" = none
 list:mg "list" = none
 sorted:mg "sorted" = none
 all:mg "all" = none
 any:mg "any" = none
 zip:mg "zip" = none
 min:mg "min" = none
 max:mg "max" = none
 sum:mg "sum" = none
 isinst:mg "isinstance" = none
 int:mg "int" = none
 bool:mg "bool" = none
 enum:mg "enumerate" = none
section
variable {X:Cx}{a b c e o:Expr}{es rest:List Expr}{ta tb te to tk:aE}{tr:bU}{tA tB' tc:cD}{pos p2 px:Pos}{st:Stmt}{sts:List Stmt}{t u:aX}
theorem hV (B:Bt X.mg)(ha:QA X [e] tr)(hg:Gl X "len":=by rfl)(he:starEach [e] X.env=(false,eval e X.env)::starEach [] X.env:=by rfl)(hpl:(backTo pos (starEach [] X.env)).any (·.1)=false:=by rfl):QE X (.Call (.Name "len" p2) [e] [] pos) (aZ gM tr):=
 mB (V2.or W9) ac9 hg B.len PySem.boot_len ha (he:=he) (hpl:=hpl)
theorem ag0 (B:Bt X.mg)(ha:QA X [e] tr)(hg:Gl X "tuple":=by rfl)(he:starEach [e] X.env=(false,eval e X.env)::starEach [] X.env:=by rfl)(hpl:(backTo pos (starEach [] X.env)).any (·.1)=false:=by rfl):QE X (.Call (.Name "tuple" p2) [e] [] pos) (aZ xN tr):=
 xW V3 ad1 hg B.tuple PyProof.Rows.boot_tuple ha (he:=he) (hpl:=hpl)
theorem xZ (B:Bt X.mg)(hc:X.calm=true)(ha:QA X [a,b] tr)(hg:Gl X "min":=by rfl)(he:starEach [a,b] X.env=(false,eval a X.env)::starEach [b] X.env:=by rfl)(hpl:(backTo pos (starEach [b] X.env)).any (·.1)=false:=by rfl):QE X (.Call (.Name "min" p2) [a,b] [] pos) (aZ oD tr):=
 mB (S8 hc) ad2 hg B.min PyProof.Rows.boot_min ha (he:=he) (hpl:=hpl)
theorem sC (ha:QE X a ta):QE X (.UnaryOp .USub a pos) (oH ta):=bQ (Q0 R5 ha) λσ H Q' h=>by
 obtain⟨W,ρ,Q,px,q,k⟩:=h
 refine⟨W,ρ,_,px,q,?_⟩;rintro v H1 x g s r ⟨i,rfl,q⟩;cases r
 exact⟨i,rfl,k _ _ _ .fr s (.int _) q⟩
noncomputable def y0 (K:ad)(H:Hp)(x:V)(t:av):Prop:=e9 K H x t∨∃a us,x = .ref a/\aY K H a us/\t = .type "tuple"
theorem ag1:cR X (.builtin "isinstance") (λxs H Q=>∃x t n b,xs = [x,.ty n]/\y0 X.K H x t/\PySem.W.kitOne X.K t (.type n)=some b/\Q (.bl b) H):=by
 intro ai s σ H xs us Q I r h
 obtain⟨x,t,n,b,rfl,ty,e,q⟩:=h
 rcases ty with ty|⟨a,ws,rfl,hs,rfl⟩
 ·exact X9 ai s σ H _ us Q I r ⟨x,t,n,b,rfl,ty,e,q⟩
 obtain⟨u,u',rfl,ru,ru'⟩:=nM r
 cases ru';cases (show u=Value.ref a from ru)
 obtain⟨its,_,⟨o,h1,h2,_⟩,_⟩:=I.tuple hs
 exact aI8 PySem.W.kitx_tuple I.kIn ⟨o,h1,h2⟩ e (λz=>nomatch z) λtk=>⟨.bl b,H,I.tok tk,rfl,q⟩
theorem ag2 {K:ad}{M:ax->Prop}{H:Hp}{v:V}{x:PV}{T:String}(r:aH K M H v x)(e:xK x=some T):y0 K H v (.type T):=by
 cases r with
 |non=>cases e;exact .inl .non
 |bl b=>cases e;exact .inl (.bl b)
 |int i=>cases e;exact .inl (.int i)
 |str i=>cases e;exact .inl (.str i)
 |tup h _=>cases e;exact .inl (.tup h)
 |lst _ h _=>cases e;exact .inl (.lst h)
 |kt h _=>cases e;exact .inr ⟨_,_,rfl,.inr h,rfl⟩
 |_=>cases e
theorem yA {x:Str}{n:String}(B:Bt X.mg)(hn:bootBuiltins x=some (.type n))(hm:X.mg x=none)(ha:QE X a ta)(hg:Gl X "isinstance":=by rfl)(hgx:Gl X x:=by rfl)(hx:x≠"__name__":=by decide)(hdx:(x==("__debug__":Str))=false:=by decide)(he:starEach [a,.Name x px] X.env=(false,eval a X.env)::starEach [.Name x px] X.env:=by rfl)(he2:starEach [.Name x px] X.env=(false,eval (.Name x px) X.env)::starEach [] X.env:=by rfl)(hpl:(backTo pos (starEach [.Name x px] X.env)).any (·.1)=false:=by rfl):QE X (.Call (.Name "isinstance" p2) [a,.Name x px] [] pos) (lV X.K n ta):=
 bQ (vL ag1 hg B.isinst PyProof.Rows.boot_isinstance (dP ha (dP (N3 (v:=.ty n) hgx hm hn rfl hx hdx) iC he2) he) (he:=he) (hpl:=hpl)) λσ H Q' h=>by
  obtain⟨W,ρ,Q,px,q,k⟩:=h
  refine⟨W,ρ,_,px,q,?_⟩;rintro v H1 x g s r ⟨T,b,e,kt,q⟩
  exact⟨v,_,n,b,rfl,ag2 r e,kt,k _ _ _ .fr s (.bl _) q⟩
theorem ag3 (B:Bt X.mg)(ha:QE X a ta)(hg:Gl X "isinstance":=by rfl)(hgx:Gl X "int":=by rfl)(he:starEach [a,.Name "int" px] X.env=(false,eval a X.env)::starEach [.Name "int" px] X.env:=by rfl)(he2:starEach [.Name "int" px] X.env=(false,eval (.Name "int" px) X.env)::starEach [] X.env:=by rfl)(hpl:(backTo pos (starEach [.Name "int" px] X.env)).any (·.1)=false:=by rfl):QE X (.Call (.Name "isinstance" p2) [a,.Name "int" px] [] pos) (lV X.K "int" ta):=yA B PyProof.Rows.boot_int B.int ha (hg:=hg) (hgx:=hgx) (he:=he) (he2:=he2) (hpl:=hpl)
theorem ag4 (B:Bt X.mg)(ha:QE X a ta)(hg:Gl X "isinstance":=by rfl)(hgx:Gl X "bool":=by rfl)(he:starEach [a,.Name "bool" px] X.env=(false,eval a X.env)::starEach [.Name "bool" px] X.env:=by rfl)(he2:starEach [.Name "bool" px] X.env=(false,eval (.Name "bool" px) X.env)::starEach [] X.env:=by rfl)(hpl:(backTo pos (starEach [.Name "bool" px] X.env)).any (·.1)=false:=by rfl):QE X (.Call (.Name "isinstance" p2) [a,.Name "bool" px] [] pos) (lV X.K "bool" ta):=yA B PyProof.Rows.boot_bool B.bool ha (hg:=hg) (hgx:=hgx) (he:=he) (he2:=he2) (hpl:=hpl)
end
end PP
namespace PP
open PySem L2 PyProof.Rows
section
variable {X:Cx}{a b c e o:Expr}{es rest:List Expr}{ta tb te to tk:aE}{tr:bU}{tA tB' tc:cD}{pos p2 px:Pos}{st:Stmt}{sts:List Stmt}{t u:aX}
structure Df (P:ay)(w:ba)(K:ad)(mg:Str->Option av)(base:Heap)(k:Nat)(x:Str)(ps:List Str)(p:b8):Prop where
 ex:∃f fd,cK P w K mg base bX k f fd ps (kA K p)/\fW K fd ps []/\PySem.W.keepIn K (.ref f)=true/\mg x=some (.ref f)
theorem d3 {k j:Nat}{x:Str}{ps:List Str}{p:b8}(d:Df X.prog X.w X.K X.mg X.base k x ps p)(hr:bI j X.A)(ha:QA X (e::es) tr)(hkj:k<=j:=by decide)(hg:Gl X x:=by rfl)(hdb:(x==("__debug__":Str))=false:=by decide)(he:starEach (e::es) X.env=(false,eval e X.env)::starEach es X.env:=by rfl)(hpl:(backTo pos (starEach es X.env)).any (·.1)=false:=by rfl):QE X (.Call (.Name x p2) (e::es) [] pos) (aZ p tr):=by
 obtain⟨f,fd,F,b,kp,m⟩:=d.ex
 exact bQ (lG F (hr.mono hkj) hg m kp b .nil jR ha hdb he hpl) λ_ _ _=>ad3
theorem iI {K:ad}{H:Hp}{N:List Str}{vs:List V}{xs:List PV}(r:Reps K (λ_=>True) H vs xs):PX K H (λ_=>False) (L2.dQ N vs) (bF N xs) H:=by
 have lr:=r.length;have own:∀{i:Nat}{m:Slot},(bF N xs)[i]? = some (some m)->∃x,xs[i]? = some x/\m = .sh (flat x) x:=λ{i m} h=>by
  unfold bF at h;by_cases hi:i<xs.length
  ·rw[List.getElem?_append_left (by simpa using hi),aF8]at h
   rw[aF5 hi]at h ⊢;cases h
   exact⟨_,rfl,rfl⟩
  ·rw[List.getElem?_append_right (by simpa using hi),List.getElem?_replicate]at h
   split at h<;>cases h
 refine⟨by unfold L2.dQ bF;simp[lr],aJ.refl _,λa z=>z.elim,λi m h=>?_,λi j x y a h1=>?_⟩
 ·obtain⟨x,hx,rfl⟩:=own h
  obtain⟨v,hv,rx⟩:=r.at hx
  refine⟨v,?_,oE (g:=false) (rx.same (aJ.refl _) λ_ _ z=>z)⟩;have hi:i<vs.length:=(aG1.mp hv).1;unfold L2.dQ;rw[List.getElem?_append_left (by simpa using hi),aF8,hv];rfl
 ·obtain⟨x,_,e⟩:=own h1
  cases e
theorem Df.of {P:ay}{w:ba}{K:ad}{mg:Str->Option av}{base:Heap}{k:Nat}{x:Str}{ps N:List Str}{p:b8}{st:Stmt}{f:ax}{fd:FuncData}(F:bN K x x st f fd)(m:mg x=some (.ref f))(S:FnScope N ps (aK st))(hb:∀(kV doc pm:av) (an:Option ax) (cdv ct:av) (us:List av),us.length=ps.length->bindArgs (PySem.W.fnOf x x (bK st) (bB st) (aK st) .none kV doc pm an cdv ct) ⟨us,[]⟩=pure (ps.zip us))(len:∀xs Q,p xs Q->xs.length=ps.length)(body:∀(cdv:av) (A:az) (outer:List Env) (s:aw) (H:Hp) (E:XK),bI k (A.deeper (envOfC x (aK st) s.heap.objs.size f cdv))->
   ∃t,dY (bV bX P w K mg base N x (aK st) f cdv A outer s H E).nox (bB st) t/\∀xs Q,p xs Q->t { nx:=λ_=>Q .non,rt:=Q } (bF N xs)):Df P w K mg base (k+1) x ps p:=by
 refine⟨f,fd,F.ok S (λvs H Q E h=>?_) (λcdv A outer s H vs Q E hr h=>?_),F.binds hb,F.kp,m⟩
 ·obtain⟨xs,Qp,r,q,_⟩:=h
  rw[r.length];exact len xs Qp q
 ·obtain⟨xs,Qp,r,q,k⟩:=h
  obtain⟨t,ht,hq⟩:=body cdv A outer s H E hr
  refine⟨_,ht,λ_=>False,bF N xs,_,iI r,hq xs Qp q,?_,?_,?_,?_⟩
  ·exact λW' σ' H' ρ' e px q=>k _ _ _ px.same .non q
  ·exact λv H' x s r q=>k _ _ _ s r q
  ·exact λW' σ' H' ρ' e px q=>q
  ·exact λW' σ' H' ρ' e px q=>q
theorem iJ (i:Nat){x:Str}{tp:Pos}{body:List Stmt}{ti:dW}(hN:X.N.Nodup)(hi:QI X (.Name x tp) e ti)(hb:dY X body t)(hx:X.N[i]? = some x:=by rfl)(hl:eZ X.env.scope x:=by first|exact Or.inl rfl|exact Or.inr rfl)(hf:X.fn x=true∨X.env.scope.names.lookup x=some .local:=by first|exact .inl rfl|exact .inr rfl)(hp:PassesOwn (model X.prog X.w) X.A X.env X.xe:=by exact PassesOwn.never)(hc:X.calm=true:=by rfl)(hs:∀x,foldedSetIterable e X.env x=pure x:=by intro _;rfl):QS X (.For (.Name x tp) e body [] pos) (gA ti (eV i) t):=
 xY hp hc hi (jL hN hx hl hf) (oF _ i) hb hs
theorem sD (i j:Nat){x y:Str}{tp xp yp:Pos}{kt:Nat}{body:List Stmt}{ti:dW}(hN:X.N.Nodup)(hi:QI X (.Tuple [.Name x xp,.Name y yp] kt tp) e ti)(hb:dY X body t)(hx:X.N[i]? = some x:=by rfl)(hy:X.N[j]? = some y:=by rfl)(hlx:eZ X.env.scope x:=by first|exact Or.inl rfl|exact Or.inr rfl)(hly:eZ X.env.scope y:=by first|exact Or.inl rfl|exact Or.inr rfl)(hfx:X.fn x=true∨X.env.scope.names.lookup x=some .local:=by first|exact .inl rfl|exact .inr rfl)(hfy:X.fn y=true∨X.env.scope.names.lookup y=some .local:=by first|exact .inl rfl|exact .inr rfl)(hp:PassesOwn (model X.prog X.w) X.A X.env X.xe:=by exact PassesOwn.never)(hc:X.calm=true:=by rfl)(hs:∀x,foldedSetIterable e X.env x=pure x:=by intro _;rfl):QS X (.For (.Tuple [.Name x xp,.Name y yp] kt tp) e body [] pos) (gA ti (kC i j) t):=
 xY hp hc hi (uU hc (nF (jL hN hx hlx hfx) (nF (jL hN hy hly hfy) uT))) (xF _ i j) hb hs
noncomputable abbrev cN:av->aw->Prop:=λ_ _=>False
section
variable {scope:Scope}{N:List Str}{fr:List (Option Nat)}{x y:Str}{tp xp yp:Pos}{kt:Nat}{iter elt:Expr}{ti:dW}
theorem sE {ifs:List Expr}{tcs:cD}(he:∀(s:aw) (H:Hp) (C:ax) (fp:List ax),QE (bY X scope N s H C fp cN) elt te)(hi:∀(s:aw) (H:Hp) (C:ax) (fp:List ax),iX (bY X scope N s H C fp cN) ifs (LT (bY X scope N s H C fp cN) tcs))(hN:N.Nodup)(h0:N[0]? = some x)(hl:∀(s:aw) (H:Hp) (C:ax) (fp:List ax),(bY X scope N s H C fp cN).env.scope.names.lookup x=some .local)(s:aw)(H:Hp) :
  lJ X scope N (.Name x tp) ifs elt s H (cU 0) (LT (X.frm H) tcs) (LE (X.frm H) te):=
 ⟨λC fp=>jL (X:=bY X scope N s H C fp cN) hN h0 (.inl (hl s H C fp)) (.inr (hl s H C fp)),λC fp=>hi s H C fp,λC fp=>he s H C fp⟩
theorem sF {Y:Cx}:iX Y [] (LT Y gB):=λai s σ H Q I h=>X2 ai s σ H Q I (ae2 h)
theorem ag5 (hi:QI X (.Name x tp) iter ti)(he:∀(s:aw) (H:Hp) (C:ax) (fp:List ax),QE (bY X scope N s H C fp cN) elt te)(hc:X.calm=true:=by rfl)(S:dH X scope N fr:=by exact dH.of rfl rfl)(hN:N.Nodup:=by decide +kernel)(h0:N[0]? = some x:=by rfl)(hl:∀(s:aw) (H:Hp) (C:ax) (fp:List ax),(bY X scope N s H C fp cN).env.scope.names.lookup x=some .local:=by intro _ _ _ _;rfl)(hf:fr[0]? = some none:=by rfl)(hs:∀x,foldedSetIterable iter X.env x=pure x:=by intro _;rfl):QE X (.ListComp elt [⟨.Name x tp,iter,[],0⟩] scope pos) (hU ti fr (eV 0) gB te):=
 bQ (qV (gh:=λ_=>cU 0) (tch:=λH=>LT (X.frm H) gB) (teh:=λH=>LE (X.frm H) te) hc S hi (sE he (λ_ _ _ _=>sF) hN h0 hl) hs) λ_ _ _=>oG (oF _ 0) (λi e=>by subst e;exact hf)
theorem ag6 {c:Expr}{tcs:cD}(hi:QI X (.Name x tp) iter ti)(ht:∀(s:aw) (H:Hp) (C:ax) (fp:List ax),QT (bY X scope N s H C fp cN) c tcs)(he:∀(s:aw) (H:Hp) (C:ax) (fp:List ax),QE (bY X scope N s H C fp cN) elt te)(hc:X.calm=true:=by rfl)(S:dH X scope N fr:=by exact dH.of rfl rfl)(hN:N.Nodup:=by decide +kernel)(h0:N[0]? = some x:=by rfl)(hl:∀(s:aw) (H:Hp) (C:ax) (fp:List ax),(bY X scope N s H C fp cN).env.scope.names.lookup x=some .local:=by intro _ _ _ _;rfl)(hf:fr[0]? = some none:=by rfl)(hs:∀x,foldedSetIterable iter X.env x=pure x:=by intro _;rfl):QE X (.ListComp elt [⟨.Name x tp,iter,[c],0⟩] scope pos) (hU ti fr (eV 0) tcs te):=
 bQ (qV (gh:=λ_=>cU 0) (tch:=λH=>LT (X.frm H) tcs) (teh:=λH=>LE (X.frm H) te) hc S hi (sE he (λs H C fp=>X3 (ht s H C fp)) hN h0 hl) hs) λ_ _ _=>oG (oF _ 0) (λi e=>by subst e;exact hf)
theorem ag7 {i:Nat}{z:Str}{zp:Pos}(nd:X.N.Nodup)(hi:QI X (.Name x tp) iter ti)(he:∀(s:aw) (H:Hp) (C:ax) (fp:List ax),QE (bY X scope N s H C fp cN) elt te)(hz:X.N[i]? = some z:=by rfl)(hzl:X.env.scope.names.lookup z=some .local:=by rfl)(hsw:swapsWith (.ListComp elt [⟨.Name x tp,iter,[],0⟩] scope p2) (some (.Name z zp)) pos.line X.env=pure true:=by rfl)(hc:X.calm=true:=by rfl)(S:dH X scope N fr:=by exact dH.of rfl rfl)(hN:N.Nodup:=by decide +kernel)(h0:N[0]? = some x:=by rfl)(hl:∀(s:aw) (H:Hp) (C:ax) (fp:List ax),(bY X scope N s H C fp cN).env.scope.names.lookup x=some .local:=by intro _ _ _ _;rfl)(hf:fr[0]? = some none:=by rfl)(hs:∀x,foldedSetIterable iter X.env x=pure x:=by intro _;rfl):QS X (.Assign [.Name z zp] (.ListComp elt [⟨.Name x tp,iter,[],0⟩] scope p2) pos) (cV i (hU ti fr (eV 0) gB te)):=
 cW (X7 (gh:=λ_=>cU 0) (tch:=λH=>LT (X.frm H) gB) (teh:=λH=>LE (X.frm H) te) hc S hi (sE he (λ_ _ _ _=>sF) hN h0 hl) nd hz hzl hsw hs) λD σ H h=>oG (oF _ 0) (λi e=>by subst e;exact hf) (x9 h)
end
theorem ag8:lI X "list.extend" (xB X.K):=λai s σ H x xs v us Q I rx rs h=>h.elim (V6 ai s σ H x xs v us Q I rx rs) (Y4 ai s σ H x xs v us Q I rx rs)
theorem ag9 (i:Nat){x:Str}{aj am xpos:Pos}(he:QE X e te)(hN:X.N[i]? = some x:=by rfl)(hv:d7 X.env.scope x:=by first|exact Or.inl rfl|exact Or.inr (Or.inl rfl)|exact Or.inr (Or.inr rfl))(hd:(x==("__debug__":Str))=false:=by decide)(hcd:(x==("__classdict__":Str))=false:=by decide)(hbase:attributeBase (.Name x xpos) "extend" X.env (eval (.Name x xpos) X.env)=eval (.Name x xpos) X.env:=by rfl)(hfew:((backTo am (starEach [e] X.env)).all (λx=>!x.1)&&(backToKw am (keywordEach [] X.env)).all (λx=>x.1.isSome)&&decide (([e]:List Expr).length+([]:List Keyword).length+(if ([]:List Keyword).isEmpty then 0 else 1)<30))=true:=by rfl)(hline:(aj.endLine==am.line)=true:=by rfl)(hs:starEach [e] X.env=(false,eval e X.env)::starEach [] X.env:=by rfl)(ar:(backTo am (starEach [] X.env)).any (·.1)=false:=by rfl)(hsw:swapsWith (.Call (.Attribute (.Name x xpos) "extend" aj) [e] [] am) none pos.line X.env=pure false:=by rfl) :
  QS X (.Expr (.Call (.Attribute (.Name x xpos) "extend" aj) [e] [] am) pos) (rC i te):=
 cW (kY (vX PySem.F.plainAttrs_list PySem.F.slot_list_extend PySem.F.type_list_extend ag8 (fC hN hv hd hcd) (dP he iC hs) hbase hfew hline hs ar) hsw) λ_ _ _=>ac5
theorem yB {i:Nat}{x:Str}{xpos tpos:Pos}(hk:QE X a tk)(he:QE X e te)(hN:X.N[i]? = some x:=by rfl)(hv:d7 X.env.scope x:=by first|exact Or.inl rfl|exact Or.inr (Or.inl rfl)|exact Or.inr (Or.inr rfl))(hd:(x==("__debug__":Str))=false:=by decide)(hcd:(x==("__classdict__":Str))=false:=by decide)(hp:∀(tx:TE) (tg:TE),PE X (.Name x xpos) tx->PE X a tg->PG X (.Subscript (.Name x xpos) a tpos) (pU tx tg qI):=by intro _ _ h1 h2;exact O4 h1 h2 V1)(hs:swapsWithSole [.Subscript (.Name x xpos) a tpos] e pos.line X.env=pure false:=by rfl)(hw:swappedStores [.Subscript (.Name x xpos) a tpos] e X.env=pure none:=by rfl) :
  QS X (.Assign [.Subscript (.Name x xpos) a tpos] e pos) (oC i tk te):=cW (O5 he (hp _ _ (fC hN hv hd hcd) hk) hs hw) λ_ _ _=>ac6
end
end PP
namespace SO
open PySem PyProof.Rows
variable {rk:Keyed→Int}
noncomputable abbrev LS:=Option (Array Keyed)×Array Keyed×Nat×Nat×Nat×Nat×Nat
variable {rk:Keyed→Int}{xs ys o:List Keyed}{i j:Nat}
variable {rk:Keyed→Int}{xs ys o:List Keyed}{i j:Nat}
variable {rk:Keyed→Int}
noncomputable def Ch:Nat->List (Nat×Nat)->Nat->Prop
 |a,[],b=>a=b
 |a,(p,n)::r,b=>p=a/\0<n/\Ch (a+n) r b
variable {rk:Keyed→Int}{κ:SortKind}{a0:Array Keyed}{pd:Array (Nat×Nat×Nat)}{st:SortSt}{prog:ay}{w:ba}{A:az}{E:av→aw→Prop}{s:aw}{Ok:Keyed→Prop}
noncomputable abbrev RS:=Option Unit×Nat
noncomputable def mrg (sz pw:Nat):StateT SortSt Sem (Option Unit×Unit):=forIn [0:sz] ((none,()):Option Unit×Unit) λ_ _=>do
 let z <- get
 match (if (pendingOf z).size>1 then (pendingOf z)[(pendingOf z).size-2]? else none) with
 |some (_,_,o)=>if o<=pw then pure (.done (none,())) else do
   let q <- mergeAt' ((pendingOf z).size-2)
   if (!q)=true then pure (.done (some (),())) else pure (.yield (none,()))
 |_=>pure (.done (none,()))
noncomputable def jn (sz lo n:Nat):StateT SortSt Sem (ForInStep RS):=do
 let z <- get
 match (pendingOf z).back? with
 |some (s1,n1,_)=>do
  let r <- mrg sz (power' sz (2*s1+n1) (2*s1+n1+n1+n) sz)
  match r.1 with
  |some u=>pure (.done (some u,lo))
  |none=>do
   modify λs=>setPending s ((pendingOf s).modify ((pendingOf s).size-1) λx=>(x.1,x.2.1,power' sz (2*s1+n1) (2*s1+n1+n1+n) sz))
   modify λs=>setPending s ((pendingOf s).push (lo,n,0))
   pure (.yield (none,lo+n))
 |_=>do
  modify λs=>setPending s ((pendingOf s).push (lo,n,0))
  pure (.yield (none,lo+n))
end SO
namespace L2
open PySem PySem.Spec PyProof.Rows
theorem bG.at {P:ay}{w:ba}{H:Hp}{h:Heap}{a:ax}{o:HO}(x:bG P w H h a o):∃ob,h.get? a=some ob:=by
 cases o with
 |lst xs=>obtain⟨_,_,_,_,e⟩:=x;exact⟨_,e⟩
 |tup xs=>obtain⟨_,_,_,⟨_,e,_⟩,_⟩:=x;exact⟨_,e⟩
 |dK kvs=>obtain⟨_,_,_,_,_,_,_,e,_⟩:=x;exact⟨_,e⟩
 |dT kvs=>obtain⟨_,_,_,_,_,_,_,e,_⟩:=x;exact⟨_,e⟩
 |set S n=>obtain⟨_,_,_,_,e,_⟩:=x;exact⟨_,e⟩
 |ins C dx fs=>obtain⟨_,_,_,e,_⟩:=x;exact⟨_,e⟩
 |own y=>exact x
 |xd fs=>obtain⟨_,⟨_,_,_,e,_⟩,_⟩:=x;exact⟨_,e⟩
 |rng lo hi=>obtain⟨_,_,_,e⟩:=x;exact⟨_,e⟩
 |frz ob u=>obtain⟨e,_⟩:=x;exact⟨_,e⟩
 |tbl ps=>obtain⟨_,e,_⟩:=x;exact⟨_,e⟩
 |code q=>obtain⟨_,_,_,e,_⟩:=x;exact⟨_,e⟩
 |cd c q=>exact x.1
 |dA kvs=>obtain⟨_,_,_,_,_,_,_,e,_⟩:=x;exact⟨_,e⟩
 |dB kvs=>obtain⟨_,_,_,_,_,_,_,e,_⟩:=x;exact⟨_,e⟩
 |met f y=>exact⟨_,x⟩
 |ext φ=>exact x.2.1
structure sG (P:ay)(w:ba)(outer:List Env)(H:Hp)(s:aw)(H':Hp)(B:Heap)(a C:ax)(s':aw):Prop where
 os:s'.os=s.os
 bare:AllBare s'.gens
 un:Un (bS outer) [] H H' s.heap s'.heap
 hok:bJ P w H' s'.heap
 fly:∃a0,Heap.FlyingW B outer a (.ref C) a0 s'.heap
 b0:∀b o,s.heap.get? b=some o->b∉bS outer->∃o',B.get? b=some o'
 b1:∀b o,s.heap.get? b=some o->H b=none->b∉bS outer->B.get? b=some o
 b2:∀b u o,H' b=some u->s'.heap.get? b=some o->B.get? b=some o
noncomputable def eG (P:ay)(w:ba):dG:=λouter H s E e s'=>∃(H':Hp) (B:Heap) (a C:ax),e = .ref a/\sG P w outer H s H' B a C s'/\E (.ref C) none H'
section
variable {P:ay}{w:ba}{outer:List Env}{H H':Hp}{s s':aw}{B h2:Heap}{a C:ax}
theorem sG.hok2 (f:sG P w outer H s H' B a C s')(k:B.StaysIn h2):bJ P w H' h2:=λb u e=>
 (f.hok b u e).stay (λc v hc q=>by
  rcases hc with z|z
  ·subst z;exact k _ _ (f.b2 _ _ _ e q)
  ·exact k _ _ (f.b2 _ _ _ z q)) (λ_ q=>q) λ_ _ q=>q
end
section
variable {P:ay}{w:ba}{K:ad}{mg:Str→Option av}{base:Heap}{N:List Str}{qual:Str}{scope:Scope}{f:ax}{cd:av}{A:az}{outer:List Env}{s₀:aw}{H₀:Hp}{E₀ E₁:XK}
theorem oP {ai:List (ax×Obj)}{σ:St}{H:Hp}{s:aw}(I:aA (bV (eG P w) P w K mg base N qual scope f cd A outer s₀ H₀ E₀) ai σ H s){b:ax}{o:Obj}(e:s₀.heap.get? b=some o)(n:b∉bS outer) :
  b∉bS (envOfC qual scope s₀.heap.objs.size f cd::outer):=λz=>by
 rcases aE2.mp (I.stkSub b z) with y|y
 ·have l:=aE8 e
  have y:b=s₀.heap.objs.size:=y;exact absurd l (by rw[y];exact aI5 _)
 ·exact n y
theorem ah0 (hE:∀c d H',E₁ c d H'->E₀ c d H'):iV (eG P w) (bV (eG P w) P w K mg base N qual scope f cd A outer s₀ H₀ E₀) E₁:=by
 intro ai σ H s e s' I hx
 obtain⟨H',B,a,C,e1,fl,q⟩:=hx
 subst e1;have I':=I.call' fl.os fl.un fl.hok fl.bare (ch:=[]) (λb z=>absurd z (by simp))
 obtain⟨a0,fly⟩:=fl.fly
 refine wpAny_leaves_onW I.ok.frames rfl fly λh' fly' up=>?_
 have slot:∀b o,s₀.heap.get? b=some o->b∈bS outer->∃sl,h'.get? b=some { o with slots:=sl }:=λb o e hb=>by
  obtain⟨sl,e1⟩:=I'.base.slot b o e (I.ok.frf b hb) hb (λz=>nomatch z)
  obtain⟨_,o2,e2,nf⟩:=I.ok.funs.mem hb
  rw[show (bV (eG P w) P w K mg base N qual scope f cd A outer s₀ H₀ E₀).s₀=s₀ from rfl,e]at e2;cases e2
  obtain⟨sl',e3⟩:=up b _ e1 nf
  exact⟨sl',e3⟩
 have old:∀b o,s₀.heap.get? b=some o->H₀ b=none->b∉bS outer->B.get? b=some o:=λb o e n hb=>
  fl.b1 b o (I.base.keep b o e n hb (λz=>nomatch z)) (I.base.free b o e n (λz=>nomatch z)) (oP I e hb)
 have old0:∀b o,s₀.heap.get? b=some o->b∉bS outer->∃o',B.get? b=some o':=λb o e hb=>by
  obtain⟨o1,e1⟩:=I.base.there b o e (λz=>nomatch z)
  exact fl.b0 b o1 e1 (oP I e hb)
 refine⟨H',B,a,C,rfl,⟨I'.os,I'.bare,⟨λb o e n hb _=>fly'.1 _ _ (old b o e n hb),λb o e n hb _=>slot b o e hb,λb o e n hx=>I'.base.free b o e n hx,λb o e _=>?_,I'.base.tups,I'.base.frzs,I'.base.tbls⟩,fl.hok2 fly'.1,⟨a0,fly'⟩,old0,old,λb u o e h=>?_⟩,hE _ _ _ q⟩
 ·by_cases hb:b∈bS outer
  ·obtain⟨sl,e1⟩:=slot b o e hb
   exact⟨_,e1⟩
  ·obtain⟨o',e1⟩:=old0 b o e hb
   exact⟨o',fly'.1 _ _ e1⟩
 ·obtain⟨ob,e1⟩:=(fl.hok b u e).at
  have e2:=fl.b2 b u ob e e1;have e3:=fly'.1 _ _ e2;have h:h'.get? b=some o:=h;rw[h]at e3;cases e3;exact e2
theorem ah1 {ai:List (ax×Obj)}{σ:St}{H:Hp}{s:aw}{h':Heap}{e C:ax}{args:List av}(I:aA (bV (eG P w) P w K mg base N qual scope f cd A outer s₀ H₀ E₀) ai σ H s)(mx:Heap.MadeExcOf s.heap h' e (.ref C) args)(q:E₀ (.ref C) none H) :
  (bV (eG P w) P w K mg base N qual scope f cd A outer s₀ H₀ E₀).xe (.ref e) { s with heap:=h' }:=by
 have tr:∀b u,H b=some u->b∉bS (envOfC qual scope s₀.heap.objs.size f cd::outer):=λb u z n=>by
  rw[I.stkFree b n]at z;cases z
 have inB:∀b o,s.heap.get? b=some o->b∉bS (envOfC qual scope s₀.heap.objs.size f cd::outer)->(PySem.W.hideAll s.heap (bS (envOfC qual scope s₀.heap.objs.size f cd::outer))).get? b=some o:=λb o z n=>PySem.W.hideAll_get _ z n
 refine wpAny_leaves_madeW (base:=PySem.W.hideAll s.heap (bS (envOfC qual scope s₀.heap.objs.size f cd::outer))) I.ok.frames rfl (λb o z=>PySem.W.of_hideAll _ z) (PySem.W.funFrames_hide I.stack λenv he b hb=>List.mem_filterMap.mpr ⟨env,he,hb⟩) mx λh'' t fly _ _ up=>?_
 have slot:∀b o,s₀.heap.get? b=some o->b∈bS outer->∃sl,h''.get? b=some { o with slots:=sl }:=λb o e hb=>by
  obtain⟨sl,e1⟩:=I.base.slot b o e (I.ok.frf b hb) hb (λz=>nomatch z)
  obtain⟨_,o2,e2,nf⟩:=I.ok.funs.mem hb
  rw[show (bV (eG P w) P w K mg base N qual scope f cd A outer s₀ H₀ E₀).s₀=s₀ from rfl,e]at e2;cases e2
  obtain⟨sl',e3⟩:=up b _ (mx.keeps _ _ e1) nf
  exact⟨sl',e3⟩
 have old:∀b o,s₀.heap.get? b=some o->H₀ b=none->b∉bS outer->(PySem.W.hideAll s.heap (bS (envOfC qual scope s₀.heap.objs.size f cd::outer))).get? b=some o:=λb o e n hb=>
  inB b o (I.base.keep b o e n hb (λz=>nomatch z)) (oP I e hb)
 have old0:∀b o,s₀.heap.get? b=some o->b∉bS outer->∃o',(PySem.W.hideAll s.heap (bS (envOfC qual scope s₀.heap.objs.size f cd::outer))).get? b=some o':=λb o e hb=>by
  obtain⟨o1,e1⟩:=I.base.there b o e (λz=>nomatch z)
  exact⟨o1,inB b o1 e1 (oP I e hb)⟩
 refine⟨H,_,e,C,rfl,⟨I.os,I.bare,⟨λb o e n hb _=>fly.1 _ _ (old b o e n hb),λb o e n hb _=>slot b o e hb,λb o e n hx=>I.base.free b o e n hx,λb o e _=>?_,I.base.tups,I.base.frzs,I.base.tbls⟩,λb u z=>?_,⟨_,fly⟩,old0,old,λb u o z h=>?_⟩,q⟩
 ·by_cases hb:b∈bS outer
  ·obtain⟨sl,e1⟩:=slot b o e hb
   exact⟨_,e1⟩
  ·obtain⟨o',e1⟩:=old0 b o e hb
   exact⟨o',fly.1 _ _ e1⟩
 ·refine (I.hok b u z).stay (λc v hc y=>?_) (λ_ y=>y) λ_ _ y=>y
  rcases hc with z'|z'
  ·subst z';exact fly.1 _ _ (inB _ _ y (tr _ _ z))
  ·exact fly.1 _ _ (inB _ _ y (tr _ _ z'))
 ·obtain⟨ob,e1⟩:=(I.hok b u z).at
  have e2:=inB b ob e1 (tr b u z);have e3:=fly.1 _ _ e2;have h:h''.get? b=some o:=h;rw[h]at e3;cases e3;exact e2
end
structure oQ (X:Cx)(E:XK):Prop where
 pass:iV (eG X.prog X.w) X E
 made:∀(ai:List (ax×Obj)) (σ:St) (H:Hp) (s:aw) (h':Heap) (e C:ax) (args:List av),aA X ai σ H s->Heap.MadeExcOf s.heap h' e (.ref C) args->E (.ref C) none H->X.xe (.ref e) { s with heap:=h' }
 own:PassesOwn (model X.prog X.w) X.A X.env X.xe
theorem ah2 {P:ay}{w:ba}{K:ad}{mg:Str->Option av}{base:Heap}{N:List Str}{qual:Str}{scope:Scope}{f:ax}{cd:av}{A:az}{outer:List Env}{s₀:aw}{H₀:Hp}{E₀ E₁:XK}(hE:∀c d H',E₁ c d H'->E₀ c d H') :
  oQ (bV (eG P w) P w K mg base N qual scope f cd A outer s₀ H₀ E₀) E₁:=
 ⟨ah0 hE,λ_ _ _ _ _ _ _ _ I mx q=>ah1 I mx (hE _ _ _ q),PassesOwn.leaving⟩
noncomputable def yC (E:XK)(C:ax)(t:TA):TS:=λ_ σ H=>t σ H λvs H1=>vs.length<=sizeLine/\E (.ref C) none H1
theorem ah3 {X:Cx}{E:XK}{x:Str}{C:ax}{bm:List av}{B newId initId:String}{np am pos:Pos}{e:Expr}{es:List Expr}{t:TA}(hX:oQ X E)(hc:X.calm=true)(O:OwnCls x C bm newId X.mg X.base)(FB:ExcBaseFacts B newId initId bm)(ha:PA X (e::es) t)(hg:Gl X x)(hd:(x==("__debug__":Str))=false:=by decide)(he:starEach (e::es) X.env=(false,eval e X.env)::starEach es X.env:=by rfl)(hpl:(backTo am (starEach es X.env)).any (·.1)=false:=by rfl) :
  PS X (.Raise (some (.Call (.Name x np) (e::es) [] am)) none pos) (yC E C t):=by
 intro ai s σ H D I h
 obtain⟨tl,Na,nm,qn,bs,hx,sn,sub,ab,col,dd,k0,k1,k2,k3,k5,mN,hC,hN,hni,T⟩:=O.obj
 refine wpAny_Raise_call_subT (nm:=nm) (q:=qn) (N:=Na) (bs:=bs) (bm:=tl) (hdct:=hx) (sn:=sn) (sub:=sub) (ab:=ab) (col:=col) (dd:=dd) (k0:=k0) (k1:=k1) (k2:=k2) (k3:=k3) (k5:=k5) FB (C:=C) (mN:=mN) (T.hasType FB.hasBase) (I.ok.hd hc) (by rw[he];show (false||(backTo am (starEach es X.env)).any (·.1))=false;rw[hpl];rfl) hni (nA I hg O.bound ⟨rfl,?_⟩ hd);have h1:=ha am ai s σ H _ I h;rw[he]at h1 ⊢;refine Calls.evalArgs_plain (aH9 h1 (λus s2 h2=>?_) λ_ _ y=>y)
 obtain⟨vs,H2,I2,r,hl,q⟩:=h2
 have r:aP vs us:=r
 exact⟨rfl,by show us.length<=sizeLine;rw[<- r.length];exact hl,I2.bk _ _ hC,hN.keeps I2.bk,T.keeps I2.bk,λh' e' mx=>hX.made ai σ H2 s2 h' e' C _ I2 mx q⟩
theorem bN.okX {P:ay}{w:ba}{K:ad}{mg:Str->Option av}{base:Heap}{x qual:Str}{st:Stmt}{f:ax}{fd:FuncData}{N ps:List Str}{k:Nat}{sp:Sp}(F:bN K x qual st f fd)(S:FnScope N ps (aK st))(len:∀vs H Q E,sp vs H Q E->vs.length=ps.length)(hbody:∀(cdv:av) (A:az) (outer:List Env) (s:aw) (H:Hp) (vs:List V) (Q:VK) (E:XK),bI k (A.deeper (envOfC qual (aK st) s.heap.objs.size f cdv))->sp vs H Q E->
   ∃t,cQ (bV (eG P w) P w K mg base N qual (aK st) f cdv A outer s H E) (bB st) t/\t { nx:=λ_ H'=>Q .non H',rt:=Q } (dQ N vs) H):cK P w K mg base (eG P w) (k+1) f fd ps sp:=by
 obtain⟨oc,od,kV,doc,pm,an,cdv,ct,osl,rfl,lk,hcd⟩:=F.ex
 exact qE lk hcd S len λA outer s H vs Q E hr hsp=>hbody cdv A outer s H vs Q E hr hsp
section
variable {X:Cx}{ai:List (ax×Obj)}{σ:St}{H H1 H':Hp}{s s1 s':aw}{B h2:Heap}{a C:ax}
noncomputable abbrev Cx.suite (X:Cx)(a:ax):Cx:={ X with A:=X.A.mark (some (.ref a)),calm:=false,xe:=λ_ _=>False }
end
noncomputable abbrev TB:=d8->XK->St->Hp->Prop
section
variable {X:Cx}{ai:List (ax×Obj)}{σ:St}{H H':Hp}{s:aw}{a:ax}
theorem aA.reH (I:aA X ai σ H s)(d:∀b,b≠a->H' b=H b)(ha:∃x,H a=some x)(tup:∀xs,H a≠some (.tup xs))(frz:∀o v,X.H₀ a≠some (.frz o v))(tbl:∀ps,H a≠some (.tbl ps))(hok:bJ X.prog X.w H' s.heap):aA X ai σ H' s:=by
 have none:∀b,H b=none->H' b=none:=λb e=>by
  rw[d b λz=>?_];exact e
  obtain⟨x,hx⟩:=ha
  rw[z,hx]at e;cases e
 refine⟨I.ok,I.os,I.bare,⟨I.base.keep,I.base.slot,λb o e n hx=>none b (I.base.free b o e n hx),I.base.there,λb xs q=>?_,λb o u q=>?_,λb ps q=>?_⟩,I.loc,I.cell,none _ I.free,λx c e=>none c (I.freeC x c e),λp hp=>?_,hok,I.len⟩
 ·have e:=I.base.tups b xs q
  rw[d b λz=>tup xs (by rw[<- z];exact e)];exact e
 ·rw[d b λz=>frz o u (by rw[<- z];exact q)];exact I.base.frzs b o u q
 ·obtain⟨more,e⟩:=I.base.tbls b ps q
  exact⟨more,by rw[d b λz=>tbl _ (by rw[<- z];exact e)];exact e⟩
 ·obtain⟨e,n,r⟩:=I.pin p hp
  exact⟨e,none _ n,r⟩
end
noncomputable def yD (a:ax)(o:Obj)(ys:List V):It:=
 ⟨λi H=>(∃u,H a=some (.frz o u))/\i<ys.length,λi H v H'=>H'=H/\ys[i]? = some v,λi H=>(∃u,H a=some (.frz o u))/\i=ys.length⟩
theorem ah4 {P:ay}{w:ba}{K:ad}{tg:Expr}{o:Obj}{es:Array DictEntry}{ep:Nat}{ys:List V}(a it:ax)(od:o.ExactDict/\o.data = .dict es ep)(vl:aP ys (es.toList.map (·.key))) :
  iA P w K tg (yD a o ys) [it] it (λi h=>h.IsKeyIter it a i es.size ep):=by
 have hs:es.size=ys.length:=by
  have:=vl.length
  rw[aD8,Array.length_toList]at this;exact this.symm
 refine⟨by simp,λi h st b hb=>?_,λi h h' st k=>st.at λo e=>k it (by simp) o e,?_,?_,λ_ _ _ _ _ st q=>wpAny_pyIter_keyiter st q⟩
 ·obtain rfl:b=it:=by simpa using hb
  obtain⟨o,e,c,d⟩:=st
  exact⟨o,e,λv z=>by rw[d]at z;cases z⟩
 ·intro X hP hw hK hc i ai s σ H E I hf st hg
  subst hP hw hK
  obtain⟨⟨u,hu⟩,hi⟩:=hg
  obtain⟨f0,f1,f2,f3,f4,f5⟩:=hf it (by simp)
  refine Raw.turn (I.ok.hd hc) st ⟨o,(I.hok a _ hu).1,od.1,od.2⟩ (λlt h' again sb=>?_) (λge=>absurd ge (by omega));have I1:aA X ai σ H { s with heap:=h' }:=I.turned (t':=s.toks) (λb o hb e=>(sb.2 b hb).trans e) f0 f1 f3 f4 f5;have hv:=aF5 hi
  obtain⟨key,hk,rv⟩:=vl.get hv
  obtain rfl:key=es[i].key:=by
   rw[aF8]at hk;simp[lt]at hk;exact hk.symm
  obtain⟨o',e,c,d⟩:=id again
  exact⟨es[i].key,rfl,nH (s:={ s with heap:=h' }) e c d (by decide) ⟨_,H,I1,rv,⟨rfl,hv⟩,again,λb hb=>(hf b hb).1⟩⟩
 ·intro X hP hw hK hc i ai s σ H E I hf st hg
  subst hP hw hK
  obtain⟨⟨u,hu⟩,hi⟩:=hg
  obtain⟨f0,f1,f2,f3,f4,f5⟩:=hf it (by simp)
  exact Raw.turn (I.ok.hd hc) st ⟨o,(I.hok a _ hu).1,od.1,od.2⟩ (λlt=>absurd lt (by omega)) λ_ h' eb=>⟨rfl,I.turned (t':=s.toks) (λb o hb e=>eb b o hb e) f0 f1 f3 f4 f5⟩
end L2
namespace Core
open PySem L2 PP
noncomputable def kin (ws:ag)(ls:aa)(S:ag)(h:Int):Bool:=!decide (h∈S)&&decide (ws.getD h.toNat 0<=(((wL ls h).filter λx=>decide (x∈S)).length:Int))
noncomputable def nextOf (ws:ag)(ls:aa)(S:ag):ag:=((List.range ws.length).map λ(i:Nat)=>(i:Int)).filter (kin ws ls S)
noncomputable def mC (ws:ag)(ls:aa)(S:ag):Nat->ag
 |0=>S
 |k+1=>mC ws ls S k++nextOf ws ls (mC ws ls S k)
noncomputable def after (ws:ag)(ls:aa)(S:ag)(m:Nat):ae:=(List.range m).map λk=>nextOf ws ls (mC ws ls S k)
noncomputable def d8 (ws:ag)(ls:aa)(ns:ag)(m:Nat):Prop:=(∀k<m,nextOf ws ls (mC ws ls ns k)≠[])/\nextOf ws ls (mC ws ls ns m) = []
noncomputable def rng (n:Nat):ag:=(List.range n).map λ(i:Nat)=>(i:Int)
theorem sH (a:ag):(intz a).length=a.length:=aD8 _
noncomputable def d5 (x:PV)(ns:ag):Prop:=x = .tup (intz ns)∨x = .lst (intz ns)
noncomputable abbrev yE (t:aX)(N:List Str)(p:b8):Prop:=∀xs Q,p xs Q->t { nx:=λ_=>Q .non,rt:=Q } (bF N xs)
noncomputable def inB (n:Nat)(x:Int):Bool:=decide (0<=x)&&decide (x<(n:Int))
theorem ah5 {ws:ag}{h:Int}(h0:0<=h)(h1:h<(ws.length:Int)):atI (intz ws) h=some (.int (ws.getD h.toNat 0)):=by
 refine Y0 h0 ?_
 have:h.toNat<ws.length:=by omega
 rw[aF8,aH7,aF5 this];rfl
noncomputable def tups (rs:ae):List PV:=rs.map λr=>PV.tup (intz r)
end Core
namespace PP
open PySem L2
noncomputable def sJ:PV->Tg->PV->Tg->PK->Prop:=λx _ y _ Q=>∃xs n,x = .tup xs/\y = .int n/\flats xs=true/\xs≠[]/\2<=n/\n<=1000000/\xs.length<=10/\Q (.tup (List.replicate n.toNat xs).flatten) .fr
noncomputable abbrev ah6 (ta tb:aE):aE:=q2 sJ ta tb
end PP
namespace Core
open PySem L2 PP
theorem ah7 (g:Tg)(n:Int):Nw g (.int n):=by cases g<;>first|exact trivial|rfl
noncomputable def mD (x:PV)(ns:ag):Prop:=x = .scr ns∨x = .lst (intz ns)
theorem mD.seq {x:PV}{ns:ag}(h:mD x ns):jZ x=some (intz ns):=by rcases h with rfl|rfl<;>rfl
theorem mD.len {x:PV}{ns:ag}(h:mD x ns):lQ x=some ns.length:=by
 rcases h with rfl|rfl
 ·rfl
 ·show some (intz ns).length=_
  rw[sH]
noncomputable def jC:b8:=λxs Q=>∃x ns k,xs = [x,.int k]/\mD x ns/\0<=k/\Q (.int (ns.getD k.toNat 0))
noncomputable def yF:aX:=(bE (g8 (bZ (oI (aC 1) (aZ gM (aI (aC 0) aU)))) (dL (cL (aC 0) (aC 1))) g4)
 (dL (qC (.int 0))))
theorem ah8:yE yF ["script","k"] jC:=by
 rintro xs Q ⟨x,ns,k,rfl,hx,h0,q⟩;refine⟨_,rfl,_,rfl,_,_,rfl,hx.len,_,_,rfl,rfl,_,rfl,?_⟩;by_cases h:k<(ns.length:Int)
 ·rw[aG5 h]
  exact cC ⟨_,rfl,_,rfl,_,_,_,hx.seq,rfl,ah5 h0 h,ah7 _ _,q⟩
 ·rw[aE7 h]
  rw[aH7,List.getElem?_eq_none (by omega)]at q;exact cF ⟨trivial,q⟩
noncomputable def oR (ls:aa):List PV:=ls.map λl=>PV.tup [.int l.1,.int l.2]
noncomputable abbrev si (n:Int):Option Slot:=some (.sh true (.int n))
noncomputable def mE:b8:=λxs Q=>∃i,xs = [.int i]/\Q (.bl true)
noncomputable def yG (K:ad):aX:=(dL (o7 (lV K "int" (aC 0)) (r9 (lV K "bool" (aC 0)))))
theorem d5.len {x:PV}{ns:ag}(h:d5 x ns):lQ x=some ns.length:=by
 rcases h with rfl|rfl<;>(show some (intz ns).length=_;rw[sH])
theorem ah9 {K:ad}(k1:PySem.W.kitOne K (.type "int") (.type "int")=some true)(k2:PySem.W.kitOne K (.type "int") (.type "bool")=some false):yE (yG K) ["found"] mE:=by
 rintro xs Q ⟨i,rfl,q⟩
 exact⟨_,rfl,_,_,rfl,k1,_,rfl,cC ⟨_,rfl,_,_,rfl,k2,_,rfl,trivial,q⟩⟩
end Core
namespace PySem
theorem ai0:fillsNumberSlot (.type "tuple") "mul" = pure false:=
 fillsNumberSlot_seq (id:="tuple.__mul__") (r:=some (.builtin "tuple.__rmul__")) F.slot_tuple_mul.lookup (by decide +kernel) F.slot_tuple_rmul.lookup (by decide +kernel)
theorem ai1:seqRepeat? (.type "tuple")=pure (some (.builtin "tuple.__mul__")):=by
 unfold seqRepeat?;rw[seqSlot_of (T:="tuple") (name:="__mul__") (id:="tuple.__mul__") F.slot_tuple_mul.lookup (by decide +kernel),seqSlot_of (T:="tuple") (name:="__rmul__") (id:="tuple.__rmul__") F.slot_tuple_rmul.lookup (by decide +kernel)];rfl
theorem ai2 (a:Int)(t:Tok)(l:ax)(items:Array av)(n:Nat)(dd:Option ax)(sl:Array (Option av)) :
  Meets (Builtin.«int.__rmul__» ⟨[.int a t,.ref l],[]⟩) (λ_ R s=>s.heap.get? l=some { cls:=.type "tuple",dict:=dd,data:=.seq items n,slots:=sl }/\R (.ok (.ret Value.notImplemented)) s):=
 .of_wp λprog w A R s h=>by obtain⟨hp,g,d,tk,os⟩:=s;obtain⟨hl,h⟩:=h;wp_walk;exact⟨_,rfl,h⟩
theorem ai3 (l:ax)(items:Array av)(n:Nat)(dd:Option ax)(sl:Array (Option av))(x:Int)(u:Tok)(h0:items.isEmpty=false)(h1:2<=x)(h2:items.size*x.toNat<=sizeLine)(h3:x<=1000000) :
  Meets (Builtin.«tuple.__mul__» ⟨[.ref l,.int x u],[]⟩) (λ_ R s=>s.heap.get? l=some { cls:=.type "tuple",dict:=dd,data:=.seq items n,slots:=sl }/\R (.ok (.ret (Value.ref s.heap.objs.size))) { s with heap:=s.heap.push { cls:=Value.type "tuple",data:=Data.seq (List.foldl (λx1 x2=>x1++x2) #[] (List.replicate x.toNat items)) } }):=
 .of_wp λprog w A R s h=>by
  obtain⟨hp,g,d,tk,os⟩:=s;obtain⟨hl,h⟩:=h
  have c1:(decide (x < -(2^63))||decide (x >= 2^63))=false:=by
   rw[Bool.or_eq_false_iff];exact⟨aE7 (by omega),aE7 (by omega)⟩
  have c2:(items.isEmpty||x==1)=false:=by rw[h0,Bool.false_or];exact aM6.mpr (by omega)
  have c3:(decide (x<=0)||items.isEmpty)=false:=by rw[h0,Bool.or_false];exact aE7 (by omega)
  have hsz:((items.size:Nat):Int)*x=((items.size*x.toNat:Nat):Int):=by rw[Int.natCast_mul];congr 1;omega
  have hl63:(sizeLine:Nat)<=(2^63-1)/8:=by decide
  have c4:decide (((items.size:Nat):Int)*x>(2^63-1)/8)=false:=aE7 (by rw[hsz];omega);have c5:Builtin.Tuple.tupleTooMany (((items.size:Nat):Int)*x)=false:=by
   rw[hsz];unfold Builtin.Tuple.tupleTooMany;exact aE7 (by omega)
  wp_walk
  refine wpAny_ite_false (by rw[c1];rfl) ?_
  wp_walk
  refine wpAny_ite_false (by rw[c2];rfl) ?_
  wp_walk
  refine wpAny_ite_false (by rw[c3];rfl) ?_
  wp_walk
  refine wpAny_ite_false c4 ?_
  wp_walk
  refine wpAny_ite_false (by rw[c5];rfl) ?_
  wp_walk
  have f0:∀(m:Nat) (acc:Array av),(List.foldl (λx1 x2=>x1++x2) acc (List.replicate m items)).size=acc.size+m*items.size:=λm=>by
   induction m with
   |zero=>intro acc;simp
   |succ m ih=>intro acc;rw[aJ9,List.foldl_cons,ih,Array.size_append,Nat.succ_mul];omega
  have c6:decide ((List.foldl (λx1 x2=>x1++x2) #[] (List.replicate x.toNat items)).size>sizeLine)=false:=aE7 (by
   rw[f0 x.toNat #[]]
   have:x.toNat*items.size=items.size*x.toNat:=Nat.mul_comm _ _
   simp only[Array.size_empty]
   omega)
  refine wpAny_ite_false c6 ?_
  wp_walk
  exact⟨_,rfl,h⟩
end PySem
namespace PP
open PySem L2 PyProof.Rows
noncomputable def yH (K:ad):R2:=λx y H Q=>∃l k xs,x = .ref l/\y = .int k/\aY K H l xs/\xs≠[]/\2<=k/\k<=1000000/\xs.length*k.toNat<=sizeLine/\∀p,H p=none->Q (.ref p) (upd H p (.tup (List.replicate k.toNat xs).flatten))
theorem ai4 {X:Cx}:bW X (binaryOp .Mult) (yH X.K):=by
 intro ai s σ H x y v u Q I rx ry h
 obtain⟨l,k,xs,rfl,rfl,hH,hne,h1,h2,hz,q⟩:=h
 cases rx
 obtain⟨t,rfl⟩:=ry
 obtain⟨its,r,p,_⟩:=I.tuple hH
 obtain⟨⟨cls,dd,data,sl⟩,ho,hc,n,hd⟩:=id p
 simp only at hc hd;subst hc hd;have hl:=r.length;have hemp:its.toArray.isEmpty=false:=by
  cases its with
  |nil=>exact absurd (r.nil_iff.mp rfl) hne
  |cons a b=>rfl
 refine wpAny_binaryOp_repeat_ref (T:="tuple") (U:="int") (by decide) ⟨_,ho,rfl⟩ (λs'=>typeIs_int s' k t) ai0 F.fills_int_mul F.slot_int_rmul ai1 F.slot_int_index.lookup
  (call_meets F.slot_int_rmul (typeIs_int s k t) F.entry_int_rmul (F.args_int_rmul_2 _ _) (ai2 k t l its.toArray n dd sl)
   ⟨ho,rfl,⟨_,ho,rfl⟩,call_meets F.slot_tuple_mul ⟨_,ho,rfl⟩ F.entry_tuple_mul (F.args_tuple_mul_2 _ _) (ai3 l its.toArray n dd sl k t hemp h1 (by rw[aD9,<- hl];exact hz) h2) ⟨ho,?_⟩⟩)
 have f0:List.foldl (λx1 x2=>x1++x2) #[] (List.replicate k.toNat its.toArray)=(List.replicate k.toNat its).flatten.toArray:=by
  have:=vY its k.toNat []
  rw[List.nil_append]at this;exact this
 rw[f0];refine⟨.ref s.heap.objs.size,_,I.laid (t':=s.toks) (o:=.tup (List.replicate k.toNat xs).flatten) (λb ob q=>aE1 _ q) (aF0 _) ?_,rfl,q _ (I.hok.fresh (aF0 _))⟩
 exact⟨by rw[V8,Nat.mul_comm];exact hz,_,r.rep k.toNat,IsTup.new _ _,gH.new _ _ rfl⟩
theorem Reps.rep {K:ad}{M:ax->Prop}{H:Hp}{us:List V}{xs:List PV}(r:Reps K M H us xs):∀k:Nat,Reps K M H (List.replicate k us).flatten (List.replicate k xs).flatten
 |0=>.nil
 |k+1=>by rw[aJ9,aJ9,aN9,aN9];exact r.append (Reps.rep r k)
section
variable {X:Cx}{a b e:Expr}{ta tb te:aE}{tr:bU}{pos p2 p3 pos2:Pos}
theorem ai5:fM X sJ (yH X.K):=by
 rintro W Hs H u v x y g g' Q Q' s n r1 r2 ⟨xs,m,rfl,rfl,f,ne,h1,h2,hl,q⟩ k;cases r2
 obtain⟨a,us,rfl,h,r⟩:=r1.sqT
 have lr:=r.length;refine⟨a,m,us,rfl,rfl,aY.of h,λz=>ne (by cases xs with|nil=>rfl|cons _ _=>rw[z]at lr;cases lr),h1,h2,lim ?_,λp hp=>k _ _ _ .fr (cZ hp _) (.tup bM (((r.flat f).rep m.toNat).same (cZ hp _) λ_ z=>z)) q⟩;have h3:us.length<=10:=by omega
 have h4:m.toNat<=1000000:=by omega
 calc us.length*m.toNat<=10*1000000:=Nat.mul_le_mul h3 h4
  _<=16000000:=by decide
theorem yI (ha:QE X a ta)(hb:QE X b tb):QE X (.BinOp a .Mult b pos) (q2 sJ ta tb):=fP ai4 ai5 ha hb
end
end PP
namespace Core
open PySem L2 PP
noncomputable def two (l:Int×Int):ag:=[l.1,l.2]
noncomputable def yJ:b8:=λxs Q=>∃ns:ag,xs = [.scr ns]/\ns.length<=63/\Q (.bl true)
structure ai6 (K:ad):Prop where
 ii:PySem.W.kitOne K (.type "int") (.type "int")=some true
 ib:PySem.W.kitOne K (.type "int") (.type "bool")=some false
 tt:PySem.W.kitOne K (.type "tuple") (.type "tuple")=some true
 ll:PySem.W.kitOne K (.type "list") (.type "list")=some true
 bb:PySem.W.kitOne K (.type "bool") (.type "bool")=some true
theorem yK (K:ad):ai6 K:=by
 have same:∀n:String,PySem.W.kitMeta n=true->True:=λ_ _=>trivial
 refine⟨?_,?_,?_,?_,?_⟩
 ·unfold PySem.W.kitOne;rw[if_pos (by decide)]
 ·have e:(if PySem.W.kitMeta "bool" = true then (fastBuiltinMro "int").map (·.contains (Value.type "bool")) else none)=some false:=by decide +kernel
  unfold PySem.W.kitOne;rw[if_neg (by decide)];exact e
 ·unfold PySem.W.kitOne;rw[if_pos (by decide)]
 ·unfold PySem.W.kitOne;rw[if_pos (by decide)]
 ·unfold PySem.W.kitOne;rw[if_pos (by decide)]
end Core
namespace PP
open PySem L2 PyProof.Rows
noncomputable def ai7 (K:ad):Sp:=λvs H Q _=>∃(a:ax) (ns:ag),vs = [.ref a]/\hI K H a ns/\ns.length<=63/\∀H',Q (.bl true) H'
end PP
namespace PyProof.Rows
open PySem
end PyProof.Rows
namespace L2
open PySem PySem.Spec PyProof.Rows
noncomputable def sK (K:ad)(a:ax):It:=
  ⟨λi H=>∃xs x,b7 K H a xs/\xs[i]? = some x,
   λi H v H'=>∃T x,H T=none/\v = .ref T/\H'=upd H T (.tup [.int i,x])/\∀xs,b7 K H a xs->xs[i]? = some x,
   λi H=>∃xs,b7 K H a xs/\xs.length<=i⟩
structure ai8 (e it a:ax)(i:Nat)(h:Heap):Prop where
 ee:∃old,IsEnum h e it i old
 s1:h.IsListIter it a i
theorem ai9 {P:ay}{w:ba}{K:ad}{elts:List Expr}{k:Nat}{pos:Pos}(a e it:ax)(d:e≠it) :
  iA P w K (.Tuple elts k pos) (sK K a) [e,it] e (ai8 e it a):=by
 refine⟨by simp,λi h st c hc=>?_,λi h h' st kp=>?_,?_,?_,λA i s Q E st q=>?_⟩
 ·simp only[aE2,aG6,aI4]at hc
  obtain⟨old,ee⟩:=st.ee
  obtain⟨o1,f1,g1,d1⟩:=st.s1
  rcases hc with rfl|rfl
  ·exact⟨_,ee,λv q=>by cases q⟩
  ·exact⟨_,f1,λv q=>by rw[d1]at q;cases q⟩
 ·obtain⟨old,ee⟩:=st.ee
  exact⟨⟨old,kp e (by simp) _ ee⟩,st.s1.at λo z=>kp it (by simp) o z⟩
 ·intro X hP hw hK hc i ai s σ H E I hf st hg
  subst hP hw hK
  obtain⟨xs,x,ha,hx⟩:=hg
  obtain⟨us,ru,pu,lu⟩:=I.list ha
  obtain⟨ux,eux,rux⟩:=ru.get hx
  obtain⟨old,ee⟩:=st.ee
  refine wpAny_pyNext_enum_item ee st.s1 pu.isList (by simpa using eux) d λh' eo it' pr sz kp=>⟨_,rfl,?_⟩
  refine wpAny_letOwnedTupleGo_enum (s:={ s with heap:=h',toks:=s.toks+1 }) eo λg zz sb=>?_
  have hzl:e<s.heap.objs.size:=aE8 ee;have up:∀c o,c≠e->c≠it->s.heap.get? c=some o->g.get? c=some o:=λc o c1 c2 z=>sb.extBut c o c1 (kp c o c1 c2 z)
  have hT:H s.heap.objs.size=none:=I.hok.fresh (aF0 _);have prG:g.get? s.heap.objs.size=some { cls:=.type "tuple",data:=.seq #[.int i s.toks,ux] }:=sb.extBut _ _ (aK6 hzl) pr;have fpn:∀c u,H c=some u->c∉[e,it]:=λc u z hm=>by rw[(hf c hm).1]at z;cases z
  have upH:∀c o u,H c=some u->s.heap.get? c=some o->g.get? c=some o:=λc o u q z=>by
   have:=fpn c u q
   simp only[aE2,aG6,aI4,not_or]at this;exact up c o this.1 this.2 z
  have ns:∀m,s.heap.Ns X.env.locals m->g.Ns X.env.locals m:=λm hm=>by
   obtain⟨o,es,ep,e1,e2⟩:=hm
   exact⟨o,es,ep,up _ o (Ne.symm (hf e (by simp)).2.1) (Ne.symm (hf it (by simp)).2.1) e1,e2⟩
  have I2:aA X ai σ (upd H s.heap.objs.size (.tup [.int i,x])) { s with heap:=g,toks:=s.toks+1 }:=by
   refine I.step (g':=s.gens) (d':=s.drawn) (ch:=[e,it]) (λc hc'=>?_) (λc o _ _ hc' z _=>?_) (λc o _ _ hc' z _=>⟨o.slots,?_⟩) (λc o _ z n=>?_) (λc o hc' z=>⟨o,?_⟩)
    (λc zs z=>by rw[aL (cX z hT)];exact z) (λc u zs z=>by rw[aL (cX z hT)];exact z) (λc ps z=>⟨#[],by rw[aL (cX z hT),z];simp⟩) ns (λc u z=>?_) I.bare
   ·exact⟨(hf c hc').2.2.2.1,(hf c hc').2.1,(hf c hc').2.2.2.2.1,(hf c hc').2.2.2.2.2⟩
   ·simp only[aE2,aG6,aI4,not_or]at hc'
    exact up c o hc'.1 hc'.2 z
   ·simp only[aE2,aG6,aI4,not_or]at hc'
    exact up c o hc'.1 hc'.2 z
   ·rw[aL (aH2 (aE8 z))];exact n
   ·simp only[aE2,aG6,aI4,not_or]at hc'
    exact up c o hc'.1 hc'.2 z
   ·by_cases hcT:c=s.heap.objs.size
    ·subst hcT
     rw[bM]at z;cases z
     exact⟨by show 2<=sizeLine;decide,[.int i s.toks,ux],.cons ⟨_,rfl⟩ (.cons rux .nil),⟨_,prG,rfl,_,rfl⟩,λu e=>by rw[prG]at e;cases e;rfl⟩
    ·rw[aL hcT]at z
     refine (I.hok c u z).stay (λc' o' hc2 q'=>?_) (λc' q'=>by rw[aL (cX q' hT)];exact q') λc' zs q'=>by rw[aL (cX q' hT)];exact q'
     rcases hc2 with rfl|hc2
     ·exact upH _ _ _ z q'
     ·exact upH _ _ _ hc2 q'
  refine⟨.ref s.heap.objs.size,_,I2,rfl,⟨_,x,hT,rfl,rfl,λxs' ha'=>?_⟩,⟨⟨ux,by push_cast;exact zz⟩,it'.at λo z=>sb.extBut _ o (Ne.symm d) z⟩,λc hc'=>?_⟩
  ·rw[I.list_inj ha' ha];exact hx
  ·obtain⟨o,z⟩:∃o,s.heap.get? c=some o:=by
    simp only[aE2,aG6,aI4]at hc'
    obtain⟨o1,f1,_⟩:=st.s1
    rcases hc' with rfl|rfl
    ·exact⟨_,ee⟩
    ·exact⟨_,f1⟩
   rw[aL (aH2 (aE8 z))];exact (hf c hc').1
 ·intro X hP hw hK hc i ai s σ H E I hf st hg
  subst hP hw hK
  obtain⟨xs,ha,hi⟩:=hg
  obtain⟨us,ru,pu,lu⟩:=I.list ha
  obtain⟨old,ee⟩:=st.ee
  have hh:X.A.handled=none:=I.ok.hd hc;have e1:=ru.length;refine wpAny_pyNext_enum_end hh ee st.s1 pu.isList (by rw[Array.getElem?_eq_none];simp only[aD9];omega) λg kp=>⟨rfl,?_⟩
  have fpn:∀c u,H c=some u->c∉[e,it]:=λc u z hm=>by rw[(hf c hm).1]at z;cases z
  have upH:∀c o u,H c=some u->s.heap.get? c=some o->g.get? c=some o:=λc o u q z=>by
   have:=fpn c u q
   simp only[aE2,aG6,aI4,not_or]at this;exact kp c o this.2 z
  have ns:∀m,s.heap.Ns X.env.locals m->g.Ns X.env.locals m:=λm hm=>by
   obtain⟨o,es,ep,e1,e2⟩:=hm
   exact⟨o,es,ep,kp _ o (Ne.symm (hf it (by simp)).2.1) e1,e2⟩
  refine I.step (g':=s.gens) (d':=s.drawn) (ch:=[it]) (λc hc'=>?_) (λc o _ _ hc' z _=>?_) (λc o _ _ hc' z _=>⟨o.slots,?_⟩) (λc o _ z n=>n) (λc o hc' z=>⟨o,?_⟩)
   (λc zs z=>z) (λc u zs z=>z) (λc ps z=>⟨#[],by rw[z];simp⟩) ns (λc u z=>?_) I.bare
  ·have hm:c∈[e,it]:=aF2 _ hc'
   exact⟨(hf c hm).2.2.2.1,(hf c hm).2.1,(hf c hm).2.2.2.2.1,(hf c hm).2.2.2.2.2⟩
  ·exact kp c o (λy=>hc' (by rw[y];simp)) z
  ·exact kp c o (λy=>hc' (by rw[y];simp)) z
  ·exact kp c o (λy=>hc' (by rw[y];simp)) z
  ·refine (I.hok c u z).stay (λc' o' hc2 q'=>?_) (λ_ q'=>q') λ_ _ q'=>q'
   rcases hc2 with rfl|hc2
   ·exact upH _ _ _ z q'
   ·exact upH _ _ _ hc2 q'
 ·obtain⟨old,ee⟩:=st.ee
  exact wpAny_pyIter_enum ee q
end L2
namespace Zp
open PySem PyProof.Rows
section
variable {prog:ay}{w:ba}{A:az}{E:av→aw→Prop}{s:aw}
theorem aj0 {e it t:ax}{i:Nat}{items:Array av}{x old:av}{Q:Option av->aw->Prop}(he:IsEnum s.heap e it i old)(hi:s.heap.IsTupleIter it t i)(ht:s.heap.IsTuple t items)(hx:items[i]? = some x)(ne:e≠it)(q:∀h',IsEnumOut h' e it ((i:Int)+1) x s.heap.objs.size->h'.IsTupleIter it t (i+1)->h'.get? s.heap.objs.size=some { cls:=.type "tuple",data:=.seq #[.int i s.toks,x] }->h'.objs.size=s.heap.objs.size+1->
   (∀b o,b≠e->b≠it->s.heap.get? b=some o->h'.get? b=some o)->Q (some (.ref s.heap.objs.size)) { s with heap:=h',toks:=s.toks+1 }):wpAny (model prog w) A (pyNext (.ref e)) Q E s:=by
 have T:s.TypeIs (.ref e) "enumerate":=⟨_,he,rfl⟩;have slot:=PySem.F.slot_enumerate_next;unfold pyNext;apply aD7;apply wpAny_attempt;apply aM2 (name:=Str.ofString "__next__") T slot;apply aM9 slot T PySem.F.entry_enumerate_next _ (PySem.F.args_enumerate_next_1 _)
 change wpAny _ _ (field (.ref e) 2 >>= _) _ _ _
 apply aD7;refine aO0 he rfl (x:=.ref it) rfl ?_;apply aD7;refine Y1 hi ht hx λg1 it1 sb1=>?_
 have e1:IsEnum g1 e it i old:=sb1.extBut _ _ ne he
 change wpAny _ _ (field (.ref e) 3 >>= _) _ _ _
 apply aD7;refine aO0 e1 rfl (x:=rawInt i) rfl ?_
 change wpAny _ _ (field (.ref e) 4 >>= _) _ _ _
 apply aD7;refine aO0 e1 rfl (x:=.none) rfl ?_
 change wpAny _ _ (mkInt i >>= _) _ _ _
 apply aD7;refine wpAny_mkInt ?_
 change wpAny _ _ (setField (.ref e) 3 (rawInt ((i:Int)+1)) >>= _) _ _ _
 apply aD7;refine wpAny_setField_rec e1 (by simp) λg2 e2 sb2=>?_
 apply aD7;refine wpAny_setField_rec e2 (by simp) λg3 e3 sb3=>?_
 have e3:IsEnum g3 e it ((i:Int)+1) old:=e3;apply aD7;refine wpAny_newTuple ?_ (by show 2<=sizeLine;decide);have e4:IsEnum (g3.push { cls:=.type "tuple",data:=.seq #[.int i s.toks,x] }) e it ((i:Int)+1) old:=aE1 _ e3;have size:g3.objs.size=s.heap.objs.size:=by rw[sb3.1,sb2.1,sb1.1]
 change wpAny _ _ (Builtin.SmallTypes.ownedTupleIsFree (.ref e) >>= _) _ _ _
 apply aD7;unfold Builtin.SmallTypes.ownedTupleIsFree;apply aD7;refine aO0 e4 rfl (x:=.none) rfl (aE3 ?_);simp only[if_true];apply aD7;apply wpAny_rule;apply aD7;refine aO0 e4 rfl (x:=old) rfl ?_;apply aD7;refine wpAny_setField_rec e4 (by simp) λg5 e5 sb5=>?_
 apply aD7;unfold Builtin.SmallTypes.ownedTupleHandOut;apply aD7;refine wpAny_setField_rec e5 (by simp) λg6 e6 sb6=>?_
 refine wpAny_setField_rec e6 (by simp) λg7 e7 sb7=>?_
 have e7:IsEnumOut g7 e it ((i:Int)+1) x g3.objs.size:=e7;have elt:e<g3.objs.size:=aE8 e3;have up:∀c o,c≠e->(g3.push { cls:=.type "tuple",data:=.seq #[.int i s.toks,x] }).get? c=some o->g7.get? c=some o:=λc o c1 z=>sb7.extBut c o c1 (sb6.extBut c o c1 (sb5.extBut c o c1 z))
 have up3:∀c o,c≠e->g1.get? c=some o->g7.get? c=some o:=λc o c1 z=>up c o c1 (aE1 _ (sb3.extBut c o c1 (sb2.extBut c o c1 z)))
 have p7:g7.get? g3.objs.size=some { cls:=.type "tuple",data:=.seq #[.int i s.toks,x] }:=up _ _ (aK6 elt) (aF3 _ rfl);have s7:g7.objs.size=g3.objs.size+1:=by rw[sb7.1,sb6.1,sb5.1,aK8]
 apply aD7;apply wpAny_letGo;apply aE3;rw[size]at e7 p7 s7;refine⟨_,rfl,aE3 ?_⟩
 change Q (some (.ref g3.objs.size)) _
 rw[size];exact q g7 e7 (it1.at λo z=>up3 it o (Ne.symm ne) z) p7 s7 λb o b1 b2 z=>up3 b o b1 (sb1.extBut b o b2 z)
theorem aj1 {e it t:ax}{i:Nat}{items:Array av}{old:av}{Q:Option av->aw->Prop}(hh:A.handled=none)(he:IsEnum s.heap e it i old)(hi:s.heap.IsTupleIter it t i)(ht:s.heap.IsTuple t items)(hx:items[i]? = none)(q:∀h',Heap.ExtBut it s.heap h'->Q none { s with heap:=h' }):wpAny (model prog w) A (pyNext (.ref e)) Q E s:=by
 have T:s.TypeIs (.ref e) "enumerate":=⟨_,he,rfl⟩;have slot:=PySem.F.slot_enumerate_next;unfold pyNext;apply aD7;apply wpAny_attempt;apply aM2 (name:=Str.ofString "__next__") T slot;apply aM9 slot T PySem.F.entry_enumerate_next _ (PySem.F.args_enumerate_next_1 _)
 change wpAny _ _ (field (.ref e) 2 >>= _) _ _ _
 apply aD7;refine aO0 he rfl (x:=.ref it) rfl ?_;apply aD7;refine Y2 hh hi ht hx λg2 ex eb exo=>?_
 obtain⟨oe,eo,co⟩:=exo
 apply aD7;refine wpAny_isInstance (T:="StopIteration") (b:=true) ⟨oe,eo,co⟩ isSubtype_stop ?_;exact aE3 (q g2 eb)
theorem aj2 {M:Model}{A:az}{E:av->aw->Prop}{s:aw}{α:Type}{c:Prop}[Decidable c]{m n:Sem α}{Q:α->aw->Prop}(h1:wpAny M A m Q E s)(h2:wpAny M A n Q E s):wpAny M A (if c then m else n) Q E s:=by
 split
 ·exact h1
 ·exact h2
theorem aj3 (t:ax)(xs:Array av):Meets (Builtin.«enumerate.__new__» ⟨[.type "enumerate",.ref t],[]⟩) (λ_ R s=>s.heap.IsTuple t xs/\R (.ok (.ret (.ref (s.heap.objs.size+1)))) { s with heap:=(s.heap.push { cls:=.type "tuple_iterator",data:=.fields #[.ref t,.int 0 0] }).push { cls:=.type "enumerate",data:=.fields #[.none,.bool false,.ref s.heap.objs.size,rawInt 0,.none,.none] } }):=
 .of_wp λprog w A R s h=>by
  obtain⟨hp,g,d,tk,os⟩:=s
  obtain⟨ht,h⟩:=h
  have sub:=sub_enumerate;have a1:Heap.IsTuple (Shared.heap ⟨hp,g,d,tk,os⟩) t xs:=ht
  wp_walk using wpAny_pyIter_tuple a1
  refine wpAny_stack_any λst=>aE3 ?_
  refine aj2 ?_ ?_
  all_goals
   apply aD7;refine wpAny_of_eq (a:=(Value.ref t,none)) rfl ?_
   wp_walk using wpAny_pyIter_tuple a1
   have e:∀(o:Obj) (k:Heap),(k.push o).objs.size=k.objs.size+1:=λo k=>aK8 ..
   refine⟨_,rfl,?_⟩;simp only[e]at h ⊢;exact h
theorem aj4 {t:ax}{xs:Array av}{Q:av->aw->Prop}(ht:s.heap.IsTuple t xs)(q:∀h',IsEnum h' (s.heap.objs.size+1) s.heap.objs.size 0 .none->h'.IsTupleIter s.heap.objs.size t 0->h'.objs.size=s.heap.objs.size+2->(∀c o,s.heap.get? c=some o->h'.get? c=some o)->Q (.ref (s.heap.objs.size+1)) { s with heap:=h' }) :
  wpAny (model prog w) A (call (.type "enumerate") [.ref t]) Q E s:=by
 refine callType_new PySem.F.called_enumerate (by decide) (PySem.F.typeCall_enumerate_1 _) (PySem.F.newCall_enumerate_1 _) (λobj=>PySem.F.args_object_init_2 obj _) PySem.F.entry_enumerate_new (aj3 t xs) ⟨ht,?_⟩;have e:∀(o:Obj) (k:Heap),(k.push o).objs.size=k.objs.size+1:=λo k=>aK8 ..
 have g0:((s.heap.push { cls:=.type "tuple_iterator",data:=.fields #[.ref t,.int 0 0] }).push { cls:=.type "enumerate",data:=.fields #[.none,.bool false,.ref s.heap.objs.size,rawInt 0,.none,.none] }).get? s.heap.objs.size=some { cls:=.type "tuple_iterator",data:=.fields #[.ref t,.int 0 0] }:=aE1 _ (aF3 _ rfl);have g1:((s.heap.push { cls:=.type "tuple_iterator",data:=.fields #[.ref t,.int 0 0] }).push { cls:=.type "enumerate",data:=.fields #[.none,.bool false,.ref s.heap.objs.size,rawInt 0,.none,.none] }).get? (s.heap.objs.size+1)=some { cls:=.type "enumerate",data:=.fields #[.none,.bool false,.ref s.heap.objs.size,rawInt 0,.none,.none] }:=by
  have:=aF3 (h:=s.heap.push { cls:=.type "tuple_iterator",data:=.fields #[.ref t,.int 0 0] }) (o:={ cls:=.type "enumerate",data:=.fields #[.none,.bool false,.ref s.heap.objs.size,rawInt 0,.none,.none] }) rfl
  rw[e]at this;exact this
 exact⟨⟨_,g1,rfl⟩,q _ g1 ⟨_,g0,rfl,rfl⟩ (by rw[e,e]) λc o z=>aE1 _ (aE1 _ z)⟩
end
end Zp
namespace L2
open PySem PySem.Spec PyProof.Rows
noncomputable def sL (K:ad)(a:ax):It:=
  ⟨λi H=>∃xs x,aY K H a xs/\xs[i]? = some x,
   λi H v H'=>∃T x,H T=none/\v = .ref T/\H'=upd H T (.tup [.int i,x])/\∀xs,aY K H a xs->xs[i]? = some x,
   λi H=>∃xs,aY K H a xs/\xs.length<=i⟩
structure aj5 (e it a:ax)(i:Nat)(h:Heap):Prop where
 ee:∃old,IsEnum h e it i old
 s1:h.IsTupleIter it a i
theorem aj6 {P:ay}{w:ba}{K:ad}{elts:List Expr}{k:Nat}{pos:Pos}(a e it:ax)(d:e≠it) :
  iA P w K (.Tuple elts k pos) (sL K a) [e,it] e (aj5 e it a):=by
 refine⟨by simp,λi h st c hc=>?_,λi h h' st kp=>?_,?_,?_,λA i s Q E st q=>?_⟩
 ·simp only[aE2,aG6,aI4]at hc
  obtain⟨old,ee⟩:=st.ee
  obtain⟨o1,f1,g1,d1⟩:=st.s1
  rcases hc with rfl|rfl
  ·exact⟨_,ee,λv q=>by cases q⟩
  ·exact⟨_,f1,λv q=>by rw[d1]at q;cases q⟩
 ·obtain⟨old,ee⟩:=st.ee
  exact⟨⟨old,kp e (by simp) _ ee⟩,st.s1.at λo z=>kp it (by simp) o z⟩
 ·intro X hP hw hK hc i ai s σ H E I hf st hg
  subst hP hw hK
  obtain⟨xs,x,ha,hx⟩:=hg
  obtain⟨us,ru,pu,lu⟩:=I.tuple ha
  obtain⟨ux,eux,rux⟩:=ru.get hx
  obtain⟨old,ee⟩:=st.ee
  refine Zp.aj0 ee st.s1 pu (by simpa using eux) d λh' eo it' pr sz kp=>⟨_,rfl,?_⟩
  refine wpAny_letOwnedTupleGo_enum (s:={ s with heap:=h',toks:=s.toks+1 }) eo λg zz sb=>?_
  have hzl:e<s.heap.objs.size:=aE8 ee;have up:∀c o,c≠e->c≠it->s.heap.get? c=some o->g.get? c=some o:=λc o c1 c2 z=>sb.extBut c o c1 (kp c o c1 c2 z)
  have hT:H s.heap.objs.size=none:=I.hok.fresh (aF0 _);have prG:g.get? s.heap.objs.size=some { cls:=.type "tuple",data:=.seq #[.int i s.toks,ux] }:=sb.extBut _ _ (aK6 hzl) pr;have fpn:∀c u,H c=some u->c∉[e,it]:=λc u z hm=>by rw[(hf c hm).1]at z;cases z
  have upH:∀c o u,H c=some u->s.heap.get? c=some o->g.get? c=some o:=λc o u q z=>by
   have:=fpn c u q
   simp only[aE2,aG6,aI4,not_or]at this;exact up c o this.1 this.2 z
  have ns:∀m,s.heap.Ns X.env.locals m->g.Ns X.env.locals m:=λm hm=>by
   obtain⟨o,es,ep,e1,e2⟩:=hm
   exact⟨o,es,ep,up _ o (Ne.symm (hf e (by simp)).2.1) (Ne.symm (hf it (by simp)).2.1) e1,e2⟩
  have I2:aA X ai σ (upd H s.heap.objs.size (.tup [.int i,x])) { s with heap:=g,toks:=s.toks+1 }:=by
   refine I.step (g':=s.gens) (d':=s.drawn) (ch:=[e,it]) (λc hc'=>?_) (λc o _ _ hc' z _=>?_) (λc o _ _ hc' z _=>⟨o.slots,?_⟩) (λc o _ z n=>?_) (λc o hc' z=>⟨o,?_⟩)
    (λc zs z=>by rw[aL (cX z hT)];exact z) (λc u zs z=>by rw[aL (cX z hT)];exact z) (λc ps z=>⟨#[],by rw[aL (cX z hT),z];simp⟩) ns (λc u z=>?_) I.bare
   ·exact⟨(hf c hc').2.2.2.1,(hf c hc').2.1,(hf c hc').2.2.2.2.1,(hf c hc').2.2.2.2.2⟩
   ·simp only[aE2,aG6,aI4,not_or]at hc'
    exact up c o hc'.1 hc'.2 z
   ·simp only[aE2,aG6,aI4,not_or]at hc'
    exact up c o hc'.1 hc'.2 z
   ·rw[aL (aH2 (aE8 z))];exact n
   ·simp only[aE2,aG6,aI4,not_or]at hc'
    exact up c o hc'.1 hc'.2 z
   ·by_cases hcT:c=s.heap.objs.size
    ·subst hcT
     rw[bM]at z;cases z
     exact⟨by show 2<=sizeLine;decide,[.int i s.toks,ux],.cons ⟨_,rfl⟩ (.cons rux .nil),⟨_,prG,rfl,_,rfl⟩,λu e=>by rw[prG]at e;cases e;rfl⟩
    ·rw[aL hcT]at z
     refine (I.hok c u z).stay (λc' o' hc2 q'=>?_) (λc' q'=>by rw[aL (cX q' hT)];exact q') λc' zs q'=>by rw[aL (cX q' hT)];exact q'
     rcases hc2 with rfl|hc2
     ·exact upH _ _ _ z q'
     ·exact upH _ _ _ hc2 q'
  refine⟨.ref s.heap.objs.size,_,I2,rfl,⟨_,x,hT,rfl,rfl,λxs' ha'=>?_⟩,⟨⟨ux,by push_cast;exact zz⟩,it'.at λo z=>sb.extBut _ o (Ne.symm d) z⟩,λc hc'=>?_⟩
  ·rw[I.tuple_inj ha' ha];exact hx
  ·obtain⟨o,z⟩:∃o,s.heap.get? c=some o:=by
    simp only[aE2,aG6,aI4]at hc'
    obtain⟨o1,f1,_⟩:=st.s1
    rcases hc' with rfl|rfl
    ·exact⟨_,ee⟩
    ·exact⟨_,f1⟩
   rw[aL (aH2 (aE8 z))];exact (hf c hc').1
 ·intro X hP hw hK hc i ai s σ H E I hf st hg
  subst hP hw hK
  obtain⟨xs,ha,hi⟩:=hg
  obtain⟨us,ru,pu,lu⟩:=I.tuple ha
  obtain⟨old,ee⟩:=st.ee
  have hh:X.A.handled=none:=I.ok.hd hc;have e1:=ru.length;refine Zp.aj1 hh ee st.s1 pu (by rw[Array.getElem?_eq_none];simp only[aD9];omega) λg kp=>⟨rfl,?_⟩
  have fpn:∀c u,H c=some u->c∉[e,it]:=λc u z hm=>by rw[(hf c hm).1]at z;cases z
  have upH:∀c o u,H c=some u->s.heap.get? c=some o->g.get? c=some o:=λc o u q z=>by
   have:=fpn c u q
   simp only[aE2,aG6,aI4,not_or]at this;exact kp c o this.2 z
  have ns:∀m,s.heap.Ns X.env.locals m->g.Ns X.env.locals m:=λm hm=>by
   obtain⟨o,es,ep,e1,e2⟩:=hm
   exact⟨o,es,ep,kp _ o (Ne.symm (hf it (by simp)).2.1) e1,e2⟩
  refine I.step (g':=s.gens) (d':=s.drawn) (ch:=[it]) (λc hc'=>?_) (λc o _ _ hc' z _=>?_) (λc o _ _ hc' z _=>⟨o.slots,?_⟩) (λc o _ z n=>n) (λc o hc' z=>⟨o,?_⟩)
   (λc zs z=>z) (λc u zs z=>z) (λc ps z=>⟨#[],by rw[z];simp⟩) ns (λc u z=>?_) I.bare
  ·have hm:c∈[e,it]:=aF2 _ hc'
   exact⟨(hf c hm).2.2.2.1,(hf c hm).2.1,(hf c hm).2.2.2.2.1,(hf c hm).2.2.2.2.2⟩
  ·exact kp c o (λy=>hc' (by rw[y];simp)) z
  ·exact kp c o (λy=>hc' (by rw[y];simp)) z
  ·exact kp c o (λy=>hc' (by rw[y];simp)) z
  ·refine (I.hok c u z).stay (λc' o' hc2 q'=>?_) (λ_ q'=>q') λ_ _ q'=>q'
   rcases hc2 with rfl|hc2
   ·exact upH _ _ _ z q'
   ·exact upH _ _ _ hc2 q'
 ·obtain⟨old,ee⟩:=st.ee
  exact wpAny_pyIter_enum ee q
section
variable {X:Cx}
noncomputable def yL (K:ad)(ta:TA):TI:=λσ H R=>ta σ H λvs H1=>∃a,vs = [.ref a]/\((∃xs,b7 K H1 a xs/\R (sK K a) H1)∨(∃xs,aY K H1 a xs/\R (sL K a) H1))
theorem aj7 {elts:List Expr}{kt:Nat}{pt:Pos}{a:Expr}{ta:TA}{p pos:Pos}(hg:Gl X "enumerate")(hm:X.mg "enumerate" = none)(ha:PA X [a] ta)(hs:starEach [a] X.env = [(false,eval a X.env)]:=by rfl) :
  PI X (.Tuple elts kt pt) (.Call (.Name "enumerate" p) [a] [] pos) (yL X.K ta):=by
 intro ai s σ H R I h;refine Call_ (kX I hg hm PyProof.Rows.boot_enumerate (PyProof.Rows.callWith_type1 (aM (ha pos ai s σ H _ I h) λus s1 ⟨vs,H1,I1,r1,q1⟩=>?_) (by rw[hs];rfl) (by rfl)))
 obtain⟨a',e,q⟩:=q1
 subst e;have fresh:∀k,H1 (s1.heap.objs.size+k)=none:=λk=>I1.hok.fresh (Nat.le_add_right _ _)
 cases r1 with
 |cons r rr=>
  cases rr;cases r;rcases q with⟨xs,h1,q⟩|⟨xs,h1,q⟩
  ·obtain⟨us,_,p1,_⟩:=I1.list h1
   refine call_enumerate_list p1.isList λh' z s1' sz kp=>wpAny_pyIter_enum z ?_
   refine⟨s1.heap.objs.size+1,[s1.heap.objs.size+1,s1.heap.objs.size],_,_,H1,rfl,I1.kept (t':=s1.toks) kp,
    ai9 a' _ _ (Nat.succ_ne_self _),⟨⟨_,z⟩,s1'⟩,λc hc=>?_,q⟩
   simp only[aE2,aG6,aI4]at hc;rcases hc with rfl|rfl
   ·exact I1.fpOk (Nat.le_add_right _ _) (fresh 1)
   ·exact I1.fpOk (aF0 _) (fresh 0)
  ·obtain⟨us,_,p1,_⟩:=I1.tuple h1
   refine Zp.aj4 p1 λh' z s1' sz kp=>wpAny_pyIter_enum z ?_
   refine⟨s1.heap.objs.size+1,[s1.heap.objs.size+1,s1.heap.objs.size],_,_,H1,rfl,I1.kept (t':=s1.toks) kp,
    aj6 a' _ _ (Nat.succ_ne_self _),⟨⟨_,z⟩,s1'⟩,λc hc=>?_,q⟩
   simp only[aE2,aG6,aI4]at hc;rcases hc with rfl|rfl
   ·exact I1.fpOk (Nat.le_add_right _ _) (fresh 1)
   ·exact I1.fpOk (aF0 _) (fresh 0)
end
end L2
namespace Zp
open PySem PyProof.Rows
theorem aj8 (t b:ax)(xs ys:Array av)(n n2:Nat)(dd dd2:Option ax)(sl sl2:Array (Option av))(hx:xs.isEmpty=true):Meets (Builtin.«tuple.__add__» ⟨[.ref t,.ref b],[]⟩)
  (λ_ R s=>s.heap.get? t=some { cls:=.type "tuple",dict:=dd,data:=.seq xs n,slots:=sl }/\s.heap.get? b=some { cls:=.type "tuple",dict:=dd2,data:=.seq ys n2,slots:=sl2 }/\R (.ok (.ret (.ref b))) s):=
 .of_wp λprog w A R s h=>by
  obtain⟨h1,h2,h⟩:=h
  have sub:isSubtype (Value.type "tuple") (Value.type "tuple")=pure true:=rfl
  wp_walk
  exact⟨_,rfl,h⟩
end Zp
namespace L2
open PySem PySem.Spec PyProof.Rows
section
variable {X:Cx}
noncomputable def yM (K:ad):R2:=λx y H Q=>∃a b xs ys,x = .ref a/\y = .ref b/\aY K H a xs/\aY K H b ys/\xs.length+ys.length<=sizeLine/\
 (xs = []->Q (.ref b) H)/\(xs≠[]->ys = []->Q (.ref a) H)/\(xs≠[]->ys≠[]->∀p,H p=none->Q (.ref p) (upd H p (.tup (xs++ys))))
theorem aj9:bW X (binaryOp .Add) (yM X.K):=by
 intro ai s σ H x y v u Q I rx ry h
 obtain⟨a,b,xs,ys,ex,ey,ha,hb,hz,q0,q1,q2⟩:=h
 by_cases hx:xs = []
 ·subst ex ey
  cases rx;cases ry
  obtain⟨its,r1,p1,_⟩:=I.tuple ha
  obtain⟨aq,r2,p2,_⟩:=I.tuple hb
  have hi:its = []:=r1.nil_iff.mpr hx
  obtain⟨⟨cls,dd,data,sl⟩,ho,hc,n,hd⟩:=id p1
  obtain⟨⟨cls2,dd2,data2,sl2⟩,ho2,hc2,n2,hd2⟩:=id p2
  simp only at hc hd hc2 hd2;subst hc hd hc2 hd2;exact concat_meets ⟨_,ho,rfl⟩ ⟨_,ho2,rfl⟩ noFill_tuple_add seq_tuple_add PySem.F.slot_tuple_add PySem.F.entry_tuple_add (PySem.F.args_tuple_add_2 _ _)
   (Zp.aj8 a b its.toArray aq.toArray n n2 dd dd2 sl sl2 (by simp[hi])) ⟨ho,ho2,⟨.ref b,H,I,rfl,q0 hx⟩⟩
 ·exact U3 ai s σ H x y v u Q I rx ry ⟨a,b,xs,ys,ex,ey,ha,hb,hx,hz,q1 hx,q2 hx⟩
end
end L2
namespace PP
open PySem L2 PyProof.Rows
noncomputable def iK (xs:List PV):List PV:=xs.mapIdx λi x=>PV.tup [.int (i:Int),x]
theorem oS (xs:List PV):(iK xs).length=xs.length:=by unfold iK;rw[List.length_mapIdx]
theorem sM {xs:List PV}{i:Nat}{x:PV}(h:xs[i]? = some x):(iK xs)[i]? = some (.tup [.int (i:Int),x]):=by
 unfold iK;rw[List.getElem?_mapIdx,h];rfl
noncomputable def sN (te:aE):dW:=λρ Q=>te ρ λx g=>∃xs,(x = .lst xs∨x = .tup xs)/\(g = .rd->flat x=true)/\Q (iK xs) (rH g xs)
theorem ak0 {K:ad}{H0:Hp}{W:ax->Prop}{g:Bool}{H1:Hp}{a:ax}{us:List V}{xs:List PV}(tw:∀a,W a->∃o,H1 a=some o/\dI o=true)(ha:∀W' H',Ev W H1 W' H'->b7 K H' a us)(r:Reps K (Ms H0 W g) H1 us xs):kB K H0 W g H1 (sK K a) (iK xs):=by
 have lr:=r.length;have ll:=oS xs;refine⟨λW' H' i e hi=>⟨us,us[i]'(by omega),ha W' H' e,by simp⟩,λW' H' i v H2 e y hi=>?_,λW' H' e=>⟨us,ha W' H' e,by omega⟩⟩
 obtain⟨T,x,hT,rfl,rfl,y⟩:=y
 obtain⟨z,hz,rz⟩:=r.get (y us (ha W' _ e))
 have sm:=cZ hT (HO.tup [.int (i:Int),x])
 exact⟨sm,_,sM hz,.tup bM (.cons (.int _) (.cons ((rz.keep (e.keep tw)).same sm λ_ q=>q) .nil))⟩
theorem ak1 {K:ad}{H0:Hp}{W:ax->Prop}{g:Bool}{H1:Hp}{a:ax}{us:List V}{xs:List PV}(tw:∀a,W a->∃o,H1 a=some o/\dI o=true)(ha:∀W' H',Ev W H1 W' H'->aY K H' a us)(r:Reps K (Ms H0 W g) H1 us xs):kB K H0 W g H1 (sL K a) (iK xs):=by
 have lr:=r.length;have ll:=oS xs;refine⟨λW' H' i e hi=>⟨us,us[i]'(by omega),ha W' H' e,by simp⟩,λW' H' i v H2 e y hi=>?_,λW' H' e=>⟨us,ha W' H' e,by omega⟩⟩
 obtain⟨T,x,hT,rfl,rfl,y⟩:=y
 obtain⟨z,hz,rz⟩:=r.get (y us (ha W' _ e))
 have sm:=cZ hT (HO.tup [.int (i:Int),x])
 exact⟨sm,_,sM hz,.tup bM (.cons (.int _) (.cons ((rz.keep (e.keep tw)).same sm λ_ q=>q) .nil))⟩
section
variable {X:Cx}{σ:L2.St}{H:Hp}{te:aE}{R:It→Hp→Prop}
theorem ak2 (h:LI X (sN te) σ H R):yL X.K (eC (LE X te) iB) σ H R:=by
 obtain⟨W,ρ,Q,px,q,k⟩:=h
 refine⟨W,ρ,_,px,q,?_⟩;rintro v H1 x g s r ⟨xs,hx,hg,q⟩;have px1:=px.mono s;have tw:∀a,W a->∃o,H1 a=some o/\dI o=true:=λa z=>(px1.wm a z).2
 rcases hx with rfl|rfl
 ·obtain⟨a,us,rfl,m,h,r⟩:=r.sqL
  have wa:¬W a:=by
   cases g with
   |fr=>exact (px.new m).1
   |nw=>exact m.1
   |sh=>exact m
   |rd=>have:=hg rfl;unfold flat at this;cases this
  exact⟨a,rfl,.inl ⟨us,b7.of h,k _ _ _ _ s (ak0 tw (λW' H' e=>b7.of (e _ _ h wa rfl).1) (j5 px (λz=>by have:=hg z;unfold flat at this;cases this) r)) q⟩⟩
 ·obtain⟨a,us,rfl,h,r⟩:=r.sqT
  refine⟨a,rfl,.inr ⟨us,aY.of h,k _ _ _ _ s (ak1 tw (λW' H' e=>aY.of (e _ _ h (λz=>?_) rfl).1) (j5 px (λz=>by have:=hg z;unfold flat at this;exact this) r)) q⟩⟩
  obtain⟨o,h',mu⟩:=tw _ z;rw[h]at h';cases h';cases mu
theorem ak3 {elts:List Expr}{kt:Nat}{pt p2 pos:Pos}{a:Expr}{ta:aE}(hg:Gl X "enumerate")(hm:X.mg "enumerate" = none)(ha:QE X a ta)(hs:starEach [a] X.env = [(false,eval a X.env)]:=by rfl):QI X (.Tuple elts kt pt) (.Call (.Name "enumerate" p2) [a] [] pos) (sN ta):=
 oJ (aj7 hg hm (dP ha iC hs) hs) λ_ _ _=>ak2
end
section
variable {X:Cx}{e:Expr}{te:aE}{pos p2:Pos}{scope:Scope}{N:List Str}{fr:List (Option Nat)}{x y:Str}{tp xp yp:Pos}{kt:Nat}{iter elt:Expr}{ti:dW}
noncomputable abbrev sO (x y:Str)(xp yp:Pos)(kt:Nat)(tp:Pos):Expr:=.Tuple [.Name x xp,.Name y yp] kt tp
theorem ak4 {ifs:List Expr}{tcs:cD}(hc:X.calm=true)(he:∀(s:aw) (H:Hp) (C:ax) (fp:List ax),QE (bY X scope N s H C fp cN) elt te)(hi:∀(s:aw) (H:Hp) (C:ax) (fp:List ax),iX (bY X scope N s H C fp cN) ifs (LT (bY X scope N s H C fp cN) tcs))(hN:N.Nodup)(h0:N[0]? = some x)(h1:N[1]? = some y)(hl:∀(s:aw) (H:Hp) (C:ax) (fp:List ax),(bY X scope N s H C fp cN).env.scope.names.lookup x=some .local)(hl2:∀(s:aw) (H:Hp) (C:ax) (fp:List ax),(bY X scope N s H C fp cN).env.scope.names.lookup y=some .local)(s:aw)(H:Hp) :
  lJ X scope N (sO x y xp yp kt tp) ifs elt s H (nG X.K 2 (iT (cU 0) (iT (cU 1) nE))) (LT (X.frm H) tcs) (LE (X.frm H) te):=
 ⟨λC fp=>uU (X:=bY X scope N s H C fp cN) hc (nF (jL hN h0 (.inl (hl s H C fp)) (.inr (hl s H C fp))) (nF (jL hN h1 (.inl (hl2 s H C fp)) (.inr (hl2 s H C fp))) uT)),λC fp=>hi s H C fp,λC fp=>he s H C fp⟩
theorem ak5 (hi:QI X (sO x y xp yp kt tp) iter ti)(he:∀(s:aw) (H:Hp) (C:ax) (fp:List ax),QE (bY X scope N s H C fp cN) elt te)(hc:X.calm=true:=by rfl)(S:dH X scope N fr:=by exact dH.of rfl rfl)(hN:N.Nodup:=by decide +kernel)(h0:N[0]? = some x:=by rfl)(h1:N[1]? = some y:=by rfl)(hl:∀(s:aw) (H:Hp) (C:ax) (fp:List ax),(bY X scope N s H C fp cN).env.scope.names.lookup x=some .local:=by intro _ _ _ _;rfl)(hl2:∀(s:aw) (H:Hp) (C:ax) (fp:List ax),(bY X scope N s H C fp cN).env.scope.names.lookup y=some .local:=by intro _ _ _ _;rfl)(hf:fr[0]? = some none:=by rfl)(hf2:fr[1]? = some none:=by rfl)(hs:∀x,foldedSetIterable iter X.env x=pure x:=by intro _;rfl):QE X (.ListComp elt [⟨sO x y xp yp kt tp,iter,[],0⟩] scope pos) (hU ti fr (kC 0 1) gB te):=
 bQ (qV (gh:=λ_=>nG X.K 2 (iT (cU 0) (iT (cU 1) nE))) (tch:=λH=>LT (X.frm H) gB) (teh:=λH=>LE (X.frm H) te) hc S hi (ak4 hc he (λ_ _ _ _=>sF) hN h0 h1 hl hl2) hs) λ_ _ _=>oG (xF _ 0 1) (λi e=>by rcases e with e|e<;>(subst e;assumption))
end
section
variable {X:Cx}{a b e o f:Expr}{ta tb te td tk tx:aE}{pos p2 aj am:Pos}{σ:L2.St}{H:Hp}{Q':VK}
theorem oT {x:Str}{n:Int}{t:Nat}(hg:Gl X x)(hm:X.mg x=some (.int n t))(hd:(x==("__debug__":Str))=false:=by decide):QE X (.Name x pos) (qC (.int n)):=
 bQ (N2 (v:=.int n) hg hm ⟨t,rfl⟩ hd) λ_ _ _=>lN λ_=>.int n
end
section
variable {X:Cx}{a b:Expr}{ta tb:aE}{pos:Pos}
noncomputable def yN:PV->Tg->PV->Tg->PK->Prop:=λx _ y _ Q=>∃xs ys,x = .tup xs/\y = .tup ys/\flats xs=true/\flats ys=true/\xs.length+ys.length<=16000000/\Q (.tup (xs++ys)) .fr
noncomputable abbrev yO (ta tb:aE):aE:=q2 yN ta tb
theorem ak6:fM X yN (yM X.K):=by
 rintro W Hs H u v x y g g' Q Q' s n r1 r2 ⟨xs,ys,rfl,rfl,f1,f2,hl,q⟩ k
 obtain⟨a,us,rfl,h1,q1⟩:=r1.sqT
 obtain⟨b,ws,rfl,h2,q2⟩:=r2.sqT
 have l1:=q1.length;have l2:=q2.length;refine⟨a,b,us,ws,rfl,rfl,aY.of h1,aY.of h2,lim (by omega),λz=>?_,λ_ z=>?_,λ_ _ p hp=>k _ _ _ .fr (cZ hp _) (.tup bM (((q1.flat f1).append (q2.flat f2)).same (cZ hp _) λ_ z=>z)) q⟩
 ·obtain rfl:xs = []:=by cases xs with
   |nil=>rfl
   |cons _ _=>rw[z]at l1;cases l1
  exact k _ _ _ .fr (aJ.refl _) (.tup h2 (q2.flat f2)) q
 ·obtain rfl:ys = []:=by cases ys with
   |nil=>rfl
   |cons _ _=>rw[z]at l2;cases l2
  rw[aN7]at q;exact k _ _ _ .fr (aJ.refl _) (.tup h1 (q1.flat f1)) q
theorem ak7 (ha:QE X a ta)(hb:QE X b tb):QE X (.BinOp a .Add b pos) (yO ta tb):=fP aj9 ak6 ha hb
end
end PP
namespace Core
open PySem L2 PP
section
variable {ws:ag}{ls:aa}{os ns:ag}
noncomputable def ak8 (ws:ag)(ls:aa)(T:ag):Prop:=∀h∈rng ws.length,kin ws ls T h=false
end
noncomputable def ak9:Option Int->PV
 |none=>.non
 |some h=>.int h
noncomputable def al0 (ns S:ag):Int:=(ns.length:Int)-(((ns.filter λx=>decide (x∈S)).length:Nat):Int)
noncomputable def al1 (ws:ag)(ls:aa)(S:ag)(h:Int):Bool:=decide (al0 (wL ls h) S<ws.getD h.toNat 0)
noncomputable def stay (ws:ag)(ls:aa)(S:ag):ag:=S.filter (al1 ws ls S)
noncomputable def wnb (zs:List ((Int×Int)×Int))(k:Int):aa:=zs.flatMap λz=>(if z.1.1=k then [(z.1.2,z.2)] else [])++(if z.1.2=k then [(z.1.1,z.2)] else [])
noncomputable def al2 (want:Int)(hs:ag)(c:PV):Prop:=((hs.length:Int)<want/\c = .non)∨(want<=(hs.length:Int)/\∃zs:ag,zs.Perm hs/\zs.Pairwise (· <= ·)/\c = .int (zs.take want.toNat).sum)
noncomputable def al3 (zs:ag)(s:Int):Nat:=((List.range zs.length).filter λi=>decide ((zs.take (i+1)).sum<=s)).length
structure al4 (ws:ag)(ls:aa)(wts:ag)(os:List (Option Int)):Prop where
 len:os.length=ws.length
 due:∀h:Nat,h<ws.length->∃o,os[h]? = some o/\al2 (ws.getD h 0) ((wnb (ls.zip wts) h).map (·.2)) (ak9 o)
structure al5 (ws:ag)(ls:aa)(wts zs:ag):Prop where
 ex:∃os,al4 ws ls wts os/\zs.Perm (os.filterMap id)/\zs.Pairwise (· <= ·)
section
variable {ws:ag}{ls:aa}{ns wts:ag}{m:Nat}
noncomputable def loose (ls:aa)(wts ns:ag):List ((Int×Int)×Int):=(ls.zip wts).filter λz=>!(decide (z.1.1∈ns)&&decide (z.1.2∈ns))
end
end Core
namespace PP
open PySem L2 PyProof.Rows
noncomputable abbrev hZ:=(Str->Prop)->b8
noncomputable def EX (K:ad)(H0:Hp)(Ep:Str->Prop):XK:=λc d H'=>d=none/\aJ H0 H'/\∃n C,c = .ref C/\PySem.W.nsIn K mainGlobals n=some (some (.ref C))/\Ep n
noncomputable def yP (K:ad)(p:hZ):Sp:=λvs H Q E=>∃xs Qp Ep,Reps K (λ_=>True) H vs xs/\p Ep xs Qp/\(∀v H' x,aJ H H'->aH K (λa=>H a=none) H' v x->Qp x->Q v H')/\
 ∀n C H',aJ H H'->PySem.W.nsIn K mainGlobals n=some (some (.ref C))->Ep n->E (.ref C) none H'
structure gD (P:ay)(w:ba)(K:ad)(mg:Str->Option av)(base:Heap)(k:Nat)(x:Str)(ps:List Str)(p:hZ):Prop where
 ex:∃f fd,cK P w K mg base (eG P w) k f fd ps (yP K p)/\fW K fd ps []/\PySem.W.keepIn K (.ref f)=true/\mg x=some (.ref f)
section
variable {X:Cx}{σ:L2.St}{H:Hp}{D:d8}{tr:bU}{Q':VK}{a b c e:Expr}{es:List Expr}{pos p2 cp np hp:Pos}{t:aX}{te:aE}{tc:cD}
noncomputable def al6 (Ep:Str->Prop)(p:hZ)(t:bU):aE:=aZ (p Ep) t
theorem al7 {p:hZ}{Ep:Str->Prop}(h:LE X (al6 Ep p tr) σ H Q'):jP (yP X.K p) [] (EX X.K X.H₀ Ep) (LA X tr) σ H Q':=by
 obtain⟨W,ρ,Q,px,q,k⟩:=h
 refine⟨W,ρ,_,px,q,λvs H1 xs s1 r1 q1=>⟨_,_,Ep,by rw[aN7];exact r1.any,q1,λv H' x s2 r2 q2=>k v H' x .fr (s1.trans s2) (r2.same (aJ.refl _) λ_ z=>s1.free z) q2,λn C H' s2 z1 z2=>⟨rfl,(px.same.trans s1).trans s2,n,C,rfl,z1,z2⟩⟩⟩
theorem oU {k j:Nat}{x:Str}{ps:List Str}{p:hZ}(d:gD X.prog X.w X.K X.mg X.base k x ps p)(hr:bI j X.A)(ha:QA X (e::es) tr)(hkj:k<=j:=by decide)(hg:Gl X x:=by rfl)(hdb:(x==("__debug__":Str))=false:=by decide)(he:starEach (e::es) X.env=(false,eval e X.env)::starEach es X.env:=by rfl)(hpl:(backTo pos (starEach es X.env)).any (·.1)=false:=by rfl):QE X (.Call (.Name x p2) (e::es) [] pos) (aZ (p λ_=>False) tr):=by
 obtain⟨f,fd,F,b,kp,m⟩:=d.ex
 refine bQ (lG F (E:=EX X.K X.H₀ λ_=>False) (hr.mono hkj) hg m kp b .nil (λ_ _ _ _ _ _ _ h=>?_) ha hdb he hpl) λ_ _ _ h=>al7 (Ep:=λ_=>False) h
 obtain⟨_,_,_,_,_,_,_,_,_,_,_,_,z⟩:=h
 exact z.elim
noncomputable def mF (Ep:Str->Prop)(n:Str)(t:bU):aX:=λ_ ρ=>t ρ λxs=>xs.length<=1000/\Ep n
theorem al8 {Ep:Str->Prop}{n:Str}{C:ax}(hn:PySem.W.nsIn X.K mainGlobals n=some (some (.ref C)))(h:LS X (mF Ep n tr) D σ H):yC (EX X.K X.H₀ Ep) C (LA X tr) D σ H:=by
 obtain⟨W,ρ,D',px,q,k⟩:=h
 exact⟨W,ρ,_,px,q,λvs H1 xs s1 r z=>⟨by rw[r.length];exact rA z.1,rfl,px.same.trans s1,n,C,rfl,hn,z.2⟩⟩
structure Xc (K:ad)(mg:Str->Option av)(base:Heap)(n:Str):Prop where
 ex:∃C B newId initId bm,OwnCls n C bm newId mg base/\ExcBaseFacts B newId initId bm/\PySem.W.nsIn K mainGlobals n=some (some (.ref C))
theorem sP {Ep:Str->Prop}{n:Str}(hX:oQ X (EX X.K X.H₀ Ep))(x:Xc X.K X.mg X.base n)(ha:QA X (e::es) tr)(hc:X.calm=true:=by rfl)(hg:Gl X n:=by rfl)(hd:(n==("__debug__":Str))=false:=by decide)(he:starEach (e::es) X.env=(false,eval e X.env)::starEach es X.env:=by rfl)(hpl:(backTo cp (starEach es X.env)).any (·.1)=false:=by rfl):QS X (.Raise (some (.Call (.Name n np) (e::es) [] cp)) none pos) (mF Ep n tr):=by
 obtain⟨C,B,newId,initId,bm,O,FB,hn⟩:=x.ex
 exact cW (ah3 hX hc O FB ha hg hd he hpl) λ_ _ _=>al8 hn
noncomputable def lH:V->av
 |.ref a=>.ref a
 |.ty n=>.type n
 |_=>.none
end
structure sQ (K:ad)(C:ax):Prop where
 cls:PySem.W.isClsIn K C=true
 ty:PySem.W.typeIn K (.ref C)=some (.type "type")
 ga:PySem.W.findIn K (.ref C) "__getattribute__" = some (some (.builtin "BaseException.__getattribute__"))
 gt:PySem.W.findIn K (.ref C) "__getattr__" = some none
 fc:PySem.W.findIn K (.ref C) "__class__" = some (some (.builtin "object.__class__"))
 fg:PySem.W.specialIn K (.builtin "object.__class__") "__get__" = some (some (.builtin "getset_descriptor.__get__"))
 ft:PySem.W.takesIn K (.builtin "object.__class__")=some true
 ob:PySem.W.mroIn K C (.type "object")=some true
 be:PySem.W.mroIn K C (.type "BaseException")=some true
theorem yQ {K:ad}{h₀:Heap}{mg:Str->Option av}{x:Str}{C:ax}{bmB:List av}{newId:String}(X:K.In h₀)(m:mg x=some (.ref C))(q:PySem.W.excIn K C bmB newId=true):OwnCls x C bmB newId mg h₀:=by
 refine⟨m,?_⟩;unfold PySem.W.excIn at q;split at q
 case h_2=>cases q
 rename_i dd cd sl ho
 split at q
 case h_2=>cases q
 rename_i C' bm k0 k1 k2 k3 n k5 hm hs
 simp only[aG8,beq_iff_eq,Bool.not_eq_true']at q
 obtain⟨⟨⟨⟨⟨rfl,rfl⟩,dl⟩,ht⟩,hok⟩,hni⟩:=q
 obtain⟨nm,bs,mro,ns,qn,hd,sn,sub,ab,col,del⟩:=cd
 dsimp only at hm dl hok hni;subst hm dl;obtain rfl:sl = #[k0,k1,k2,k3,some (.builtin n),k5]:=by
  obtain⟨l⟩:=sl
  exact congrArg Array.mk hs
 exact⟨bm,ns,nm,qn,bs,hd,sn,sub,ab,col,dd,k0,k1,k2,k3,k5,_,X _ _ ho,.of_isNs (PySem.W.isNs_of_in X hok),PySem.W.nsMap_none_of_in X hok hni,PySem.W.tail_of_in X ht⟩
theorem gD.of {P:ay}{w:ba}{K:ad}{mg:Str->Option av}{base:Heap}{k:Nat}{x:Str}{ps N:List Str}{p:hZ}{st:Stmt}{f:ax}{fd:FuncData}(F:bN K x x st f fd)(m:mg x=some (.ref f))(S:FnScope N ps (aK st))(hb:∀(kV doc pm:av) (an:Option ax) (cdv ct:av) (us:List av),us.length=ps.length->bindArgs (PySem.W.fnOf x x (bK st) (bB st) (aK st) .none kV doc pm an cdv ct) ⟨us,[]⟩=pure (ps.zip us))(t:(Str->Prop)->aX)(len:∀Ep xs Q,p Ep xs Q->xs.length=ps.length)(rd:∀Ep xs Q,p Ep xs Q->t Ep { nx:=λ_=>Q .non,rt:=Q } (bF N xs))(body:∀(cdv:av) (A:az) (outer:List Env) (s:aw) (H:Hp) (E:XK) (Ep:Str->Prop),bI k (A.deeper (envOfC x (aK st) s.heap.objs.size f cdv))->oQ (bV (eG P w) P w K mg base N x (aK st) f cdv A outer s H E) (EX K H Ep)->
   dY (bV (eG P w) P w K mg base N x (aK st) f cdv A outer s H E) (bB st) (t Ep)):gD P w K mg base (k+1) x ps p:=by
 refine⟨f,fd,F.okX S (λvs H Q E h=>?_) (λcdv A outer s H vs Q E hr h=>?_),F.binds hb,F.kp,m⟩
 ·obtain⟨xs,Qp,Ep,r,q,_⟩:=h
  rw[r.length];exact len Ep xs Qp q
 ·obtain⟨xs,Qp,Ep,r,q,k,ke⟩:=h
  have ht:=body cdv A outer s H E Ep hr (ah2 λc d H' z=>?_)
  ·refine⟨_,ht,λ_=>False,bF N xs,_,iI r,rd Ep xs Qp q,?_,?_,?_,?_⟩
   ·exact λW' σ' H' ρ' e px q=>k _ _ _ px.same .non q
   ·exact λv H' x s r q=>k _ _ _ s r q
   ·exact λW' σ' H' ρ' e px q=>q
   ·exact λW' σ' H' ρ' e px q=>q
  ·obtain⟨rfl,s1,n,C,rfl,z1,z2⟩:=z
   exact ke n C H' s1 z1 z2
end PP
namespace Core
open PySem L2 PP
noncomputable abbrev yR (t:(Str->Prop)->aX)(N:List Str)(p:hZ):Prop:=∀Ep xs Q,p Ep xs Q->t Ep { nx:=λ_=>Q .non,rt:=Q } (bF N xs)
end Core
namespace PP
open PySem L2
theorem yS {α β:Type}{F:α->β->Prop}:∀{l:List α}{m:List β}{i:Nat}{x:α},Paired F l m->l[i]? = some x->∃y,m[i]? = some y/\F x y
 |_,_,_,_,.nil,e=>by simp at e
 |_,_,0,_,.cons r _,e=>by simp at e;subst e;exact⟨_,rfl,r⟩
 |_,_,i+1,x,.cons _ t,e=>by
  rw[aK4]at e
  obtain⟨y,h1,h2⟩:=yS t e
  exact⟨y,by rw[aK4];exact h1,h2⟩
theorem us1 {us:List av}(h:us.length=1):∃a,us = [a]:=List.length_eq_one_iff.mp h
theorem us2 {us:List av}(h:us.length=2):∃a b,us = [a,b]:=by
 cases us with
 |nil=>cases h
 |cons a r=>
  obtain⟨b,rfl⟩:=us1 (us:=r) (by simpa using h)
  exact⟨a,b,rfl⟩
theorem yT {us:List av}(h:us.length=3):∃a b c,us = [a,b,c]:=by
 cases us with
 |nil=>cases h
 |cons a r=>
  obtain⟨b,c,rfl⟩:=us2 (us:=r) (by simpa using h)
  exact⟨a,b,c,rfl⟩
theorem jD {us:List av}(h:us.length=4):∃a b c d,us = [a,b,c,d]:=by
 cases us with
 |nil=>cases h
 |cons a r=>
  obtain⟨b,c,d,rfl⟩:=yT (us:=r) (by simpa using h)
  exact⟨a,b,c,d,rfl⟩
theorem yU {us:List av}(h:us.length=5):∃a b c d e,us = [a,b,c,d,e]:=by
 cases us with
 |nil=>cases h
 |cons a r=>
  obtain⟨b,c,d,e,rfl⟩:=jD (us:=r) (by simpa using h)
  exact⟨a,b,c,d,e,rfl⟩
section
variable {X:Cx}{a:Expr}{tk:aE}{σ:St}{H:Hp}{Q':VK}{pos p2:Pos}
theorem al9 (hN:X.N.Nodup)(i j:Nat){x y:Str}{aj am xpos:Pos}(hi:X.N[i]? = some x:=by rfl)(hj:X.N[j]? = some y:=by rfl)(hv:d7 X.env.scope x:=by first|exact Or.inl rfl|exact Or.inr (Or.inl rfl)|exact Or.inr (Or.inr rfl))(hd:(x==("__debug__":Str))=false:=by decide)(hcd:(x==("__classdict__":Str))=false:=by decide)(hbase:attributeBase (.Name x xpos) "pop" X.env (eval (.Name x xpos) X.env)=eval (.Name x xpos) X.env:=by rfl)(hline:(aj.endLine==am.line)=true:=by rfl)(hx:eZ X.env.scope y:=by first|exact Or.inl rfl|exact Or.inr rfl)(hs:swapsWith (.Call (.Attribute (.Name x xpos) "pop" aj) [] [] am) (some (.Name y p2)) pos.line X.env=pure false:=by rfl)(hf:X.fn y=true∨X.env.scope.names.lookup y=some .local:=by first|exact .inl rfl|exact .inr rfl) :
  QS X (.Assign [.Name y p2] (.Call (.Attribute (.Name x xpos) "pop" aj) [] [] am) pos) (rD i j):=
 cW (lA hN hj hx (V4 PySem.F.plainAttrs_list PySem.F.slot_list_pop PySem.F.type_list_pop V7 (fC hi hv hd hcd) hbase hline) hs hf) λ_ _ _=>ac7
end
end PP
namespace Core
open PySem L2 PP
section
variable {ws:ag}{ls:aa}
noncomputable def cne (ws:ag)(ls:aa)(S:ag):Bool:=!decide (S = [])&&decide (stay ws ls S=S)
end
noncomputable def far (ns S:ag):Bool:=decide (((S.filter λx=>decide (x∈ns)).length:Int)=0)
noncomputable def oV (ws:ag)(ls:aa):ag->ag->Bool
 |_,[]=>true
 |B,h::R=>inB ws.length h&&(kin ws ls B h&&oV ws ls (B++[h]) R)
end Core
namespace PP
open PySem L2
section
variable {X:Cx}{a b:Expr}{ta tb:aE}{pos pos2 p2 p3:Pos}
theorem am0 (ha:QE X a ta)(hb:QE X b tb):QE X (.BinOp a .BitAnd b pos) (q2 (d0 λi j=>.int (Builtin.bitAnd i j)) ta tb):=fP R0 o3 ha hb
end
end PP
namespace L2
open PySem PySem.Spec PyProof.Rows
section
variable {X:Cx}
theorem am1 (hc:X.calm=true):cR X (.builtin "min") (λxs H Q=>∃(a:ax) (ns:ag),xs = [.ref a]/\b7 X.K H a (ns.map V.int)/\ns≠[]/\∀M:Int,M∈ns->(∀x∈ns,M<=x)->Q (.int M) H):=by
 intro ai s σ H xs us Q I r h
 obtain⟨a,ns,rfl,hq,ne,q⟩:=h
 obtain⟨u,rfl,ru⟩:=gZ r
 cases ru
 obtain⟨its,rv,p,hz⟩:=I.list hq
 have ia:=jQ rv
 obtain⟨ys,ey⟩:=ia.allInts.items
 have en:ns=ys.toList.map (·.1):=by
  have e1:=nums_intItems ys;rw[<- ey]at e1;exact ia.numsOf.symm.trans e1
 have pos:0<ys.size:=Nat.pos_of_ne_zero λz=>ne (by rw[en,aL6 z];rfl)
 have hl:s.heap.IsList a (intItems ys):=ey▸p.isList;refine min_intList (I.ok.hd hc) hl pos λv h' tk ev old=>?_
 obtain⟨t,rfl⟩:=intItems_at ev
 have best:=argBest_lt (numAt ys) (ys.size-1);have mem:∀x:Int,x∈ns↔∃j,j<ys.size/\numAt ys j=x:=λx=>by
  rw[en];constructor
  ·intro z
   obtain⟨j,hj,e⟩:=mem_getD z
   exact⟨j,by simpa using hj,by rw[numAt_eq];exact e⟩
  ·rintro⟨j,hj,rfl⟩
   rw[numAt_eq];exact getD_mem (by simpa using hj)
 refine⟨.int _,H,I.kept (t':=tk) (h':=h') old,⟨t,rfl⟩,q _ ?_ λx hx=>?_⟩
 ·exact (mem _).mpr ⟨_,by have:=best.1;omega,rfl⟩
 ·obtain⟨j,hj,rfl⟩:=(mem x).mp hx
  exact best.2 j (by omega)
end
end L2
namespace PP
open PySem L2
section
variable {X:Cx}{e:Expr}{tr:bU}{pos p2:Pos}
noncomputable def yV:List PV->(PV->Prop)->Prop:=λxs Q=>∃ns:ag,xs = [.lst (intz ns)]/\ns≠[]/\∀M:Int,M∈ns->(∀x∈ns,M<=x)->Q (.int M)
theorem am2:dJ X yV (λxs H Q=>∃(a:ax) (ns:ag),xs = [.ref a]/\b7 X.K H a (ns.map V.int)/\ns≠[]/\∀M:Int,M∈ns->(∀x∈ns,M<=x)->Q (.int M) H):=by
 rintro H vs xs Q Q' r ⟨ns,rfl,ne,q⟩ k
 obtain⟨v,rfl,r1⟩:=r.one
 obtain⟨a,us,rfl,_,h,r2⟩:=r1.sqL
 rw[r2.ofInts]at h
 exact⟨a,ns,rfl,b7.of h,ne,λM m1 m2=>k _ _ _ (aJ.refl _) (.int M) (q M m1 m2)⟩
end
end PP
namespace L2
open PySem PySem.Spec PyProof.Rows
section
variable {X:Cx}
theorem am3 (hc:X.calm=true):cR X (.builtin "max") (λxs H Q=>∃(a:ax) (ns:ag),xs = [.ref a]/\b7 X.K H a (ns.map V.int)/\ns≠[]/\∀M:Int,M∈ns->(∀x∈ns,x<=M)->Q (.int M) H):=by
 intro ai s σ H xs us Q I r h
 obtain⟨a,ns,rfl,hq,ne,q⟩:=h
 obtain⟨u,rfl,ru⟩:=gZ r
 cases ru
 obtain⟨its,rv,p,hz⟩:=I.list hq
 have ia:=jQ rv
 obtain⟨ys,ey⟩:=ia.allInts.items
 have en:ns=ys.toList.map (·.1):=by
  have e1:=nums_intItems ys;rw[<- ey]at e1;exact ia.numsOf.symm.trans e1
 have pos:0<ys.size:=Nat.pos_of_ne_zero λz=>ne (by rw[en,aL6 z];rfl)
 have hl:s.heap.IsList a (intItems ys):=ey▸p.isList;refine max_intList (I.ok.hd hc) hl pos λv h' tk ev old=>?_
 obtain⟨t,rfl⟩:=intItems_at ev
 have best:=argBest_gt (numAt ys) (ys.size-1);have mem:∀x:Int,x∈ns↔∃j,j<ys.size/\numAt ys j=x:=λx=>by
  rw[en];constructor
  ·intro z
   obtain⟨j,hj,e⟩:=mem_getD z
   exact⟨j,by simpa using hj,by rw[numAt_eq];exact e⟩
  ·rintro⟨j,hj,rfl⟩
   rw[numAt_eq];exact getD_mem (by simpa using hj)
 refine⟨.int _,H,I.kept (t':=tk) (h':=h') old,⟨t,rfl⟩,q _ ?_ λx hx=>?_⟩
 ·exact (mem _).mpr ⟨_,by have:=best.1;omega,rfl⟩
 ·obtain⟨j,hj,rfl⟩:=(mem x).mp hx
  exact best.2 j (by omega)
end
end L2
namespace PP
open PySem L2
section
variable {X:Cx}{a b e o:Expr}{ta tb te to:aE}{tr:bU}{pos p2 aj am:Pos}{σ:St}{H:Hp}{Q':VK}
noncomputable def yW:List PV->(PV->Prop)->Prop:=λxs Q=>∃ns:ag,xs = [.lst (intz ns)]/\ns≠[]/\∀M:Int,M∈ns->(∀x∈ns,x<=M)->Q (.int M)
theorem am4:dJ X yW (λxs H Q=>∃(a:ax) (ns:ag),xs = [.ref a]/\b7 X.K H a (ns.map V.int)/\ns≠[]/\∀M:Int,M∈ns->(∀x∈ns,x<=M)->Q (.int M) H):=by
 rintro H vs xs Q Q' r ⟨ns,rfl,ne,q⟩ k
 obtain⟨v,rfl,r1⟩:=r.one
 obtain⟨a,us,rfl,_,h,r2⟩:=r1.sqL
 rw[r2.ofInts]at h
 exact⟨a,ns,rfl,b7.of h,ne,λM m1 m2=>k _ _ _ (aJ.refl _) (.int M) (q M m1 m2)⟩
noncomputable def sR:List PV->(PV->Prop)->Prop:=λxs Q=>(∃i,xs = [.int i]/\Q (.int i))∨∃k,xs = [.bl k]/\Q (.int (if k then 1 else 0))
theorem am5:dJ X sR (λxs H Q=>(∃i,xs = [.int i]/\Q (.int i) H)∨∃k,xs = [.bl k]/\Q (.int (if k then 1 else 0)) H):=by
 rintro H vs xs Q Q' r (⟨i,rfl,q⟩|⟨i,rfl,q⟩) k
 ·obtain⟨v,rfl,r1⟩:=r.one
  cases r1;exact .inl ⟨i,rfl,k _ _ _ (aJ.refl _) (.int _) q⟩
 ·obtain⟨v,rfl,r1⟩:=r.one
  cases r1;exact .inr ⟨i,rfl,k _ _ _ (aJ.refl _) (.int _) q⟩
theorem am6 (B:Bt X.mg)(ha:QA X [e] tr)(hg:Gl X "int":=by rfl)(he:starEach [e] X.env=(false,eval e X.env)::starEach [] X.env:=by rfl)(hpl:(backTo pos (starEach [] X.env)).any (·.1)=false:=by rfl):QE X (.Call (.Name "int" p2) [e] [] pos) (aZ sR tr):=
 xW S9 am5 hg B.int PyProof.Rows.boot_int ha (he:=he) (hpl:=hpl)
end
end PP
namespace Core
open PySem L2 PP
noncomputable def aD5 (ps:aa):Int:=if ps = [] then 1 else (ps.map (·.2)).sum
noncomputable def X8 (ws:ag)(ls:aa)(ns R:ag):Prop:=oV ws ls ns R=true/\ak8 ws ls (ns++R)
end Core
namespace HT
open PySem PyProof.Rows
section
open PySem.SeqAt
open PySem.AutoSeq1 (wpAny_loadPart')
open PySem.MeetsSeq PySem.MeetsSeq2 PySem.MeetsSeq3
theorem am7 (l b:ax)(n n2:Nat)(dd dd2:Option ax)(sl sl2:Array (Option av))(a c:Int)(t u:Tok)(v x:av)(e lt:Bool) :
  Meets (Builtin.«tuple.__lt__» ⟨[.ref l,.ref b],[]⟩)
   (λA R s=>s.heap.get? l=some { cls:=.type "tuple",dict:=dd,data:=.seq #[.int a t,v] n,slots:=sl }/\s.heap.get? b=some { cls:=.type "tuple",dict:=dd2,data:=.seq #[.int c u,x] n2,slots:=sl2 }/\
    SeqAt.EqAt A.in1 s v x e/\(∀(prog:ay) (w:ba) (E Q:av->aw->Prop),Q (.bool lt) s->wpAny (model prog w) A.in1 (richCompare .Lt v x) Q E s)/\
    R (.ok (.ret (.bool (if a=c then (if e then false else lt) else decide (a<c))))) s):=
 .of_wp λprog w A R s h=>by
  obtain⟨hp,g,d,tk,os⟩:=s;obtain⟨hl,hb,he2,hlt,h⟩:=h
  have f2:=AutoSeq1.sub_tuple_tuple
  wp_walk using wpAny_loadPart' hl,wpAny_loadPart' hb,wpAny_forIn_list _ (λrest z s'=>z.1=none/\s'=⟨hp,g,d,tk,os⟩/\(rest = [(Value.int a t,Value.int c u),(v,x)]∨(rest = [(v,x)]/\a=c)∨(rest = []/\a=c/\e=true))) _
  case turn=>
   rintro⟨p,q⟩ rest z s' ⟨hz,rfl,c1|⟨c1,ac⟩|⟨c1,_⟩⟩
   ·injection c1 with c2 c3
    injection c2 with c4 c5
    subst c4 c5
    obtain⟨e1,he1,hiff⟩:=vM A.in1 ⟨hp,g,d,tk,os⟩ a t c u
    refine aD7 (he1 prog w _ _ ?_);cases e1 with
    |true=>
     wp_walk
     exact⟨rfl,rfl,.inr (.inl ⟨c3,hiff.mp rfl⟩)⟩
    |false=>
     rw[if_neg (λq=>absurd (hiff.mpr q) aF1)]at h;have hri:=vN A.in1 ⟨hp,g,d,tk,os⟩ a t c u prog w
     wp_walk using hri
     exact⟨_,rfl,by simpa using h⟩
   ·injection c1 with c2 c3
    injection c2 with c4 c5
    subst c4 c5;rw[if_pos ac]at h;refine aD7 (he2 prog w _ _ ?_);cases e with
    |true=>
     wp_walk
     exact⟨rfl,rfl,.inr (.inr ⟨c3,ac,rfl⟩)⟩
    |false=>
     have hri:=hlt prog w
     wp_walk using hri
     exact⟨_,rfl,by simpa using h⟩
   ·cases c1
  case fin=>
   rintro⟨b1,b2⟩ s' ⟨hz,rfl,c1|⟨c1,ac⟩|⟨c1,ac,et⟩⟩
   ·cases c1
   ·cases c1
   ·simp only at hz
    subst hz;subst et;rw[if_pos ac,if_pos rfl]at h
    wp_walk
    exact⟨_,rfl,by simpa[Builtin.Tuple.tupleCompareSizes] using h⟩
  case h=>exact⟨rfl,rfl,.inl rfl⟩
end
end HT
namespace L2
open PySem PySem.Spec PyProof.Rows PP
section
variable {X:Cx}{ai:List (ax×Obj)}{s:aw}{σ:St}{H:Hp}{M M':ax→Prop}
noncomputable abbrev fQ (a:Int)(ns:ag):PV:=.tup [.int a,.tup (intz ns)]
theorem yX:∀ns:ag,HT.cE ns ns=false
 |[]=>rfl
 |x::xs=>by rw[HT.nO,if_pos rfl];exact yX xs
theorem am8 {A:az}(hu:A.units+4<cLine)(I:aA X ai σ H s){x y:V}{v u:av}{a c:Int}{ns ms:ag}(r1:aH X.K M H x (fQ a ns))(r2:aH X.K M' H y (fQ c ms))(e1:aR x v)(e2:aR y u){prog:ay}{w:ba}{E Q:av->aw->Prop}(h:Q (.bool (HT.cE (a::ns) (c::ms))) s):wpAny (model prog w) A (richCompare .Lt v u) Q E s:=by
 obtain⟨l,us,rfl,h1,q1⟩:=r1.sqT
 obtain⟨b,ws,rfl,h2,q2⟩:=r2.sqT
 cases e1;cases e2
 obtain⟨x1,x2,rfl,p1,p2⟩:=q1.two
 obtain⟨y1,y2,rfl,p3,p4⟩:=q2.two
 cases p1;cases p3
 obtain⟨its,v1,t1,_⟩:=I.tuple (aY.of (K:=X.K) h1)
 obtain⟨aq,v2,t2,_⟩:=I.tuple (aY.of (K:=X.K) h2)
 obtain⟨_,_,rfl,k1,k2⟩:=v1.two
 obtain⟨_,_,rfl,k3,k4⟩:=v2.two
 obtain⟨t,rfl⟩:=k1
 obtain⟨t',rfl⟩:=k3
 have eq:=af9 I 2 (A:=A.in1) (by show A.units+1+2<cLine;omega) p2 p4 k2 k4 (by exact ae6 1 ns ms);rw[ae5 1]at eq
 obtain⟨p,us,rfl,h3,q3⟩:=p2.sqT
 obtain⟨q,ws,rfl,h4,q4⟩:=p4.sqT
 obtain rfl:=q3.ofInts;obtain rfl:=q4.ofInts;cases k2;cases k4
 obtain⟨its,v3,t3,_⟩:=I.tuple (aY.of (K:=X.K) h3)
 obtain⟨aq,v4,t4,_⟩:=I.tuple (aY.of (K:=X.K) h4)
 have i3:IntsAre its.toArray.toList ns:=jQ v3;have i4:IntsAre aq.toArray.toList ms:=jQ v4
 obtain⟨⟨cls,dd,data,sl⟩,ho,hc,n,hd⟩:=t1
 obtain⟨⟨cls2,dd2,data2,sl2⟩,ho2,hc2,n2,hd2⟩:=t2
 simp only at hc hd hc2 hd2;subst hc hd hc2 hd2;refine richCompare_meets_room (op:=.Lt) ⟨_,ho,rfl⟩ ⟨_,ho2,rfl⟩ PySem.F.slot_tuple_lt PySem.F.entry_tuple_lt (PySem.F.args_tuple_lt_2 _ _) (HT.am7 l b n n2 dd dd2 sl sl2 a c t t' _ _ (decide (ns=ms)) (HT.cE ns ms))
  ⟨ho,ho2,eq,λprog w E Q hq=>(HT.U0 t3 t4 i3 i4 (by show A.units+1<cLine;omega) hq:wpAny (model prog w) A.in1 (compareOp .Lt _ _) Q E s),?_⟩ (by omega)
 have e:(if a=c then (if (decide (ns=ms))=true then false else HT.cE ns ms) else decide (a<c))=HT.cE (a::ns) (c::ms):=by
  rw[HT.nO];by_cases ac:a=c
  ·rw[if_pos ac,if_pos ac]
   by_cases nm:ns=ms
   ·rw[if_pos (aG5 nm),nm,yX]
   ·rw[if_neg (by rw[aJ1];exact nm)]
  ·rw[if_neg ac,if_neg ac]
 rw[e]
 exact⟨(λx=>nomatch x),h⟩
end
section
variable {prog:ay}{w:ba}{A:az}{R:Result→aw→Prop}{I S:ax}{n:Nat}{l:ax}{its:Array av}{s0:aw}{bt:Nat→Nat→Bool}
noncomputable abbrev iL (s:aw)(h:Heap)(k:Nat):aw:={ s with heap:=h,toks:=k }
noncomputable abbrev gQ (g h:Heap):Prop:=∀b o,g.get? b=some o->h.get? b=some o
end
section
variable {prog:ay}{w:ba}{A:az}{s0:aw}{l:ax}{its:Array av}{bt:Nat→Nat→Bool}
theorem yY {h:Heap}{a:ax}(z:h.objs.size<=a):h.get? a=none:=by
 cases q:h.get? a with
 |none=>rfl
 |some o=>exact absurd (aE8 q) (Nat.not_lt.mpr z)
end
end L2
namespace PP
open PySem L2
section
variable {X:Cx}{a b e:Expr}{ta tb:aE}{tr:bU}{pos p2:Pos}
theorem oW (a:Int)(ns:ag):flat (fQ a ns)=true:=by
 show (flat (.int a)&&(flat (.tup (intz ns))&&true))=true;rw[show flat (.tup (intz ns))=true from nW ns];rfl
end
end PP
namespace Core
open PySem L2 PP
noncomputable def Bd (ws:ag)(ls:aa)(wts:ag)(b:Int):Prop:=∃zs,al5 ws ls wts zs/\b=(ws.length:Int)-(al3 zs wts.sum:Int)
noncomputable def FB (L:ae)(f:ag->Int)(r:ag):Prop:=∃i,L[i]? = some r/\(∀(j:Nat) (s:ag),j<i->L[j]? = some s->f s<f r)/\∀s∈L,f s<=f r
end Core
namespace L2
open PySem PySem.Spec PyProof.Rows
section
variable {prog:ay}{w:ba}{A:az}{E:av→aw→Prop}{s:aw}{l:ax}{xs:Array (Int×Tok)}
theorem yZ {Q:av->aw->Prop}(hl:s.heap.IsTuple l (intItems xs))(h:∀h2:Heap,(h2.IsTupleIter s.heap.objs.size l 0/\h2.IsTuple l (intItems xs))->(∀b∈[s.heap.objs.size,l],b<h2.objs.size)->l≠s.heap.objs.size->(∀b o,s.heap.get? b=some o->b∉[s.heap.objs.size]/\h2.get? b=some o)->Q (.ref s.heap.objs.size) { s with heap:=h2 }):wpAny (model prog w) A (pyIter (.ref l)) Q E s:=by
 have lb:l<s.heap.objs.size:=by obtain⟨_,e,_⟩:=hl;exact aE8 e
 refine wpAny_pyIter_tuple hl (h _ ⟨⟨_,aF3 _ rfl,rfl,rfl⟩,hl.push _⟩ (λb hb=>?_) (aH2 lb) λb o e=>⟨λhm=>?_,aE1 _ e⟩)
 ·rw[aK8]
  rcases aE2.mp hb with rfl|hb
  ·exact Nat.lt_succ_self _
  ·rw[aE6.mp hb];exact Nat.lt_succ_of_lt lb
 ·rw[aE6.mp hm]at e
  exact absurd (aE8 e) (aI5 _)
theorem am9 {Q:av->aw->Prop}(hh:A.handled=none)(hl:s.heap.IsTuple l (intItems xs))(hne:0<xs.size)(h:∀v h' tk,(intItems xs)[argBest (λi j=>decide (numAt xs i>numAt xs j)) (xs.size-1)]? = some v->(∀b o,s.heap.get? b=some o->h'.get? b=some o)->Q v { s with heap:=h',toks:=tk }):wpAny (model prog w) A (call (.builtin "max") [.ref l]) Q E s:=by
 refine call_max_walk (yZ hl λh2 st hfp ne old=>?_)
 exact⟨_,_,_,_,_,_,_,rfl,Walks.tuple (A:=A.in1) hh _ l ne (intItems xs),st,hfp,by simpa[intItems] using hne,CmpOf.ints_gt (numAt xs) (λ_ _=>intItems_at),λv h' tk hP hk=>h v h' tk (by simpa[intItems] using hP) λb o e=>hk b o (old b o e).1 (old b o e).2⟩
theorem ao0 {Q:av->aw->Prop}(hh:A.handled=none)(hl:s.heap.IsTuple l (intItems xs))(hne:0<xs.size)(h:∀v h' tk,(intItems xs)[argBest (λi j=>decide (numAt xs i<numAt xs j)) (xs.size-1)]? = some v->(∀b o,s.heap.get? b=some o->h'.get? b=some o)->Q v { s with heap:=h',toks:=tk }):wpAny (model prog w) A (call (.builtin "min") [.ref l]) Q E s:=by
 refine call_min_walk (yZ hl λh2 st hfp ne old=>?_)
 exact⟨_,_,_,_,_,_,_,rfl,Walks.tuple (A:=A.in1) hh _ l ne (intItems xs),st,hfp,by simpa[intItems] using hne,CmpOf.ints_lt (numAt xs) (λ_ _=>intItems_at),λv h' tk hP hk=>h v h' tk (by simpa[intItems] using hP) λb o e=>hk b o (old b o e).1 (old b o e).2⟩
end
section
variable {X:Cx}
theorem ao1 (hc:X.calm=true):cR X (.builtin "max") (λxs H Q=>∃(a:ax) (ns:ag),xs = [.ref a]/\aY X.K H a (ns.map V.int)/\ns≠[]/\∀M:Int,M∈ns->(∀x∈ns,x<=M)->Q (.int M) H):=by
 intro ai s σ H xs us Q I r h
 obtain⟨a,ns,rfl,hq,ne,q⟩:=h
 obtain⟨u,rfl,ru⟩:=gZ r
 cases ru
 obtain⟨its,rv,p,hz⟩:=I.tuple hq
 have ia:=jQ rv
 obtain⟨ys,ey⟩:=ia.allInts.items
 have en:ns=ys.toList.map (·.1):=by
  have e1:=nums_intItems ys;rw[<- ey]at e1;exact ia.numsOf.symm.trans e1
 have pos:0<ys.size:=Nat.pos_of_ne_zero λz=>ne (by rw[en,aL6 z];rfl)
 have hl:s.heap.IsTuple a (intItems ys):=by rw[<- ey];exact p
 refine am9 (I.ok.hd hc) hl pos λv h' tk ev old=>?_
 obtain⟨t,rfl⟩:=intItems_at ev
 have best:=argBest_gt (numAt ys) (ys.size-1);have mem:∀x:Int,x∈ns↔∃j,j<ys.size/\numAt ys j=x:=λx=>by
  rw[en];constructor
  ·intro z
   obtain⟨j,hj,e⟩:=mem_getD z
   exact⟨j,by simpa using hj,by rw[numAt_eq];exact e⟩
  ·rintro⟨j,hj,rfl⟩
   rw[numAt_eq];exact getD_mem (by simpa using hj)
 refine⟨.int _,H,I.kept (t':=tk) (h':=h') old,⟨t,rfl⟩,q _ ?_ λx hx=>?_⟩
 ·exact (mem _).mpr ⟨_,by have:=best.1;omega,rfl⟩
 ·obtain⟨j,hj,rfl⟩:=(mem x).mp hx
  exact best.2 j (by omega)
theorem ao2 (hc:X.calm=true):cR X (.builtin "min") (λxs H Q=>∃(a:ax) (ns:ag),xs = [.ref a]/\aY X.K H a (ns.map V.int)/\ns≠[]/\∀M:Int,M∈ns->(∀x∈ns,M<=x)->Q (.int M) H):=by
 intro ai s σ H xs us Q I r h
 obtain⟨a,ns,rfl,hq,ne,q⟩:=h
 obtain⟨u,rfl,ru⟩:=gZ r
 cases ru
 obtain⟨its,rv,p,hz⟩:=I.tuple hq
 have ia:=jQ rv
 obtain⟨ys,ey⟩:=ia.allInts.items
 have en:ns=ys.toList.map (·.1):=by
  have e1:=nums_intItems ys;rw[<- ey]at e1;exact ia.numsOf.symm.trans e1
 have pos:0<ys.size:=Nat.pos_of_ne_zero λz=>ne (by rw[en,aL6 z];rfl)
 have hl:s.heap.IsTuple a (intItems ys):=by rw[<- ey];exact p
 refine ao0 (I.ok.hd hc) hl pos λv h' tk ev old=>?_
 obtain⟨t,rfl⟩:=intItems_at ev
 have best:=argBest_lt (numAt ys) (ys.size-1);have mem:∀x:Int,x∈ns↔∃j,j<ys.size/\numAt ys j=x:=λx=>by
  rw[en];constructor
  ·intro z
   obtain⟨j,hj,e⟩:=mem_getD z
   exact⟨j,by simpa using hj,by rw[numAt_eq];exact e⟩
  ·rintro⟨j,hj,rfl⟩
   rw[numAt_eq];exact getD_mem (by simpa using hj)
 refine⟨.int _,H,I.kept (t':=tk) (h':=h') old,⟨t,rfl⟩,q _ ?_ λx hx=>?_⟩
 ·exact (mem _).mpr ⟨_,by have:=best.1;omega,rfl⟩
 ·obtain⟨j,hj,rfl⟩:=(mem x).mp hx
  exact best.2 j (by omega)
end
end L2
namespace PP
open PySem L2
section
variable {X:Cx}{a b e:Expr}{ta tb:aE}{tr:bU}{pos p2:Pos}
noncomputable def z0:List PV->(PV->Prop)->Prop:=λxs Q=>∃ns:ag,xs = [.tup (intz ns)]/\ns≠[]/\∀M:Int,M∈ns->(∀x∈ns,x<=M)->Q (.int M)
noncomputable def z4:List PV->(PV->Prop)->Prop:=λxs Q=>∃ns:ag,xs = [.tup (intz ns)]/\ns≠[]/\∀M:Int,M∈ns->(∀x∈ns,M<=x)->Q (.int M)
theorem ao3:dJ X z0 (λxs H Q=>∃(a:ax) (ns:ag),xs = [.ref a]/\aY X.K H a (ns.map V.int)/\ns≠[]/\∀M:Int,M∈ns->(∀x∈ns,x<=M)->Q (.int M) H):=by
 rintro H vs xs Q Q' r ⟨ns,rfl,ne,q⟩ k
 obtain⟨v,rfl,r1⟩:=r.one
 obtain⟨a,us,rfl,h,r2⟩:=r1.sqT
 rw[r2.ofInts]at h
 exact⟨a,ns,rfl,aY.of h,ne,λM m1 m2=>k _ _ _ (aJ.refl _) (.int M) (q M m1 m2)⟩
theorem ao4:dJ X z4 (λxs H Q=>∃(a:ax) (ns:ag),xs = [.ref a]/\aY X.K H a (ns.map V.int)/\ns≠[]/\∀M:Int,M∈ns->(∀x∈ns,M<=x)->Q (.int M) H):=by
 rintro H vs xs Q Q' r ⟨ns,rfl,ne,q⟩ k
 obtain⟨v,rfl,r1⟩:=r.one
 obtain⟨a,us,rfl,h,r2⟩:=r1.sqT
 rw[r2.ofInts]at h
 exact⟨a,ns,rfl,aY.of h,ne,λM m1 m2=>k _ _ _ (aJ.refl _) (.int M) (q M m1 m2)⟩
end
end PP
namespace L2
open PySem PySem.Spec PyProof.Rows
section
variable {X:Cx}{ai:List (ax×Obj)}{σ:St}{H:Hp}{s:aw}{a:ax}
noncomputable def sS (H:Hp)(y:V)(k:List (Int×Bool)):Prop:=∃q,y = .ref q/\dO H k q
theorem ao5 {kvs:List (List (Int×Bool)×V)}(I:aA X ai σ H s)(h:H a=some (.dA kvs)):∃es ep ys,Raw.lK s.heap a es ep/\(a==sysModules)=false/\Paired (sS H) ys (kvs.map (·.1))/\aP ys (es.toList.map (·.key))/\kvs.length<=sizeLine:=by
 obtain⟨z,far,xs,rel,o,es,ep,e1,e2,e3,e4,nd⟩:=(show bG X.prog X.w H s.heap a (.dA kvs) from I.hok a _ h)
 refine⟨es,ep,xs.map λq=>V.ref q.2.1,⟨o,e1,e2,e3⟩,far,?_,?_,z⟩
 ·clear e4 nd h z
  induction rel with
  |nil=>exact .nil
  |cons r rs ih=>exact .cons ⟨_,rfl,r.2.1⟩ ih
 ·rw[e4]
  clear rel e4 nd
  induction xs with
  |nil=>exact .nil
  |cons q qs ih=>exact .cons rfl ih
end
noncomputable def ao6:HO->Bool
 |.dK _=>true
 |.dT _=>true
 |.dA _=>true
 |_=>false
section
variable {X:Cx}{ai:List (ax×Obj)}{σ:St}{H H':Hp}{s:aw}{a:ax}
theorem aA.frozeD {o:Obj}{u:HO}(I:aA X ai σ H s)(h:H a=some u)(du:ao6 u=true)(e:s.heap.get? a=some o):aA X ai σ (upd H a (.frz o u)) s:=by
 have own:∀{c:ax}{y:ax},H c=some (.own y)->c≠a:=λ{c y} q z=>by rw[z,h]at q;cases q;cases du
 have tp:∀{c:ax}{xs:List V},H c=some (.tup xs)->c≠a:=λ{c xs} q z=>by rw[z,h]at q;cases q;cases du
 have cd:∀{c:ax}{y:Str},H c=some (.code y)->c≠a:=λ{c y} q z=>by rw[z,h]at q;cases q;cases du
 refine I.reH (a:=a) (λb n=>aL n) ⟨_,h⟩ (λxs q=>by rw[h]at q;cases q;cases du) (λo' v q=>by have:=I.base.frzs a o' v q;rw[h]at this;cases this;cases du) (λps q=>by rw[h]at q;cases q;cases du) λb v q=>?_
 by_cases hb:b=a
 ·subst hb
  rw[bM]at q;cases q
  exact⟨e,(I.hok b _ h).stay (λ_ _ _ q=>q) (λc q=>by rw[aL (own q)];exact q) (λc xs q=>by rw[aL (tp q)];exact q) (λc r q=>by rw[aL (cd q)];exact q)⟩
 ·rw[aL hb]at q
  exact (I.hok b v q).stay (λ_ _ _ q=>q) (λc q=>by rw[aL (own q)];exact q) (λc xs q=>by rw[aL (tp q)];exact q) (λc r q=>by rw[aL (cd q)];exact q)
end
end L2
namespace PP
open PySem L2
noncomputable def fz:PV->PV
 |.dK ps=>.fK ps
 |.dT ps=>.fT ps
 |.dA ps=>.fA ps
 |x=>x
theorem z5 {K:ad}{M:ax->Prop}{H:Hp}{k:List (Int×Bool)}{b:ax}(h:dO H k b):aH K M H (.ref b) (.tup (k.map λq=>.tup [.int q.1,.bl q.2])):=by
 obtain⟨us,e,r⟩:=h
 refine .tup e ?_;clear e
 induction r with
 |nil=>exact .nil
 |@cons p u ps us hd t ih=>
  obtain⟨c,rfl,hc⟩:=hd
  exact .cons (.tup hc (.cons (.int _) (.cons (.bl _) .nil))) ih
end PP
namespace PP
open PySem L2 PyProof.Rows
section
variable {X:Cx}{a b e:Expr}{ta tb te:aE}{tr:bU}{pos p2:Pos}
theorem dJ.or {R1 R2:List PV->(PV->Prop)->Prop}{r1 r2:List V->Hp->(V->Hp->Prop)->Prop}(h1:dJ X R1 r1)(h2:dJ X R2 r2):dJ X (λxs Q=>R1 xs Q∨R2 xs Q) (λxs H Q=>r1 xs H Q∨r2 xs H Q):=by
 rintro H vs xs Q Q' r (h|h) k
 ·exact .inl (h1 H vs xs Q Q' r h k)
 ·exact .inr (h2 H vs xs Q Q' r h k)
noncomputable def sT:List PV->(PV->Prop)->Prop:=λxs Q=>yV xs Q∨z4 xs Q
noncomputable def sU:List PV->(PV->Prop)->Prop:=λxs Q=>yW xs Q∨z0 xs Q
theorem ao7 (B:Bt X.mg)(hc:X.calm=true)(ha:QA X [e] tr)(hg:Gl X "min":=by rfl)(he:starEach [e] X.env=(false,eval e X.env)::starEach [] X.env:=by rfl)(hpl:(backTo pos (starEach [] X.env)).any (·.1)=false:=by rfl):QE X (.Call (.Name "min" p2) [e] [] pos) (aZ sT tr):=
 mB ((am1 hc).or (ao2 hc)) (am2.or ao4) hg B.min PyProof.Rows.boot_min ha (he:=he) (hpl:=hpl)
theorem ao8 (B:Bt X.mg)(hc:X.calm=true)(ha:QA X [e] tr)(hg:Gl X "max":=by rfl)(he:starEach [e] X.env=(false,eval e X.env)::starEach [] X.env:=by rfl)(hpl:(backTo pos (starEach [] X.env)).any (·.1)=false:=by rfl):QE X (.Call (.Name "max" p2) [e] [] pos) (aZ sU tr):=
 mB ((am3 hc).or (ao1 hc)) (am4.or ao3) hg B.max PyProof.Rows.boot_max ha (he:=he) (hpl:=hpl)
theorem ao9 {x:PV}{ns:ag}(h:Core.d5 x ns)(ne:ns≠[]){Q:PV->Prop}(q:∀M:Int,M∈ns->(∀x∈ns,M<=x)->Q (.int M)):sT [x] Q:=by
 rcases h with rfl|rfl
 ·exact .inr ⟨ns,rfl,ne,q⟩
 ·exact .inl ⟨ns,rfl,ne,q⟩
theorem ap0 {x:PV}{ns:ag}(h:Core.d5 x ns)(ne:ns≠[]){Q:PV->Prop}(q:∀M:Int,M∈ns->(∀x∈ns,x<=M)->Q (.int M)):sU [x] Q:=by
 rcases h with rfl|rfl
 ·exact .inr ⟨ns,rfl,ne,q⟩
 ·exact .inl ⟨ns,rfl,ne,q⟩
end
end PP
namespace Core
open PySem L2 PP
noncomputable def jE (ws:ag):Prop:=ws≠[]/\ws.length<=2/\∀x∈ws,0<=x/\x<=6
noncomputable def jF:hZ:=λEp xs Q=>∃x ws L,xs = [x,.int L]/\d5 x ws/\(jE ws->0<=L->Q .non)/\(¬(jE ws/\0<=L)->Ep "BadBoard")
noncomputable def z6 (Ep:Str->Prop):aX:=(bE (g8 (j3 (bZ (oI (aZ gM (aI (aC 0) aU)) (qC (.int 1)))) (j3 (bZ (rO (aZ gM (aI (aC 0) aU)) (qC (.int 2)))) (j3 (bZ (oI (aZ sT (aI (aC 0) aU)) (qC (.int 0)))) (bZ (rO (aZ sU (aI (aC 0) aU)) (qC (.int 6))))))) (mF Ep "BadBoard" (aI (qC (.str "a slice has one or two wants from 0 to 6")) aU)) g4)
 (g8 (bZ (oI (aC 1) (qC (.int 0)))) (mF Ep "BadBoard" (aI (qC (.str "no length is below 0")) aU)) g4))
theorem ap1:yR z6 ["wants","length"] jF:=by
 rintro Ep xs Q ⟨x,ws,L,rfl,hx,q,ex⟩;refine⟨_,rfl,_,_,rfl,hx.len,_,_,rfl,rfl,_,rfl,?_⟩;show if decide ((ws.length:Int)<1)=true then _ else _
 by_cases h1:(ws.length:Int)<1
 ·rw[aG5 h1]
  exact cC (cC ⟨by decide,ex λz=>z.1.1 (List.eq_nil_of_length_eq_zero (by omega))⟩)
 rw[aE7 h1];refine cF ⟨_,rfl,_,_,rfl,hx.len,_,_,rfl,rfl,_,rfl,?_⟩;show if decide ((ws.length:Int)>2)=true then _ else _
 by_cases h2:(ws.length:Int)>2
 ·rw[aG5 h2]
  exact cC (cC ⟨by decide,ex λz=>by have:=z.1.2.1;omega⟩)
 rw[aE7 h2];have ne:ws≠[]:=λz=>by rw[z]at h1;exact h1 (by decide)
 refine cF ⟨_,rfl,ao9 hx ne λm m1 m2=>⟨_,_,rfl,rfl,_,rfl,?_⟩⟩;show if decide (m<0)=true then _ else _
 by_cases h3:m<0
 ·rw[aG5 h3]
  exact cC (cC ⟨by decide,ex λz=>by have:=z.1.2.2 m m1;omega⟩)
 rw[aE7 h3];refine cF ⟨_,rfl,ap0 hx ne λM M1 M2=>⟨_,_,rfl,rfl,_,rfl,?_⟩⟩;show if decide (M>6)=true then _ else _
 by_cases h4:M>6
 ·rw[aG5 h4]
  exact cC ⟨by decide,ex λz=>by have:=z.1.2.2 M M1;omega⟩
 rw[aE7 h4];refine cF ⟨_,rfl,_,_,rfl,rfl,_,rfl,?_⟩;show if decide (L<0)=true then _ else _
 by_cases h5:L<0
 ·rw[aG5 h5]
  exact cC ⟨by decide,ex λz=>by omega⟩
 rw[aE7 h5];exact cF (q ⟨ne,by omega,λy hy=>by have:=m2 y hy;have:=M2 y hy;omega⟩ (by omega))
noncomputable def jG:hZ:=λEp xs Q=>∃L m:Int,xs = [.int L,.int m]/\(L<=m->Q .non)/\(m<L->Ep "TooMany")
noncomputable def z7 (Ep:Str->Prop):aX:=(g8 (bZ (rO (aC 0) (aC 1))) (mF Ep "TooMany" (aI (qC (.str "the strip is too long")) aU)) g4)
theorem ap2:yR z7 ["length","most"] jG:=by
 rintro Ep xs Q ⟨L,m,rfl,q,ex⟩;refine⟨_,rfl,_,rfl,_,_,rfl,rfl,_,rfl,?_⟩;show if decide (L>m)=true then _ else _
 by_cases h:L>m
 ·rw[aG5 h];exact cC ⟨by decide,ex h⟩
 ·rw[aE7 h];exact cF (q (by omega))
end Core
namespace L2
open PySem PySem.Spec PyProof.Rows SO
noncomputable abbrev kk (l:Int×Int):List bL:=[Sum.inl l.1,Sum.inl l.2]
end L2
namespace L2
open PySem PySem.Spec PyProof.Rows PP
section
variable {prog:ay}{w:ba}{A:az}{R:Result→aw→Prop}{I S:ax}{n:Nat}{s0:aw}{a b:av}{lt:Bool}{fp:List ax}{P:Nat→av→Prop}{St:Nat→Heap→Prop}
theorem ap3 (W:Walks prog w A.in1 I fp [I] 2 P St)(p0:∀v,P 0 v->v=a)(p1:∀v,P 1 v->v=b)(sI:S≠I)(sf:S∉fp)(fI:s0.heap.get? I=none)(fS:s0.heap.get? S=none)(ask:∀(h:Heap) (k:Nat) (Q E:av->aw->Prop),gQ s0.heap h->Q (.bool lt) (iL s0 h k)->wpAny (model prog w) A.in1 (richCompare .Lt b a) Q E (iL s0 h k))(fin:∀h k,gQ s0.heap h->R (.ok (.ret (if lt=true then b else a))) (iL s0 h k)){h:Heap}{k c:Nat}(old:gQ s0.heap h)(st:St 0 h)(hS:h.get? S=some { cls:=.type "list",dict:=none,data:=.seq #[] c,slots:=#[] }):codeAny (model prog w) A (.builtin "min.loop" ⟨[.ref I,.none,.ref S],[]⟩) R (iL s0 h k):=by
 have nm:(toString "min"++toString ".loop":String)="min.loop":=by decide
 have nS:S∉[I]:=λz=>sI (aE6.mp z)
 have put:∀{h h':Heap},gQ s0.heap h->(∀b o,b∉[I]->h.get? b=some o->h'.get? b=some o)->gQ s0.heap h':=λ{h h'} o1 o2 b o e=>o2 b o (λz=>by rw[aE6.mp z,fI]at e;cases e) (o1 b o e)
 have put2:∀{h:Heap}{f:Obj->Obj},gQ s0.heap h->gQ s0.heap (h.update S f):=λ{h f} o1 b o e=>(Heap.get?_update_other _ _ (λz:S=b=>by rw[<- z,fS]at e;cases e)).trans (o1 b o e)
 have last:∀(h:Heap) (k c:Nat),gQ s0.heap h->St 2 h->h.get? S=some { cls:=.type "list",dict:=none,data:=.seq #[if lt=true then b else a,if lt=true then b else a] c,slots:=#[] }->codeAny (model prog w) A (.builtin "min.loop" ⟨[.ref I,.none,.ref S],[]⟩) R (iL s0 h k):=λh k c old st hS=>by
  refine codeAny_builtin PySem.F.entry_min_loop ?_;rw[Around.under_plainId aJ6];refine aD7 (aO4 hS rfl ?_);refine aD7 (wpAny_tryCatch (W.done _ _ _ st λh2 k2 o2=>?_));exact aD7 (wpAny_updateSeq (o2 S _ nS hS) rfl (aD7 (wpAny_letGo (aE3 (fin _ k2 (put2 (put old o2)))))))
 have fr:∀{h:Heap}{f:Obj->Obj}{j:Nat},St j h->St j (h.update S f):=λ{h f j} st=>W.frame _ _ _ st λb hb o e=>(Heap.get?_update_other _ _ (λz:S=b=>sf (by rw[z];exact hb))).trans e
 refine codeAny_builtin PySem.F.entry_min_loop ?_;rw[Around.under_plainId aJ6];refine aD7 (aO4 hS rfl ?_);refine aD7 (wpAny_tryCatch (W.item 0 _ _ _ (by decide) st λv h2 k2 hv st2 o2=>?_));obtain rfl:=p0 v hv;have hS2:=o2 S _ nS hS;refine aD7 (aE3 ?_);refine aD7 (m:=updateSeq _ (λ_=>#[v,v])) (wpAny_updateSeq hS2 rfl ?_);rw[nm];refine aE3 ⟨plainId_quiet aJ6 _,codeAny_builtin PySem.F.entry_min_loop ?_⟩;rw[Around.under_plainId aJ6];have hS3:(h2.update S (Obj.mapSeq λ_=>#[v,v])).get? S=some (Obj.mapSeq (λ_=>#[v,v]) { cls:=.type "list",dict:=none,data:=.seq #[] c,slots:=#[] }):=aN4 _ hS2 rfl;refine aD7 (aO4 hS3 rfl ?_);refine aD7 (wpAny_tryCatch (W.item 1 _ _ _ (by decide) (fr st2) λu h4 k4 hu st4 o4=>?_));obtain rfl:=p1 u hu;have hS4:=o4 S _ nS hS3;have old4:=put (put2 (f:=Obj.mapSeq λ_=>#[v,v]) (put old o2)) o4;refine aD7 (aE3 ?_);refine aD7 (m:=tryCatch (holding [u,u] (richCompare .Lt u v >>= _)) _) (wpAny_tryCatch (aM8 (aD7 (ask h4 k4 _ _ old4 ?_))));refine aD7 (aM8 (aK5 (aD7 (wpAny_letGo (aE3 ?_)))));cases lt with
 |false=>
  simp only[aG0,aK1];refine aD7 (wpAny_letGo ?_);rw[nm];exact aE3 ⟨plainId_quiet aJ6 _,last h4 k4 _ old4 st4 hS4⟩
 |true=>
  simp only[if_true];refine aD7 (wpAny_updateSeq hS4 rfl (aD7 (wpAny_letGo ?_)));rw[nm];exact aE3 ⟨plainId_quiet aJ6 _,last _ k4 _ (put2 old4) (fr st4) (aN4 _ hS4 rfl)⟩
theorem ap4 {Q E:av->aw->Prop}(hh:A.in1.handled=none)(ask:∀(h:Heap) (k:Nat) (Q E:av->aw->Prop),gQ s0.heap h->Q (.bool lt) (iL s0 h k)->wpAny (model prog w) A.in1 (richCompare .Lt b a) Q E (iL s0 h k))(fin:∀h k,gQ s0.heap h->Q (if lt=true then b else a) (iL s0 h k)):wpAny (model prog w) A (call (.builtin "min") [a,b]) Q E s0:=by
 have nm:(toString "min"++toString ".loop":String)="min.loop":=by decide
 refine call_function_tree PySem.F.kind_min PySem.F.plain_min PySem.F.entry_min (PySem.F.args_min2 _ _) ?_;refine aD7 (wpAny_of_eq (show Builtin.Builtins.bindParams "min" ["key","default"] 0 ⟨[],[]⟩=pure [none,none] from rfl) ?_);show wpAny _ A.in1 (newTuple [a,b] >>= _) _ _ _;refine aD7 (aK9 ?_);have hT:(s0.heap.push { cls:=.type "tuple",data:=.seq #[a,b] }).IsTuple s0.heap.objs.size #[a,b]:=⟨_,aF3 _ rfl,rfl,0,rfl⟩;have z1:(s0.heap.push { cls:=.type "tuple",data:=.seq #[a,b] }).objs.size=s0.heap.objs.size+1:=aK8 ..;refine aD7 (wpAny_pyIter_tuple hT ?_);refine aD7 (aK9 ?_);rw[nm];have z2:((s0.heap.push { cls:=.type "tuple",data:=.seq #[a,b] }).push { cls:=.type "tuple_iterator",data:=.fields #[.ref s0.heap.objs.size,.int 0 0] }).objs.size=s0.heap.objs.size+2:=by rw[aK8,z1]
 have ne:s0.heap.objs.size≠(s0.heap.push { cls:=.type "tuple",data:=.seq #[a,b] }).objs.size:=by omega
 refine aE3 ⟨plainId_quiet aJ6 _,ap3 (lt:=lt) (Walks.tuple (A:=A.in1) hh _ s0.heap.objs.size ne #[a,b]) (λv hv=>?_) (λv hv=>?_) (λz=>?_) (λz=>?_) (yY (aH0 (Nat.le_succ _) (Nat.le_of_eq z1.symm))) (yY (aH0 (Nat.le_add_right _ 2) (Nat.le_of_eq z2.symm))) ask fin (λb o e=>aE1 _ (aE1 _ (aE1 _ e)))
  ⟨⟨_,aE1 _ (aF3 _ rfl),rfl,rfl⟩,(hT.push _).push _⟩ (aF3 _ rfl)⟩
 ·exact (aF9 (show some a=some v from hv)).symm
 ·exact (aF9 (show some b=some v from hv)).symm
 ·have z:=z2.symm.trans (z.trans z1)
  omega
 ·rcases aE2.mp z with z|z
  ·have z:=z2.symm.trans (z.trans z1)
   omega
  ·have z:=z2.symm.trans (aE6.mp z)
   omega
end
end L2
namespace L2
open PySem PySem.Spec PyProof.Rows
section
variable {X:Cx}{ai:List (ax×Obj)}{σ:St}{H H':Hp}{s:aw}{a:ax}
theorem aA.frozeL {o:Obj}{us:List V}(I:aA X ai σ H s)(h:H a=some (.lst us))(e:s.heap.get? a=some o):aA X ai σ (upd H a (.frz o (.lst us))) s:=by
 have own:∀{c:ax}{y:ax},H c=some (.own y)->c≠a:=λ{c y} q z=>by rw[z,h]at q;cases q
 have tp:∀{c:ax}{xs:List V},H c=some (.tup xs)->c≠a:=λ{c xs} q z=>by rw[z,h]at q;cases q
 refine I.reH (a:=a) (λb n=>aL n) ⟨_,h⟩ (λxs q=>by rw[h]at q;cases q) (λo' v q=>by have:=I.base.frzs a o' v q;rw[h]at this;cases this) (λps q=>by rw[h]at q;cases q) λb v q=>?_
 by_cases hb:b=a
 ·subst hb
  rw[bM]at q;cases q
  exact⟨e,(I.hok b _ h).stay (λ_ _ _ q=>q) (λc q=>by rw[aL (own q)];exact q) λc xs q=>by rw[aL (tp q)];exact q⟩
 ·rw[aL hb]at q
  exact (I.hok b v q).stay (λ_ _ _ q=>q) (λc q=>by rw[aL (own q)];exact q) λc xs q=>by rw[aL (tp q)];exact q
noncomputable def z8 (t:TE):TE:=λσ H Q=>t σ H λv H1=>∃a us,v = .ref a/\H1 a=some (.lst us)/\∀o,Q v (upd H1 a (.frz o (.lst us)))
theorem ap5 {e:Expr}{t:TE}(h:PE X e t):PE X e (z8 t):=by
 intro ai s σ H Q I hq;refine aM (h ai s σ H _ I hq) λv s1 h1=>?_
 obtain⟨x,H1,I1,r1,a,us,ex,ea,q⟩:=h1
 obtain⟨_,_,_,_,ho⟩:=(show bG X.prog X.w H1 s1.heap a (.lst us) from I1.hok a _ ea)
 exact⟨x,_,I1.frozeL ea ho,r1,q _⟩
end
end L2
namespace PP
open PySem L2
section
variable {X:Cx}{e:Expr}{te:aE}{σ:St}{H:Hp}{Q':VK}
noncomputable def sV (te:aE):aE:=λρ Q=>te ρ λx g=>∃xs,x = .lst xs/\g = .fr/\flats xs=true/\Q (.fL xs) .fr
theorem ap6 (h:LE X (sV te) σ H Q'):z8 (LE X te) σ H Q':=by
 obtain⟨W,ρ,Q,px,q,k⟩:=h
 refine⟨W,ρ,_,px,q,?_⟩;rintro v H1 x g s r ⟨xs,rfl,rfl,f,q⟩;cases r with
 |@lst a us _ m e r=>
  refine⟨a,us,rfl,e,λo=>k _ _ _ .fr (λb u hb=>?_) (.fL bM ((r.flat (M':=λ_=>False) f).keep (.upd e rfl λb z=>z.elim))) q⟩;have nb:b≠a:=λz=>by have m:H a=none:=m;rw[z,m]at hb;cases hb
  rw[aL nb];exact s b u hb
theorem ap7 (h:QE X e te):QE X e (sV te):=bQ (ap5 h) λ_ _ _=>ap6
end
structure oX (K:ad)(mg:Str->Option av)(x:Str):Prop where
 ex:∃f,mg x=some (.ref f)/\PySem.W.nsIn K mainGlobals x=some (some (.ref f))
section
variable {X:Cx}{σ:L2.St}{H:Hp}{tr:bU}{Q':VK}{e:Expr}{es:List Expr}{pos p2 cp np:Pos}
theorem ap8 {x:Str}(fv:oX X.K X.mg x)(hg:Gl X x:=by rfl)(hd:(x==("__debug__":Str))=false:=by decide):QE X (.Name x pos) (qC (.fn x)):=by
 obtain⟨f,m,n⟩:=fv.ex
 exact bQ (t:=tC (.ref f)) (λai s σ H Q I h=>nA I hg m ⟨.ref f,H,I,rfl,h⟩ hd) λ_ _ _=>lN λ_=>.fn n
end
end PP
namespace Strip
noncomputable abbrev aB:=List (Nat×Bool)
noncomputable def has (m p:Nat):Nat:=(m >>> p) &&& 1
noncomputable def kI (w:ag)(behind burning ahead:Nat):Nat->ag->Nat->Nat
 |_,[],lit=>lit
 |p,want::r,lit=>kI w behind burning ahead (p+1) r (if ((has behind p+has ahead p+(if p<=1 then has burning (1-p) else 0):Nat):Int) >= want then lit ||| (1 <<< p) else lit)
noncomputable def cI (w:ag)(behind burning ahead:Nat):Nat:=kI w behind burning ahead 0 w burning
noncomputable def iM (w:ag)(a:aB)(ahead:Nat):Nat->Nat->Nat
 |0,b=>b
 |n+1,b=>let m:=cI w (a.getD b (0,false)).1 b ahead;if m=b then b else iM w a ahead n m
noncomputable def mG (w:ag)(a:aB)(seeds ahead:Nat):Nat×Bool:=
 let b:=iM w a ahead (w.length+1) seeds
 (b,b==a.length-1&&(a.getD (a.length-1) (0,false)).2)
noncomputable def next (w:ag)(a:aB)(seeds:Nat):aB:=(List.range a.length).map (mG w a seeds)
noncomputable def aO (w:ag):aB:=List.replicate (2^w.length) (0,true)
noncomputable def kept (a:aB):Bool:=(a.getD (a.length-1) (0,false)).2
noncomputable def lit (a:aB):Bool:=(a.getD 0 (0,false)).2
noncomputable def after (w:ag)(a:aB):List (Nat×aB):=((List.range a.length).map λs=>(s,next w a s)).filter λp=>kept p.2
noncomputable def sW (w:ag):Nat->List aB->List aB->List aB
 |0,_,seen=>seen
 |_,[],seen=>seen
 |n+1,a::todo,seen=>if seen.contains a then sW w n todo seen else sW w n ((after w a).map (·.2)++todo) (seen++[a])
noncomputable def mH (w:ag):List aB:=sW w 200 [aO w] []
noncomputable def oR (w:ag):Nat->List (aB×aB)->List (aB×aB)->List (aB×aB)
 |0,_,seen=>seen
 |_,[],seen=>seen
 |n+1,p::todo,seen=>if seen.contains p then oR w n todo seen else oR w n ((after w p.2).map (λq=>(next w p.1 q.1,q.2))++todo) (seen++[p])
noncomputable def z9 (w:ag):List (aB×aB):=oR w 400 ((mH w).filter lit |>.map λa=>(a,aO w)) []
noncomputable def oV (w:ag)(R:List (aB×aB)):Bool:=
 R.all λp=>p.1.length==p.2.length&&(lit p.1||!lit p.2)&&(List.range p.2.length).all λs=>!kept (next w p.2 s)||(kept (next w p.1 s)&&R.contains (next w p.1 s,next w p.2 s))
noncomputable def zA (w:ag)(S:List aB)(R:List (aB×aB)):Bool:=S.contains (aO w)&&S.all λa=>(!lit a||R.contains (a,aO w))&&(List.range a.length).all λs=>!kept (next w a s)||S.contains (next w a s)
noncomputable def iN:ae:=[[0],[1],[2]]++([0,1,2].flatMap λa=>[0,1,2].map λb=>[a,b])
theorem ap9:(iN.all λw=>oV w (z9 w)&&zA w (mH w) (z9 w))=true:=by decide +kernel
noncomputable def bH (w:ag):Nat->aB->Nat
 |0,a=>if lit a then 1 else 0
 |n+1,a=>((List.range a.length).map λs=>if kept (next w a s) then bH w n (next w a s) else 0).sum
theorem sX (w:ag)(n:Nat)(a:aB):bH w (n+1) a=((List.range a.length).map λs=>if kept (next w a s) then bH w n (next w a s) else 0).sum:=rfl
noncomputable def one (m:Nat):Nat:=has m 0+has m 1
noncomputable def row (w:ag):List Nat->aB->Bool
 |[],a=>lit a
 |s::r,a=>decide (s<a.length)&&kept (next w a s)&&row w r (next w a s)
noncomputable def bR (l:List Nat):Nat:=(l.map one).sum
section
variable {w:ag}{S:List aB}{R:List (aB×aB)}
theorem zB (l l':List Nat):bR (l++l')=bR l+bR l':=by unfold bR;rw[aG4,List.sum_append]
end
section
variable {β:Type}
noncomputable def cA (ps:List (aB×β))(k:aB):Option β:=(ps.find? λp=>decide (p.1=k)).map (·.2)
noncomputable def dD (ps:List (aB×β))(k:aB)(x:β):List (aB×β):=if (ps.any λp=>decide (p.1=k))=true then ps.map (λp=>if p.1=k then (p.1,x) else p) else ps++[(k,x)]
noncomputable def cT (J:β->β->β)(ps:List (aB×β))(k:aB)(z:β):List (aB×β):=dD ps k (match cA ps k with|none=>z|some w=>J w z)
noncomputable def eW (w:ag)(passed:β->Nat->β)(J:β->β->β)(later:List (aB×β))(p:aB×β):List (aB×β):=(after w p.1).foldl (λl q=>cT J l q.2 (passed p.2 q.1)) later
noncomputable def sY (w:ag)(passed:β->Nat->β)(J:β->β->β)(ps:List (aB×β)):List (aB×β):=ps.foldl (eW w passed J) []
noncomputable def cB (w:ag)(passed:β->Nat->β)(J:β->β->β)(first:β):Nat->List (aB×β)
 |0=>[(aO w,first)]
 |n+1=>sY w passed J (cB w passed J first n)
theorem aq0 {ps:List (aB×β)}{k:aB}{x:β}:(dD ps k x).map (·.1)=if (ps.any λp=>decide (p.1=k))=true then ps.map (·.1) else ps.map (·.1)++[k]:=by
 unfold dD;split
 ·rw[aL0]
  refine List.map_congr_left λp _=>?_
  show (if p.1=k then (p.1,x) else p).1=p.1;split<;>rfl
 ·rw[aG4];rfl
theorem zC {ps:List (aB×β)}{k:aB}{x:β}(h:(ps.map (·.1)).Nodup):((dD ps k x).map (·.1)).Nodup:=by
 rw[aq0];split
 ·exact h
 ·rename_i n
  rw[List.nodup_append];refine⟨h,by simp,λa ha b hb=>?_⟩;obtain rfl:=aE6.mp hb;rintro rfl
  obtain⟨p,hp,e⟩:=aJ7.mp ha
  exact n (List.any_eq_true.mpr ⟨p,hp,by simpa using e⟩)
theorem zD {J:β->β->β}{ps:List (aB×β)}{k:aB}{z:β}(h:(ps.map (·.1)).Nodup):((cT J ps k z).map (·.1)).Nodup:=zC h
end
noncomputable def wt (f:aB->Nat)(ps:List (aB×Nat)):Nat:=(ps.map λp=>p.2*f p.1).sum
theorem sZ (f:aB->Nat)(p:aB×Nat)(r:List (aB×Nat)):wt f (p::r)=p.2*f p.1+wt f r:=rfl
theorem aq1 (f:aB->Nat)(l r:List (aB×Nat)):wt f (l++r)=wt f l+wt f r:=by unfold wt;rw[aG4,List.sum_append]
theorem aq2 {ps:List (aB×Nat)}{k:aB}{x:Nat}(h:k∉ps.map (·.1)):(ps.map λp=>if p.1=k then (p.1,x) else p)=ps:=by
 conv=>rhs;rw[<- List.map_id ps]
 refine List.map_congr_left λp hp=>?_
 have ne:¬p.1=k:=λe=>h (by rw[<- e];exact List.mem_map_of_mem hp)
 rw[if_neg ne];rfl
theorem zE (f:aB->Nat){k:aB}{z:Nat}:∀{ps:List (aB×Nat)}{v:Nat},(ps.map (·.1)).Nodup->cA ps k=some v->wt f (ps.map λp=>if p.1=k then (p.1,v+z) else p)=wt f ps+z*f k
 |[],v,_,e=>by simp[cA]at e
 |p::r,v,n,e=>by
  rw[aG3,aI9]at n;rw[aG3,sZ,sZ];by_cases h:p.1=k
  ·have ev:p.2=v:=by simpa[cA,aH3,h] using e
   rw[if_pos h,aq2 (by rw[<- h];exact n.1),ev,<- h];show (v+z)*f p.1+wt f r=v*f p.1+wt f r+z*f p.1;rw[Nat.add_mul];omega
  ·have ev:cA r k=some v:=by simpa[cA,aH3,h] using e
   rw[if_neg h,zE f n.2 ev];omega
theorem aq3 (f:aB->Nat){k:aB}{z:Nat}{ps:List (aB×Nat)}(n:(ps.map (·.1)).Nodup):wt f (cT (·+·) ps k z)=wt f ps+z*f k:=by
 unfold cT dD;cases e:cA ps k with
 |none=>
  have no:¬(ps.any λp=>decide (p.1=k))=true:=λh=>by
   obtain⟨p,hp,q⟩:=List.any_eq_true.mp h
   have:(ps.find? λp=>decide (p.1=k))=none:=by simpa[cA] using e
   rw[List.find?_eq_none]at this;exact this p hp q
  rw[if_neg no,aq1];show wt f ps+(z*f k+0)=_;omega
 |some v=>
  have yes:(ps.any λp=>decide (p.1=k))=true:=by
   obtain⟨p,hp,_⟩:=Option.map_eq_some_iff.mp e
   exact List.any_eq_true.mpr ⟨p,aL3 hp,by have:=List.find?_some hp;simpa using this⟩
  rw[if_pos yes];exact zE f n e
theorem zF (w:ag)(f:aB->Nat)(v:Nat):∀(qs:List (Nat×aB)) {l:List (aB×Nat)},(l.map (·.1)).Nodup->(((qs.foldl (λl q=>cT (·+·) l q.2 v) l).map (·.1)).Nodup/\wt f (qs.foldl (λl q=>cT (·+·) l q.2 v) l)=wt f l+v*(qs.map λq=>f q.2).sum)
 |[],l,n=>⟨n,by simp⟩
 |q::r,l,n=>by
  obtain⟨h1,h2⟩:=zF w f v r (zD (J:=(·+·)) (k:=q.2) (z:=v) n)
  refine⟨h1,?_⟩;rw[List.foldl_cons,h2,aq3 f n,aG3,List.sum_cons,Nat.mul_add];omega
theorem zG (w:ag)(f:aB->Nat):∀(ps:List (aB×Nat)) {l:List (aB×Nat)},(l.map (·.1)).Nodup->(((ps.foldl (eW w (λv _=>v) (·+·)) l).map (·.1)).Nodup/\wt f (ps.foldl (eW w (λv _=>v) (·+·)) l)=wt f l+wt (λa=>((after w a).map λq=>f q.2).sum) ps)
 |[],l,n=>⟨n,by show _=_+0;simp⟩
 |p::r,l,n=>by
  obtain⟨g1,g2⟩:=zF w f p.2 (after w p.1) n
  obtain⟨h1,h2⟩:=zG w f r g1
  refine⟨h1,?_⟩;rw[List.foldl_cons,sZ];have e:eW w (λv _=>v) (·+·) l p=(after w p.1).foldl (λl q=>cT (·+·) l q.2 p.2) l:=rfl;rw[e,h2,g2];omega
theorem t0 {α:Type}(p:α->Bool)(f:α->Nat):∀l:List α,((l.filter p).map f).sum=(l.map λx=>if p x then f x else 0).sum
 |[]=>rfl
 |x::r=>by
  rw[List.filter_cons,aG3,List.sum_cons,<- t0 p f r];split
  ·rw[aG3,List.sum_cons]
  ·omega
theorem aq4 (w:ag)(n:Nat)(a:aB):((after w a).map λq=>bH w n q.2).sum=bH w (n+1) a:=by
 unfold after;rw[t0,sX,aL0];rfl
theorem zH (w:ag):∀(n m:Nat),(((cB w (λv _=>v) (·+·) 1 n).map (·.1)).Nodup/\wt (bH w m) (cB w (λv _=>v) (·+·) 1 n)=bH w (n+m) (aO w))
 |0,m=>⟨by simp[cB],by show 1*bH w m (aO w)+0=_;rw[Nat.zero_add];omega⟩
 |n+1,m=>by
  obtain⟨h1,h2⟩:=zG w (bH w m) (cB w (λv _=>v) (·+·) 1 n) (l:=[]) (by simp)
  refine⟨h1,?_⟩;show wt (bH w m) (sY w _ _ _)=_;unfold sY;rw[h2];have e:(λa=>((after w a).map λq=>bH w m q.2).sum)=bH w (m+1):=funext λa=>aq4 w m a
  rw[e,(zH w n (m+1)).2];show 0+_=_;rw[Nat.zero_add,show n+(m+1)=n+1+m by omega]
theorem aq5 (w:ag)(n:Nat):(((cB w (λv _=>v) (·+·) 1 n).filter λp=>lit p.1).map (·.2)).sum=bH w n (aO w):=by
 have h:=(zH w n 0).2;rw[Nat.add_zero]at h;rw[<- h,t0];unfold wt;refine congrArg List.sum (List.map_congr_left λp _=>?_);show (if lit p.1 then p.2 else 0)=p.2*(if lit p.1 then 1 else 0);split<;>omega
noncomputable def aF:aB:=[(1,true),(1,true)]
noncomputable def aN:aB:=[(0,false),(1,true)]
theorem gR {w:ag}{n:Nat}{a x y:aB}(hl:a.length=2)(h0:next w a 0=x)(h1:next w a 1=y):bH w (n+1) a=(if kept x then bH w n x else 0)+((if kept y then bH w n y else 0)+0):=by
 rw[sX,hl];show ((if kept (next w a 0) then _ else 0)+((if kept (next w a 1) then _ else 0)+0))=_;rw[h0,h1]
theorem zI:∀n,bH [0] n aF=2^n
 |0=>rfl
 |n+1=>by
  rw[gR (x:=aF) (y:=aF) rfl (by decide +kernel) (by decide +kernel),if_pos (by decide),zI n,Nat.pow_succ];omega
theorem aq6:∀n,bH [0] n (aO [0])=2^n
 |0=>by decide +kernel
 |n+1=>by
  rw[gR (x:=aF) (y:=aF) (by decide) (by decide +kernel) (by decide +kernel),if_pos (by decide),zI n,Nat.pow_succ];omega
theorem t5:∀n,bH [1] n aF=2^n
 |0=>rfl
 |n+1=>by
  rw[gR (x:=aF) (y:=aF) rfl (by decide +kernel) (by decide +kernel),if_pos (by decide),t5 n,Nat.pow_succ];omega
theorem zJ:∀n,bH [1] n aN=2^n-1
 |0=>rfl
 |n+1=>by
  have p:0<2^n:=Nat.pow_pos (by decide);rw[gR (x:=aN) (y:=aF) rfl (by decide +kernel) (by decide +kernel),if_pos (by decide),if_pos (by decide),t5 n,zJ n,Nat.pow_succ];omega
theorem aq7:∀n,bH [1] n (aO [1])=if n=0 then 1 else 2^n-1
 |0=>by decide +kernel
 |n+1=>by
  have p:0<2^n:=Nat.pow_pos (by decide);rw[gR (x:=aN) (y:=aF) (by decide) (by decide +kernel) (by decide +kernel),if_pos (by decide),if_pos (by decide),t5 n,zJ n,if_neg (by omega),Nat.pow_succ];omega
noncomputable def wy:Nat->Nat
 |0=>1
 |1=>1
 |2=>1
 |n+3=>wy (n+2)+wy (n+1)
theorem t6:∀n,bH [2] n aF=wy (n+1)/\bH [2] (n+1) aN=wy (n+1)
 |0=>⟨rfl,by decide +kernel⟩
 |n+1=>by
  obtain⟨h1,h2⟩:=t6 n
  have step:∀m,bH [2] (m+1) aN=bH [2] m aF:=λm=>by
   rw[gR (x:=[(0,false),(0,false)]) (y:=aF) rfl (by decide +kernel) (by decide +kernel),if_neg (by decide),if_pos (by decide)];omega
  have e:bH [2] (n+1) aF=wy (n+2):=by
   rw[gR (x:=aN) (y:=aF) rfl (by decide +kernel) (by decide +kernel),if_pos (by decide),if_pos (by decide),h1];cases n with
   |zero=>rfl
   |succ k=>
    have q:=(t6 k).2;rw[q];show wy (k+1)+(wy (k+2)+0)=wy (k+2)+wy (k+1);omega
  exact⟨e,by rw[step];exact e⟩
theorem aq8:∀n,bH [2] n (aO [2])=wy n
 |0=>by decide +kernel
 |n+1=>by
  rw[gR (x:=[(0,false),(0,false)]) (y:=aF) (by decide) (by decide +kernel) (by decide +kernel),if_neg (by decide),if_pos (by decide),(t6 n).1];omega
theorem mI {k:Int}(hk:k∈[(3:Int),4,5,6]):∀n,bH [k] n aF=1/\bH [k] n (aO [k])=1
 |0=>⟨rfl,rfl⟩
 |n+1=>by
  obtain⟨h1,_⟩:=mI hk n
  simp only[aE2,aJ8,aI4]at hk;refine⟨?_,?_⟩
  ·rw[gR (x:=[(0,false),(0,false)]) (y:=aF) rfl (by rcases hk with rfl|rfl|rfl|rfl<;>decide +kernel) (by rcases hk with rfl|rfl|rfl|rfl<;>decide +kernel),if_neg (by decide),if_pos (by decide),h1]
  ·rw[gR (x:=[(0,false),(0,false)]) (y:=aF) rfl (by rcases hk with rfl|rfl|rfl|rfl<;>decide +kernel) (by rcases hk with rfl|rfl|rfl|rfl<;>decide +kernel),if_neg (by decide),if_pos (by decide),h1]
noncomputable def gS (w:ag):List Nat->aB->Option aB
 |[],a=>some a
 |s::r,a=>if s<a.length/\kept (next w a s)=true then gS w r (next w a s) else none
theorem t7 (w:ag)(l':List Nat):∀(l:List Nat) (a:aB),gS w (l++l') a=(gS w l a).bind (gS w l')
 |[],a=>rfl
 |s::r,a=>by
  show (if _ then _ else _)=(if _ then _ else _:Option aB).bind _;split
  ·exact t7 w l' r _
  ·rfl
theorem zK (w:ag)(s:Nat)(a b:aB):gS w [s] a=some b↔(s,b)∈after w a:=by
 show (if _ then some (next w a s) else none)=some b↔_;unfold after;rw[List.mem_filter,aJ7];constructor
 ·intro h
  split at h
  ·rename_i c
   cases h
   exact⟨⟨s,aN1.mpr c.1,rfl⟩,c.2⟩
  ·cases h
 ·rintro⟨⟨t,ht,e⟩,k⟩
  cases e;rw[if_pos ⟨aN1.mp ht,k⟩]
theorem t8 (w:ag):∀(l:List Nat) (a:aB),row w l a=true↔∃b,gS w l a=some b/\lit b=true
 |[],a=>⟨λh=>⟨a,rfl,h⟩,λ⟨b,e,h⟩=>by cases e;exact h⟩
 |s::r,a=>by
  unfold row gS;rw[aG8,aG8,aJ1,t8 w r];constructor
  ·rintro⟨c,b,e,h⟩
   exact⟨b,by rw[if_pos c];exact e,h⟩
  ·rintro⟨b,e,h⟩
   split at e
   ·rename_i c;exact⟨c,b,e,h⟩
   ·cases e
noncomputable abbrev PR:=Nat×List Nat
structure fR (J:PR->PR->PR):Prop where
 or:∀x y,J x y=x∨J x y=y
 l:∀x y,(J x y).1<=x.1
 r:∀x y,(J x y).1<=y.1
noncomputable def pass (p:PR)(s:Nat):PR:=(p.1+one s,p.2++[s])
noncomputable def jH (C:aB->PR->Prop)(ps:List (aB×PR)):Prop:=∀b v,(b,v)∈ps->C b v
noncomputable def jI (C:aB->PR->Prop)(ps:List (aB×PR)):Prop:=∀b v,C b v->∃u,(b,u)∈ps/\u.1<=v.1
section
variable {J:PR→PR→PR}{C D:aB→PR→Prop}{k b:aB}{z u:PR}{ps:List (aB×PR)}
theorem zL {x:PR}(h:(b,u)∈dD ps k x):(b=k/\u=x)∨(b,u)∈ps:=by
 unfold dD at h;split at h
 ·obtain⟨p,hp,e⟩:=aJ7.mp h
  split at e
  ·rename_i c;cases e;exact .inl ⟨c,rfl⟩
  ·subst e;exact .inr hp
 ·rcases aI1.mp h with h|h
  ·exact .inr h
  ·have:=aE6.mp h;cases this;exact .inl ⟨rfl,rfl⟩
theorem t9 (ps:List (aB×PR))(k:aB)(x:PR):(k,x)∈dD ps k x:=by
 unfold dD;split
 ·rename_i h
  obtain⟨p,hp,e⟩:=List.any_eq_true.mp h
  have e:p.1=k:=by simpa using e
  exact aJ7.mpr ⟨p,hp,by rw[if_pos e,e]⟩
 ·exact aF7 _ (by simp)
theorem zM {x:PR}(n:b≠k)(h:(b,u)∈ps):(b,u)∈dD ps k x:=by
 unfold dD;split
 ·exact aJ7.mpr ⟨(b,u),h,by rw[if_neg n]⟩
 ·exact aI6 _ h
theorem aq9 {w:PR}(h:cA ps k=some w):(k,w)∈ps:=by
 unfold cA at h
 obtain⟨p,hp,e⟩:=Option.map_eq_some_iff.mp h
 have h1:=aL3 hp;have h2:p.1=k:=by have:=List.find?_some hp;simpa using this
 subst e h2;exact h1
theorem zN (n:(ps.map (·.1)).Nodup)(h:(k,u)∈ps):cA ps k=some u:=by
 induction ps with
 |nil=>cases h
 |cons p r ih=>
  rw[aG3,aI9]at n;unfold cA;rw[aH3];rcases aE2.mp h with h|h
  ·subst h;simp
  ·have ne:¬p.1=k:=λe=>n.1 (by rw[e];exact List.mem_map_of_mem (f:=(·.1)) h)
   rw[aE7 ne];exact ih n.2 h
theorem ar0 (P:fR J)(n:(ps.map (·.1)).Nodup)(s:jH C ps)(c:jI C ps):jH (λb v=>C b v∨(b=k/\v=z)) (cT J ps k z)/\jI (λb v=>C b v∨(b=k/\v=z)) (cT J ps k z):=by
 unfold cT;cases e:cA ps k with
 |none=>
  refine⟨λb v h=>?_,λb v h=>?_⟩
  ·rcases zL h with⟨rfl,rfl⟩|h
   ·exact .inr ⟨rfl,rfl⟩
   ·exact .inl (s b v h)
  ·rcases h with h|⟨rfl,rfl⟩
   ·obtain⟨u,hu,l⟩:=c b v h
    have nb:b≠k:=λq=>by subst q;rw[zN n hu]at e;cases e
    exact⟨u,zM nb hu,l⟩
   ·exact⟨_,t9 ps _ _,aF0 _⟩
 |some w=>
  have hw:=aq9 e;refine⟨λb v h=>?_,λb v h=>?_⟩
  ·rcases zL h with⟨rfl,rfl⟩|h
   ·rcases P.or w z with q|q
    ·show C b (J w z)∨_
     rw[q];exact .inl (s _ _ hw)
    ·exact .inr ⟨rfl,q⟩
   ·exact .inl (s b v h)
  ·rcases h with h|⟨rfl,rfl⟩
   ·obtain⟨u,hu,l⟩:=c b v h
    by_cases q:b=k
    ·subst q
     rw[zN n hu]at e;cases e
     exact⟨_,t9 ps _ _,aH0 (P.l _ _) l⟩
    ·exact⟨u,zM q hu,l⟩
   ·exact⟨_,t9 ps _ _,P.r w v⟩
theorem zO (P:fR J)(v:PR):∀(qs:List (Nat×aB)) {ps:List (aB×PR)}{C:aB->PR->Prop},(ps.map (·.1)).Nodup->jH C ps->jI C ps->
  ((qs.foldl (λl q=>cT J l q.2 (pass v q.1)) ps).map (·.1)).Nodup/\jH (λb u=>C b u∨∃s,(s,b)∈qs/\u=pass v s) (qs.foldl (λl q=>cT J l q.2 (pass v q.1)) ps)/\jI (λb u=>C b u∨∃s,(s,b)∈qs/\u=pass v s) (qs.foldl (λl q=>cT J l q.2 (pass v q.1)) ps)
 |[],ps,C,n,s,c=>⟨n,λb u h=>.inl (s b u h),λb u h=>c b u (h.elim id λ⟨_,z,_⟩=>by cases z)⟩
 |q::r,ps,C,n,s,c=>by
  obtain⟨s1,c1⟩:=ar0 (k:=q.2) (z:=pass v q.1) P n s c
  obtain⟨h1,h2,h3⟩:=zO P v r (zD (J:=J) (k:=q.2) (z:=pass v q.1) n) s1 c1
  refine⟨h1,λb u h=>?_,λb u h=>?_⟩
  ·rcases h2 b u h with (h|⟨rfl,e⟩)|⟨t,ht,e⟩
   ·exact .inl h
   ·exact .inr ⟨q.1,aE0,e⟩
   ·exact .inr ⟨t,aF2 _ ht,e⟩
  ·refine h3 b u ?_
   rcases h with h|⟨t,ht,e⟩
   ·exact .inl (.inl h)
   ·rcases aE2.mp ht with z|z
    ·subst z;exact .inl (.inr ⟨rfl,e⟩)
    ·exact .inr ⟨t,z,e⟩
theorem zP (P:fR J)(w:ag):∀(vs:List (aB×PR)) {ps:List (aB×PR)}{C:aB->PR->Prop},(ps.map (·.1)).Nodup->jH C ps->jI C ps->
  ((vs.foldl (eW w pass J) ps).map (·.1)).Nodup/\jH (λb u=>C b u∨∃a v s,(a,v)∈vs/\(s,b)∈after w a/\u=pass v s) (vs.foldl (eW w pass J) ps)/\jI (λb u=>C b u∨∃a v s,(a,v)∈vs/\(s,b)∈after w a/\u=pass v s) (vs.foldl (eW w pass J) ps)
 |[],ps,C,n,s,c=>⟨n,λb u h=>.inl (s b u h),λb u h=>c b u (h.elim id λ⟨_,_,_,z,_⟩=>by cases z)⟩
 |p::r,ps,C,n,s,c=>by
  obtain⟨n1,s1,c1⟩:=zO P p.2 (after w p.1) n s c
  obtain⟨h1,h2,h3⟩:=zP P w r n1 s1 c1
  refine⟨h1,λb u h=>?_,λb u h=>?_⟩
  ·rcases h2 b u h with (h|⟨t,ht,e⟩)|⟨a,v,t,hv,ht,e⟩
   ·exact .inl h
   ·exact .inr ⟨p.1,p.2,t,aE0,ht,e⟩
   ·exact .inr ⟨a,v,t,aF2 _ hv,ht,e⟩
  ·refine h3 b u ?_
   rcases h with h|⟨a,v,t,hv,ht,e⟩
   ·exact .inl (.inl h)
   ·rcases aE2.mp hv with z|z
    ·subst z;exact .inl (.inr ⟨t,ht,e⟩)
    ·exact .inr ⟨a,v,t,z,ht,e⟩
theorem ar1 {l:List Nat}(h:l≠[]):bR l=bR l.dropLast+one (l.getLast h):=by
 have e:bR (l.dropLast++[l.getLast h])=bR l.dropLast+one (l.getLast h):=by
  rw[zB];show _+(one (l.getLast h)+0)=_;rw[Nat.add_zero]
 rwa [List.dropLast_concat_getLast h]at e
noncomputable def zQ (w:ag)(n:Nat)(b:aB)(v:PR):Prop:=v.2.length=n/\gS w v.2 (aO w)=some b/\v.1=bR v.2
theorem zR (P:fR J)(w:ag):∀n,((cB w pass J (0,[]) n).map (·.1)).Nodup/\jH (zQ w n) (cB w pass J (0,[]) n)/\jI (zQ w n) (cB w pass J (0,[]) n)
 |0=>⟨by simp[cB],λb v h=>(by
   have e:(b,v)=(aO w,(0,[])):=aE6.mp h
   cases e;exact⟨rfl,rfl,rfl⟩),λb v ⟨h1,h2,h3⟩=>(by
   have e:v.2 = []:=List.eq_nil_of_length_eq_zero h1;rw[e]at h2;cases h2
   exact⟨(0,[]),aE6.mpr rfl,aM1 _⟩)⟩
 |n+1=>by
  obtain⟨_,s0,c0⟩:=zR P w n
  obtain⟨h1,h2,h3⟩:=zP P w (cB w pass J (0,[]) n) (ps:=[]) (C:=λ_ _=>False) (by simp) (λ_ _ h=>by cases h) (λ_ _ h=>h.elim)
  refine⟨h1,λb u h=>?_,λb u ⟨g1,g2,g3⟩=>?_⟩
  ·rcases h2 b u h with z|⟨a,v,t,hv,ht,rfl⟩
   ·exact z.elim
   ·obtain⟨e1,e2,e3⟩:=s0 a v hv
    refine⟨by show (v.2++[t]).length=_;rw[aG7,e1];rfl,?_,?_⟩
    ·show gS w (v.2++[t]) (aO w)=_
     rw[t7,e2];exact (zK w t a b).mpr ht
    ·show v.1+one t=bR (v.2++[t])
     rw[zB,e3];unfold bR;simp
  ·have nz:u.2≠[]:=λz=>by rw[z]at g1;cases g1
   have sp:u.2=u.2.dropLast++[u.2.getLast nz]:=(List.dropLast_concat_getLast nz).symm;rw[sp,t7]at g2;cases e:gS w u.2.dropLast (aO w) with
   |none=>rw[e]at g2;cases g2
   |some a=>
    rw[e]at g2;have ht:=(zK w _ a b).mp g2
    obtain⟨v,hv,lv⟩:=c0 a (bR u.2.dropLast,u.2.dropLast) ⟨by rw[List.length_dropLast,g1];rfl,e,rfl⟩
    obtain⟨x,hx,lx⟩:=h3 b (pass v (u.2.getLast nz)) (.inr ⟨a,v,_,hv,ht,rfl⟩)
    refine⟨x,hx,aH0 lx ?_⟩
    have:u.1=bR u.2.dropLast+one (u.2.getLast nz):=by rw[g3,ar1 nz]
    show v.1+_<=_;rw[this];exact Nat.add_le_add_right lv _
end
noncomputable def fU {β:Type}(J:β->β->β):Option β->β->Option β
 |none,z=>some z
 |some w,z=>some (J w z)
noncomputable def eI {β:Type}(J:β->β->β)(ps:List (aB×β)):Option β:=(ps.filter λp=>lit p.1).foldl (λacc p=>fU J acc p.2) none
section
variable {J:PR→PR→PR}
theorem zS (P:fR J):∀(l:List (aB×PR)) (acc:Option PR),(∀v,l.foldl (λacc p=>fU J acc p.2) acc=some v->acc=some v∨∃b,(b,v)∈l)/\
  (∀u,(acc=some u∨∃b,(b,u)∈l)->∃v,l.foldl (λacc p=>fU J acc p.2) acc=some v/\v.1<=u.1)
 |[],acc=>⟨λv h=>.inl h,λu h=>h.elim (λe=>⟨u,e,aF0 _⟩) λ⟨_,z⟩=>by cases z⟩
 |p::r,acc=>by
  obtain⟨h1,h2⟩:=zS P r (fU J acc p.2)
  refine⟨λv h=>?_,λu h=>?_⟩
  ·rcases h1 v h with e|⟨b,hb⟩
   ·cases acc with
    |none=>
     have e:p.2=v:=aF9 e;exact .inr ⟨p.1,by rw[<- e];exact aE0⟩
    |some w=>
     have e:J w p.2=v:=aF9 e;rcases P.or w p.2 with q|q
     ·exact .inl (by rw[<- e,q])
     ·exact .inr ⟨p.1,by rw[<- e,q];exact aE0⟩
   ·exact .inr ⟨b,aF2 _ hb⟩
  ·rcases h with e|⟨b,hb⟩
   ·subst e
    obtain⟨v,hv,lv⟩:=h2 (J u p.2) (.inl rfl)
    exact⟨v,hv,aH0 lv (P.l u p.2)⟩
   ·rcases aE2.mp hb with z|z
    ·subst z
     cases acc with
     |none=>exact h2 u (.inl rfl)
     |some w=>
      obtain⟨v,hv,lv⟩:=h2 (J w u) (.inl rfl)
      exact⟨v,hv,aH0 lv (P.r w u)⟩
    ·exact h2 u (.inr ⟨b,z⟩)
theorem zT (P:fR J)(w:ag)(n:Nat):(∀v,eI J (cB w pass J (0,[]) n)=some v->v.2.length=n/\row w v.2 (aO w)=true/\v.1=bR v.2)/\
  ∀l,l.length=n->row w l (aO w)=true->∃v,eI J (cB w pass J (0,[]) n)=some v/\v.1<=bR l:=by
 obtain⟨_,s,c⟩:=zR P w n
 obtain⟨h1,h2⟩:=zS P ((cB w pass J (0,[]) n).filter λp=>lit p.1) none
 refine⟨λv h=>?_,λl hl hr=>?_⟩
 ·rcases h1 v h with z|⟨b,hb⟩
  ·cases z
  ·obtain⟨hb,lb⟩:=List.mem_filter.mp hb
   obtain⟨e1,e2,e3⟩:=s b v hb
   exact⟨e1,(t8 w v.2 _).mpr ⟨b,e2,lb⟩,e3⟩
 ·obtain⟨b,e,lb⟩:=(t8 w l _).mp hr
  obtain⟨u,hu,lu⟩:=c b (bR l,l) ⟨hl,e,rfl⟩
  obtain⟨v,hv,lv⟩:=h2 u (.inr ⟨b,List.mem_filter.mpr ⟨hu,lb⟩⟩)
  exact⟨v,hv,aH0 lv lu⟩
end
noncomputable def oY (w:ag)(n:Nat):List Nat:=List.replicate n (2^w.length-1)
noncomputable def zU (w:ag)(S:List aB):Bool:=S.all λa=>lit a==lit a&&decide (2^w.length-1<a.length)&&kept (next w a (2^w.length-1))&&lit (next w a (2^w.length-1))&&S.contains (next w a (2^w.length-1))
theorem zV {w:ag}{S:List aB}(f:zU w S=true):∀(n:Nat) {a:aB},a∈S->(n=0->lit a=true)->row w (oY w n) a=true
 |0,a,_,h0=>h0 rfl
 |n+1,a,h,_=>by
  have q:=aI3.mp f _ h;simp only[aG8]at q;show row w ((2^w.length-1)::oY w n) a=true;unfold row;rw[aG8,aG8]
  exact⟨⟨q.1.1.1.2,q.1.1.2⟩,zV f n (by simpa using q.2) λ_=>q.1.2⟩
theorem ar2:((iN++[[3],[4],[5],[6]]).all λw=>zU w (mH w)&&(mH w).contains (aO w)&&lit (aO w))=true:=by decide +kernel
theorem tD {w:ag}(h:w∈iN++[[3],[4],[5],[6]])(n:Nat):row w (oY w n) (aO w)=true/\(oY w n).length=n:=by
 have q:=aI3.mp ar2 w h;simp only[aG8]at q
 exact⟨zV q.1.1 n (by simpa using q.1.2) λ_=>q.2,aN3⟩
theorem zW {x:Nat}:∀{l:List Nat},x∈l->x<=l.sum
 |[],h=>by cases h
 |y::r,h=>by
  rw[List.sum_cons];rcases aE2.mp h with rfl|h
  ·omega
  ·have:=zW h;omega
theorem zX (w:ag):∀(l:List Nat) (a:aB),row w l a=true->1<=bH w l.length a
 |[],a,h=>by show 1<=if lit a then 1 else 0;rw[if_pos (show lit a=true from h)];omega
 |s::r,a,h=>by
  unfold row at h;rw[aG8,aG8,aJ1]at h;show 1<=bH w (r.length+1) a;rw[sX];have q:=zX w r _ h.2;have m:(if kept (next w a s) then bH w r.length (next w a s) else 0)∈(List.range a.length).map λs=>if kept (next w a s) then bH w r.length (next w a s) else 0:=aJ7.mpr ⟨s,aN1.mpr h.1.1,rfl⟩
  rw[if_pos h.1.2]at m;exact aH0 q (zW m)
theorem zY:∀(l:List (aB×Nat)) (acc:Option Nat),l.foldl (λacc p=>fU (·+·) acc p.2) acc=if acc=none/\l = [] then none else some (acc.getD 0+(l.map (·.2)).sum)
 |[],none=>rfl
 |[],some v=>by rw[if_neg (by simp)];rfl
 |p::r,acc=>by
  rw[List.foldl_cons,zY r];cases acc with
  |none=>
   rw[if_neg (by simp[fU]),if_neg (by simp)];rw[aG3,List.sum_cons];show some (p.2+_)=some (0+(p.2+_));rw[Nat.zero_add]
  |some v=>
   rw[if_neg (by simp[fU]),if_neg (by simp)];rw[aG3,List.sum_cons];show some ((v+p.2)+_)=some (v+(p.2+_));rw[Nat.add_assoc]
theorem ar3 {w:ag}(h:w∈iN++[[3],[4],[5],[6]])(n:Nat):eI (·+·) (cB w (λv _=>v) (·+·) 1 n)=some (bH w n (aO w)):=by
 have c:=aq5 w n;have p:1<=bH w n (aO w):=by
  have q:=zX w _ _ (tD h n).1;rw[(tD h n).2]at q;exact q
 unfold eI;rw[zY,if_neg]
 ·rw[c];show some (0+_)=_;rw[Nat.zero_add]
 ·rintro⟨_,e⟩
  rw[e]at c;rw[<- c]at p;exact absurd p (by decide)
theorem oZ {w:ag}{S:List aB}(lb:Nat->aB->Nat)(h0:∀a∈S,lit a=true->lb 0 a=0)(st:∀n,∀a∈S,∀s,s<a.length->kept (next w a s)=true->next w a s∈S/\lb (n+1) a<=one s+lb n (next w a s)) :
  ∀(l:List Nat) (a:aB),a∈S->row w l a=true->lb l.length a<=bR l
 |[],a,ha,h=>by rw[show lb ([]:List Nat).length a=0 from h0 a ha h];exact aM1 _
 |s::r,a,ha,h=>by
  unfold row at h;rw[aG8,aG8,aJ1]at h
  obtain⟨m,q⟩:=st r.length a ha s h.1.1 h.1.2
  have ih:=oZ lb h0 st r _ m h.2;show lb (r.length+1) a<=bR (s::r);have e:bR (s::r)=one s+bR r:=rfl;rw[e];omega
section
variable {J:PR→PR→PR}
theorem kJ (P:fR J){w:ag}{n c:Nat}{l:List Nat}(hl:l.length=n)(hr:row w l (aO w)=true)(hc:bR l=c)(lo:∀l,l.length=n->row w l (aO w)=true->c<=bR l):∃v,eI J (cB w pass J (0,[]) n)=some v/\v.1=c:=by
 obtain⟨v,hv,lv⟩:=(zT P w n).2 l hl hr
 obtain⟨e1,e2,e3⟩:=(zT P w n).1 v hv
 have:=lo v.2 e1 e2
 exact⟨v,hv,by omega⟩
theorem zZ:∀n,row [0] (List.replicate n 0) aF=true
 |0=>rfl
 |n+1=>by
  show (decide (0<aF.length)&&kept (next [0] aF 0)&&row [0] (List.replicate n 0) (next [0] aF 0))=true;rw[show next [0] aF 0=aF by decide +kernel,zZ n];rfl
theorem A0:∀n,row [1] (List.replicate n 0) aF=true
 |0=>rfl
 |n+1=>by
  show (decide (0<aF.length)&&kept (next [1] aF 0)&&row [1] (List.replicate n 0) (next [1] aF 0))=true;rw[show next [1] aF 0=aF by decide +kernel,A0 n];rfl
theorem tE:∀n,bR (List.replicate n 0)=0
 |0=>rfl
 |n+1=>by show one 0+bR (List.replicate n 0)=0;rw[tE n];rfl
theorem ar4 (P:fR J)(n:Nat):∃v,eI J (cB [0] pass J (0,[]) n)=some v/\v.1=0:=by
 refine kJ P (l:=List.replicate n 0) aN3 ?_ (tE n) λ_ _ _=>aM1 _
 cases n with
 |zero=>decide +kernel
 |succ n=>
  show (decide (0<(aO [0]).length)&&kept (next [0] (aO [0]) 0)&&row [0] (List.replicate n 0) (next [0] (aO [0]) 0))=true;rw[show next [0] (aO [0]) 0=aF by decide +kernel,zZ n];rfl
theorem ar5 (P:fR J)(n:Nat):∃v,eI J (cB [1] pass J (0,[]) n)=some v/\v.1=if n=0 then 0 else 1:=by
 cases n with
 |zero=>exact kJ P (l:=[]) rfl (by decide +kernel) rfl λ_ _ _=>aM1 _
 |succ n=>
  refine kJ P (l:=1::List.replicate n 0) (by rw[aK2,aN3]) ?_ ?_ λl hl hr=>?_
  ·show (decide (1<(aO [1]).length)&&kept (next [1] (aO [1]) 1)&&row [1] (List.replicate n 0) (next [1] (aO [1]) 1))=true
   rw[show next [1] (aO [1]) 1=aF by decide +kernel,A0 n];rfl
  ·show one 1+bR (List.replicate n 0)=_
   rw[tE,if_neg (by omega)];rfl
  ·rw[if_neg (by omega)]
   have:=oZ (w:=[1]) (S:=[aO [1],aN,aF]) (λn a=>if a=aF then 0 else if a=aN then 1 else if n=0 then 0 else 1) (by decide +kernel) (λm a ha s hs hk=>?_) l (aO [1]) (by decide +kernel) hr
   ·rw[hl]at this
    simpa[show ¬aO [1]=aF by decide +kernel,show ¬aO [1]=aN by decide +kernel] using this
   ·simp only[aE2,aJ8,aI4]at ha
    have hs2:s=0∨s=1:=by rcases ha with rfl|rfl|rfl<;>(have:s<2:=hs;omega)
    rcases ha with rfl|rfl|rfl<;>rcases hs2 with rfl|rfl
    all_goals refine⟨by decide +kernel,?_⟩
    ·rw[show next [1] (aO [1]) 0=aN by decide +kernel,if_neg (by decide +kernel),if_neg (by decide +kernel),if_neg (by omega),if_neg (by decide),if_pos rfl];decide
    ·rw[show next [1] (aO [1]) 1=aF by decide +kernel,if_neg (by decide +kernel),if_neg (by decide +kernel),if_neg (by omega),if_pos rfl];decide
    ·rw[show next [1] aN 0=aN by decide +kernel]
     simp[show ¬aN=aF by decide]
    ·rw[show next [1] aN 1=aF by decide +kernel,if_neg (by decide),if_pos rfl,if_pos rfl];decide
    ·rw[if_pos rfl];omega
    ·rw[if_pos rfl];omega
end
section
variable {J:PR→PR→PR}
noncomputable def gT:Nat->List Nat
 |0=>[]
 |1=>[1]
 |n+2=>0::1::gT n
theorem A1:∀n,(gT n).length=n
 |0=>rfl
 |1=>rfl
 |n+2=>by show (gT n).length+1+1=n+2;rw[A1 n]
theorem A2:∀n,bR (gT n)=(n+1)/2
 |0=>rfl
 |1=>rfl
 |n+2=>by show one 0+(one 1+bR (gT n))=_;rw[A2 n,show one 0=0 from rfl,show one 1=1 from rfl];omega
theorem A3:∀n,row [2] (gT n) aF=true
 |0=>rfl
 |1=>by decide +kernel
 |n+2=>by
  show (decide (0<aF.length)&&kept (next [2] aF 0)&&(decide (1<(next [2] aF 0).length)&&kept (next [2] (next [2] aF 0) 1)&&row [2] (gT n) (next [2] (next [2] aF 0) 1)))=true;rw[show next [2] aF 0=aN by decide +kernel,show next [2] aN 1=aF by decide +kernel,A3 n];rfl
noncomputable def kK (n:Nat)(a:aB):Nat:=if a=aF then (n+1)/2 else if a=aN then 1+n/2 else if n=0 then 0 else 1+n/2
theorem ar6 (P:fR J)(n:Nat):∃v,eI J (cB [2] pass J (0,[]) n)=some v/\v.1=if n=0 then 0 else (n+2)/2:=by
 cases n with
 |zero=>exact kJ P (l:=[]) rfl (by decide +kernel) rfl λ_ _ _=>aM1 _
 |succ n=>
  refine kJ P (l:=1::gT n) (by rw[aK2,A1]) ?_ ?_ λl hl hr=>?_
  ·show (decide (1<(aO [2]).length)&&kept (next [2] (aO [2]) 1)&&row [2] (gT n) (next [2] (aO [2]) 1))=true
   rw[show next [2] (aO [2]) 1=aF by decide +kernel,A3 n];rfl
  ·show one 1+bR (gT n)=_
   rw[A2,if_neg (by omega),show one 1=1 from rfl];omega
  ·rw[if_neg (by omega)]
   have nB:¬aO [2]=aF:=by decide +kernel
   have nB2:¬aO [2]=aN:=by decide +kernel
   have nN:¬aN=aF:=by decide
   have fF:∀m,kK m aF=(m+1)/2:=λm=>if_pos rfl
   have fN:∀m,kK m aN=1+m/2:=λm=>by unfold kK;rw[if_neg nN,if_pos rfl]
   have fB:∀m,kK (m+1) (aO [2])=1+(m+1)/2:=λm=>by unfold kK;rw[if_neg nB,if_neg nB2,if_neg (by omega)]
   have:=oZ (w:=[2]) (S:=[aO [2],aN,aF]) kK (by decide +kernel) (λm a ha s hs hk=>?_) l (aO [2]) (by decide +kernel) hr
   ·rw[hl,fB]at this;omega
   ·simp only[aE2,aJ8,aI4]at ha
    have hs2:s=0∨s=1:=by rcases ha with rfl|rfl|rfl<;>(have:s<2:=hs;omega)
    have o1:one 1=1:=rfl;have o0:one 0=0:=rfl;rcases ha with rfl|rfl|rfl<;>rcases hs2 with rfl|rfl
    ·exact absurd hk (by decide +kernel)
    ·refine⟨by decide +kernel,?_⟩
     rw[show next [2] (aO [2]) 1=aF by decide +kernel,fB,fF,o1];omega
    ·exact absurd hk (by decide +kernel)
    ·refine⟨by decide +kernel,?_⟩
     rw[show next [2] aN 1=aF by decide +kernel,fN,fF,o1];omega
    ·refine⟨by decide +kernel,?_⟩
     rw[show next [2] aF 0=aN by decide +kernel,fN,fF,o0];omega
    ·refine⟨by decide +kernel,?_⟩
     rw[show next [2] aF 1=aF by decide +kernel,fF,fF,o1];omega
theorem A4:∀n,bR (List.replicate n 1)=n
 |0=>rfl
 |n+1=>by show one 1+bR (List.replicate n 1)=_;rw[A4 n,show one 1=1 from rfl];omega
theorem p5 (P:fR J){k:Int}(hk:k∈[(3:Int),4,5,6])(n:Nat):∃v,eI J (cB [k] pass J (0,[]) n)=some v/\v.1=n:=by
 have hw:[k]∈iN++[[3],[4],[5],[6]]:=by
  simp only[aE2,aJ8,aI4]at hk;rcases hk with rfl|rfl|rfl|rfl<;>decide
 obtain⟨r1,r2⟩:=tD hw n
 refine kJ P r2 r1 (show bR (List.replicate n (2^1-1))=n from A4 n) λl hl hr=>?_
 have:=oZ (w:=[k]) (S:=[aO [k],aF]) (λn a=>n) (λ_ _ _=>rfl) (λm a ha s hs hk'=>?_) l (aO [k]) aE0 hr
 ·rw[hl]at this;exact this
 ·simp only[aE2,aJ8,aI4]at ha hk
  have hs2:s=0∨s=1:=by rcases ha with rfl|rfl<;>(have:s<2:=hs;omega)
  have o1:one 1=1:=rfl;rcases ha with rfl|rfl<;>rcases hs2 with rfl|rfl
  ·exact absurd hk' (by rcases hk with rfl|rfl|rfl|rfl<;>decide +kernel)
  ·exact⟨by rcases hk with rfl|rfl|rfl|rfl<;>decide +kernel,by rw[o1];omega⟩
  ·exact absurd hk' (by rcases hk with rfl|rfl|rfl|rfl<;>decide +kernel)
  ·exact⟨by rcases hk with rfl|rfl|rfl|rfl<;>decide +kernel,by rw[o1];omega⟩
end
end Strip
namespace PP
open PySem L2
noncomputable abbrev i5 (k:List (Int×Bool)):PV:=.tup (k.map λq=>.tup [.int q.1,.bl q.2])
noncomputable def mJ (k:Int)(y:PV):Prop:=y = .int k∨∃b:Bool,y = .bl b/\k=if b then 1 else 0
theorem p6 {K:ad}{M:ax->Prop}{H:Hp}{v:V}{k:List (Int×Bool)}(r:aH K M H v (i5 k)):∃b,v = .ref b/\dO H k b:=by
 generalize e:i5 k=x at r;cases r with
 |tup h r=>
  cases e;refine⟨_,rfl,_,h,?_⟩;clear h
  rename_i us
  induction k generalizing us with
  |nil=>cases r;exact .nil
  |cons p k ih=>
   rw[aG3]at r;cases r with
   |cons r1 t=>
    refine .cons ?_ (ih t);generalize e:PV.tup [PV.int p.1,PV.bl p.2]=z at r1;cases r1 with
    |tup h r2=>
     cases e;cases r2 with
     |cons q1 t1=>
      cases t1 with
      |cons q2 t2=>
       cases t2;cases q1;cases q2
       exact⟨_,rfl,h⟩
    |_=>cases e
 |_=>cases e
theorem mJ.rep {K:ad}{M:ax->Prop}{H:Hp}{v:V}{y:PV}{k:Int}(n:mJ k y)(r:aH K M H v y):iY k v:=by
 rcases n with rfl|⟨b,rfl,rfl⟩
 ·cases r;exact .inl rfl
 ·cases r;exact .inr ⟨b,rfl,rfl⟩
noncomputable def ar7:PV->PV
 |.fA ps=>.dA ps
 |x=>x
noncomputable def iO (x y:PV)(o:Option PV):Prop:=(∃ps k,ar7 x = .dA ps/\y=i5 k/\o=cS ps k)∨∃ps k,x = .dB ps/\mJ k y/\o=cS ps k
theorem tF {K:ad}{M M2:ax->Prop}{H:Hp}{v w:V}{x y:PV}{o:Option PV}(h:iO x y o)(rx:aH K M H v x)(ry:aH K M2 H w y):∃a o',v = .ref a/\iE H a w o'/\(o=none->o'=none)/\∀z,o=some z->∃u,o'=some u/\aH K M H u z:=by
 rcases h with⟨ps,k,ex,rfl,rfl⟩|⟨ps,k,rfl,n,rfl⟩
 ·obtain⟨b,rfl,hb⟩:=p6 ry
  cases rx with
  |dA m h e r=>cases ex;exact⟨_,_,rfl,.inl ⟨_,k,b,.inl h,rfl,hb,rfl⟩,(j8 k e r).1,(j8 k e r).2⟩
  |fA h e r=>cases ex;exact⟨_,_,rfl,.inl ⟨_,k,b,.inr ⟨_,h⟩,rfl,hb,rfl⟩,(j8 k e r).1,(j8 k e r).2⟩
  |_=>cases ex
 ·cases rx with
  |dB m h e r=>exact⟨_,_,rfl,.inr ⟨_,k,.inl h,n.rep ry,rfl⟩,(j8 k e r).1,(j8 k e r).2⟩
section
variable {X:Cx}{σ:L2.St}{H:Hp}{D:d8}{tk td te tv:aE}{Q':VK}
noncomputable def kM (neg:Bool)(tk td:aE):aE:=λρ Q=>tk ρ λy _=>td ρ λx _=>∃o,iO x y o/\Q (.bl (if neg=true then !o.isSome else o.isSome)) .fr
theorem ar8 (h:LE X (kM false tk td) σ H Q'):wR (LE X tk) (LE X td) σ H Q':=by
 obtain⟨W,ρ,Q,px,q,k⟩:=h
 refine⟨W,ρ,_,px,q,λw H1 y g s r q=>⟨W,ρ,_,px.mono s,q,?_⟩⟩;rintro v H2 x g' s2 r2 ⟨o,ak,q⟩
 obtain⟨a,o',rfl,dg,h1,h2⟩:=tF ak r2 (r.same s2 λ_ z=>z)
 refine⟨a,o',rfl,dg,?_⟩;rw[xH h1 h2];exact k _ _ _ .fr (s.trans s2) (.bl _) q
theorem ar9 (h:LE X (kM true tk td) σ H Q'):wS (LE X tk) (LE X td) σ H Q':=by
 obtain⟨W,ρ,Q,px,q,k⟩:=h
 refine⟨W,ρ,_,px,q,λw H1 y g s r q=>⟨W,ρ,_,px.mono s,q,?_⟩⟩;rintro v H2 x g' s2 r2 ⟨o,ak,q⟩
 obtain⟨a,o',rfl,dg,h1,h2⟩:=tF ak r2 (r.same s2 λ_ z=>z)
 refine⟨a,o',rfl,dg,?_⟩;rw[xH h1 h2];exact k _ _ _ .fr (s.trans s2) (.bl _) q
noncomputable def i6 (td tk:aE):aE:=λρ Q=>td ρ λx g=>tk ρ λy _=>∃z,iO x y (some z)/\Q z g
theorem as0 (h:LE X (i6 td tk) σ H Q'):wQ (LE X td) (LE X tk) σ H Q':=by
 obtain⟨W,ρ,Q,px,q,k⟩:=h
 refine⟨W,ρ,_,px,q,λv H1 x g s r q=>⟨W,ρ,_,px.mono s,q,?_⟩⟩;rintro w H2 y g' s2 r2 ⟨z,ak,q⟩
 obtain⟨a,o',rfl,dg,h1,h2⟩:=tF ak (r.same s2 λ_ z=>z) r2
 obtain⟨u,rfl,ru⟩:=h2 z rfl
 exact⟨a,u,rfl,dg,k _ _ _ g (s.trans s2) ru q⟩
noncomputable def tG (i:Nat)(tk te:aE):aX:=λD ρ=>te ρ λz g=>∃ps,ρ[i]? = some (some (.own (.dA ps)))/\tk ρ λy _=>∃k,y=i5 k/\Nw g z/\ps.length<16000000/\D.nx (ρ.set i (some (.own (.dA (dX ps k z)))))
theorem as1 {i:Nat}(h:LS X (tG i tk te) D σ H):jU (cH i) (LE X tk) (LE X te) D σ H:=by
 obtain⟨W,ρ,D',px,q,k⟩:=h
 refine⟨W,ρ,_,px,q,?_⟩;rintro w H1 z g s rz ⟨ps,hi,q⟩
 obtain⟨v,ev,a,rfl,wa,kvs,ea,e1,r⟩:=(px.mono s).sl i _ hi
 refine⟨_,ev,W,ρ,_,px.mono s,q,?_⟩;rintro kv H2 y g' s2 ry ⟨kk,rfl,nw,hl,q⟩
 obtain⟨b,rfl,hb⟩:=p6 ry
 have ea2:=s2 _ _ ea;refine⟨a,_,rfl,.inl ⟨_,kk,b,ea2,rfl,hb,iD (by rw[kE e1];omega),rfl⟩,?_⟩
 obtain⟨h1,h2⟩:=rK kk ((Nw.rep px nw rz).same s2 λ_ z=>z) e1 (r.same s2 λ_ z=>z)
 exact k.nx W σ _ _ ((Ev.same (s.trans s2)).trans (Ev.upd wa)) ((px.mono (s.trans s2)).updOwn hi ev wa rfl (y:=.dA (dX ps kk z)) ⟨_,bM,h1,h2.keep (.upd ea2 rfl λb m=>⟨gL wa m,m⟩)⟩) q
theorem as2 (h:LE X (qC (.dA [])) σ H Q'):wT σ H Q':=by
 obtain⟨W,ρ,Q,px,q,k⟩:=h
 exact λp hp=>k _ _ _ .fr (cZ hp _) (.dA hp bM rfl .nil) q
theorem as3 (h:LE X (qC (.dB [])) σ H Q'):wU σ H Q':=by
 obtain⟨W,ρ,Q,px,q,k⟩:=h
 exact λp hp=>k _ _ _ .fr (cZ hp _) (.dB hp bM rfl .nil) q
noncomputable def tH (tk tv:aE):aE:=λρ Q=>tk ρ λy _=>tv ρ λz _=>flat z=true/\∃k,y=i5 k/\Q (.dA [(k,z)]) .fr
theorem as4 (h:LE X (tH tk tv) σ H Q'):wV (LE X tk) (LE X tv) σ H Q':=by
 obtain⟨W,ρ,Q,px,q,k⟩:=h
 intro p hp;have s0:aJ H (upd H p (.dA [])):=cZ hp _;refine⟨W,ρ,_,px.mono s0,q,λw H1 y g s r q=>⟨W,ρ,_,(px.mono s0).mono s,q,?_⟩⟩;rintro v H2 z g' s2 rz ⟨fl,kk,rfl,q2⟩;have ep:H2 p=some (.dA []):=s2 _ _ (s _ _ bM)
 obtain⟨b,rfl,nb⟩:=p6 r
 have nb2:dO H2 kk b:=nb.keeps λc xs e=>s2 _ _ e
 refine⟨ep,b,kk,rfl,nb2,?_⟩;have tot:aJ H (upd H2 p (.dA [(kk,v)])):=λc o e=>by
  rw[aL (λz=>by rw[z,hp]at e;cases e)];exact s2 _ _ (s _ _ (s0 _ _ e))
 refine k _ _ _ .fr tot (.dA (ps:=[(kk,z)]) hp bM rfl (.cons ?_ .nil)) q2;exact (rz.flat (M':=λ_=>False) fl).keep (.upd ep rfl λ_ z=>z.elim)
end
section
variable {X:Cx}{a b e ke:Expr}{pos:Pos}{ta tb te tk tv:aE}
theorem eY (hu:X.A.units+16<cLine)(ha:QE X a ta)(hb:QE X b tb)(hs:qO b:=by exact λ_ _=>rfl):QE X (.Subscript a b pos) (i6 ta tb):=bQ (Z6 hu ha hb hs) λ_ _ _=>as0
theorem p8 (hu:X.A.units+16<cLine)(hk:QE X a tk)(hd:QE X b te)(hm:behindInMarks .In b=false:=by rfl):QT X (.Compare a [.In] [b] pos) (bZ (kM false tk te)):=kF (uK (Z7 hu hk hd) hm) λ_ _ _ h=>ar8 (o6 h)
theorem as5 (hu:X.A.units+16<cLine)(hk:QE X a tk)(hd:QE X b te)(hm:behindInMarks .NotIn b=false:=by rfl):QT X (.Compare a [.NotIn] [b] pos) (bZ (kM true tk te)):=kF (uK (Z8 hu hk hd) hm) λ_ _ _ h=>ar9 (o6 h)
theorem tI:QE X (.Dict [] [] pos) (qC (.dA [])):=bQ aa0 λ_ _ _=>as2
theorem A5:QE X (.Dict [] [] pos) (qC (.dB [])):=bQ aa1 λ_ _ _=>as3
theorem A6 (hu:X.A.units+16<cLine)(hk:QE X ke tk)(hv:QE X e tv):QE X (.Dict [some ke] [e] pos) (tH tk tv):=bQ (aa2 hu hk hv) λ_ _ _=>as4
theorem as6 {i:Nat}{x:Str}{xpos tpos:Pos}(hu:X.A.units+16<cLine)(hk:QE X a tk)(he:QE X e te)(hN:X.N[i]? = some x:=by rfl)(hv:d7 X.env.scope x:=by first|exact Or.inl rfl|exact Or.inr (Or.inl rfl)|exact Or.inr (Or.inr rfl))(hd:(x==("__debug__":Str))=false:=by decide)(hcd:(x==("__classdict__":Str))=false:=by decide)(hs:swapsWith e (some (.Subscript (.Name x xpos) a tpos)) pos.line X.env=pure false:=by rfl):QS X (.Assign [.Subscript (.Name x xpos) a tpos] e pos) (tG i tk te):=cW (hG hu (fC hN hv hd hcd) hk he hs) λ_ _ _=>as1
end
end PP
namespace L2
open PySem PySem.Spec PyProof.Rows
section
variable {X:Cx}{CX:dG}{k:Nat}{sp:Sp}{E:XK}{x:Str}{p pos:Pos}{e:Expr}{es:List Expr}{t:TA}{i:Nat}
theorem fH.fnAt {P:ay}{w:ba}{H:Hp}{h:Heap}{f:ax}{l:b9}(q:fH H f l)(ok:bJ P w H h):PySem.W.FnAt f h:=by
 obtain⟨pm,ctv,c,ho,_⟩:=q.at ok
 exact⟨_,_,_,_,ho⟩
noncomputable def as7 (i:Nat)(G:b9->Sp->Prop)(E:XK)(t:TA):TE:=λσ H Q=>∃f l sp,σ[i]? = some (some (.ref f))/\fH H f l/\G l sp/\t σ H λvs H1=>fH H1 f l/\sp vs H1 Q E
theorem as8 {G:b9->Sp->Prop}(F:∀l sp,G l sp->qY X.prog X.w X.K X.mg X.base CX k l sp)(hr:bI k X.A)(hN:X.N[i]? = some x)(hv:d7 X.env.scope x)(hx:iV CX X E)(ha:PA X (e::es) t)(hdb:(x==("__debug__":Str))=false:=by decide)(hcd:(x==("__classdict__":Str))=false:=by decide)(he:starEach (e::es) X.env=(false,eval e X.env)::starEach es X.env:=by rfl)(hpl:(backTo pos (starEach es X.env)).any (·.1)=false:=by rfl) :
  PE X (.Call (.Name x p) (e::es) [] pos) (as7 i G E t):=by
 intro ai s σ H Q I h
 obtain⟨f,l,sp,hσ,la,g,h⟩:=h
 refine wpAny_Call_Name_kw (aM (fC (pos:=p) hN hv hdb hcd ai s σ H (λv H'=>v = .ref f/\H'=H) I ⟨_,hσ,rfl,rfl⟩) λu s0 h0=>?_)
 obtain⟨v,H',I0,r0,rfl,rfl⟩:=h0
 obtain rfl:u = .ref f:=r0;refine PySem.W.callWith_F (la.fnAt I0.hok) (aM (ha pos ai s0 σ H' _ I0 h) λus s1 ⟨vs,H1,I1,r,la1,q⟩=>⟨la1.fnAt I1.hok,?_⟩) he hpl;refine wpAny_call (codeAny_mono ((F l sp g).run X.A X.stack s1 H1 f us vs Q E hr I1.env0 la1 r q) λrs s' hq=>?_);cases rs with
 |error ev=>exact hx ai σ H1 s1 ev s' I1 hq
 |ok fl=>
  cases fl with
  |ret u=>exact I1.after hq
  |next=>exact False.elim hq
  |brk=>exact False.elim hq
  |cont=>exact False.elim hq
end
end L2
namespace PP
open PySem L2 PyProof.Rows PySem.Spec
section
variable {X:Cx}{σ:L2.St}{H:Hp}{tr:bU}{Q':VK}{e:Expr}{es:List Expr}{pos p2 np:Pos}{P0:ax}{l:b9}
noncomputable def mK (l:b9):aE:=λ_ Q=>Q (.lm l) .fr
theorem as9 (hT:∃t:Tok,X.H₀ P0=some (.tbl #[.str l.qual t]))(h:LE X (mK l) σ H Q'):wO P0 l σ H Q':=by
 obtain⟨W,ρ,Q,px,q,k⟩:=h
 obtain⟨t,hT⟩:=hT
 exact⟨⟨t,px.same _ _ hT⟩,λf H' s hf la=>k (.ref f) H' (.lm l) .fr s (.lm la) q⟩
theorem tJ {params:Arguments}{body:Expr}{scope:Scope}{c0:ax}(hT:∃t:Tok,X.H₀ P0=some (.tbl #[.str l.qual t]))(hl:l=⟨X.env.qual++"<lambda>",params,body,scope⟩)(hcode:X.env.code = .ref c0)(hK:PySem.W.codeHdIn X.K c0 P0=true)(B:fX X.base X.mg P0)(hgP:mainGlobals≠P0)(hdef:defaultsOf params X.env=([],[]):=by rfl)(hcl:closureFor scope X.env=pure []:=by rfl):QE X (.Lambda params body scope pos) (mK l):=
 bQ (Y7 hl hcode hK B hgP hdef hcl) λ_ _ _=>as9 hT
noncomputable def eJ (P:ay)(w:ba)(K:ad)(mg:Str->Option av)(base:Heap)(k:Nat)(l:b9)(p:b8):Prop:=qY P w K mg base bX k l (kA K p)
noncomputable def tK (i:Nat)(tab:List (b9×b8))(t:bU):aE:=λρ Q=>∃g l p,ρ[i]? = some (some (.sh g (.lm l)))/\(l,p)∈tab/\aZ p t ρ Q
theorem mL (i:Nat){k j:Nat}{x:Str}{tab:List (b9×b8)}(ds:∀z,z∈tab->eJ X.prog X.w X.K X.mg X.base k z.1 z.2)(hr:bI j X.A)(ha:QA X (e::es) tr)(hkj:k<=j:=by decide)(hN:X.N[i]? = some x:=by rfl)(hv:d7 X.env.scope x:=by first|exact Or.inl rfl|exact Or.inr (Or.inl rfl)|exact Or.inr (Or.inr rfl))(hdb:(x==("__debug__":Str))=false:=by decide)(hcd:(x==("__classdict__":Str))=false:=by decide)(he:starEach (e::es) X.env=(false,eval e X.env)::starEach es X.env:=by rfl)(hpl:(backTo pos (starEach es X.env)).any (·.1)=false:=by rfl):QE X (.Call (.Name x p2) (e::es) [] pos) (tK i tab tr):=by
 refine bQ (as8 (k:=k) (t:=LA X tr) (E:=E0) (CX:=bX) (G:=λl sp=>∃z,z∈tab/\z.1=l/\sp=kA X.K z.2) (λl sp g=>?_) (hr.mono hkj) hN hv jR ha hdb hcd he hpl) λσ H Q' h=>?_
 ·obtain⟨z,hz,rfl,rfl⟩:=g
  exact ds z hz
 obtain⟨W,ρ,Q,px,⟨g,l,p,hi,hz,q⟩,k⟩:=h
 obtain⟨v,hv,r⟩:=px.sl i _ hi
 have r:aH X.K (Ms X.H₀ W g) H v (.lm l):=r;cases r with
 |lm la=>
  refine⟨_,l,_,hv,la,⟨_,hz,rfl,rfl⟩,W,ρ,_,px,q,λvs H1 xs s1 r1 q1=>⟨la.same s1,_,_,r1.any,q1,λv H' x s2 r2 q2=>k v H' x .fr (s1.trans s2) (r2.same (aJ.refl _) λ_ z=>s1.free z) q2⟩⟩
theorem eJ.of {P:ay}{w:ba}{K:ad}{mg:Str->Option av}{base:Heap}{k:Nat}{l:b9}{N ps:List Str}{p:b8}(S:FnScope N ps l.scope)(hb:∀(pm cv ctv:av) (us:List av),us.length=ps.length->bindArgs (qX l pm cv ctv) ⟨us,[]⟩=pure (ps.zip us))(len:∀xs Q,p xs Q->xs.length=ps.length)(body:∀(f:ax) (cv:av) (A:az) (outer:List Env) (s:aw) (H:Hp) (E:XK),bI k (A.deeper (envOfC l.qual l.scope s.heap.objs.size f cv))->
   ∃t,QE (bV bX P w K mg base N l.qual l.scope f cv A outer s H E) l.body t/\∀xs Q,p xs Q->t (bF N xs) λx _=>flat x=true/\Q x):eJ P w K mg base (k+1) l p:=by
 refine Y8 S hb (λvs H Q E h=>?_) λA outer s H f cv vs Q E hr h=>?_
 ·obtain⟨xs,Qp,r,q,_⟩:=h
  rw[r.length];exact len xs Qp q
 ·obtain⟨xs,Qp,r,q,k⟩:=h
  obtain⟨t,ht,hq⟩:=body f cv A outer s H E hr
  exact⟨_,ht,λ_=>False,bF N xs,_,iI r,hq xs Qp q,λv H' x g s rx ⟨fx,qx⟩=>k v H' x s (rx.flat fx) qx⟩
end
noncomputable def jn {κ:Type}[DecidableEq κ](J:PV->PV->PV)(ps:List (κ×PV))(k:κ)(z:PV):PV:=match cS ps k with
 |none=>z
 |some w=>J w z
noncomputable def A7 (K:ad)(g:PV)(Ok:PV->Prop)(J:PV->PV->PV):Sp:=λvs H Q _=>∃d b y f ks kvs ps z,vs = [.ref d,.ref b,y,f]/\H d=some (.dA kvs)/\dO H ks b/\kvs.map (·.1)=ps.map (·.1)/\Reps K (λ_=>True) H (kvs.map (·.2)) (ps.map (·.2))/\
 (∀w,cS ps ks=some w->Ok w)/\aH K (λ_=>True) H y z/\flat z=true/\Ok z/\aH K (λ_=>True) H f g/\ps.length<16000000/\∀H' v,aJ H H'->aH K (λ_=>False) H' v (jn J ps ks z)->flat (jn J ps ks z)=true->Q .non (upd H' d (.dA (dS kvs ks v)))
noncomputable def A8 (K:ad)(g:PV)(Ok:PV->Prop)(J:PV->PV->PV):Sp:=λvs H Q _=>∃d x y f ks kvs ps z,vs = [.ref d,x,y,f]/\H d=some (.dB kvs)/\iY ks x/\kvs.map (·.1)=ps.map (·.1)/\Reps K (λ_=>True) H (kvs.map (·.2)) (ps.map (·.2))/\
 (∀w,cS ps ks=some w->Ok w)/\aH K (λ_=>True) H y z/\flat z=true/\Ok z/\aH K (λ_=>True) H f g/\ps.length<16000000/\∀H' v,aJ H H'->aH K (λ_=>False) H' v (jn J ps ks z)->flat (jn J ps ks z)=true->Q .non (upd H' d (.dB (dS kvs ks v)))
structure i7 (P:ay)(w:ba)(K:ad)(mg:Str->Option av)(base:Heap)(k:Nat)(x:Str)(ps:List Str)(g:PV)(Ok:PV->Prop)(J:PV->PV->PV):Prop where
 ex:∃f fd,cK P w K mg base bX k f fd ps (A7 K g Ok J)/\fW K fd ps []/\PySem.W.keepIn K (.ref f)=true/\mg x=some (.ref f)
structure i8 (P:ay)(w:ba)(K:ad)(mg:Str->Option av)(base:Heap)(k:Nat)(x:Str)(ps:List Str)(g:PV)(Ok:PV->Prop)(J:PV->PV->PV):Prop where
 ex:∃f fd,cK P w K mg base bX k f fd ps (A8 K g Ok J)/\fW K fd ps []/\PySem.W.keepIn K (.ref f)=true/\mg x=some (.ref f)
noncomputable def A9:cD:=bZ (kM false (aC 1) (aC 0))
theorem at0 {k:Int}{x:V}{K:ad}{M:ax->Prop}{H:Hp}(n:iY k x):∃y,mJ k y/\aH K M H x y:=by
 rcases n with rfl|⟨b,rfl,e⟩
 ·exact⟨.int k,.inl rfl,.int _⟩
 ·exact⟨.bl b,.inr ⟨b,rfl,e⟩,.bl _⟩
section
variable {P:ay}{w:ba}{K:ad}{mg:Str→Option av}{base:Heap}{k:Nat}{x:Str}{p1 p2 p3 p4:Str}{st:Stmt}{f:ax}{fd:FuncData}{g:PV}{Ok:PV→Prop}{J:PV→PV→PV}
theorem i7.of (F:bN K x x st f fd)(m:mg x=some (.ref f))(S:FnScope [p1,p2,p3,p4] [p1,p2,p3,p4] (aK st))(hb:∀(kV doc pm:av) (an:Option ax) (cdv ct:av) (us:List av),us.length = [p1,p2,p3,p4].length->bindArgs (PySem.W.fnOf x x (bK st) (bB st) (aK st) .none kV doc pm an cdv ct) ⟨us,[]⟩=pure ([p1,p2,p3,p4].zip us))(body:∀(cdv:av) (A:az) (outer:List Env) (s:aw) (H:Hp) (E:XK),bI k (A.deeper (envOfC x (aK st) s.heap.objs.size f cdv))->
   ∃te:aE,cQ (bV bX P w K mg base [p1,p2,p3,p4] x (aK st) f cdv A outer s H E).nox (bB st) (nC (LT (bV bX P w K mg base [p1,p2,p3,p4] x (aK st) f cdv A outer s H E).nox A9)
    (jU (cH 0) (cH 1) (LE (bV bX P w K mg base [p1,p2,p3,p4] x (aK st) f cdv A outer s H E).nox te)) (jU (cH 0) (cH 1) (cH 2)))/\
    ∀d y w z,iO d y (some w)->Ok w->Ok z->te (bF [p1,p2,p3,p4] [d,y,z,g]) λv _=>v=J w z/\flat v=true):i7 P w K mg base (k+1) x [p1,p2,p3,p4] g Ok J:=by
 refine⟨f,fd,F.ok S (λvs H Q E h=>?_) (λcdv A outer s H vs Q E hr h=>?_),F.binds hb,F.kp,m⟩
 ·obtain⟨d,b,y,f',ks,kvs,ps,z,rfl,_⟩:=h
  rfl
 ·obtain⟨te,hbd,hte⟩:=body cdv A outer s H E hr
  refine⟨_,hbd,?_⟩
  obtain⟨d,b,y,f',ks,kvs,ps,z,rfl,ed,eb,e1,r,al,ry,fz,oz,rg,hl,q⟩:=h
  have px:=iI (N:=[p1,p2,p3,p4]) (K:=K) (H:=H) (vs:=[.ref d,.ref b,y,f']) (xs:=[.dA ps,i5 ks,z,g]) (.cons (.dA trivial ed e1 r) (.cons (z5 eb) (.cons ry (.cons rg .nil))));refine⟨_,_,λc=>c=(cS ps ks).isSome,px,⟨_,rfl,_,rfl,cS ps ks,.inl ⟨ps,ks,rfl,rfl,rfl⟩,_,rfl,rfl⟩,λc H1 s1 ec=>?_⟩;subst ec;cases ev:cS ps ks with
  |none=>
   rw[if_neg (by simp)];have ej:jn J ps ks z=z:=by unfold jn;rw[ev]
   refine⟨y,rfl,.ref d,rfl,.ref b,rfl,d,_,rfl,.inl ⟨_,ks,b,s1 _ _ ed,rfl,eb.keeps λc xs e=>s1 _ _ e,iD (by rw[kE e1];omega),rfl⟩,q H1 y s1 ?_ ?_⟩
   ·rw[ej];exact (ry.flat fz).same s1 λ_ z=>z
   ·rw[ej];exact fz
  |some w=>
   rw[if_pos (by rfl)];have ej:jn J ps ks z=J w z:=by unfold jn;rw[ev]
   refine⟨_,_,_,px.mono s1,hte (.dA ps) (i5 ks) w z (.inl ⟨ps,ks,rfl,rfl,ev.symm⟩) (al w ev) oz,λv H2 v2 g2 s2 rv hv=>?_⟩
   obtain⟨rfl,fv⟩:=hv
   have s12:=s1.trans s2;refine⟨.ref d,rfl,.ref b,rfl,d,_,rfl,.inl ⟨_,ks,b,s12 _ _ ed,rfl,eb.keeps λc xs e=>s12 _ _ e,iD (by rw[kE e1];omega),rfl⟩,q H2 v s12 ?_ ?_⟩
   ·rw[ej];exact rv.flat fv
   ·rw[ej];exact fv
theorem i8.of (F:bN K x x st f fd)(m:mg x=some (.ref f))(S:FnScope [p1,p2,p3,p4] [p1,p2,p3,p4] (aK st))(hb:∀(kV doc pm:av) (an:Option ax) (cdv ct:av) (us:List av),us.length = [p1,p2,p3,p4].length->bindArgs (PySem.W.fnOf x x (bK st) (bB st) (aK st) .none kV doc pm an cdv ct) ⟨us,[]⟩=pure ([p1,p2,p3,p4].zip us))(body:∀(cdv:av) (A:az) (outer:List Env) (s:aw) (H:Hp) (E:XK),bI k (A.deeper (envOfC x (aK st) s.heap.objs.size f cdv))->
   ∃te:aE,cQ (bV bX P w K mg base [p1,p2,p3,p4] x (aK st) f cdv A outer s H E).nox (bB st) (nC (LT (bV bX P w K mg base [p1,p2,p3,p4] x (aK st) f cdv A outer s H E).nox A9)
    (jU (cH 0) (cH 1) (LE (bV bX P w K mg base [p1,p2,p3,p4] x (aK st) f cdv A outer s H E).nox te)) (jU (cH 0) (cH 1) (cH 2)))/\
    ∀d y w z,iO d y (some w)->Ok w->Ok z->te (bF [p1,p2,p3,p4] [d,y,z,g]) λv _=>v=J w z/\flat v=true):i8 P w K mg base (k+1) x [p1,p2,p3,p4] g Ok J:=by
 refine⟨f,fd,F.ok S (λvs H Q E h=>?_) (λcdv A outer s H vs Q E hr h=>?_),F.binds hb,F.kp,m⟩
 ·obtain⟨d,b,y,f',ks,kvs,ps,z,rfl,_⟩:=h
  rfl
 ·obtain⟨te,hbd,hte⟩:=body cdv A outer s H E hr
  refine⟨_,hbd,?_⟩
  obtain⟨d,xv,y,f',ks,kvs,ps,z,rfl,ed,en,e1,r,al,ry,fz,oz,rg,hl,q⟩:=h
  obtain⟨xp,np,rx⟩:=at0 (K:=K) (M:=λ_=>True) (H:=H) en
  have px:=iI (N:=[p1,p2,p3,p4]) (K:=K) (H:=H) (vs:=[.ref d,xv,y,f']) (xs:=[.dB ps,xp,z,g]) (.cons (.dB trivial ed e1 r) (.cons rx (.cons ry (.cons rg .nil))));refine⟨_,_,λc=>c=(cS ps ks).isSome,px,⟨_,rfl,_,rfl,cS ps ks,.inr ⟨ps,ks,rfl,np,rfl⟩,_,rfl,rfl⟩,λc H1 s1 ec=>?_⟩;subst ec;cases ev:cS ps ks with
  |none=>
   rw[if_neg (by simp)];have ej:jn J ps ks z=z:=by unfold jn;rw[ev]
   refine⟨y,rfl,.ref d,rfl,xv,rfl,d,_,rfl,.inr ⟨_,ks,s1 _ _ ed,en,iD (by rw[kE e1];omega),rfl⟩,q H1 y s1 ?_ ?_⟩
   ·rw[ej];exact (ry.flat fz).same s1 λ_ z=>z
   ·rw[ej];exact fz
  |some w=>
   rw[if_pos (by rfl)];have ej:jn J ps ks z=J w z:=by unfold jn;rw[ev]
   refine⟨_,_,_,px.mono s1,hte (.dB ps) xp w z (.inr ⟨ps,ks,rfl,np,ev.symm⟩) (al w ev) oz,λv H2 v2 g2 s2 rv hv=>?_⟩
   obtain⟨rfl,fv⟩:=hv
   have s12:=s1.trans s2;refine⟨.ref d,rfl,xv,rfl,d,_,rfl,.inr ⟨_,ks,s12 _ _ ed,en,iD (by rw[kE e1];omega),rfl⟩,q H2 v s12 ?_ ?_⟩
   ·rw[ej];exact rv.flat fv
   ·rw[ej];exact fv
end
section
variable {X:Cx}{σ:L2.St}{H:Hp}{D:d8}{t1 t2 t3:aE}{g:PV}{Ok:PV→Prop}{J:PV→PV→PV}
noncomputable def tL (i:Nat)(g:PV)(Ok:PV->Prop)(J:PV->PV->PV)(t1 t2 t3:aE):aX:=λD ρ=>∃ps,ρ[i]? = some (some (.own (.dA ps)))/\t1 ρ λy _=>t2 ρ λz _=>t3 ρ λf _=>∃k,y=i5 k/\f=g/\flat z=true/\Ok z/\(∀w,cS ps k=some w->Ok w)/\ps.length<16000000/\D.nx (ρ.set i (some (.own (.dA (dX ps k (jn J ps k z))))))
noncomputable def tM (i:Nat)(g:PV)(Ok:PV->Prop)(J:PV->PV->PV)(t1 t2 t3:aE):aX:=λD ρ=>∃ps,ρ[i]? = some (some (.own (.dB ps)))/\t1 ρ λy _=>t2 ρ λz _=>t3 ρ λf _=>∃k,mJ k y/\f=g/\flat z=true/\Ok z/\(∀w,cS ps k=some w->Ok w)/\ps.length<16000000/\D.nx (ρ.set i (some (.own (.dB (dX ps k (jn J ps k z))))))
theorem at1 {i:Nat}(h:LS X (tL i g Ok J t1 t2 t3) D σ H):jK (jP (A7 X.K g Ok J) [] E0 (eC (cH i) (eC (LE X t1) (eC (LE X t2) (eC (LE X t3) iB))))) D σ H:=by
 obtain⟨W,ρ,D',px,⟨ps,hi,q⟩,k⟩:=h
 obtain⟨v,ev,a,rfl,wa,kvs,ea,e1,r⟩:=px.sl i _ hi
 refine⟨_,ev,W,ρ,_,px,q,?_⟩;intro v1 H1 y g1 s1 r1 q1;refine⟨W,ρ,_,px.mono s1,q1,?_⟩;intro v2 H2 z g2 s2 r2 q2;refine⟨W,ρ,_,px.mono (s1.trans s2),q2,?_⟩;rintro v3 H3 f g3 s3 r3 ⟨kk,rfl,rfl,fz,oz,al,hl,q3⟩
 obtain⟨b,rfl,hb⟩:=p6 r1
 have s23:=s2.trans s3;have s13:=s1.trans s23;have ea3:=s13 _ _ ea;refine⟨a,b,v2,v3,kk,kvs,ps,z,rfl,ea3,hb.keeps λc xs e=>s23 _ _ e,e1,r.same s13 λ_ _=>trivial,al,((r2.flat (M':=λ_=>True) fz).same s3 λ_ z=>z),fz,oz,r3.same (aJ.refl _) λ_ _=>trivial,hl,λH4 v s4 rv fv=>?_⟩;have s14:=s13.trans s4;have ea4:=s4 _ _ ea3
 obtain⟨h1,h2⟩:=rK kk (rv.flat (M':=Ms X.H₀ W true) fv) e1 (r.same s14 λ_ z=>z)
 exact k.nx W σ _ _ ((Ev.same s14).trans (Ev.upd wa)) ((px.mono s14).updOwn hi ev wa rfl (y:=.dA (dX ps kk (jn J ps kk z))) ⟨_,bM,h1,h2.keep (.upd ea4 rfl λb m=>⟨gL wa m,m⟩)⟩) q3
theorem at2 {i:Nat}(h:LS X (tM i g Ok J t1 t2 t3) D σ H):jK (jP (A8 X.K g Ok J) [] E0 (eC (cH i) (eC (LE X t1) (eC (LE X t2) (eC (LE X t3) iB))))) D σ H:=by
 obtain⟨W,ρ,D',px,⟨ps,hi,q⟩,k⟩:=h
 obtain⟨v,ev,a,rfl,wa,kvs,ea,e1,r⟩:=px.sl i _ hi
 refine⟨_,ev,W,ρ,_,px,q,?_⟩;intro v1 H1 y g1 s1 r1 q1;refine⟨W,ρ,_,px.mono s1,q1,?_⟩;intro v2 H2 z g2 s2 r2 q2;refine⟨W,ρ,_,px.mono (s1.trans s2),q2,?_⟩;rintro v3 H3 f g3 s3 r3 ⟨kk,n,rfl,fz,oz,al,hl,q3⟩;have s23:=s2.trans s3;have s13:=s1.trans s23;have ea3:=s13 _ _ ea;refine⟨a,v1,v2,v3,kk,kvs,ps,z,rfl,ea3,n.rep r1,e1,r.same s13 λ_ _=>trivial,al,((r2.flat (M':=λ_=>True) fz).same s3 λ_ z=>z),fz,oz,r3.same (aJ.refl _) λ_ _=>trivial,hl,λH4 v s4 rv fv=>?_⟩;have s14:=s13.trans s4;have ea4:=s4 _ _ ea3
 obtain⟨h1,h2⟩:=rK kk (rv.flat (M':=Ms X.H₀ W true) fv) e1 (r.same s14 λ_ z=>z)
 exact k.nx W σ _ _ ((Ev.same s14).trans (Ev.upd wa)) ((px.mono s14).updOwn hi ev wa rfl (y:=.dB (dX ps kk (jn J ps kk z))) ⟨_,bM,h1,h2.keep (.upd ea4 rfl λb m=>⟨gL wa m,m⟩)⟩) q3
theorem B0 {k j:Nat}{x y:Str}{ps:List Str}{a b c:Expr}{p2 p3 pos pos2:Pos}(d:i7 X.prog X.w X.K X.mg X.base k x ps g Ok J)(hr:bI j X.A)(i:Nat)(ha:QE X a t1)(hb:QE X b t2)(hc:QE X c t3)(hkj:k<=j:=by decide)(hN:X.N[i]? = some y:=by rfl)(hv:d7 X.env.scope y:=by first|exact Or.inl rfl|exact Or.inr (Or.inl rfl)|exact Or.inr (Or.inr rfl))(hd:(y==("__debug__":Str))=false:=by decide)(hcd:(y==("__classdict__":Str))=false:=by decide)(hg:Gl X x:=by rfl)(hdb:(x==("__debug__":Str))=false:=by decide)(he:starEach [.Name y p3,a,b,c] X.env=(false,eval (.Name y p3) X.env)::starEach [a,b,c] X.env:=by rfl)(he2:starEach [a,b,c] X.env=(false,eval a X.env)::starEach [b,c] X.env:=by rfl)(he3:starEach [b,c] X.env=(false,eval b X.env)::starEach [c] X.env:=by rfl)(he4:starEach [c] X.env=(false,eval c X.env)::starEach [] X.env:=by rfl)(hpl:(backTo pos (starEach [a,b,c] X.env)).any (·.1)=false:=by rfl)(hs:swapsWith (.Call (.Name x p2) [.Name y p3,a,b,c] [] pos) none pos2.line X.env=pure false:=by rfl):QS X (.Expr (.Call (.Name x p2) [.Name y p3,a,b,c] [] pos) pos2) (tL i g Ok J t1 t2 t3):=by
 obtain⟨f,fd,F,b,kp,m⟩:=d.ex
 exact cW (kY (lG F (hr.mono hkj) hg m kp b .nil jR (dP (fC hN hv hd hcd) (dP ha (dP hb (dP hc iC he4) he3) he2) he) hdb he hpl) hs) λ_ _ _=>at1
theorem B1 {k j:Nat}{x y:Str}{ps:List Str}{a b c:Expr}{p2 p3 pos pos2:Pos}(d:i8 X.prog X.w X.K X.mg X.base k x ps g Ok J)(hr:bI j X.A)(i:Nat)(ha:QE X a t1)(hb:QE X b t2)(hc:QE X c t3)(hkj:k<=j:=by decide)(hN:X.N[i]? = some y:=by rfl)(hv:d7 X.env.scope y:=by first|exact Or.inl rfl|exact Or.inr (Or.inl rfl)|exact Or.inr (Or.inr rfl))(hd:(y==("__debug__":Str))=false:=by decide)(hcd:(y==("__classdict__":Str))=false:=by decide)(hg:Gl X x:=by rfl)(hdb:(x==("__debug__":Str))=false:=by decide)(he:starEach [.Name y p3,a,b,c] X.env=(false,eval (.Name y p3) X.env)::starEach [a,b,c] X.env:=by rfl)(he2:starEach [a,b,c] X.env=(false,eval a X.env)::starEach [b,c] X.env:=by rfl)(he3:starEach [b,c] X.env=(false,eval b X.env)::starEach [c] X.env:=by rfl)(he4:starEach [c] X.env=(false,eval c X.env)::starEach [] X.env:=by rfl)(hpl:(backTo pos (starEach [a,b,c] X.env)).any (·.1)=false:=by rfl)(hs:swapsWith (.Call (.Name x p2) [.Name y p3,a,b,c] [] pos) none pos2.line X.env=pure false:=by rfl):QS X (.Expr (.Call (.Name x p2) [.Name y p3,a,b,c] [] pos) pos2) (tM i g Ok J t1 t2 t3):=by
 obtain⟨f,fd,F,b,kp,m⟩:=d.ex
 exact cW (kY (lG F (hr.mono hkj) hg m kp b .nil jR (dP (fC hN hv hd hcd) (dP ha (dP hb (dP hc iC he4) he3) he2) he) hdb he hpl) hs) λ_ _ _=>at2
end
end PP
namespace L2
open PySem PySem.Spec PyProof.Rows
section
variable {X:Cx}{CX:dG}{k:Nat}{E:XK}{x:Str}{p pos:Pos}{e:Expr}{es:List Expr}{t:TA}{i:Nat}
noncomputable def at3 (i:Nat)(G:ax->Sp->Prop)(E:XK)(t:TA):TE:=λσ H Q=>∃f sp,σ[i]? = some (some (.ref f))/\G f sp/\t σ H λvs H1=>sp vs H1 Q E
theorem at4 {G:ax->Sp->Prop}(F:∀f sp,G f sp->∃fd ps,cK X.prog X.w X.K X.mg X.base CX k f fd ps sp/\PySem.W.keepIn X.K (.ref f)=true/\fW X.K fd ps [])(hr:bI k X.A)(hN:X.N[i]? = some x)(hv:d7 X.env.scope x)(hx:iV CX X E)(ha:PA X (e::es) t)(hdb:(x==("__debug__":Str))=false:=by decide)(hcd:(x==("__classdict__":Str))=false:=by decide)(he:starEach (e::es) X.env=(false,eval e X.env)::starEach es X.env:=by rfl)(hpl:(backTo pos (starEach es X.env)).any (·.1)=false:=by rfl) :
  PE X (.Call (.Name x p) (e::es) [] pos) (at3 i G E t):=by
 intro ai s σ H Q I h
 obtain⟨f,sp,hσ,g,h⟩:=h
 obtain⟨fd,ps,F,hk,hb⟩:=F f sp g
 refine wpAny_Call_Name_kw (aM (fC (pos:=p) hN hv hdb hcd ai s σ H (λv H'=>v = .ref f/\H'=H) I ⟨_,hσ,rfl,rfl⟩) λu s0 h0=>?_)
 obtain⟨v,H',I0,r0,rfl,rfl⟩:=h0
 obtain rfl:u = .ref f:=r0;refine PySem.W.callWith_K (h₀:=X.base) I0.ok.mod.kin hk (aM (ha pos ai s0 σ H' _ I0 h) λus s1 ⟨vs,H1,I1,r,q⟩=>⟨I1.kIn,?_⟩) he hpl;exact vE F hr hb .nil hx I1 r (by rw[aN7];exact q)
end
end L2
namespace PP
open PySem L2 PyProof.Rows PySem.Spec
section
variable {X:Cx}{σ:L2.St}{H:Hp}{tr:bU}{Q':VK}{e:Expr}{es:List Expr}{pos p2 np:Pos}
noncomputable def B2 (i:Nat)(tab:List (Str×b8))(t:bU):aE:=λρ Q=>∃g x p,ρ[i]? = some (some (.sh g (.fn x)))/\(x,p)∈tab/\aZ p t ρ Q
theorem at5 (i:Nat){k j:Nat}{x:Str}{tab:List (Str×b8)}(ds:∀z,z∈tab->(∃f,X.mg z.1=some (.ref f)/\PySem.W.nsIn X.K mainGlobals z.1=some (some (.ref f)))/\∃ps,Df X.prog X.w X.K X.mg X.base k z.1 ps z.2)(hr:bI j X.A)(ha:QA X (e::es) tr)(hkj:k<=j:=by decide)(hN:X.N[i]? = some x:=by rfl)(hv:d7 X.env.scope x:=by first|exact Or.inl rfl|exact Or.inr (Or.inl rfl)|exact Or.inr (Or.inr rfl))(hdb:(x==("__debug__":Str))=false:=by decide)(hcd:(x==("__classdict__":Str))=false:=by decide)(he:starEach (e::es) X.env=(false,eval e X.env)::starEach es X.env:=by rfl)(hpl:(backTo pos (starEach es X.env)).any (·.1)=false:=by rfl):QE X (.Call (.Name x p2) (e::es) [] pos) (B2 i tab tr):=by
 refine bQ (at4 (k:=k) (t:=LA X tr) (E:=E0) (CX:=bX) (G:=λf sp=>∃z,z∈tab/\X.mg z.1=some (.ref f)/\sp=kA X.K z.2) (λf sp g=>?_) (hr.mono hkj) hN hv jR ha hdb hcd he hpl) λσ H Q' h=>?_
 ·obtain⟨z,hz,m,rfl⟩:=g
  obtain⟨_,ps,d⟩:=ds z hz
  obtain⟨f',fd,F,b,kp,m'⟩:=d.ex
  rw[m]at m';cases m'
  exact⟨fd,ps,F,kp,b⟩
 obtain⟨W,ρ,Q,px,⟨g,y,p,hi,hz,q⟩,k⟩:=h
 obtain⟨v,hv,r⟩:=px.sl i _ hi
 have r:aH X.K (Ms X.H₀ W g) H v (.fn y):=r;cases r with
 |fn n=>
  obtain⟨f,m,n'⟩:=(ds _ hz).1
  rw[n']at n;cases n
  exact⟨_,_,hv,⟨_,hz,m,rfl⟩,W,ρ,_,px,q,λvs H1 xs s1 r1 q1=>⟨_,_,r1.any,q1,λv H' x s2 r2 q2=>k v H' x .fr (s1.trans s2) (r2.same (aJ.refl _) λ_ z=>s1.free z) q2⟩⟩
end
noncomputable def eL (T:List (ax×Str))(H:Hp):Prop:=∀z∈T,∃t:Tok,H z.1=some (.tbl #[.str z.2 t])
theorem eL.same {T:List (ax×Str)}{H H':Hp}(h:eL T H)(s:aJ H H'):eL T H':=λz hz=>let ⟨t,e⟩:=h z hz;⟨t,s _ _ e⟩
noncomputable def mM (K:ad)(T:List (ax×Str))(p:b8):Sp:=λvs H Q E=>eL T H/\kA K p vs H Q E
structure eM (P:ay)(w:ba)(K:ad)(mg:Str->Option av)(base:Heap)(T:List (ax×Str))(k:Nat)(x:Str)(ps:List Str)(p:b8):Prop where
 ex:∃f fd,cK P w K mg base bX k f fd ps (mM K T p)/\fW K fd ps []/\PySem.W.keepIn K (.ref f)=true/\mg x=some (.ref f)
section
variable {X:Cx}{σ:L2.St}{H:Hp}{tr:bU}{Q':VK}{e:Expr}{es:List Expr}{pos p2:Pos}{T:List (ax×Str)}
theorem at6 {p:b8}{E:XK}(hT:eL T X.H₀)(h:LE X (aZ p tr) σ H Q'):jP (mM X.K T p) [] E (LA X tr) σ H Q':=by
 obtain⟨W,ρ,Q,px,q,k⟩:=h
 exact⟨W,ρ,_,px,q,λvs H1 xs s1 r1 q1=>⟨hT.same (px.same.trans s1),_,_,by rw[aN7];exact r1.any,q1,λv H' x s2 r2 q2=>k v H' x .fr (s1.trans s2) (r2.same (aJ.refl _) λ_ z=>s1.free z) q2⟩⟩
theorem tN {k j:Nat}{x:Str}{ps:List Str}{p:b8}(hT:eL T X.H₀)(d:eM X.prog X.w X.K X.mg X.base T k x ps p)(hr:bI j X.A)(ha:QA X (e::es) tr)(hkj:k<=j:=by decide)(hg:Gl X x:=by rfl)(hdb:(x==("__debug__":Str))=false:=by decide)(he:starEach (e::es) X.env=(false,eval e X.env)::starEach es X.env:=by rfl)(hpl:(backTo pos (starEach es X.env)).any (·.1)=false:=by rfl):QE X (.Call (.Name x p2) (e::es) [] pos) (aZ p tr):=by
 obtain⟨f,fd,F,b,kp,m⟩:=d.ex
 exact bQ (lG F (hr.mono hkj) hg m kp b .nil jR ha hdb he hpl) λ_ _ _=>at6 hT
theorem eM.of {P:ay}{w:ba}{K:ad}{mg:Str->Option av}{base:Heap}{k:Nat}{x:Str}{ps N:List Str}{p:b8}{st:Stmt}{f:ax}{fd:FuncData}(F:bN K x x st f fd)(m:mg x=some (.ref f))(S:FnScope N ps (aK st))(hb:∀(kV doc pm:av) (an:Option ax) (cdv ct:av) (us:List av),us.length=ps.length->bindArgs (PySem.W.fnOf x x (bK st) (bB st) (aK st) .none kV doc pm an cdv ct) ⟨us,[]⟩=pure (ps.zip us))(len:∀xs Q,p xs Q->xs.length=ps.length)(body:∀(cdv:av) (A:az) (outer:List Env) (s:aw) (H:Hp) (E:XK),bI k (A.deeper (envOfC x (aK st) s.heap.objs.size f cdv))->eL T H->
   ∃t,dY (bV bX P w K mg base N x (aK st) f cdv A outer s H E).nox (bB st) t/\∀xs Q,p xs Q->t { nx:=λ_=>Q .non,rt:=Q } (bF N xs)):eM P w K mg base T (k+1) x ps p:=by
 refine⟨f,fd,F.ok S (λvs H Q E h=>?_) (λcdv A outer s H vs Q E hr h=>?_),F.binds hb,F.kp,m⟩
 ·obtain⟨_,xs,Qp,r,q,_⟩:=h
  rw[r.length];exact len xs Qp q
 ·obtain⟨hT,xs,Qp,r,q,k⟩:=h
  obtain⟨t,ht,hq⟩:=body cdv A outer s H E hr hT
  refine⟨_,ht,λ_=>False,bF N xs,_,iI r,hq xs Qp q,?_,?_,?_,?_⟩
  ·exact λW' σ' H' ρ' e px q=>k _ _ _ px.same .non q
  ·exact λv H' x s r q=>k _ _ _ s r q
  ·exact λW' σ' H' ρ' e px q=>q
  ·exact λW' σ' H' ρ' e px q=>q
end
end PP
namespace L2
open PySem PySem.Spec PyProof.Rows
noncomputable def gU (T:List (ax×Str)):Hp:=λb=>(T.find? λz=>decide (z.1=b)).map λz=>.tbl #[.str z.2 0]
noncomputable def mO (H:Hp):Prop:=∀b,H b=none∨(∃o xs,H b=some (.frz o (.lst xs)))∨∃ps,H b=some (.tbl ps)
noncomputable def B3 (K:ad)(h:Heap)(T:List (ax×Str)):Prop:=(∀z∈T,h.get? z.1=some (PySem.W.tabObj #[])/\K.lookup z.1=none/\isCodeTable h z.1)/\(T.map (·.1)).Nodup
theorem B4 (T:List (ax×Str)):mO (gU T):=λb=>by
 unfold gU;cases T.find? λz=>decide (z.1=b) with
 |none=>exact .inl rfl
 |some z=>exact .inr (.inr ⟨_,rfl⟩)
theorem tO {T:List (ax×Str)}{b:ax}(h:gU T b≠none):∃z∈T,b=z.1:=by
 unfold gU at h;cases e:T.find? λz=>decide (z.1=b) with
 |none=>rw[e]at h;exact absurd rfl h
 |some z=>exact⟨z,aL3 e,by have:=List.find?_some e;exact (by simpa using this:z.1=b).symm⟩
theorem B5:∀{T:List (ax×Str)}{z:ax×Str},(T.map (·.1)).Nodup->z∈T->(T.find? λy=>decide (y.1=z.1))=some z
 |[],_,_,h=>by cases h
 |y::r,z,n,h=>by
  rw[aG3,aI9]at n;rw[aH3];rcases aE2.mp h with rfl|h
  ·simp
  ·have ne:¬y.1=z.1:=λe=>n.1 (e▸List.mem_map_of_mem h)
   rw[aE7 ne];exact B5 n.2 h
theorem B6 {T:List (ax×Str)}(n:(T.map (·.1)).Nodup):PP.eL T (gU T):=λz hz=>⟨0,by unfold gU;rw[B5 n hz];rfl⟩
theorem B7 {P:ay}{w:ba}{H:Hp}{h:Heap}{T:List (ax×Str)}{b:ax}{u:HO}(t:∀z∈T,h.get? z.1=some (PySem.W.tabObj #[]))(e:gU T b=some u):bG P w H h b u:=by
 unfold gU at e;cases q:T.find? λz=>decide (z.1=b) with
 |none=>rw[q]at e;cases e
 |some z=>
  rw[q]at e;cases e;have hb:z.1=b:=by have:=List.find?_some q;simpa using this
  have g:=t z (aL3 q);rw[hb]at g
  exact⟨#[],g,trivial,λpos cv h=>by cases h⟩
theorem at7 {P:ay}{w:ba}{K:ad}{mg mb:Str->Option av}{CX:dG}{k:Nat}{fa a:ax}{fd:FuncData}{x:Str}{sp:Sp}{s₁:aw}{vs:List av}{ns:ag}{T:List (ax×Str)}(KX:K.In s₁.heap)(hns:s₁.heap.Ns mainGlobals mg)(hb:s₁.heap.Ns builtinsNs mb)(hbb:∀x:Str,x≠"__name__"->mb x=bootBuiltins x)(hlim:s₁.heap.NoLimit)(hg:s₁.gens = #[])(ha:s₁.heap.get? a=some { cls:=.type "list",data:=.seq vs.toArray })(hi:IntsAre vs ns)(hl:ns.length<=sizeLine)(hr:bI k callerA)(TK:B3 K s₁.heap T)(bmain:∃bm ob,mg "__builtins__" = some (.ref bm)/\bm≠builtinsNs/\s₁.heap.get? bm=some ob/\ob.cls = .type "module"/\ob.dict=some builtinsNs/\ob.data = .plain)(F:∀base:Heap,K.In base->base.Ns mainGlobals mg->(∀z∈T,fX base mg z.1)->cK P w K mg base CX k fa fd [x] sp)(hbind:∀(s:aw) (u:av),BindsTo s fd ⟨[u],[]⟩ [(x,u)])(hsp:∀H:Hp,mO H->PP.eL T H->b7 K H a (ns.map V.int)->sp [.ref a] H (λv _=>v = .bl true) λ_ _ _=>False)(hCX:∀H e s',CX [] H s₁ (λ_ _ _=>False) e s'->False) :
  codeAny (model P w) callerA (.call (.ref fa) ⟨[.ref a],[]⟩) (λr s'=>r = .ok (.ret (.bool true))/\OldK s₁.heap s'.heap/\s'.os=s₁.os/\AllBare s'.gens) s₁:=by
 have rv:=wE hi;have lenV:=hi.length;have core:∀H:Hp,mO H->PP.eL T H->b7 K H a (ns.map V.int)->bJ P w H s₁.heap->(∀b,H b≠none->b=a∨∃z∈T,b=z.1)->(H a≠none->K.lookup a=none)->
   codeAny (model P w) callerA (.call (.ref fa) ⟨[.ref a],[]⟩) (λr s'=>r = .ok (.ret (.bool true))/\OldK s₁.heap s'.heap/\s'.os=s₁.os/\AllBare s'.gens) s₁:=by
  intro H hO hT hS hok hA hK;have base_of:∀{b:ax}{o:Obj},s₁.heap.get? b=some o->H b=none->(gI s₁.heap H).get? b=some o:=λe n=>M5 e n
  have noA:∀{b:ax}{o:Obj}{es:Array DictEntry}{ep:Nat},s₁.heap.get? b=some o->o.data = .dict es ep->H b=none:=λ{b o es ep} e d=>by
   cases q:H b with
   |none=>rfl
   |some u=>
    rcases hA b (by rw[q];simp) with e'|⟨z,hz,e'⟩
    ·subst e'
     rw[ha]at e;cases e;have d':Data.seq vs.toArray _=Data.dict es ep:=d;cases d'
    ·subst e'
     rw[(TK.1 z hz).1]at e;cases e;have d':Data.fields #[]=Data.dict es ep:=d;cases d'
  have nsK:∀{b:ax}{m:Str->Option av},s₁.heap.Ns b m->(gI s₁.heap H).Ns b m:=λ{b m} ⟨o,es,ep,e,d,r⟩=>⟨o,es,ep,base_of e (noA e d),d,r⟩
  have hKb:K.In (gI s₁.heap H):=λb o e=>base_of (KX b o e) (by
   cases q:H b with
   |none=>rfl
   |some u=>
    rcases hA b (by rw[q];simp) with e'|⟨z,hz,e'⟩
    ·subst e'
     rw[hK (by rw[q];simp)]at e;cases e
    ·subst e'
     rw[(TK.1 z hz).2.1]at e;cases e)
  have hbA:∀z∈T,fX (gI s₁.heap H) mg z.1:=λz hz=>by
   obtain⟨bm,ob,b1,b2,b3,b4,b5,b6⟩:=bmain
   have nP:∀y∈T,bm≠y.1:=λy hy e=>by
    rw[e,(TK.1 y hy).1]at b3;cases b3;have d':Data.fields #[]=Data.plain:=b6;cases d'
   refine⟨bm,ob,b1,b2,λe=>?_,nP z hz,base_of b3 ?_,b4,b5,b6⟩
   ·obtain⟨o,es,ep,e1,e2,_⟩:=hns
    rw[e,e1]at b3;cases b3;rw[b6]at e2;cases e2
   ·cases q:H bm with
    |none=>rfl
    |some u=>
     rcases hA bm (by rw[q];simp) with e'|⟨y,hy,e'⟩
     ·rw[e',ha]at b3;cases b3
      have d':Data.seq vs.toArray _=Data.plain:=b6;cases d'
     ·exact absurd e' (nP y hy)
  have hM:Mod K mg (gI s₁.heap H):=⟨hKb,nsK hns,⟨mb,nsK hb,hbb⟩,let ⟨mc,h1,h2⟩:=hlim;⟨mc,nsK h1,h2⟩⟩;have e0:lE P w K mg (gI s₁.heap H) callerA [] s₁ H:=⟨rfl,hM,λb o e=>M6 e,Nat.le_of_eq (M4 _ _),trivial,λb hb=>absurd (show b∈([]:List ax) from hb) (by simp),hok,.of_eq hg⟩;refine codeAny_mono ((F _ hKb (nsK hns) hbA).run callerA [] s₁ H ⟨[.ref a],[]⟩ [.ref a] [.ref a] _ _ hr e0 (hbind s₁ (.ref a)) (.cons rfl .nil) (hsp H hO hT hS)) λr s' h=>?_
  cases r with
  |error e=>exact (hCX H e s' h).elim
  |ok fl=>
   cases fl with
   |next=>exact False.elim h
   |brk=>exact False.elim h
   |cont=>exact False.elim h
   |ret u=>
    obtain⟨v,H',os,bare,un,hok',r',q⟩:=h
    have q':v = .bl true:=q;subst q';obtain rfl:u=Value.bool true:=r';refine⟨rfl,⟨λb o e=>?_,λb o e=>?_⟩,os,bare⟩
    ·cases q:H b with
     |none=>exact .inl (un.keep b o e q (by intro z;exact absurd (show b∈([]:List ax) from z) (by simp)) (by simp))
     |some u=>
      rcases hO b with z|⟨ob,xs,z⟩|⟨ps,z⟩
      ·rw[q]at z;cases z
      ·have z2:=un.frzs b ob _ z
       obtain⟨e1,_⟩:=hok b _ z
       obtain⟨e2,_⟩:=hok' b _ z2
       rw[e]at e1;cases e1;exact .inl e2
      ·rcases hA b (by rw[q];simp) with e'|⟨y,hy,e'⟩
       ·subst e'
        obtain⟨qs,e1,_⟩:=(show bG P w H s₁.heap b (.tbl ps) from hok b _ z)
        rw[ha]at e1;cases e1
       ·subst e'
        obtain⟨more,z2⟩:=un.tbls _ ps z
        obtain⟨qs,e2,_⟩:=(show bG P w H' s'.heap y.1 (.tbl (ps++more)) from hok' _ _ z2)
        rw[(TK.1 y hy).1]at e;cases e;exact .inr (.inl ⟨(TK.1 y hy).2.2,rfl,#[],qs,rfl,by simpa using e2⟩)
    ·exact un.there b o e (by simp)
 cases hk:K.lookup a with
 |some o=>
  have e:=KX a o hk;rw[ha]at e;cases e;have aT:∀z∈T,z.1≠a:=λz hz e=>by have:=(TK.1 z hz).1;rw[e,ha]at this;cases this
  refine core (gU T) (B4 T) (B6 TK.2) (.inr ⟨_,vs.toArray,_,hk,rfl,rfl,rfl,by rw[aD9,lenV];exact hl,by simpa using rv⟩) (λb u z=>B7 (λy hy=>(TK.1 y hy).1) z) (λb z=>.inr (tO z)) λz=>(by
   obtain⟨y,hy,e⟩:=tO z
   exact absurd e.symm (aT y hy))
 |none=>
  have aT:∀z∈T,z.1≠a:=λz hz e=>by have:=(TK.1 z hz).1;rw[e,ha]at this;cases this
  refine core (λb=>if b=a then some (.frz { cls:=.type "list",data:=.seq vs.toArray } (.lst (ns.map V.int))) else gU T b) (λb=>?_) (λz hz=>?_) (.inl (.inr ⟨{ cls:=.type "list",data:=.seq vs.toArray },if_pos rfl⟩)) (λb u z=>?_) (λb z=>?_) λ_=>hk
  ·by_cases hb:b=a
   ·exact .inr (.inl ⟨_,_,if_pos hb⟩)
   ·rcases B4 T b with e|⟨o,xs,e⟩|⟨ps,e⟩
    ·exact .inl ((if_neg hb).trans e)
    ·exact .inr (.inl ⟨o,xs,(if_neg hb).trans e⟩)
    ·exact .inr (.inr ⟨ps,(if_neg hb).trans e⟩)
  ·obtain⟨t,e⟩:=B6 TK.2 z hz
   exact⟨t,(if_neg (aT z hz)).trans e⟩
  ·by_cases hb:b=a
   ·have z':=(if_pos hb).symm.trans z
    cases z';subst hb
    exact⟨ha,by rw[aD8];exact hl,vs,_,rv,ha⟩
   ·have z':=(if_neg hb).symm.trans z
    exact B7 (λy hy=>(TK.1 y hy).1) z'
  ·by_cases hb:b=a
   ·exact .inl hb
   ·exact .inr (tO λe=>z ((if_neg hb).trans e))
theorem B8 {K:ad}{h:Heap}{c P:ax}(X:K.In h)(e:PySem.W.codeHdIn K c P=true):isCodeTable h P:=by
 obtain⟨o,vs,_,_,_,_,_,_,_,h1,h2,h3,h4,_⟩:=PySem.W.codeHd_of_K X e
 exact⟨c,o,vs,h1,h2,h3,h4⟩
theorem at8 {K:ad}{H:Hp}{a:ax}{ns:ag}(hO:mO H)(h:b7 K H a (ns.map V.int)):PP.hI K H a ns:=by
 rcases h with (h|⟨o,h⟩)|h
 ·rcases hO a with e|⟨o,xs,e⟩|⟨ps,e⟩<;>(rw[h]at e;cases e)
 ·exact .inl ⟨o,h⟩
 ·exact .inr h
theorem at9 {l:PySem.W.OpenLaw}{n k:Nat}{q:ay}{loose:List Str}{XP:(Str->Option av)->Heap->Prop}{YP:ba->Heap->Prop}{d:DefRec}{K:Params->ad}{CX:ba->dG}{sp:ba->Sp}{x:Str}{T:List (ax×Str)}(hn:l.most=some n)(hn2:n<=sizeLine)(hdf:d.params.defaults = [])(hr:bI k callerA)(hY:∀(w:ba) (h:Heap),YP w h->(K w.params).In h)(hT:∀(w:ba) (h:Heap),YP w h->B3 (K w.params) h T)(F:∀(w:ba) (mg:Str->Option av) (fa:ax) (h:Heap),(K w.params).In h->h.Ns mainGlobals mg->mg d.name=some (.ref fa)->
   ∃fd:FuncData,(∀(s:aw) (u:av),BindsTo s fd ⟨[u],[]⟩ [(x,u)])/\
    ∀base:Heap,(K w.params).In base->base.Ns mainGlobals mg->(∀z∈T,fX base mg z.1)->cK l.prog w (K w.params) mg base (CX w) k fa fd [x] (sp w))(hsp:∀(w:ba) (H:Hp) (a:ax) (ns:ag),ns.length<=n->mO H->PP.eL T H->b7 (K w.params) H a (ns.map V.int)->sp w [.ref a] H (λv _=>v = .bl true) λ_ _ _=>False)(hCX:∀(w:ba) (H:Hp) (s:aw) (e:av) (s':aw),CX w [] H s (λ_ _ _=>False) e s'->False) :
  PySem.W.WalkO q loose XP YP l.row.toRowW d [] (λf vs=>PySem.call f vs):=by
 refine Att.W7 hn hdf λw s₀ s₁ mg mb fa o pm cd doc a vs ns G Y ho hd hcd hmg hobj hints ao hg=>?_
 have KX:=hY w _ Y
 obtain⟨fd,hb,hF⟩:=F w mg fa _ KX G.T.g hmg
 exact at7 KX G.T.g G.T.b G.T.builtins G.T.nolimit hg hobj hints (aH0 ao hn2) hr (hT w _ Y) G.T.bmain hF hb (λH hO hT hS=>hsp w H a ns ao hO hT hS) λH e s'=>hCX w H s₁ e s'
end L2
namespace PP
open PySem L2
noncomputable def gV:b8:=λxs Q=>∃m p:Nat,xs = [.int m,.int p]/\m<4/\p<2/\Q (.int (Strip.has m p))
noncomputable def B9:aX:=dL (q2 (d0 λi j=>.int (Builtin.bitAnd i j)) (q2 (RI (λ_ j=>0<=j) λi j=>.int (i/2^j.toNat)) (aC 0) (aC 1)) (qC (.int 1)))
theorem au0 {m p:Nat}(hm:m<4)(hp:p<2):Builtin.bitAnd ((m:Int)/2^((p:Int).toNat)) 1=(Strip.has m p:Int):=by
 have h1:m=0∨m=1∨m=2∨m=3:=by omega
 have h2:p=0∨p=1:=by omega
 rcases h1 with rfl|rfl|rfl|rfl<;>rcases h2 with rfl|rfl<;>decide +kernel
theorem au1:∀xs Q,gV xs Q->B9 { nx:=λ_=>Q .non,rt:=Q } (bF ["mask","place"] xs):=by
 rintro _ Q ⟨m,p,rfl,hm,hp,q⟩;refine⟨_,rfl,_,rfl,_,_,rfl,rfl,by show (0:Int)<=(p:Int);omega,_,_,rfl,rfl,?_⟩;have e:PV.int (Builtin.bitAnd ((m:Int)/2^((p:Int).toNat)) 1) = .int (Strip.has m p):=by rw[au0 hm hp]
 refine⟨trivial,?_⟩;show Q _;exact (congrArg Q e).mpr q
noncomputable def mP:b8:=λxs Q=>∃m:Nat,xs = [.int m]/\m<4/\Q (.int (Strip.one m))
noncomputable def C0:aX:=dL (q2 (d0 λi j=>.int (i+j)) (aZ gV (aI (aC 0) (aI (qC (.int 0)) aU))) (aZ gV (aI (aC 0) (aI (qC (.int 1)) aU))))
theorem au2:∀xs Q,mP xs Q->C0 { nx:=λ_=>Q .non,rt:=Q } (bF ["mask"] xs):=by
 rintro _ Q ⟨m,rfl,hm,q⟩;refine⟨_,rfl,m,0,rfl,hm,by decide,_,rfl,m,1,rfl,hm,by decide,_,_,rfl,rfl,?_⟩;have e:PV.int ((Strip.has m 0:Int)+(Strip.has m 1:Int)) = .int (Strip.one m):=by unfold Strip.one;rw[Int.natCast_add]
 refine⟨trivial,?_⟩;show Q _;exact (congrArg Q e).mpr q
end PP
namespace L2
open PySem PySem.Spec PyProof.Rows
section
variable {X:Cx}{ai:List (ax×Obj)}{σ:St}{H:Hp}{s:aw}{a:ax}{tg l e:Expr}{tl t:TE}
noncomputable def tP (t:TE):TE:=λσ H Q=>t σ H λv H1=>∃a kvs,v = .ref a/\H1 a=some (.dA kvs)/\∀o,Q v (upd H1 a (.frz o (.dA kvs)))
theorem C1 (h:PE X e t):PE X e (tP t):=by
 intro ai s σ H Q I hq;refine aM (h ai s σ H _ I hq) λv s1 h1=>?_
 obtain⟨x,H1,I1,r1,a,kvs,ex,ea,q⟩:=h1
 obtain⟨es,ep,ys,⟨o,e1,e2,e3⟩,_⟩:=ao5 I1 ea
 exact⟨x,_,I1.frozeD ea rfl e1,r1,q _⟩
theorem au3 {o:Obj}{kvs:List (List (Int×Bool)×V)}(I:aA X ai σ H s)(h:H a=some (.frz o (.dA kvs))):∃es ep ys,o.ExactDict/\o.data = .dict es ep/\s.heap.get? a=some o/\(a==sysModules)=false/\Paired (sS H) ys (kvs.map (·.1))/\aP ys (es.toList.map (·.key)):=by
 obtain⟨e0,z,far,xs,rel,o',es,ep,e1,e2,e3,e4,nd⟩:=(show bG X.prog X.w H s.heap a (.frz o (.dA kvs)) from I.hok a _ h)
 rw[e0]at e1;cases e1;refine⟨es,ep,xs.map λq=>V.ref q.2.1,e2,e3,e0,far,?_,?_⟩
 ·clear e4 nd h z
  induction rel with
  |nil=>exact .nil
  |cons r rs ih=>exact .cons ⟨_,rfl,r.2.1⟩ ih
 ·rw[e4]
  clear rel e4 nd
  induction xs with
  |nil=>exact .nil
  |cons q qs ih=>exact .cons rfl ih
noncomputable def C2 (tl:TE):TI:=λσ H R=>tl σ H λx H1=>∃a o kvs,x = .ref a/\H1 a=some (.frz o (.dA kvs))/\∀ys,Paired (sS H1) ys (kvs.map (·.1))->R (yD a o ys) H1
theorem au4 (hl:PE X l tl):PI X tg l (C2 tl):=by
 intro ai s σ H R I h;refine aM (hl ai s σ H _ I h) λv s1 h1=>?_
 obtain⟨x,H1,I1,r1,a,o,kvs,e,ha,q⟩:=h1
 subst e;cases r1
 obtain⟨es,ep,ys,e2,e3,e1,far,pk,vl⟩:=au3 I1 ha
 have hf:H1 s1.heap.objs.size=none:=I1.hok.fresh (aF0 _);refine Raw.made far ⟨o,e1,e2,e3⟩ ?_;refine⟨s1.heap.objs.size,[s1.heap.objs.size],_,_,H1,rfl,I1.kept (t':=s1.toks) λb o e=>aE1 _ e,ah4 a _ ⟨e2,e3⟩ vl,⟨_,aF3 _ rfl,rfl,rfl⟩,λb hb=>?_,q ys pk⟩;obtain rfl:b=s1.heap.objs.size:=by simpa using hb
 exact I1.fpOk (aF0 _) hf
theorem au5 (hc:X.calm=true)(hu:X.A.units+6<cLine):cR X (.builtin "min") (λxs H Q=>∃x y a c ns ms,xs = [x,y]/\PP.aH X.K (λ_=>True) H x (fQ a ns)/\PP.aH X.K (λ_=>True) H y (fQ c ms)/\Q (if HT.cE (c::ms) (a::ns)=true then y else x) H):=by
 intro ai s σ H xs us Q I r h
 obtain⟨x,y,a,c,ns,ms,rfl,q1,q2,q⟩:=h
 obtain⟨u,w',rfl,r1,r2⟩:=nM r
 refine ap4 (lt:=HT.cE (c::ms) (a::ns)) (I.ok.hd hc) (λh k Q E old hq=>?_) λh k old=>⟨_,H,I.kept (t':=k) old,?_,q⟩
 ·exact am8 (A:=X.A.in1) (by show X.A.units+1+4<cLine;omega) (I.kept (t':=k) old) q2 q1 r2 r1 hq
 ·split
  ·exact r2
  ·exact r1
end
end L2
namespace PP
open PySem L2
section
variable {X:Cx}{σ:St}{H:Hp}{D:d8}{Q':VK}{te:aE}{e a b:Expr}{ta tb:aE}{tr:bU}{pos p2 p3:Pos}{R:It→Hp→Prop}
noncomputable def p9 (te:aE):aE:=λρ Q=>te ρ λx g=>∃ps,x = .dA ps/\g = .fr/\flats (ps.map (·.2))=true/\Q (.fA ps) .fr
theorem au6 (h:LE X (p9 te) σ H Q'):tP (LE X te) σ H Q':=by
 obtain⟨W,ρ,Q,px,q,k⟩:=h
 refine⟨W,ρ,_,px,q,?_⟩;rintro v H1 x g s r ⟨ps,rfl,rfl,f,q⟩;cases r with
 |@dA a kvs _ m e ek r=>
  refine⟨a,kvs,rfl,e,λo=>k _ _ _ .fr (λb u hb=>?_) (.fA bM ek ((r.flat (M':=λ_=>False) f).keep (.upd e rfl λb z=>z.elim))) q⟩;have nb:b≠a:=λz=>by have m:H a=none:=m;rw[z,m]at hb;cases hb
  rw[aL nb];exact s b u hb
theorem pA (h:QE X e te):QE X e (p9 te):=bQ (C1 h) λ_ _ _=>au6
noncomputable def mQ (i:Nat)(te:aE):aX:=λD ρ=>te ρ λx g=>g = .fr/\((∃ps,x = .dA ps/\flats (ps.map (·.2))=true)∨∃ps,x = .dB ps/\flats (ps.map (·.2))=true)/\D.nx (ρ.set i (some (.own x)))
theorem au7 {i:Nat}(h:LS X (mQ i te) D σ H):gY (LE X te) (cU i) D σ H:=by
 obtain⟨W,ρ,D',px,q,k⟩:=h
 refine⟨W,ρ,_,px,q,?_⟩;rintro v H1 x g s r ⟨rfl,o,q⟩
 obtain⟨a,rfl,m,w⟩:∃a,v = .ref a/\H a=none/\∀M',fJ X.K M' H1 a x:=by
  rcases o with⟨ps,rfl,f⟩|⟨ps,rfl,f⟩
  ·cases r with
   |dA m e q r=>exact⟨_,rfl,m,λ_=>⟨_,e,q,r.flat f⟩⟩
  ·cases r with
   |dB m e q r=>exact⟨_,rfl,m,λ_=>⟨_,e,q,r.flat f⟩⟩
 exact k.nx _ _ H1 _ (Ev.own s m) (px.setOwn s m (w _)) q
theorem mR {i:Nat}{x:Str}(hN:X.N.Nodup)(he:QE X e te)(hi:X.N[i]? = some x:=by rfl)(hx:eZ X.env.scope x:=by first|exact Or.inl rfl|exact Or.inr rfl)(hs:swapsWith e (some (.Name x p2)) pos.line X.env=pure false:=by rfl)(hf:X.fn x=true∨X.env.scope.names.lookup x=some .local:=by first|exact .inl rfl|exact .inr rfl) :
  QS X (.Assign [.Name x p2] e pos) (mQ i te):=cW (lA hN hi hx he hs hf) λ_ _ _=>au7
noncomputable def tQ (j i:Nat):aX:=λD ρ=>∃ps,ρ[j]? = some (some (.own (.dA ps)))/\D.nx ((ρ.set j (some (.sh true (.fA ps)))).set i (some (.sh true (.fA ps))))
theorem au8 {K:ad}{H0:Hp}{W:ax->Prop}{ρ:bO}{i:Nat}{a:ax}{o:Obj}{ps:List (List (Int×Bool)×PV)}{kvs:List (List (Int×Bool)×V)}(p:PX K H0 W σ ρ H)(hi:ρ[i]? = some (some (.own (.dA ps))))(ha:σ[i]? = some (some (.ref a)))(wa:W a)(e0:H a=some (.dA kvs))(r:aH K (Ms H0 (jX W a) true) (upd H a (.frz o (.dA kvs))) (.ref a) (.fA ps)):PX K H0 (jX W a) σ (ρ.set i (some (.sh true (.fA ps)))) (upd H a (.frz o (.dA kvs))):=by
 obtain⟨w0,_⟩:=p.wm a wa
 have kp:∀g,dU (Ms H0 W g) (Ms H0 (jX W a) g) H (upd H a (.frz o (.dA kvs))):=λg=>.upd e0 rfl λb m=>⟨gL wa m,x5 m⟩
 refine⟨by rw[aJ3];exact p.len,λb u e=>by rw[aL (λz=>by rw[z,w0]at e;cases e)];exact p.same _ _ e,λb z=>?_,λj m h=>?_,λj k y' z b h1 h2 h3 h4=>?_⟩
 ·obtain⟨h1,o2,h2,h3⟩:=p.wm b z.1
  exact⟨h1,o2,by rw[aL z.2];exact h2,h3⟩
 ·rcases eU h with⟨rfl,hl,e⟩|⟨hne,h⟩
  ·cases e
   exact⟨_,ha,r⟩
  ·obtain⟨u,e,q⟩:=p.sl j m h
   refine⟨u,e,?_⟩;cases m with
   |sh g y=>exact aH.keep (kp g) q
   |own y=>
    obtain⟨b,e1,e2,q⟩:=q
    have hb:b≠a:=λz=>by
     subst e1;rw[z]at e;exact hne (p.dis j i _ _ a h hi e ha)
    exact⟨b,e1,⟨e2,hb⟩,q.keep (kp true) λo z=>by rw[aL hb];exact z⟩
   |kp g c ks=>exact⟨⟨q.1.1.keep (.upd e0 rfl λb m=>m.elim),q.1.2⟩,q.2.upd e0 rfl⟩
 ·rcases eU h1 with⟨_,_,e⟩|⟨_,h1⟩
  ·cases e
  ·rcases eU h2 with⟨_,_,e⟩|⟨_,h2⟩
   ·cases e
   ·exact p.dis j k _ _ b h1 h2 h3 h4
theorem au9 {i j:Nat}(h:LS X (tQ j i) D σ H):gY (tP (cH j)) (cU i) D σ H:=by
 obtain⟨W,ρ,D',px,⟨ps,hj,q⟩,k⟩:=h
 obtain⟨v,ev,a,rfl,wa,kvs,e0,ek,r⟩:=px.sl j _ hj
 refine⟨_,ev,a,kvs,rfl,e0,λo=>?_⟩;have r1:aH X.K (Ms X.H₀ (jX W a) true) (upd H a (.frz o (.dA kvs))) (.ref a) (.fA ps):=.fA bM ek (r.keep (.upd e0 rfl λb m=>⟨gL (g:=true) wa m,x5 (g:=true) m⟩));exact k.nx (jX W a) _ _ _ (λb u e n _=>⟨by rw[aL (λz=>n (by rw[z];exact wa))];exact e,λz=>n z.1⟩) ((au8 px hj ev wa e0 r1).setSh r1) q
theorem C3 (j:Nat){i:Nat}{x y:Str}(hN:X.N.Nodup)(he:PE X (.Name y p3) (cH j):=by exact pv _)(hi:X.N[i]? = some x:=by rfl)(hx:eZ X.env.scope x:=by first|exact Or.inl rfl|exact Or.inr rfl)(hs:swapsWith (.Name y p3) (some (.Name x p2)) pos.line X.env=pure false:=by rfl)(hf:X.fn x=true∨X.env.scope.names.lookup x=some .local:=by first|exact .inl rfl|exact .inr rfl) :
  QS X (.Assign [.Name x p2] (.Name y p3) pos) (tQ j i):=cW (lA hN hi hx (C1 he) hs hf) λ_ _ _=>au9
noncomputable def pB (te:aE):dW:=λρ Q=>te ρ λx _=>∃ps:List (List (Int×Bool)×PV),x = .fA ps/\Q (ps.map λp=>.tup (p.1.map λq=>.tup [.int q.1,.bl q.2])) true
theorem av0 (h:LI X (pB te) σ H R):C2 (LE X te) σ H R:=by
 obtain⟨W,ρ,Q,px,q,k⟩:=h
 refine⟨W,ρ,_,px,q,?_⟩;rintro v H1 x g s r ⟨ps,rfl,q⟩;cases r with
 |@fA a o kvs _ e ek r=>
  have px1:=px.mono s;have noW:∀{b:ax}{u:HO},H1 b=some u->dI u=false->¬W b:=λ{b u} e m z=>by
   obtain⟨_,w,e2,m2⟩:=px1.wm b z
   rw[e]at e2;cases e2;rw[m]at m2;cases m2
  refine⟨a,o,kvs,rfl,e,λys pk=>k _ _ _ _ s ?_ q⟩;have ll:=pk.length;have lk:=kE ek;rw[aD8]at ll;refine⟨λW' H' i ev hi=>⟨⟨_,(ev _ _ e (noW e rfl) rfl).1⟩,by rw[aD8]at hi;omega⟩,λW' H' i v H2 ev y hi=>?_,λW' H' ev=>⟨⟨_,(ev _ _ e (noW e rfl) rfl).1⟩,by rw[aD8];omega⟩⟩
  obtain⟨rfl,y⟩:=y
  refine⟨aJ.refl _,?_⟩
  obtain⟨key,hkey,q2,rfl,hq2⟩:=yS pk y
  rw[ek,aF8]at hkey;cases e2:ps[i]? with
  |none=>rw[e2]at hkey;cases hkey
  |some pp=>
   rw[e2]at hkey;have e3:pp.1=key:=aF9 hkey;refine⟨.tup (pp.1.map λq=>.tup [.int q.1,.bl q.2]),by rw[aF8,e2];rfl,?_⟩;rw[e3];exact z5 (hq2.keeps λb xs e=>(ev _ _ e (noW e rfl) rfl).1)
theorem pC {tg l:Expr}(hl:QE X l te):QI X tg l (pB te):=oJ (au4 hl) λ_ _ _=>av0
noncomputable abbrev C4 (ta tb:aE):aE:=q2 (d0 λi j=>.int (Builtin.bitOr i j)) ta tb
theorem av1 (ha:QE X a ta)(hb:QE X b tb):QE X (.BinOp a .BitOr b pos) (C4 ta tb):=fP R3 o3 ha hb
noncomputable def pD:List PV->(PV->Prop)->Prop:=λxs Q=>∃(a c:Int) (ns ms:ag),xs = [fQ a ns,fQ c ms]/\Q (if HT.cE (c::ms) (a::ns)=true then fQ c ms else fQ a ns)
theorem av2:dJ X pD (λxs H Q=>∃x y a c ns ms,xs = [x,y]/\aH X.K (λ_=>True) H x (fQ a ns)/\aH X.K (λ_=>True) H y (fQ c ms)/\Q (if HT.cE (c::ms) (a::ns)=true then y else x) H):=by
 rintro H vs xs Q Q' r ⟨a,c,ns,ms,rfl,q⟩ k
 obtain⟨v,w,rfl,r1,r2⟩:=r.two
 refine⟨v,w,a,c,ns,ms,rfl,r1,r2,k _ _ _ (aJ.refl _) ?_ q⟩;split
 ·exact r2.flat (oW _ _)
 ·exact r1.flat (oW _ _)
theorem av3 (B:Bt X.mg)(hc:X.calm=true)(hu:X.A.units+6<cLine)(ha:QA X [a,b] tr)(hg:Gl X "min":=by rfl)(he:starEach [a,b] X.env=(false,eval a X.env)::starEach [b] X.env:=by rfl)(hpl:(backTo pos (starEach [b] X.env)).any (·.1)=false:=by rfl):QE X (.Call (.Name "min" p2) [a,b] [] pos) (aZ pD tr):=
 mB (au5 hc hu) av2 hg B.min PyProof.Rows.boot_min ha (he:=he) (hpl:=hpl)
end
end PP
namespace Strip
noncomputable def cJ (w:ag):Prop:=1<=w.length/\w.length<=2
theorem cJ.two {w:ag}(o:cJ w):(∃a,w = [a])∨∃a b,w = [a,b]:=by
 obtain⟨h1,h2⟩:=o
 match w,h1,h2 with
 |[a],_,_=>exact .inl ⟨a,rfl⟩
 |[a,b],_,_=>exact .inr ⟨a,b,rfl⟩
 |[],h1,_=>exact absurd h1 (by decide)
 |_::_::_::_,_,h2=>exact absurd h2 (by simp)
noncomputable def d6 (w:ag)(a:aB):Prop:=a.length=2^w.length/\∀q∈a,q.1<2^w.length
theorem av4 {w:ag}(o:cJ w)(bh bu ah:Nat):(w.length=1/\∃c:Bool,cI w bh bu ah=if c then bu ||| 1 else bu) ∨
  (w.length=2/\∃c d:Bool,cI w bh bu ah=if d then (if c then bu ||| 1 else bu) ||| 2 else if c then bu ||| 1 else bu):=by
 rcases o.two with⟨a,rfl⟩|⟨a,b,rfl⟩
 ·refine .inl ⟨rfl,decide (((has bh 0+has ah 0+(if 0<=1 then has bu (1-0) else 0):Nat):Int) >= a),?_⟩
  unfold cI kI;simp only[aJ1];rfl
 ·refine .inr ⟨rfl,decide (((has bh 0+has ah 0+(if 0<=1 then has bu (1-0) else 0):Nat):Int) >= a),decide (((has bh 1+has ah 1+(if 1<=1 then has bu (1-1) else 0):Nat):Int) >= b),?_⟩
  unfold cI;simp only[kI,aJ1];rfl
theorem lt4 {n:Nat}(h:n<2^2):n=0∨n=1∨n=2∨n=3:=by have:n<4:=h;omega
theorem lt2 {n:Nat}(h:n<2^1):n=0∨n=1:=by have:n<2:=h;omega
theorem C5 {w:ag}(o:cJ w)(bh ah:Nat){bu:Nat}(h:bu<2^w.length):cI w bh bu ah<2^w.length/\(cI w bh bu ah=bu∨one bu+1<=one (cI w bh bu ah))/\one bu<=w.length:=by
 rcases av4 o bh bu ah with⟨e,c,z⟩|⟨e,c,d,z⟩
 ·rw[e]at h ⊢
  rw[z];rcases lt2 h with rfl|rfl<;>cases c<;>decide
 ·rw[e]at h ⊢
  rw[z];rcases lt4 h with rfl|rfl|rfl|rfl<;>cases c<;>cases d<;>decide
theorem C6 {w:ag}{a:aB}{ah n b:Nat}(hn:0<n)(e:cI w (a.getD b (0,false)).1 b ah=b):iM w a ah n b=b:=by
 obtain⟨m,rfl⟩:=Nat.exists_eq_succ_of_ne_zero (aK6 hn)
 show (if cI w (a.getD b (0,false)).1 b ah=b then b else _)=b;rw[if_pos e]
theorem C7 {w:ag}{a:aB}{ah n b:Nat}(e:cI w (a.getD b (0,false)).1 b ah≠b):iM w a ah (n+1) b=iM w a ah n (cI w (a.getD b (0,false)).1 b ah):=by
 show (if cI w (a.getD b (0,false)).1 b ah=b then b else _)=_;rw[if_neg e]
theorem C8 {w:ag}(o:cJ w)(a:aB)(ah:Nat):∀(n:Nat) {b:Nat},b<2^w.length->iM w a ah n b<2^w.length
 |0,_,h=>h
 |n+1,b,h=>by
  by_cases e:cI w (a.getD b (0,false)).1 b ah=b
  ·rw[C6 (Nat.succ_pos _) e];exact h
  ·rw[C7 e];exact C8 o a ah n (C5 o _ _ h).1
theorem av5 {w:ag}(o:cJ w):d6 w (aO w):=⟨aN3,λq h=>by rw[List.eq_of_mem_replicate h];exact Nat.two_pow_pos _⟩
theorem C9 {w:ag}(o:cJ w){a:aB}(h:d6 w a){s:Nat}(hs:s<2^w.length):d6 w (next w a s):=by
 refine⟨by unfold next;rw[aD8,List.length_range];exact h.1,λq hq=>?_⟩;unfold next at hq
 obtain⟨ah,_,rfl⟩:=aJ7.mp hq
 exact C8 o a ah _ hs
theorem mS {w:ag}{a:aB}{q:Nat×aB}(h:q∈after w a):q.1<a.length/\q.2=next w a q.1/\kept q.2=true:=by
 unfold after at h
 obtain⟨h1,h2⟩:=List.mem_filter.mp h
 obtain⟨s,hs,rfl⟩:=aJ7.mp h1
 exact⟨aN1.mp hs,rfl,h2⟩
theorem av6 {w:ag}(o:cJ w){a:aB}(h:d6 w a){q:Nat×aB}(hq:q∈after w a):d6 w q.2:=by
 obtain⟨h1,h2,_⟩:=mS hq
 rw[h2];exact C9 o h (by rw[<- h.1];exact h1)
theorem av7 (w:ag)(a:aB):(after w a).length<=a.length:=by
 unfold after;refine aH0 (List.length_filter_le ..) ?_;rw[aD8,List.length_range];exact aF0 _
theorem pE {w:ag}(o:cJ w):2^w.length=2∨2^w.length=4:=by
 rcases o.two with⟨a,rfl⟩|⟨a,b,rfl⟩
 ·exact .inl rfl
 ·exact .inr rfl
theorem pF {α:Type}[DecidableEq α]:∀{l m:List α},l.Nodup->(∀x∈l,x∈m)->l.length<=m.length
 |[],_,_,_=>aM1 _
 |x::r,m,n,h=>by
  rw[aI9]at n
  have:=pF (m:=m.erase x) n.2 λy hy=>(List.mem_erase_of_ne (λe:y=x=>n.1 (by rw[<- e];exact hy))).mpr (h y (aF2 _ hy))
  rw[List.length_erase_of_mem (h x aE0)]at this
  have:0<m.length:=List.length_pos_of_mem (h x aE0)
  rw[aK2];omega
structure Closed (w:ag)(S:List aB):Prop where
 b:aO w∈S
 go:∀a∈S,∀q∈after w a,q.2∈S
 len:S.length<=5000
structure kN (w:ag)(Ks:List aB):Prop extends Closed w Ks where
 nd:Ks.Nodup
 wf:∀a∈Ks,d6 w a
theorem av8 {w:ag}{S:List aB}{R:List (aB×aB)}(c:zA w S R=true)(l:S.length<=5000):Closed w S:=by
 obtain⟨c1,c2⟩:=Bool.and_eq_true_iff.mp c
 refine⟨by simpa using c1,λa ha q hq=>?_,l⟩
 obtain⟨h1,h2,h3⟩:=mS hq
 have:=aI3.mp c2 a ha
 rw[aG8]at this
 have:=aI3.mp this.2 q.1 (aN1.mpr h1)
 rw[Bool.or_eq_true]at this;rcases this with z|z
 ·rw[h2]at h3;rw[h3]at z;cases z
 ·rw[h2];simpa using z
theorem av9:(iN.all λw=>decide ((mH w).length<=1000))=true:=by decide +kernel
theorem tR {w:ag}(h:w∈iN):∃S,Closed w S:=by
 have q:=aI3.mp ap9 w h;rw[aG8]at q
 exact⟨_,av8 q.2 (aH0 (of_decide_eq_true (aI3.mp av9 w h)) (by decide))⟩
theorem pG {k:Int}(hk:k∈[(3:Int),4,5,6]):∃S,Closed [k] S:=by
 refine⟨[aO [k],aF],aE0,λa ha q hq=>?_,by show 2<=5000;decide⟩
 obtain⟨h1,h2,h3⟩:=mS hq
 rw[h2]at h3 ⊢;have h1:q.1<2:=by
  rcases aE2.mp ha with e|e
  ·rw[e]at h1;exact h1
  ·rw[aE6.mp e]at h1;exact h1
 have hq2:q.1=0∨q.1=1:=by omega
 revert h3;simp only[aE2,aJ8,aI4]at ha hk;rcases hq2 with e|e<;>rw[e]<;>rcases ha with rfl|rfl<;>rcases hk with rfl|rfl|rfl|rfl<;>decide +kernel
end Strip
namespace PP
open PySem L2
open Strip (aB cJ d6)
open Core (d5 si)
theorem aw0 {b:Bool}{x:PV}{P:Prop}(h:(Slot.sh b x).tag = .rd):P:=by cases b<;>cases h
noncomputable def ki (a:aB):List (Int×Bool):=a.map λq=>((q.1:Int),q.2)
theorem tS:∀{a b:aB},ki a=ki b->a=b
 |[],[],_=>rfl
 |[],_::_,h=>by cases h
 |_::_,[],h=>by cases h
 |x::r,y::t,h=>by
  injection h with h1 h2
  injection h1 with h3 h4
  rw[tS h2,show x=y from Prod.ext (Int.ofNat.inj h3) h4]
noncomputable abbrev bC (a:aB):PV:=i5 (ki a)
noncomputable def dM (p:Nat×aB):PV:=.tup [.int p.1,bC p.2]
noncomputable def eN (q:Nat×Bool):PV:=.tup [.int q.1,.bl q.2]
theorem mT (a:aB):jZ (bC a)=some (a.map eN):=by
 show some ((ki a).map _)=_;unfold ki;rw[aL0];rfl
theorem tT (a:aB):lQ (bC a)=some a.length:=by
 show some ((ki a).map _).length=_;unfold ki;rw[aD8,aD8]
theorem pH {a:aB}{b:Nat}(h:b<a.length):L2.atI (a.map eN) (b:Int)=some (eN (a.getD b (0,false))):=by
 refine qH ?_;rw[aF8,aF5 h,aH7,aF5 h];rfl
theorem aw1 {a:aB}(h:0<a.length):L2.atI (a.map eN) (-1)=some (eN (a.getD (a.length-1) (0,false))):=by
 have ne:a≠[]:=λz=>by rw[z]at h;cases h
 obtain⟨l,x,rfl⟩:∃l x,a=l++[x]:=⟨a.dropLast,a.getLast ne,(List.dropLast_concat_getLast ne).symm⟩
 rw[aG4];refine (L2.U4 (l.map eN) (eN x)).trans ?_;rw[aG7];simp
theorem D6 (a:aB):flats (a.map eN)=true:=by
 induction a with
 |nil=>rfl
 |cons x r ih=>show (flat (eN x)&&flats (r.map eN))=true;rw[ih];rfl
theorem mU (a:aB):flat (bC a)=true:=by
 show flats ((ki a).map _)=true;have e:((ki a).map λq=>PV.tup [.int q.1,.bl q.2])=a.map eN:=by unfold ki;rw[aL0];rfl
 rw[e];exact D6 a
theorem E1 (p:Nat×aB):flat (dM p)=true:=by
 show (flat (.int p.1)&&(flat (bC p.2)&&true))=true;rw[mU];rfl
theorem tU (l:List (Nat×aB)):flats (l.map dM)=true:=by
 induction l with
 |nil=>rfl
 |cons x r ih=>show (flat (dM x)&&flats (r.map dM))=true;rw[ih,E1];rfl
noncomputable def kO:b8:=λxs Q=>∃x ws,∃bh bu ah:Nat,xs = [x,.int bh,.int bu,.int ah]/\d5 x ws/\cJ ws/\bh<2^ws.length/\bu<2^ws.length/\ah<2^ws.length/\Q (.int (Strip.cI ws bh bu ah:Nat))
noncomputable def E2:aX:=(bE (cV 4 (aC 2))
 (bE (gA (sN (aC 0)) (kC 5 6)
  (g8 (bZ (qGe (j9 (j9 (aZ gV (aI (aC 1) (aI (aC 5) aU))) (aZ gV (aI (aC 3) (aI (aC 5) aU)))) (aZ gV (aI (aC 2) (aI (lW (qC (.int 1)) (aC 5)) aU)))) (aC 6)))
   (cV 4 (C4 (aC 4) (xM (qC (.int 1)) (aC 5)))) g4))
 (oB 4)))
theorem tV {w:ag}(o:cJ w){n:Nat}(h:n<2^w.length):n<4:=by rcases Strip.pE o with e|e<;>omega
theorem aw2 {l p:Nat}(hl:l<4)(hp:p<2):Builtin.bitOr (l:Int) (1*2^((p:Int)).toNat)=((l ||| (1 <<< p):Nat):Int):=by
 have h1:l=0∨l=1∨l=2∨l=3:=by omega
 have h2:p=0∨p=1:=by omega
 rcases h1 with rfl|rfl|rfl|rfl<;>rcases h2 with rfl|rfl<;>decide +kernel
theorem aw3 {l p:Nat}(hl:l<4)(hp:p<2):l ||| (1 <<< p)<4:=by
 have h1:l=0∨l=1∨l=2∨l=3:=by omega
 have h2:p=0∨p=1:=by omega
 rcases h1 with rfl|rfl|rfl|rfl<;>rcases h2 with rfl|rfl<;>decide +kernel
theorem aw4:∀xs Q,kO xs Q->E2 { nx:=λ_=>Q .non,rt:=Q } (bF ["wants","behind","burning","ahead","lit","place","want"] xs):=by
 rintro _ Q ⟨x,ws,bh,bu,ah,rfl,hx,ow,h1,h2,h3,q⟩;have h1:=tV ow h1;have h2:=tV ow h2;have h3:=tV ow h3;refine⟨_,rfl,trivial,_,rfl,intz ws,hx.symm,aw0,λi ρ=>∃lit:Nat,∃y5 y6,ρ = [some (.sh (flat x) x),si bh,si bu,si ah,si lit,y5,y6]/\lit<4/\Strip.kI ws bh bu ah i (ws.drop i) lit=Strip.cI ws bh bu ah,⟨bu,none,none,rfl,h2,rfl⟩,?_,?_⟩
 ·rintro i z ρ hz ⟨lit,y5,y6,rfl,hl,e⟩
  have hi:i<(intz ws).length:=by
   have:=(aG1.mp hz).1
   rwa [oS]at this
  have hi2:i<ws.length:=by rwa [aD8]at hi
  have hw:(intz ws)[i]? = some (.int ws[i]):=by rw[aF8,aF5 hi2];rfl
  rw[sM hw]at hz;cases hz;have p2:i<2:=by have:=ow.2;omega
  refine⟨_,_,rfl,?_⟩;have c1:((1:Int)-(i:Int))=((1-i:Nat):Int):=by omega
  refine⟨_,rfl,_,rfl,bh,i,rfl,h1,p2,_,rfl,_,rfl,ah,i,rfl,h3,p2,_,_,rfl,rfl,_,rfl,_,rfl,_,_,rfl,rfl,bu,1-i,by rw[<- c1];rfl,h2,by omega,_,_,rfl,rfl,_,rfl,_,_,rfl,rfl,_,rfl,?_⟩;have dr:ws.drop i=ws[i]::ws.drop (i+1):=List.drop_eq_getElem_cons hi2;rw[dr]at e;unfold Strip.kI at e;rw[if_pos (show i<=1 by omega)]at e;have ce:((Strip.has bh i:Int)+(Strip.has ah i:Int)+(Strip.has bu (1-i):Int))=((Strip.has bh i+Strip.has ah i+Strip.has bu (1-i):Nat):Int):=by omega
  show if decide ((Strip.has bh i:Int)+(Strip.has ah i:Int)+(Strip.has bu (1-i):Int) >= ws[i])=true then _ else _
  rw[ce];by_cases g:((Strip.has bh i+Strip.has ah i+Strip.has bu (1-i):Nat):Int) >= ws[i]
  ·rw[if_pos g]at e
   rw[aG5 g];refine cC ⟨_,rfl,_,rfl,_,_,rfl,rfl,⟨by omega,by omega,by decide⟩,_,_,rfl,rfl,trivial,?_⟩
   exact⟨lit ||| (1 <<< i),_,_,by rw[<- aw2 hl p2];rfl,aw3 hl p2,e⟩
  ·rw[if_neg g]at e
   rw[aE7 g];exact cF ⟨lit,_,_,rfl,hl,e⟩
 ·rintro ρ ⟨lit,y5,y6,rfl,hl,e⟩
  have e0:ws.drop (iK (intz ws)).length = []:=List.drop_eq_nil_of_le (by rw[oS,aD8];exact aF0 _);rw[e0]at e;have e:lit=_:=e;refine⟨_,rfl,trivial,?_⟩;show Q (.int (lit:Int));rw[e];exact q
noncomputable def mV:b8:=λxs Q=>∃x ws a,∃s ah:Nat,xs = [x,bC a,.int s,.int ah]/\d5 x ws/\cJ ws/\d6 ws a/\s<2^ws.length/\ah<2^ws.length/\Q (eN (Strip.mG ws a s ah))
noncomputable def E3:aX:=(bE (cV 4 (aC 2))
 (bE (cV 5 (aZ kO (aI (aC 0) (aI (cL (cL (aC 1) (aC 4)) (qC (.int 0))) (aI (aC 4) (aI (aC 3) aU))))))
 (bE (lP (bZ (rR (aC 5) (aC 4)))
  (bE (cV 4 (aC 5))
  (cV 5 (aZ kO (aI (aC 0) (aI (cL (cL (aC 1) (aC 4)) (qC (.int 0))) (aI (aC 4) (aI (aC 3) aU))))))))
 (bE (cV 6 (lW (aZ gM (aI (aC 1) aU)) (qC (.int 1))))
 (dL (fZ (aI (aC 4) (aI (o7 (rQ (aC 4) (aC 6)) (cL (cL (aC 1) (aC 6)) (qC (.int 1)))) aU))))))))
theorem E4 {w:ag}{a:aB}(h:d6 w a){b:Nat}(hb:b<2^w.length):(a.getD b (0,false)).1<2^w.length:=by
 rw[<- h.1]at hb;rw[aH7,aF5 hb];exact h.2 _ (List.getElem_mem hb)
theorem aw5:∀xs Q,mV xs Q->E3 { nx:=λ_=>Q .non,rt:=Q } (bF ["wants","answer","seeds","ahead","burning","more","whole"] xs):=by
 rintro _ Q ⟨x,ws,a,s,ah,rfl,hx,ow,wf,h1,h2,q⟩;have wl:=wf.1;refine⟨_,rfl,trivial,?_⟩;refine⟨_,rfl,_,rfl,_,rfl,_,_,_,mT a,rfl,pH (by rw[wl];exact h1),_,_,_,rfl,rfl,rfl,_,rfl,_,rfl,x,ws,(a.getD s (0,false)).1,s,ah,rfl,hx,ow,E4 wf h1,h1,h2,trivial,?_⟩;have fa:flat (bC a)=true:=mU a;refine⟨λm ρ=>∃b:Nat,ρ = [some (.sh (flat x) x),some (.sh (flat (bC a)) (bC a)),si s,si ah,si b,si (Strip.cI ws (a.getD b (0,false)).1 b ah),none]/\b<2^ws.length/\ws.length+1<=m+Strip.one b/\Strip.iM ws a ah m b=Strip.iM ws a ah (ws.length+1) s,⟨ws.length+1,s,rfl,h1,by omega,rfl⟩,?_⟩;rintro m ρ ⟨b,rfl,hb,hm,e⟩
 obtain⟨k1,k2,k3⟩:=Strip.C5 ow (a.getD b (0,false)).1 ah hb
 have mp:0<m:=by omega
 refine⟨_,rfl,_,rfl,.inl ⟨_,_,rfl,rfl,_,rfl,?_⟩⟩;by_cases g:Strip.cI ws (a.getD b (0,false)).1 b ah=b
 ·rw[show (if true=true then !decide (((Strip.cI ws (a.getD b (0,false)).1 b ah:Nat):Int)=(b:Int)) else decide (((Strip.cI ws (a.getD b (0,false)).1 b ah:Nat):Int)=(b:Int)))=false by rw[if_pos rfl,g,aG5 rfl];rfl]
  rw[Strip.C6 mp g]at e;refine cF ?_;have w0:0<a.length:=by rw[wl];exact Nat.two_pow_pos _
  have c1:((a.length:Int)-1)=((a.length-1:Nat):Int):=by omega
  refine⟨_,rfl,_,_,rfl,tT a,_,_,rfl,rfl,trivial,?_⟩;have es:Strip.mG ws a s ah=(b,b==a.length-1&&(a.getD (a.length-1) (0,false)).2):=by unfold Strip.mG;rw[<- e]
  rw[es]at q;refine⟨_,rfl,_,rfl,_,rfl,.inl ⟨_,_,rfl,rfl,_,rfl,?_⟩⟩;show if (if false=true then !decide ((b:Int)=(a.length:Int)-1) else decide ((b:Int)=(a.length:Int)-1))=true then _ else _
  rw[if_neg aF1,c1];by_cases d:b=a.length-1
  ·rw[aG5 (show ((b:Nat):Int)=((a.length-1:Nat):Int) by rw[d])]
   refine cC ⟨_,rfl,_,rfl,_,_,_,mT a,by show PV.int ((a.length:Int)-1)=_;rw[c1],pH (by omega),_,_,_,rfl,rfl,rfl,by show 2<=1000;decide,rfl,trivial,?_⟩;rw[show (b==a.length-1&&(a.getD (a.length-1) (0,false)).2)=(a.getD (a.length-1) (0,false)).2 by rw[d];simp]at q;exact q
  ·rw[aE7 (show ¬((b:Nat):Int)=((a.length-1:Nat):Int) by omega)]
   refine cF ⟨by show 2<=1000;decide,rfl,trivial,?_⟩;rw[show (b==a.length-1&&(a.getD (a.length-1) (0,false)).2)=false by rw[show (b==a.length-1)=false by simpa using d];rfl]at q;exact q
 ·rw[show (if true=true then !decide (((Strip.cI ws (a.getD b (0,false)).1 b ah:Nat):Int)=(b:Int)) else decide (((Strip.cI ws (a.getD b (0,false)).1 b ah:Nat):Int)=(b:Int)))=true by rw[if_pos rfl,aE7 (λz=>g (Int.natCast_inj.mp z))];rfl]
  obtain⟨m',rfl⟩:=Nat.exists_eq_succ_of_ne_zero (aK6 mp)
  rw[show m'.succ=m'+1 from rfl,Strip.C7 g]at e;have k2:=k2.resolve_left g;refine cC ⟨_,rfl,trivial,?_⟩;refine⟨_,rfl,_,rfl,_,rfl,_,_,_,mT a,rfl,pH (by rw[wl];exact k1),_,_,_,rfl,rfl,rfl,_,rfl,_,rfl,x,ws,(a.getD (Strip.cI ws (a.getD b (0,false)).1 b ah) (0,false)).1,_,ah,rfl,hx,ow,E4 wf k1,k1,h2,trivial,?_⟩
  exact⟨m',Nat.lt_succ_self _,_,rfl,k1,by omega,e⟩
noncomputable def mW:b8:=λxs Q=>∃x ws a,∃s:Nat,xs = [x,bC a,.int s]/\d5 x ws/\cJ ws/\d6 ws a/\s<2^ws.length/\Q (bC (Strip.next ws a s))
noncomputable def E5:aX:=(dL (aZ xN (aI (hU (j6 (aZ gM (aI (aC 1) aU))) [none,some 0,some 1,some 2] (eV 0) gB (aZ mV (aI (aC 1) (aI (aC 2) (aI (aC 3) (aI (aC 0) aU)))))) aU)))
theorem aw6 (a:aB):bC a = .tup (a.map eN):=by
 show PV.tup ((ki a).map _)=_;unfold ki;rw[aL0];rfl
theorem aw7:∀xs Q,mW xs Q->E5 { nx:=λ_=>Q .non,rt:=Q } (bF ["wants","answer","seeds"] xs):=by
 rintro _ Q ⟨x,ws,a,s,rfl,hx,ow,wf,h1,q⟩;have wl:=wf.1;have al:a.length<=4:=by rcases Strip.pE ow with e|e<;>omega
 refine⟨_,rfl,_,_,rfl,tT a,_,rfl,by omega,by omega,by rw[eF];omega,λi acc=>acc=((List.range i).map (Strip.mG ws a s)).map eN,rfl,?_,?_⟩
 ·rintro i z acc hz rfl
  have hi:i<a.length:=by
   have:=(aG1.mp hz).1
   rw[eF]at this;omega
  rw[lT (by omega)]at hz;cases hz;refine⟨_,rfl,_,rfl,_,rfl,_,rfl,x,ws,a,s,i,by rw[Int.zero_add];rfl,hx,ow,wf,h1,by omega,trivial,?_⟩;dsimp only;rw[List.range_succ,aG4,aG4];rfl
 rintro acc rfl;have e:(g9 0 ((a.length:Int)).toNat).length=a.length:=by rw[eF];exact aM3 _
 rw[e];refine⟨⟨_,_,rfl,rfl,D6 _,?_⟩,λns z=>by cases z⟩;refine⟨trivial,?_⟩
 have:=aw6 (Strip.next ws a s)
 rw[this]at q;exact q
open Strip (aB cJ d6 Closed kN)
open Core (d5 si)
section
variable {β:Type}
noncomputable def dR (r:β->PV)(ps:List (aB×β)):List (List (Int×Bool)×PV):=ps.map λp=>(ki p.1,r p.2)
theorem E6 (a k:aB):decide (ki a=ki k)=decide (a=k):=decide_eq_decide.mpr ⟨tS,λe=>by rw[e]⟩
theorem i9 (r:β->PV)(k:aB):∀ps:List (aB×β),cS (dR r ps) (ki k)=(Strip.cA ps k).map r
 |[]=>rfl
 |p::ps=>by
  have ih:=i9 r k ps;unfold cS dR Strip.cA at ih ⊢;rw[aG3,aH3,aH3,E6];cases decide (p.1=k) with
  |true=>rfl
  |false=>exact ih
theorem aw8 (r:β->PV)(k:aB)(ps:List (aB×β)):((dR r ps).any λp=>decide (p.1=ki k))=ps.any λp=>decide (p.1=k):=by
 unfold dR;rw[List.any_map];congr 1
 funext p
 exact E6 p.1 k
theorem tW (r:β->PV)(k:aB)(x:β)(ps:List (aB×β)):dX (dR r ps) (ki k) (r x)=dR r (Strip.dD ps k x):=by
 unfold dX Strip.dD;rw[aw8];cases ps.any λp=>decide (p.1=k) with
 |true=>
  rw[if_pos rfl,if_pos rfl];unfold dR;rw[aL0,aL0];refine List.map_congr_left λp _=>?_
  show (if ki p.1=ki k then (ki p.1,r x) else (ki p.1,r p.2))=_;by_cases e:p.1=k
  ·rw[if_pos (by rw[e])]
   show _=(ki (if p.1=k then (p.1,x) else p).1,r (if p.1=k then (p.1,x) else p).2);rw[if_pos e]
  ·rw[if_neg (λz=>e (tS z))]
   show _=(ki (if p.1=k then (p.1,x) else p).1,r (if p.1=k then (p.1,x) else p).2);rw[if_neg e]
 |false=>
  rw[if_neg aF1,if_neg aF1];unfold dR;rw[aG4];rfl
theorem pI (r:β->PV)(ps:List (aB×β)):(dR r ps).length=ps.length:=aD8 _
end
noncomputable def rF (l:List (Nat×aB)):PV:=.fL (l.map dM)
noncomputable def cM (ws:ag)(Ks:List aB):List (aB×List (Nat×aB)):=Ks.map λa=>(a,Strip.after ws a)
theorem pJ {ws:ag}{k:aB}:∀{Ks:List aB},Strip.cA (cM ws Ks) k=if k∈Ks then some (Strip.after ws k) else none
 |[]=>rfl
 |a::r=>by
  have ih:=pJ (ws:=ws) (k:=k) (Ks:=r);unfold Strip.cA cM at ih ⊢;rw[aG3,aH3];by_cases e:a=k
  ·subst e
   rw[show decide (a=a)=true from aG5 rfl,if_pos aE0];rfl
  ·rw[show decide ((a,Strip.after ws a).1=k)=false from aE7 e]
   refine ih.trans ?_;by_cases m:k∈r
   ·rw[if_pos m,if_pos (aF2 _ m)]
   ·rw[if_neg m,if_neg (λz=>(aE2.mp z).elim (λz=>e z.symm) m)]
theorem aw9 {ws:ag}{k:aB}{Ks:List aB}(h:k∉Ks):Strip.dD (cM ws Ks) k (Strip.after ws k)=cM ws (Ks++[k]):=by
 have e:((cM ws Ks).any λp=>decide (p.1=k))=false:=by
  rw[Bool.eq_false_iff];intro z
  obtain⟨p,hp,z⟩:=List.any_eq_true.mp z
  obtain⟨a,ha,rfl⟩:=aJ7.mp hp
  exact h ((of_decide_eq_true z:a=k)▸ha)
 unfold Strip.dD;rw[e,if_neg aF1];unfold cM;rw[aG4];rfl
noncomputable def kP:b8:=λxs Q=>∃x ws,xs = [x,bC (Strip.aO ws)]/\d5 x ws/\cJ ws/\(∃S,Closed ws S)/\∀Ks,kN ws Ks->Q (.dA (dR rF (cM ws Ks)))
noncomputable def E7:aX:=(bE (mQ 2 (qC (.dA [])))
 (bE (lO 3 (j4 (aI (aC 1) aU)))
 (bE (lP (lR (aC 3))
  (bE (rD 3 4)
  (g8 (bZ (kM true (aC 4) (aC 2))) (bE (cV 5 (hU (j6 (aZ gM (aI (aC 4) aU))) [none,some 0,some 4] (eV 0) gB (fZ (aI (aC 0) (aI (aZ mW (aI (aC 1) (aI (aC 2) (aI (aC 0) aU)))) aU)))))
   (bE (tG 2 (aC 4) (sV (hU (lS (aC 5)) [none] (eV 0) (lR (cL (cL (cL (aC 0) (qC (.int 1))) (oH (qC (.int 1)))) (qC (.int 1)))) (aC 0))))
   (rC 3 (hU (lS (i6 (aC 2) (aC 4))) [none,none] (kC 0 1) gB (aC 1))))) g4)))
 (oB 2))))
noncomputable def gE (ws:ag)(a:aB):List (Nat×aB):=(List.range a.length).map λs=>(s,Strip.next ws a s)
theorem ax0:∀xs Q,kP xs Q->E7 { nx:=λ_=>Q .non,rt:=Q } (bF ["wants","begin","following","waiting","answer","pairs"] xs):=by
 rintro _ Q ⟨x,ws,rfl,hx,ow,⟨S,cl⟩,q⟩;have fb:flat (bC (Strip.aO ws))=true:=mU _;refine⟨rfl,.inl ⟨[],rfl,rfl⟩,?_⟩;have f1:flats [bC (Strip.aO ws)]=true:=by show (flat (bC (Strip.aO ws))&&true)=true;rw[fb];rfl
 refine⟨_,rfl,by show 1<=1000;decide,f1,rfl,f1,?_⟩
 refine⟨λm ρ=>∃Ks wl y4 y5,ρ = [some (.sh (flat x) x),some (.sh (flat (bC (Strip.aO ws))) (bC (Strip.aO ws))),some (.own (.dA (dR rF (cM ws Ks)))),some (.own (.lst (wl.map bC))),y4,y5]/\Ks.Nodup/\(∀a∈Ks,a∈S/\d6 ws a)/\(∀a∈wl,a∈S/\d6 ws a)/\
  (Strip.aO ws∈Ks∨Strip.aO ws∈wl)/\(∀a∈Ks,∀p∈Strip.after ws a,p.2∈Ks∨p.2∈wl)/\m=5*(S.length-Ks.length)+wl.length/\wl.length<=4*Ks.length+1,⟨_,[],[Strip.aO ws],none,none,rfl,aO5,λ_ h=>(nomatch h),λa h=>by rw[aE6.mp h];exact⟨cl.b,Strip.av5 ow⟩,.inr aE0,λ_ h=>(nomatch h),rfl,by show 1<=1;decide⟩,?_⟩
 rintro m ρ ⟨Ks,wl,y4,y5,rfl,nd,k1,k2,k3,k4,rfl,wl5⟩;have kl:=Strip.pF nd λa h=>(k1 a h).1
 have sl:=cl.len;refine⟨_,rfl,_,rfl,?_⟩;dsimp only;rcases List.eq_nil_or_concat wl with rfl|⟨wl',a,rfl⟩
 ·refine cF ?_
  have g:kN ws Ks:=⟨⟨k3.resolve_right (λz=>by cases z),λa ha p hp=>(k4 a ha p hp).resolve_right (λz=>by cases z),by omega⟩,nd,λa ha=>(k1 a ha).2⟩
  exact⟨_,rfl,trivial,q Ks g⟩
 rw[List.concat_eq_append]at k2 k3 k4 wl5 ⊢
 obtain⟨aS,aW⟩:=k2 a (aF7 _ aE0)
 have al:a.length<=4:=by have:=aW.1;rcases Strip.pE ow with e|e<;>omega
 have a0:0<a.length:=by rw[aW.1];exact Nat.two_pow_pos _
 have ne:(!((wl'++[a]).map bC).isEmpty)=true:=by
  cases wl'<;>rfl
 show if (!((wl'++[a]).map bC).isEmpty)=true then _ else _
 rw[ne];have k2':∀b∈wl',b∈S/\d6 ws b:=λb hb=>k2 b (aI6 _ hb)
 have len1:(wl'++[a]).length=wl'.length+1:=by rw[aG7];rfl
 rw[len1]at wl5;refine cC ⟨wl'.map bC,bC a,by rw[aG4];rfl,?_⟩;refine⟨_,rfl,_,rfl,(Strip.cA (cM ws Ks) a).map rF,.inl ⟨dR rF (cM ws Ks),ki a,rfl,rfl,(i9 rF a _).symm⟩,_,rfl,?_⟩;dsimp only;rw[if_pos rfl,pJ];by_cases hk:a∈Ks
 ·rw[if_pos hk]
  refine cF ⟨_,by rw[len1];omega,Ks,wl',_,_,rfl,nd,k1,k2',?_,λb hb p hp=>?_,rfl,by omega⟩
  ·rcases k3 with z|z
   ·exact .inl z
   ·rcases aI1.mp z with z|z
    ·exact .inr z
    ·rw[aE6.mp z];exact .inl hk
  ·rcases k4 b hb p hp with z|z
   ·exact .inl z
   ·rcases aI1.mp z with z|z
    ·exact .inr z
    ·rw[aE6.mp z];exact .inl hk
 rw[if_neg hk];have nd2:(Ks++[a]).Nodup:=List.nodup_append.mpr ⟨nd,aI9.mpr ⟨(λz=>by cases z),aO5⟩,λb hb c hc e=>hk (by rw[<- aE6.mp hc,<- e];exact hb)⟩;have kl2:(Ks++[a]).length<=S.length:=Strip.pF nd2 λb hb=>by
  rcases aI1.mp hb with z|z
  ·exact (k1 b z).1
  ·rw[aE6.mp z];exact aS
 have len2:(Ks++[a]).length=Ks.length+1:=by rw[aG7];rfl
 refine cC ⟨_,rfl,_,_,rfl,tT a,_,rfl,by omega,by omega,by rw[eF];omega,λi acc=>acc=((List.range i).map λs=>(s,Strip.next ws a s)).map dM,rfl,?_,?_⟩
 ·rintro i z acc hz rfl
  have hi:i<a.length:=by
   have:=(aG1.mp hz).1
   rw[eF]at this;omega
  rw[lT (by omega)]at hz;cases hz;refine⟨_,rfl,_,rfl,_,rfl,_,rfl,x,ws,a,i,by rw[Int.zero_add];rfl,hx,ow,aW,by rw[<- aW.1];exact hi,by show 2<=1000;decide,?_,trivial,?_⟩
  ·show (flat (.int _)&&(flat (bC (Strip.next ws a i))&&true))=true
   rw[mU];rfl
  ·dsimp only
   rw[List.range_succ,aG4,aG4];congr 1;show [PV.tup [PV.int (0+(i:Int)),bC (Strip.next ws a i)]] = [PV.tup [PV.int (i:Int),bC (Strip.next ws a i)]];rw[Int.zero_add]
 rintro acc rfl;have e:(g9 0 ((a.length:Int)).toNat).length=a.length:=by rw[eF];exact aM3 _
 rw[e];refine⟨trivial,?_⟩;have pl:(gE ws a).length<=4:=by unfold gE;rw[aD8,List.length_range];exact al
 refine⟨_,rfl,_,rfl,(λz=>by cases z),by show ((gE ws a).map dM).length<=_;rw[aD8];omega,λi acc=>acc=(((gE ws a).take i).filter λp=>Strip.kept p.2).map dM,rfl,?_,?_⟩
 ·rintro i z acc hz rfl
  have hz:((gE ws a).map dM)[i]? = some z:=hz;rw[aF8]at hz;cases hp:(gE ws a)[i]? with
  |none=>rw[hp]at hz;cases hz
  |some p=>
   rw[hp]at hz;cases hz;have tk:(gE ws a).take (i+1)=(gE ws a).take i++[p]:=by rw[List.take_add_one,hp];rfl
   obtain⟨s,hs,rfl⟩:=aJ7.mp (aM0 hp)
   have hs:=aN1.mp hs;have nw:d6 ws (Strip.next ws a s):=Strip.C9 ow aW (by rw[<- aW.1];exact hs);have n0:0<(Strip.next ws a s).length:=by rw[nw.1];exact Nat.two_pow_pos _
   refine⟨_,rfl,_,_,_,rfl,rfl,rfl,_,rfl,_,_,_,mT _,rfl,aw1 n0,_,_,_,rfl,rfl,rfl,_,rfl,?_⟩;dsimp only;have ek:(Strip.next ws a s).getD ((Strip.next ws a s).length-1) (0,false)=(Strip.next ws a s).getD ((Strip.next ws a s).length-1) (0,false):=rfl;show if Strip.kept (Strip.next ws a s)=true then _ else _
   rw[tk,List.filter_append];cases hk2:Strip.kept (Strip.next ws a s) with
   |true=>
    refine cC ⟨_,rfl,?_,?_⟩
    ·show Nw (Slot.sh (false||flat (dM (s,Strip.next ws a s))) _).tag _
     rw[E1];trivial
    ·have fc:[(s,Strip.next ws a s)].filter (λp=>Strip.kept p.2) = [(s,Strip.next ws a s)]:=by
      show (match Strip.kept (Strip.next ws a s) with|true=>_|false=>_)=_;rw[hk2];rfl
     rw[aG4,fc];rfl
   |false=>
    refine cF ?_;have fc:[(s,Strip.next ws a s)].filter (λp=>Strip.kept p.2) = []:=by
     show (match Strip.kept (Strip.next ws a s) with|true=>_|false=>_)=_;rw[hk2];rfl
    rw[fc,aN7]
 rintro acc rfl;have ea:((gE ws a).take ((gE ws a).map dM).length).filter (λp=>Strip.kept p.2)=Strip.after ws a:=by
  rw[aD8,List.take_length];rfl
 have ea:((gE ws a).take (((List.range a.length).map λs=>(s,Strip.next ws a s)).map dM).length).filter (λp=>Strip.kept p.2)=Strip.after ws a:=ea;rw[ea];refine⟨_,rfl,rfl,tU _,_,rfl,_,rfl,ki a,rfl,trivial,by rw[pI];unfold cM;rw[aD8];omega,?_⟩;have ep:dX (dR rF (cM ws Ks)) (ki a) (.fL ((Strip.after ws a).map dM))=dR rF (cM ws (Ks++[a])):=(tW rF a (Strip.after ws a) _).trans (by rw[aw9 hk]);rw[ep];have af:=Strip.av7 ws a;have hg:cS (dR rF (cM ws (Ks++[a]))) (ki a)=some (rF (Strip.after ws a)):=by rw[i9,pJ,if_pos (aF7 _ aE0)];rfl
 refine⟨_,rfl,_,rfl,_,rfl,rF (Strip.after ws a),.inl ⟨_,ki a,rfl,rfl,hg.symm⟩,_,rfl,(λz=>tU _),by rw[aD8];omega,λi acc=>acc=((Strip.after ws a).take i).map λp=>bC p.2,rfl,?_,?_⟩
 ·rintro i z acc hz rfl
  rw[aF8]at hz;cases hp:(Strip.after ws a)[i]? with
  |none=>rw[hp]at hz;cases hz
  |some p=>
   rw[hp]at hz;cases hz;refine⟨_,_,rfl,_,rfl,?_,?_⟩
   ·show Nw (Slot.sh (false||flat (bC p.2)) _).tag _
    rw[mU];trivial
   ·dsimp only
    rw[List.take_add_one,hp,aG4];rfl
 rintro acc rfl;have et:(Strip.after ws a).take ((Strip.after ws a).map dM).length=Strip.after ws a:=by rw[aD8,List.take_length]
 rw[et];refine⟨_,.inr rfl,.inl trivial,by rw[aD8,aD8];omega,?_⟩;have ew:wl'.map bC++((Strip.after ws a).map λp=>bC p.2)=(wl'++(Strip.after ws a).map λp=>p.2).map bC:=by rw[aG4,aL0];rfl
 rw[ew];refine⟨_,?_,Ks++[a],wl'++(Strip.after ws a).map λp=>p.2,_,_,rfl,nd2,λb hb=>?_,λb hb=>?_,?_,λb hb p hp=>?_,rfl,?_⟩
 ·rw[len1,len2,aG7,aD8];omega
 ·rcases aI1.mp hb with z|z
  ·exact k1 b z
  ·rw[aE6.mp z];exact⟨aS,aW⟩
 ·rcases aI1.mp hb with z|z
  ·exact k2' b z
  ·obtain⟨p,hp,rfl⟩:=aJ7.mp z
   exact⟨cl.go a aS p hp,Strip.av6 ow aW hp⟩
 ·rcases k3 with z|z
  ·exact .inl (aI6 _ z)
  ·rcases aI1.mp z with z|z
   ·exact .inr (aI6 _ z)
   ·rw[aE6.mp z];exact .inl (aF7 _ aE0)
 ·rcases aI1.mp hb with z|z
  ·rcases k4 b z p hp with z|z
   ·exact .inl (aI6 _ z)
   ·rcases aI1.mp z with z|z
    ·exact .inr (aI6 _ z)
    ·rw[aE6.mp z];exact .inl (aF7 _ aE0)
  ·rw[aE6.mp z]at hp
   exact .inr (aF7 _ (aJ7.mpr ⟨p,hp,rfl⟩))
 ·rw[len2,aG7,aD8];omega
open Strip (aB cJ d6 Closed kN)
open Core (d5 si)
section
variable {β:Type}
structure Kd (Ks:List aB)(Bd:β->Prop)(ps:List (aB×β)):Prop where
 nd:(ps.map (·.1)).Nodup
 mem:∀p∈ps,p.1∈Ks/\Bd p.2
theorem ax1 {ps:List (aB×β)}{k:aB}{b:β}(h:Strip.cA ps k=some b):(k,b)∈ps:=by
 unfold Strip.cA at h;cases e:ps.find? λp=>decide (p.1=k) with
 |none=>rw[e]at h;cases h
 |some p=>
  rw[e]at h;have h1:p.2=b:=aF9 h;have h2:=List.find?_some e;have h2:p.1=k:=by simpa using h2
  have:=aL3 e
  rw[<- h1,<- h2];exact this
theorem E8 {ps:List (aB×β)}{p:aB×β}(n:(ps.map (·.1)).Nodup)(h:p∈ps):Strip.cA ps p.1=some p.2:=by
 induction ps with
 |nil=>cases h
 |cons q r ih=>
  rw[aG3,aI9]at n;unfold Strip.cA at ih ⊢;rw[aH3];rcases aE2.mp h with rfl|h
  ·rw[aG5 rfl];rfl
  ·rw[aE7 (λe:q.1=p.1=>n.1 (by rw[e];exact List.mem_map_of_mem h))]
   exact ih n.2 h
variable {Ks:List aB}{Bd:β→Prop}{ps:List (aB×β)}{J:β→β→β}{k:aB}{z:β}
theorem Kd.put (h:Kd Ks Bd ps)(hk:k∈Ks)(hz:Bd z):Kd Ks Bd (Strip.dD ps k z):=by
 refine⟨Strip.zC h.nd,λp hp=>?_⟩;unfold Strip.dD at hp;split at hp
 ·obtain⟨q,hq,rfl⟩:=aJ7.mp hp
  by_cases e:q.1=k
  ·rw[if_pos e];exact⟨(h.mem q hq).1,hz⟩
  ·rw[if_neg e];exact h.mem q hq
 ·rcases aI1.mp hp with hp|hp
  ·exact h.mem p hp
  ·rw[aE6.mp hp];exact⟨hk,hz⟩
theorem Kd.join (hJ:∀a b,Bd a->Bd b->Bd (J a b))(h:Kd Ks Bd ps)(hk:k∈Ks)(hz:Bd z):Kd Ks Bd (Strip.cT J ps k z):=by
 unfold Strip.cT;refine h.put hk ?_;cases e:Strip.cA ps k with
 |none=>exact hz
 |some w=>exact hJ _ _ (h.mem _ (ax1 e)).2 hz
theorem Kd.len (h:Kd Ks Bd ps):ps.length<=Ks.length:=by
 rw[<- aD8 (·.1)];exact Strip.pF h.nd λx hx=>by obtain⟨p,hp,rfl⟩:=aJ7.mp hx;exact (h.mem p hp).1
theorem Kd.folds {ws:ag}{pass:β->Nat->β}{Bd':β->Prop}(hJ:∀a b,Bd' a->Bd' b->Bd' (J a b)){v:β}(hp:∀s,s<4->Bd' (pass v s)){a:aB}(al:a.length<=4)(go:∀q∈Strip.after ws a,q.2∈Ks):∀(m:Nat) {l:List (aB×β)},Kd Ks Bd' l->Kd Ks Bd' (((Strip.after ws a).take m).foldl (λl q=>Strip.cT J l q.2 (pass v q.1)) l):=by
 intro m l h
 have:∀q∈(Strip.after ws a).take m,q∈Strip.after ws a:=λq hq=>List.mem_of_mem_take hq
 generalize (Strip.after ws a).take m=qs at this
 induction qs generalizing l with
 |nil=>exact h
 |cons q r ih=>
  have hq:=this q aE0;exact ih (h.join hJ (go q hq) (hp _ (by have:=(Strip.mS hq).1;omega))) λx hx=>this x (aF2 _ hx)
open Classical in
noncomputable def gF (r:β->PV)(J:β->β->β)(w z:PV):PV:=if h:(∃a,r a=w)/\∃b,r b=z then r (J h.1.choose h.2.choose) else .non
theorem tX {r:β->PV}(inj:∀{a b},r a=r b->a=b)(a b:β):gF r J (r a) (r b)=r (J a b):=by
 have h:(∃x,r x=r a)/\∃y,r y=r b:=⟨⟨a,rfl⟩,b,rfl⟩
 unfold gF;rw[dif_pos h,inj h.1.choose_spec,inj h.2.choose_spec]
noncomputable def dE (r:β->PV)(x:PV):Prop:=∃b,r b=x
theorem ax2 {r:β->PV}(inj:∀{a b},r a=r b->a=b):dX (dR r ps) (ki k) (jn (gF r J) (dR r ps) (ki k) (r z))=dR r (Strip.cT J ps k z):=by
 unfold jn Strip.cT;rw[i9];cases Strip.cA ps k with
 |none=>exact tW r k z ps
 |some w=>
  show dX (dR r ps) (ki k) (gF r J (r w) (r z))=_;rw[tX inj];exact tW r k _ ps
noncomputable def eB (r:β->PV):Option β->List (Int×PV)
 |none=>[]
 |some v=>[(1,r v)]
theorem ax3 {r:β->PV}(inj:∀{a b},r a=r b->a=b)(o:Option β):dX (eB r o) 1 (jn (gF r J) (eB r o) 1 (r z))=eB r (Strip.fU J o z):=by
 cases o with
 |none=>rfl
 |some w=>
  have e:jn (gF r J) (eB r (some w)) 1 (r z)=gF r J (r w) (r z):=rfl;rw[e,tX inj];rfl
end
noncomputable abbrev jJ (tab:List (b9×b8)):aE:=tK 3 tab (aI (i6 (aC 0) (aC 1)) (aI (aC 2) aU))
theorem E9 {β:Type}{r:β->PV}{J:β->β->β}{l:b9}{p:b8}{tab:List (b9×b8)}(inj:∀{a b},r a=r b->a=b)(fl:∀b,flat (r b)=true)(hm:(l,p)∈tab)(hp:∀a b (Q:PV->Prop),Q (r (J a b))->p [r a,r b] Q) :
  ∀d y w z,iO d y (some w)->dE r w->dE r z->jJ tab (bF ["values","key","value","joined"] [d,y,z,.lm l]) λv _=>v=gF r J w z/\flat v=true:=by
 rintro d y _ _ ak ⟨a,rfl⟩ ⟨b,rfl⟩;refine⟨_,l,p,rfl,hm,?_⟩;refine⟨_,rfl,_,rfl,r a,ak,_,rfl,?_⟩;refine hp a b _ ⟨(tX inj a b).symm,fl _⟩
noncomputable def pK {β:Type}(r:β->PV)(first:β)(pass:β->Nat->β)(J:β->β->β)(gP gJ:PV):b8:=λxs Q=>∃x ws,∃n:Nat,∃v,xs = [x,.int n,r first,gP,gJ]/\d5 x ws/\cJ ws/\(∃S,Closed ws S)/\n<=300/\Strip.eI J (Strip.cB ws pass J first n)=some v/\Q (r v)
noncomputable def tY (tc:aE)(gJ:PV)(Ok:PV->Prop)(JV:PV->PV->PV):aX:=bE (cV 5 (ah6 (fZ (aI (fZ (aI (qC (.int 0)) (aI (qC (.bl true)) aU))) aU)) (xM (qC (.int 1)) (aZ gM (aI (aC 0) aU)))))
 (bE (cV 6 (p9 (aZ kP (aI (aC 0) (aI (aC 5) aU)))))
 (bE (cV 7 (p9 (tH (aC 5) (aC 2))))
 (bE (gA (j6 (aC 1)) (eV 8)
  (bE (mQ 9 (qC (.dA [])))
  (bE (gA (pB (aC 7)) (eV 10)
   (gA (lS (i6 (aC 6) (aC 10))) (kC 11 12)
    (tL 9 gJ Ok JV (aC 12) tc (aC 4))))
  (tQ 9 7))))
 (bE (mQ 13 (qC (.dB [])))
 (bE (gA (pB (aC 7)) (eV 10)
  (g8 (lR (cL (cL (aC 10) (qC (.int 0))) (qC (.int 1)))) (tM 13 gJ Ok JV (qC (.bl true)) (i6 (aC 7) (aC 10)) (aC 4)) g4))
 (dL (i6 (aC 13) (qC (.bl true)))))))))
theorem ax4 {ws:ag}(o:cJ ws):PV.tup (List.replicate ((1:Int)*2^((ws.length:Int)).toNat).toNat [PV.tup [PV.int 0,PV.bl true]]).flatten=bC (Strip.aO ws):=by
 rcases o.two with⟨a,rfl⟩|⟨a,b,rfl⟩<;>rfl
theorem G0 {β:Type}{r:β->PV}{first:β}{pass:β->Nat->β}{J:β->β->β}{gP gJ:PV}{tc:aE}(Bd:Nat->β->Prop)(inj:∀{a b},r a=r b->a=b)(fl:∀b,flat (r b)=true)(h0:Bd 0 first)(hJ:∀i a b,Bd i a->Bd i b->Bd i (J a b))(hP:∀i v s,Bd i v->s<4->Bd (i+1) (pass v s))(htc:∀(ρ:bO) (Q:PK) ps k b (s i:Nat),(∃g,ρ[3]? = some (some (.sh g gP)))->(∃g,ρ[7]? = some (some (.sh g (.fA (dR r ps)))))->(∃g,ρ[10]? = some (some (.sh g (bC k))))->(∃g,ρ[11]? = some (some (.sh g (.int s))))->
   Strip.cA ps k=some b->Bd i b->i<=300->s<4->Q (r (pass b s)) .fr->tc ρ Q) :
  ∀xs Q,pK r first pass J gP gJ xs Q->tY tc gJ (dE r) (gF r J) { nx:=λ_=>Q .non,rt:=Q } (bF ["wants","length","first","passed","joined","begin","following","values","turn","later","answer","seeds","behind","ends"] xs):=by
 rintro _ Q ⟨x,ws,n,v,rfl,hx,ow,cl,hn,hv,q⟩;have wl:ws.length=1∨ws.length=2:=by have:=ow.1;have:=ow.2;omega
 have hl:lQ x=some ws.length:=hx.len;refine⟨by decide,rfl,by decide,rfl,_,rfl,x,ws.length,rfl,hl,_,_,rfl,rfl,⟨by omega,by omega,by decide⟩,[.tup [.int 0,.bl true]],_,rfl,rfl,rfl,by simp,?_,?_,by decide,trivial,?_⟩
 ·rcases wl with e|e<;>rw[e]<;>decide
 ·rcases wl with e|e<;>rw[e]<;>decide
 rw[ax4 ow];refine⟨_,rfl,_,rfl,x,ws,rfl,hx,ow,cl,λKs gd=>?_⟩;have fF:flats ((dR rF (cM ws Ks)).map (·.2))=true:=by
  unfold dR cM;rw[aL0,aL0];generalize Ks=L
  induction L with
  |nil=>rfl
  |cons a t ih=>show (flat (rF (Strip.after ws a))&&_)=true;rw[show flat (rF (Strip.after ws a))=true from tU _];exact ih
 refine⟨dR rF (cM ws Ks),rfl,rfl,fF,trivial,?_⟩;refine⟨_,rfl,_,rfl,fl first,ki (Strip.aO ws),rfl,[(ki (Strip.aO ws),r first)],rfl,rfl,?_,trivial,?_⟩
 ·show (flat (r first)&&true)=true
  rw[fl];rfl
 have kl:Ks.length<=5000:=gd.len
 let vw:Nat->List (aB×β):=λi=>Strip.cB ws pass J first i
 have al:∀a∈Ks,a.length<=4:=λa ha=>by have:=(gd.wf a ha).1;rcases Strip.pE ow with e|e<;>omega
 have kd:∀i,Kd Ks (Bd i) (vw i):=λi=>by
  induction i with
  |zero=>exact⟨aI9.mpr ⟨(λz=>by cases z),aO5⟩,λp hp=>by rw[aE6.mp hp];exact⟨gd.b,h0⟩⟩
  |succ i ih=>
   show Kd Ks (Bd (i+1)) ((vw i).foldl (Strip.eW ws pass J) [])
   have:∀p∈vw i,p.1∈Ks/\Bd i p.2:=ih.mem
   have go:∀{qs:List (aB×β)}{l:List (aB×β)},(∀p∈qs,p.1∈Ks/\Bd i p.2)->Kd Ks (Bd (i+1)) l->Kd Ks (Bd (i+1)) (qs.foldl (Strip.eW ws pass J) l):=by
    intro qs
    induction qs with
    |nil=>exact λ_ h=>h
    |cons p t ih2=>
     intro l hq h
     obtain⟨hk,hb⟩:=hq p aE0
     refine ih2 (λx hx=>hq x (aF2 _ hx)) ?_
     have:=Kd.folds (ws:=ws) (pass:=pass) (v:=p.2) (hJ (i+1)) (λs hs=>hP i p.2 s hb hs) (al p.1 hk) (gd.go p.1 hk) (Strip.after ws p.1).length h
     rwa [List.take_length]at this
   exact go this ⟨aO5,λ_ z=>by cases z⟩
 refine⟨_,rfl,(n:Int),rfl,by omega,by omega,λi ρ=>∃y8 y9 y10 y11 y12,ρ = [some (.sh (flat x) x),si n,some (.sh (flat (r first)) (r first)),some (.sh (flat gP) gP),some (.sh (flat gJ) gJ),some (.sh true (bC (Strip.aO ws))),some (.sh true (.fA (dR rF (cM ws Ks)))),some (.sh true (.fA (dR r (vw i)))),y8,y9,y10,y11,y12,none],⟨_,_,_,_,_,rfl⟩,?_,?_⟩
 ·rintro i z ρ hz ⟨y8,y9,y10,y11,y12,rfl⟩
  have hi:i<n:=by
   have:=(aG1.mp hz).1
   rw[eF]at this;omega
  refine⟨rfl,.inl ⟨[],rfl,rfl⟩,?_⟩;refine⟨_,rfl,dR r (vw i),rfl,λj ρ=>∃y8 y10 y11 y12,ρ = [some (.sh (flat x) x),si n,some (.sh (flat (r first)) (r first)),some (.sh (flat gP) gP),some (.sh (flat gJ) gJ),some (.sh true (bC (Strip.aO ws))),some (.sh true (.fA (dR rF (cM ws Ks)))),some (.sh true (.fA (dR r (vw i)))),y8,some (.own (.dA (dR r (((vw i).take j).foldl (Strip.eW ws pass J) [])))),y10,y11,y12,none]/\Kd Ks (Bd (i+1)) (((vw i).take j).foldl (Strip.eW ws pass J) []),⟨_,_,_,_,rfl,⟨aO5,λ_ z=>by cases z⟩⟩,?_,?_⟩
  ·rintro j z2 ρ hz2 ⟨y8,y10,y11,y12,rfl,hk⟩
   unfold dR at hz2;rw[aL0,aF8]at hz2;cases hp:(vw i)[j]? with
   |none=>rw[hp]at hz2;cases hz2
   |some p=>
    rw[hp]at hz2;cases hz2;have pm:p∈vw i:=aM0 hp
    obtain⟨pk,pb⟩:=(kd i).mem p pm
    have tk:(vw i).take (j+1)=(vw i).take j++[p]:=by rw[List.take_add_one,hp];rfl
    have pv2:=E8 (kd i).nd pm;have fv:cS (dR rF (cM ws Ks)) (ki p.1)=some (rF (Strip.after ws p.1)):=by rw[i9,pJ,if_pos pk];rfl
    refine⟨_,rfl,_,rfl,rF (Strip.after ws p.1),.inl ⟨_,ki p.1,rfl,rfl,fv.symm⟩,_,rfl,(λz=>by cases z),λm ρ=>∃y11 y12,ρ = [some (.sh (flat x) x),si n,some (.sh (flat (r first)) (r first)),some (.sh (flat gP) gP),some (.sh (flat gJ) gJ),some (.sh true (bC (Strip.aO ws))),some (.sh true (.fA (dR rF (cM ws Ks)))),some (.sh true (.fA (dR r (vw i)))),y8,some (.own (.dA (dR r (((Strip.after ws p.1).take m).foldl (λl q=>Strip.cT J l q.2 (pass p.2 q.1)) (((vw i).take j).foldl (Strip.eW ws pass J) []))))),some (.sh true (bC p.1)),y11,y12,none]/\Kd Ks (Bd (i+1)) (((Strip.after ws p.1).take m).foldl (λl q=>Strip.cT J l q.2 (pass p.2 q.1)) (((vw i).take j).foldl (Strip.eW ws pass J) [])),⟨_,_,rfl,hk⟩,?_,?_⟩
    ·rintro m z3 ρ hz3 ⟨y11,y12,rfl,hk3⟩
     have hz3:((Strip.after ws p.1).map dM)[m]? = some z3:=hz3;rw[aF8]at hz3;cases hq:(Strip.after ws p.1)[m]? with
     |none=>rw[hq]at hz3;cases hz3
     |some u=>
      rw[hq]at hz3;cases hz3;have um:=aM0 hq;have us:=(Strip.mS um).1;have ul:=al p.1 pk;have tk3:(Strip.after ws p.1).take (m+1)=(Strip.after ws p.1).take m++[u]:=by rw[List.take_add_one,hq];rfl
      refine⟨_,_,rfl,_,rfl,_,rfl,?_⟩;refine htc _ _ (vw i) p.1 p.2 u.1 i ⟨_,rfl⟩ ⟨_,rfl⟩ ⟨_,rfl⟩ ⟨_,rfl⟩ pv2 pb (by omega) (by omega) ?_;refine⟨_,rfl,ki u.2,rfl,rfl,fl _,⟨_,rfl⟩,λw hw=>?_,by rw[pI];have:=hk3.len;omega,?_⟩
      ·rw[i9]at hw
       cases e:Strip.cA _ u.2 with
       |none=>rw[e]at hw;cases hw
       |some b=>rw[e]at hw;cases hw;exact⟨b,rfl⟩
      ·refine⟨some (.sh true (.int u.1)),some (.sh true (bC u.2)),?_,?_⟩
       rotate_left
       ·rw[tk3,aO2]
        exact hk3.join (hJ (i+1)) (gd.go p.1 pk u um) (hP i p.2 u.1 pb (by omega))
       ·rw[ax2 inj,tk3,aO2];rfl
    ·rintro ρ ⟨y11,y12,rfl,hk3⟩
     have e:((Strip.after ws p.1).take ((Strip.after ws p.1).map dM).length)=Strip.after ws p.1:=by rw[aD8,List.take_length]
     rw[e]at hk3 ⊢;refine⟨y8,some (.sh true (bC p.1)),y11,y12,?_,?_⟩
     rotate_left
     ·rw[tk,aO2];exact hk3
     ·rw[tk,aO2];rfl
  ·rintro ρ ⟨y8,y10,y11,y12,rfl,hk⟩
   have e:(vw i).take ((dR r (vw i)).map λp=>PV.tup (p.1.map λq=>.tup [.int q.1,.bl q.2])).length=vw i:=by rw[aD8,pI,List.take_length]
   rw[e]
   exact⟨_,rfl,y8,_,y10,y11,y12,rfl⟩
 rintro ρ ⟨y8,y9,y10,y11,y12,rfl⟩;have e:(g9 0 ((n:Int)).toNat).length=n:=by rw[eF];exact aM3 _
 rw[e];refine⟨rfl,.inr ⟨[],rfl,rfl⟩,?_⟩;refine⟨_,rfl,dR r (vw n),rfl,λj ρ=>∃y10,ρ = [some (.sh (flat x) x),si n,some (.sh (flat (r first)) (r first)),some (.sh (flat gP) gP),some (.sh (flat gJ) gJ),some (.sh true (bC (Strip.aO ws))),some (.sh true (.fA (dR rF (cM ws Ks)))),some (.sh true (.fA (dR r (vw n)))),y8,y9,y10,y11,y12,some (.own (.dB (eB r ((((vw n).take j).filter λp=>Strip.lit p.1).foldl (λacc p=>Strip.fU J acc p.2) none))))],⟨_,rfl⟩,?_,?_⟩
 ·rintro j z2 ρ hz2 ⟨y10,rfl⟩
  unfold dR at hz2;rw[aL0,aF8]at hz2;cases hp:(vw n)[j]? with
  |none=>rw[hp]at hz2;cases hz2
  |some p=>
   rw[hp]at hz2;cases hz2;have pm:p∈vw n:=aM0 hp
   obtain⟨pk,pb⟩:=(kd n).mem p pm
   have tk:(vw n).take (j+1)=(vw n).take j++[p]:=by rw[List.take_add_one,hp];rfl
   have pv2:=E8 (kd n).nd pm;have a0:0<p.1.length:=by rw[(gd.wf _ pk).1];exact Nat.two_pow_pos _
   refine⟨_,rfl,_,_,_,mT _,rfl,pH (b:=0) a0,_,_,_,rfl,rfl,rfl,_,rfl,?_⟩;show if Strip.lit p.1=true then _ else _
   cases hl2:Strip.lit p.1 with
   |true=>
    refine cC ⟨_,rfl,_,rfl,_,rfl,r p.2,.inl ⟨_,ki p.1,rfl,rfl,by rw[i9,pv2];rfl⟩,_,rfl,1,.inr ⟨true,rfl,rfl⟩,rfl,fl _,⟨_,rfl⟩,λw hw=>?_,?_,some (.sh true (bC p.1)),?_⟩
    ·generalize ((((vw n).take j).filter λp=>Strip.lit p.1).foldl (λacc p=>Strip.fU J acc p.2) none)=o at hw
     cases o with
     |none=>cases hw
     |some b=>cases hw;exact⟨b,rfl⟩
    ·generalize ((((vw n).take j).filter λp=>Strip.lit p.1).foldl (λacc p=>Strip.fU J acc p.2) none)=o
     cases o with
     |none=>show 0<16000000;decide
     |some b=>show 1<16000000;decide
    ·have fc:[p].filter (λp=>Strip.lit p.1) = [p]:=by
      show (match Strip.lit p.1 with|true=>_|false=>_)=_;rw[hl2];rfl
     rw[tk,List.filter_append,aO2,fc,ax3 inj];rfl
   |false=>
    refine cF ⟨some (.sh true (bC p.1)),?_⟩;have fc:[p].filter (λp=>Strip.lit p.1) = []:=by
     show (match Strip.lit p.1 with|true=>_|false=>_)=_;rw[hl2];rfl
    rw[tk,List.filter_append,aO2,fc];rfl
 rintro ρ ⟨y10,rfl⟩;have e:(vw n).take ((dR r (vw n)).map λp=>PV.tup (p.1.map λq=>.tup [.int q.1,.bl q.2])).length=vw n:=by rw[aD8,pI,List.take_length]
 rw[e];have ee:((vw n).filter λp=>Strip.lit p.1).foldl (λacc p=>Strip.fU J acc p.2) none=some v:=hv;rw[ee]
 exact⟨_,rfl,r v,.inr ⟨_,1,rfl,.inr ⟨true,rfl,rfl⟩,rfl⟩,fl v,q⟩
end PP
namespace L2
open PySem PyProof.Rows
theorem G1 {a c:Int}{ns ms:ag}:(HT.cE (c::ms) (a::ns)=true->c<=a)/\(HT.cE (c::ms) (a::ns)=false->a<=c):=by
 rw[HT.nO];by_cases e:c=a
 ·rw[if_pos e,e];exact⟨λ_=>Int.le_refl _,λ_=>Int.le_refl _⟩
 ·rw[if_neg e]
  exact⟨λh=>Int.le_of_lt (of_decide_eq_true h),λh=>Int.not_lt.mp (of_decide_eq_false h)⟩
end L2
namespace PP
open PySem L2 PyProof.Rows PySem.Spec
section
variable {P:ay}{w:ba}{K:ad}{mg:Str→Option av}{base:Heap}{T:List (ax×Str)}
theorem ax5 {k:Nat}{x:Str}{ps N:List Str}{p:b8}{st:Stmt}{f:ax}{fd:FuncData}(F:bN K x x st f fd)(S:FnScope N ps (aK st))(len:∀xs Q,p xs Q->xs.length=ps.length)(body:∀(cdv:av) (A:az) (outer:List Env) (s:aw) (H:Hp) (E:XK),bI k (A.deeper (envOfC x (aK st) s.heap.objs.size f cdv))->eL T H->
   ∃t,dY (bV bX P w K mg base N x (aK st) f cdv A outer s H E).nox (bB st) t/\∀xs Q,p xs Q->t { nx:=λ_=>Q .non,rt:=Q } (bF N xs)):cK P w K mg base bX (k+1) f fd ps (mM K T p):=by
 refine F.ok S (λvs H Q E h=>?_) (λcdv A outer s H vs Q E hr h=>?_)
 ·obtain⟨_,xs,Qp,r,q,_⟩:=h
  rw[r.length];exact len xs Qp q
 ·obtain⟨hT,xs,Qp,r,q,k⟩:=h
  obtain⟨t,ht,hq⟩:=body cdv A outer s H E hr hT
  refine⟨_,ht,λ_=>False,bF N xs,_,iI r,hq xs Qp q,?_,?_,?_,?_⟩
  ·exact λW' σ' H' ρ' e px q=>k _ _ _ px.same .non q
  ·exact λv H' x s r q=>k _ _ _ s r q
  ·exact λW' σ' H' ρ' e px q=>q
  ·exact λW' σ' H' ρ' e px q=>q
theorem eM.ofC {k:Nat}{x:Str}{ps N:List Str}{p:b8}{st:Stmt}{f c0:ax}{oc:av}{od an:Option ax}{osl:Array (Option av)}{kV doc pm ct:av}(l:K.lookup f=some ⟨oc,od,.func (PySem.W.fnOf x x (bK st) (bB st) (aK st) .none kV doc pm an (.ref c0) ct),osl⟩)(c:PySem.W.codeIn K (.ref c0) x=true)(kp:PySem.W.keepIn K (.ref f)=true)(m:mg x=some (.ref f))(S:FnScope N ps (aK st))(hb:∀(kV doc pm:av) (an:Option ax) (cdv ct:av) (us:List av),us.length=ps.length->bindArgs (PySem.W.fnOf x x (bK st) (bB st) (aK st) .none kV doc pm an cdv ct) ⟨us,[]⟩=pure (ps.zip us))(len:∀xs Q,p xs Q->xs.length=ps.length)(body:∀(A:az) (outer:List Env) (s:aw) (H:Hp) (E:XK),bI k (A.deeper (envOfC x (aK st) s.heap.objs.size f (.ref c0)))->eL T H->
   ∃t,dY (bV bX P w K mg base N x (aK st) f (.ref c0) A outer s H E).nox (bB st) t/\∀xs Q,p xs Q->t { nx:=λ_=>Q .non,rt:=Q } (bF N xs)):eM P w K mg base T (k+1) x ps p:=by
 refine⟨f,_,qE l c S (λvs H Q E h=>?_) (λA outer s H vs Q E hr h=>?_),(cY l c kp).binds hb,kp,m⟩
 ·obtain⟨_,xs,Qp,r,q,_⟩:=h
  rw[r.length];exact len xs Qp q
 ·obtain⟨hT,xs,Qp,r,q,k⟩:=h
  obtain⟨t,ht,hq⟩:=body A outer s H E hr hT
  refine⟨_,cQ.nox ht,λ_=>False,bF N xs,_,iI r,hq xs Qp q,?_,?_,?_,?_⟩
  ·exact λW' σ' H' ρ' e px q=>k _ _ _ px.same .non q
  ·exact λv H' x s r q=>k _ _ _ s r q
  ·exact λW' σ' H' ρ' e px q=>q
  ·exact λW' σ' H' ρ' e px q=>q
noncomputable def pL (K:ad)(T:List (ax×Str)):Sp:=λvs H Q E=>eL T H/\ai7 K vs H Q E
theorem ax6 {k:Nat}{f:ax}{fd:FuncData}(F:cK P w K mg base bX k f fd ["script"] (mM K T Core.yJ)):cK P w K mg base bX k f fd ["script"] (pL K T):=
 F.imp λvs H Q E h=>by
  obtain⟨hT,a,ns,rfl,hs,hl,q⟩:=h
  refine⟨hT,[.scr ns],λz=>z = .bl true,.cons (.scr hs) .nil,⟨ns,rfl,hl,rfl⟩,?_⟩;rintro v H' x _ r rfl;cases r;exact q H'
theorem G2 {f c:ax}{x:Str}{st:Stmt}{oc kV doc pm ct:av}{od an:Option ax}{osl:Array (Option av)}(l:K.lookup f=some ⟨oc,od,.func (PySem.W.fnOf x x (bK st) (bB st) (aK st) .none kV doc pm an (.ref c) ct),osl⟩) :
  ∃oc od kV doc pm an ct osl,K.lookup f=some ⟨oc,od,.func (PySem.W.fnOf x x (bK st) (bB st) (aK st) .none kV doc pm an (.ref c) ct),osl⟩:=⟨_,_,_,_,_,_,_,_,l⟩
theorem G3 {a b:ax}(h:(a==b)=false):a≠b:=λe=>by rw[e]at h;simp at h
end
noncomputable def ax7:Expr->Arguments
 |.Lambda a _ _ _=>a
 |_=>{ posonlyargs:=[],args:=[],vararg:=none,kwonlyargs:=[],kw_defaults:=[],kwarg:=none,defaults:=[] }
noncomputable def ax8:Expr->Expr
 |.Lambda _ b _ _=>b
 |e=>e
noncomputable def ax9:Expr->Scope
 |.Lambda _ _ s _=>s
 |_=>{ kind:=.function,names:=[],isGenerator:=false,isCoroutine:=false }
noncomputable def tZ (q:Str)(e:Expr):b9:=⟨q,ax7 e,ax8 e,ax9 e⟩
noncomputable def u0 (st:Stmt)(j:Nat):Expr:=match (bB st).getLast? with
 |some (.Return (some (.Call _ es _ _)) _)=>es.getD j (.Name "" ⟨0,0,0,0⟩)
 |_=>.Name "" ⟨0,0,0,0⟩
open Strip (aB cJ d6 Closed kN)
open Core (d5 si jE)
noncomputable def mX:b8:=λxs Q=>∃x y,xs = [x,y]/\flat x=true/\Q x
noncomputable def kQ:b8:=λxs Q=>∃a b:Int,xs = [.int a,.int b]/\Q (.int (a+b))
noncomputable def kR:b8:=pD
theorem ay0:∀xs Q,mX xs Q->aC 0 (bF ["many","seeds"] xs) λx _=>flat x=true/\Q x:=by
 rintro _ Q ⟨x,y,rfl,f,q⟩
 exact⟨_,rfl,f,q⟩
theorem ay1:∀xs Q,kQ xs Q->j9 (aC 0) (aC 1) (bF ["one","other"] xs) λx _=>flat x=true/\Q x:=by
 rintro _ Q ⟨a,b,rfl,q⟩
 exact⟨_,rfl,_,rfl,_,_,rfl,rfl,rfl,q⟩
theorem ay2:∀xs Q,kR xs Q->aZ pD (aI (aC 0) (aI (aC 1) aU)) (bF ["one","other"] xs) λx _=>flat x=true/\Q x:=by
 rintro _ Q ⟨a,c,ns,ms,rfl,q⟩;refine⟨_,rfl,_,rfl,a,c,ns,ms,rfl,?_,q⟩;split<;>exact oW _ _
theorem G4 {β:Type}{r:β->PV}{first:β}{pass:β->Nat->β}{J:β->β->β}{gP gJ:PV}:∀xs Q,pK r first pass J gP gJ xs Q->xs.length=5:=by rintro _ Q ⟨_,_,_,_,rfl,_⟩;rfl
theorem ay3:∀xs Q,mX xs Q->xs.length=2:=by rintro _ Q ⟨x,y,rfl,_⟩;rfl
theorem ay4:∀xs Q,kQ xs Q->xs.length=2:=by rintro _ Q ⟨x,y,rfl,_⟩;rfl
theorem ay5:∀xs Q,kR xs Q->xs.length=2:=by rintro _ Q ⟨a,c,ns,ms,rfl,_⟩;rfl
noncomputable abbrev rN (v:Nat):PV:=.int v
theorem G5:∀{a b:Nat},rN a=rN b->a=b:=λh=>Int.ofNat.inj (PV.int.inj h)
noncomputable abbrev pM (l1 l2:b9):b8:=pK rN 1 (λv _=>v) (λa b=>a+b) (.lm l1) (.lm l2)
noncomputable abbrev ay6 (l1:b9):List (b9×b8):=[(l1,mX)]
noncomputable abbrev u3 (l2:b9):List (b9×b8):=[(l2,kQ)]
noncomputable abbrev tcN (l1:b9):aE:=tK 3 (ay6 l1) (aI (i6 (aC 7) (aC 10)) (aI (aC 11) aU))
noncomputable abbrev JN:PV->PV->PV:=gF rN λa b=>a+b
noncomputable abbrev G6 (l1 l2:b9):aX:=tY (tcN l1) (.lm l2) (dE rN) JN
theorem G7 (l2:b9):∀d y w z,iO d y (some w)->dE rN w->dE rN z->jJ (u3 l2) (bF ["values","key","value","joined"] [d,y,z,.lm l2]) λv _=>v=JN w z/\flat v=true:=
 E9 G5 (λ_=>rfl) aE0 λa b Q q=>⟨a,b,rfl,by rw[<- Int.natCast_add];exact q⟩
theorem ay7 (l1 l2:b9):∀xs Q,pM l1 l2 xs Q->G6 l1 l2 { nx:=λ_=>Q .non,rt:=Q } (bF ["wants","length","first","passed","joined","begin","following","values","turn","later","answer","seeds","behind","ends"] xs):=
 G0 (λ_ _=>True) G5 (λ_=>rfl) trivial (λ_ _ _ _ _=>trivial) (λ_ _ _ _ _=>trivial) λρ Q ps k b s i ⟨_,e3⟩ ⟨_,e7⟩ ⟨_,e10⟩ ⟨_,e11⟩ hv _ _ _ q=>
  ⟨_,l1,_,e3,aE0,_,e7,_,e10,rN b,.inl ⟨_,ki k,rfl,rfl,by rw[i9,hv];rfl⟩,_,e11,_,_,rfl,rfl,q⟩
noncomputable def mY:b8:=λxs Q=>∃x ws,∃n v:Nat,xs = [x,.int n]/\d5 x ws/\jE ws/\(∃S,Closed ws S)/\n<=300/\Strip.eI (λa b=>a+b) (Strip.cB ws (λv _=>v) (λa b=>a+b) 1 n)=some v/\Q (.int v)
noncomputable def G8 (l1 l2:b9):aX:=(bE (jY (aZ (Core.jF λ_=>False) (aI (aC 0) (aI (aC 1) aU))))
 (bE (jY (aZ (Core.jG λ_=>False) (aI (aC 1) (aI (qC (.int 300)) aU))))
 (dL (aZ (pM l1 l2) (aI (aC 0) (aI (aC 1) (aI (qC (.int 1)) (aI (mK l1) (aI (mK l2) aU)))))))))
theorem G9 {ws:ag}(h:jE ws):cJ ws:=⟨List.length_pos_iff.mpr h.1,h.2.1⟩
theorem ay8 (l1 l2:b9):∀xs Q,mY xs Q->G8 l1 l2 { nx:=λ_=>Q .non,rt:=Q } (bF ["wants","length"] xs):=by
 rintro _ Q ⟨x,ws,n,v,rfl,hx,ok,cl,hn,hv,q⟩;refine⟨_,rfl,_,rfl,x,ws,n,rfl,hx,λ_ _=>?_,λz=>z ⟨ok,by omega⟩⟩;refine⟨_,rfl,n,300,rfl,λ_=>?_,λz=>by omega⟩
 exact⟨_,rfl,_,rfl,x,ws,n,v,rfl,hx,G9 ok,cl,hn,hv,trivial,q⟩
noncomputable def rP (v:Strip.PR):PV:=fQ v.1 (v.2.map Int.ofNat)
theorem J0:∀{a b:Strip.PR},rP a=rP b->a=b:=by
 rintro⟨a,l⟩ ⟨b,m⟩ h
 injection h with h
 injection h with h1 h2
 injection h2 with h2 _
 injection h2 with h2
 have e1:a=b:=Int.ofNat.inj (PV.int.inj h1);subst e1;have e2:∀{l m:List Nat},intz (l.map Int.ofNat)=intz (m.map Int.ofNat)->l=m:=by
  intro l
  induction l with
  |nil=>intro m h;cases m with
   |nil=>rfl
   |cons=>cases h
  |cons x r ih=>intro m h;cases m with
   |nil=>cases h
   |cons y t=>
    injection h with h1 h2
    rw[ih h2,show x=y from Int.ofNat.inj (PV.int.inj h1)]
 have h3:l=m:=e2 h2;rw[h3]
theorem u4 (v:Strip.PR):flat (rP v)=true:=oW _ _
noncomputable def JP (x y:Strip.PR):Strip.PR:=if HT.cE ((y.1:Int)::y.2.map Int.ofNat) ((x.1:Int)::x.2.map Int.ofNat)=true then y else x
theorem iP:Strip.fR JP:=by
 refine⟨λx y=>?_,λx y=>?_,λx y=>?_⟩
 ·unfold JP;split
  ·exact .inr rfl
  ·exact .inl rfl
 ·unfold JP;split
  ·rename_i h;have:=G1.1 h;omega
  ·exact aF0 _
 ·unfold JP;split
  ·exact aF0 _
  ·rename_i h;have:=G1.2 (Bool.eq_false_iff.mpr h);omega
noncomputable abbrev pN (l:b9):b8:=pK rP (0,[]) Strip.pass JP (.fn "with_slice") (.lm l)
noncomputable def mZ:b8:=λxs Q=>∃v:Strip.PR,∃s:Nat,xs = [rP v,.int s]/\v.2.length<=300/\s<4/\Q (rP (Strip.pass v s))
noncomputable def J1:aX:=(dL (fZ (aI (j9 (cL (aC 0) (qC (.int 0))) (aZ mP (aI (aC 1) aU))) (aI (yO (cL (aC 0) (qC (.int 1))) (fZ (aI (aC 1) aU))) aU))))
theorem ay9:∀xs Q,mZ xs Q->J1 { nx:=λ_=>Q .non,rt:=Q } (bF ["pair","seeds"] xs):=by
 rintro _ Q ⟨v,s,rfl,hl,hs,q⟩;have fi:flats (intz (v.2.map Int.ofNat))=true:=nW _;have e:PV.tup [.int ((v.1:Int)+(Strip.one s:Int)),.tup (intz (v.2.map Int.ofNat)++[.int (s:Int)])]=rP (Strip.pass v s):=by
  show _=PV.tup [.int ((v.1+Strip.one s:Nat):Int),.tup (intz ((v.2++[s]).map Int.ofNat))];rw[Int.natCast_add,aG4,show intz (v.2.map Int.ofNat++[s].map Int.ofNat)=intz (v.2.map Int.ofNat)++intz ([s].map Int.ofNat) from aG4 ..];rfl
 have ll:(intz (v.2.map Int.ofNat)).length=v.2.length:=by rw[Core.sH,aD8]
 refine⟨_,rfl,_,_,_,rfl,rfl,rfl,_,rfl,s,rfl,hs,_,_,rfl,rfl,_,rfl,_,_,_,rfl,rfl,rfl,_,rfl,by show 1<=1000;decide,rfl,_,_,rfl,rfl,fi,rfl,by rw[ll];show v.2.length+1<=16000000;omega,by show 2<=1000;decide,?_,trivial,?_⟩
 ·have:=u4 (Strip.pass v s)
  rw[<- e]at this;exact this
 ·exact (congrArg Q e).mpr q
noncomputable abbrev az0:List (Str×b8):=[("with_slice",mZ)]
noncomputable abbrev u5 (l:b9):List (b9×b8):=[(l,kR)]
noncomputable abbrev tcP:aE:=B2 3 az0 (aI (i6 (aC 7) (aC 10)) (aI (aC 11) aU))
noncomputable abbrev kS:PV->PV->PV:=gF rP JP
noncomputable abbrev J2 (l:b9):aX:=tY tcP (.lm l) (dE rP) kS
theorem J3 (l:b9):∀d y w z,iO d y (some w)->dE rP w->dE rP z->jJ (u5 l) (bF ["values","key","value","joined"] [d,y,z,.lm l]) λv _=>v=kS w z/\flat v=true:=
 E9 J0 u4 aE0 λa b Q q=>⟨a.1,b.1,a.2.map Int.ofNat,b.2.map Int.ofNat,rfl,by
  unfold JP at q;split
  ·rename_i h;rw[if_pos h]at q;exact q
  ·rename_i h;rw[if_neg h]at q;exact q⟩
theorem az1 (l:b9):∀xs Q,pN l xs Q->J2 l { nx:=λ_=>Q .non,rt:=Q } (bF ["wants","length","first","passed","joined","begin","following","values","turn","later","answer","seeds","behind","ends"] xs):=
 G0 (λi v=>v.2.length=i) J0 u4 rfl (λi a b ha hb=>by rcases iP.or a b with e|e<;>rw[e]<;>assumption) (λi v s h _=>by show (v.2++[s]).length=_;rw[aG7,h];rfl) λρ Q ps k b s i ⟨_,e3⟩ ⟨_,e7⟩ ⟨_,e10⟩ ⟨_,e11⟩ hv hb hi hs q=>
  ⟨_,_,_,e3,aE0,_,e7,_,e10,rP b,.inl ⟨_,ki k,rfl,rfl,by rw[i9,hv];rfl⟩,_,e11,b,s,rfl,by omega,hs,q⟩
noncomputable def n4:b8:=λxs Q=>∃x ws,∃n:Nat,∃v,xs = [x,.int n]/\d5 x ws/\cJ ws/\(∃S,Closed ws S)/\n<=300/\Strip.eI JP (Strip.cB ws Strip.pass JP (0,[]) n)=some v/\Q (rP v)
noncomputable def J4 (l:b9):aX:=(dL (aZ (pN l) (aI (aC 0) (aI (aC 1) (aI (fZ (aI (qC (.int 0)) (aI (fZ aU) aU))) (aI (qC (.fn "with_slice")) (aI (mK l) aU)))))))
theorem az2 (l:b9):∀xs Q,n4 xs Q->J4 l { nx:=λ_=>Q .non,rt:=Q } (bF ["wants","length"] xs):=by
 rintro _ Q ⟨x,ws,n,v,rfl,hx,ok,cl,hn,hv,q⟩
 exact⟨_,rfl,_,rfl,aM1 _,rfl,by show 2<=1000;decide,rfl,x,ws,n,v,rfl,hx,ok,cl,hn,hv,trivial,q⟩
noncomputable def n5:b8:=λxs Q=>∃x ws,∃n:Nat,∃v:Strip.PR,xs = [x,.int n]/\d5 x ws/\jE ws/\(∃S,Closed ws S)/\n<=300/\Strip.eI JP (Strip.cB ws Strip.pass JP (0,[]) n)=some v/\Q (.int v.1)
noncomputable def J5:aX:=(bE (jY (aZ (Core.jF λ_=>False) (aI (aC 0) (aI (aC 1) aU))))
 (bE (jY (aZ (Core.jG λ_=>False) (aI (aC 1) (aI (qC (.int 300)) aU))))
 (dL (cL (aZ n4 (aI (aC 0) (aI (aC 1) aU))) (qC (.int 0))))))
theorem az3:∀xs Q,n5 xs Q->J5 { nx:=λ_=>Q .non,rt:=Q } (bF ["wants","length"] xs):=by
 rintro _ Q ⟨x,ws,n,v,rfl,hx,ok,cl,hn,hv,q⟩;refine⟨_,rfl,_,rfl,x,ws,n,rfl,hx,λ_ _=>?_,λz=>z ⟨ok,by omega⟩⟩;refine⟨_,rfl,n,300,rfl,λ_=>?_,λz=>by omega⟩
 exact⟨_,rfl,_,rfl,x,ws,n,v,rfl,hx,G9 ok,cl,hn,hv,_,_,_,rfl,rfl,rfl,trivial,q⟩
end PP
namespace Strip
noncomputable def gW:ag:=[0,1,2,3,4,5,6]
theorem w84 {k:Int}(hk:k∈gW):[k]∈iN++[[3],[4],[5],[6]]/\([k]≠[]/\[k].length<=2/\∀x∈[k],0<=x/\x<=6):=by
 simp only[gW,aE2,aJ8,aI4]at hk;rcases hk with rfl|rfl|rfl|rfl|rfl|rfl|rfl<;>decide +kernel
theorem c84 {k:Int}(hk:k∈gW):∃S,Closed [k] S:=by
 simp only[gW,aE2,aJ8,aI4]at hk;rcases hk with rfl|rfl|rfl|rfl|rfl|rfl|rfl
 ·exact tR (by decide)
 ·exact tR (by decide)
 ·exact tR (by decide)
 ·exact pG (by decide)
 ·exact pG (by decide)
 ·exact pG (by decide)
 ·exact pG (by decide)
end Strip
namespace PP
open PySem L2
open Strip (aB cJ d6 Closed kN wy gW)
open Core (d5 si jE)
noncomputable def eO (n:Nat):Int:=if n=0 then 1 else 0
noncomputable def u6 (n:Nat):List PV:=[.int (2^n),.int (2^n-1+eO n),.int (wy n),.int 1]
noncomputable def u7 (n:Nat):List PV:=[.int 0,.int (1-eO n),.int (((n:Int)+2)/2*(1-eO n)),.int n]
theorem az4 {k:Int}(hk:k∈gW)(n:Nat):L2.atI (u6 n) (if (3:Int)<k then 3 else k)=some (.int (Strip.bH [k] n (Strip.aO [k]):Nat)):=by
 simp only[gW,aE2,aJ8,aI4]at hk;rcases hk with rfl|rfl|rfl|rfl|rfl|rfl|rfl
 ·show some (PV.int (2^n))=_
  rw[Strip.aq6 n,Int.natCast_pow];rfl
 ·show some (PV.int (2^n-1+eO n))=_
  have p:0<2^n:=Nat.pow_pos (by decide);have e:(2:Int)^n=((2^n:Nat):Int):=by rw[Int.natCast_pow];rfl
  rw[Strip.aq7 n,e];unfold eO;by_cases h:n=0
  ·rw[if_pos h,if_pos h,h];rfl
  ·rw[if_neg h,if_neg h];congr 2;omega
 ·show some (PV.int (wy n))=_
  rw[Strip.aq8 n]
 ·show some (PV.int 1)=_
  rw[(Strip.mI (by decide) n).2];rfl
 ·show some (PV.int 1)=_
  rw[(Strip.mI (by decide) n).2];rfl
 ·show some (PV.int 1)=_
  rw[(Strip.mI (by decide) n).2];rfl
 ·show some (PV.int 1)=_
  rw[(Strip.mI (by decide) n).2];rfl
theorem az5 {k:Int}(hk:k∈gW)(n:Nat):∃v:Strip.PR,Strip.eI JP (Strip.cB [k] Strip.pass JP (0,[]) n)=some v/\L2.atI (u7 n) (if (3:Int)<k then 3 else k)=some (.int v.1):=by
 simp only[gW,aE2,aJ8,aI4]at hk;rcases hk with rfl|rfl|rfl|rfl|rfl|rfl|rfl
 ·obtain⟨v,h1,h2⟩:=Strip.ar4 iP n
  exact⟨v,h1,by rw[h2];rfl⟩
 ·obtain⟨v,h1,h2⟩:=Strip.ar5 iP n
  refine⟨v,h1,?_⟩;show some (PV.int (1-eO n))=_;rw[h2];unfold eO;split<;>rfl
 ·obtain⟨v,h1,h2⟩:=Strip.ar6 iP n
  refine⟨v,h1,?_⟩;show some (PV.int (((n:Int)+2)/2*(1-eO n)))=_;rw[h2];unfold eO;split
  ·rw[show (1:Int)-1=0 from rfl,Int.mul_zero];rfl
  ·congr 2;omega
 ·obtain⟨v,h1,h2⟩:=Strip.p5 iP (k:=3) (by decide) n
  exact⟨v,h1,by rw[h2];rfl⟩
 ·obtain⟨v,h1,h2⟩:=Strip.p5 iP (k:=4) (by decide) n
  exact⟨v,h1,by rw[h2];rfl⟩
 ·obtain⟨v,h1,h2⟩:=Strip.p5 iP (k:=5) (by decide) n
  exact⟨v,h1,by rw[h2];rfl⟩
 ·obtain⟨v,h1,h2⟩:=Strip.p5 iP (k:=6) (by decide) n
  exact⟨v,h1,by rw[h2];rfl⟩
noncomputable def J6:aX:=(bE (gA (j6 (qC (.int 7))) (eV 7)
  (bE (cV 8 (aZ mY (aI (fZ (aI (aC 7) aU)) (aI (aC 1) aU))))
  (g8 (j3 (r6 (bZ (aZ Core.mE (aI (aC 8) aU)))) (j3 (bZ (rR (aC 8) (cL (aC 4) (aZ oD (aI (aC 7) (aI (qC (.int 3)) aU)))))) (bZ (rR (aZ n5 (aI (j4 (aI (aC 7) aU)) (aI (aC 1) aU))) (cL (aC 6) (aZ oD (aI (aC 7) (aI (qC (.int 3)) aU)))))))) (dL (qC (.bl false))) g4)))
 (dL (qC (.bl true))))
noncomputable def J7:aX:=(bE (cV 3 (aZ sR (aI (rQ (aC 1) (qC (.int 0))) aU)))
 (bE (lO 4 (j4 (aI (ae7 (qC (.int 2)) (qC (.int 0))) (aI (aC 3) (aI (cL (aC 2) (aC 1)) (aI (qC (.int 1)) aU))))))
 (bE (gA (j6 (aC 1)) (eV 5)
  (oC 4 (qC (.int 0)) (xL (qC (.int 2)) (cL (aC 4) (qC (.int 0))))))
 (bE (oC 4 (qC (.int 1)) (j9 (lW (cL (aC 4) (qC (.int 0))) (qC (.int 1))) (aC 3)))
 (bE (cV 6 (j4 (aI (qC (.int 0)) (aI (lW (qC (.int 1)) (aC 3)) (aI (xL (rL (j9 (aC 1) (qC (.int 2))) (qC (.int 2))) (lW (qC (.int 1)) (aC 3))) (aI (aC 1) aU))))))
 J6)))))
noncomputable def J8:aX:=(bE (lO 2 (j4 (aI (qC (.int 1)) (aI (qC (.int 1)) (aI (qC (.int 1)) aU)))))
 (bE (lP (bZ (qLe (aZ gM (aI (aC 2) aU)) (aC 1)))
  (rB 2 (j9 (cL (aC 2) (oH (qC (.int 1)))) (cL (aC 2) (oH (qC (.int 2)))))))
 J7))
noncomputable def J9:aX:=(bE (cV 1 (rM (rL (aZ Core.jC (aI (aC 0) (aI (qC (.int 0)) aU))) (qC (.int 4))) (qC (.int 40))))
 (bE (g8 (bZ (rQ (rM (aZ Core.jC (aI (aC 0) (aI (qC (.int 0)) aU))) (qC (.int 4))) (qC (.int 1)))) (cV 1 (rM (rL (aZ Core.jC (aI (aC 0) (aI (qC (.int 0)) aU))) (qC (.int 4))) (qC (.int 301)))) g4)
 J8))
noncomputable def u8:b8:=Core.yJ
theorem az6 {s:PV}{n:Nat}{y2 y3 y5:Option Slot}{Q:PV->Prop}(hn:n<=300)(q:Q (.bl true)):J6 { nx:=λ_=>Q .non,rt:=Q } [some (.sh true s),si n,y2,y3,some (.own (.lst (u6 n))),y5,some (.sh true (.lst (u7 n))),none,none]:=by
 refine⟨7,rfl,by decide,by decide,λi ρ=>∃y7 y8,ρ = [some (.sh true s),si n,y2,y3,some (.own (.lst (u6 n))),y5,some (.sh true (.lst (u7 n))),y7,y8],⟨_,_,rfl⟩,?_,?_⟩
 ·rintro i z ρ hz ⟨y7,y8,rfl⟩
  have hi:i<7:=by
   have:=(aG1.mp hz).1
   rw[eF]at this;exact this
  rw[lT (by exact hi)]at hz;cases hz
  obtain⟨k,ek⟩:∃k:Int,k=0+(i:Int):=⟨_,rfl⟩
  rw[<- ek];have hk:k∈gW:=by
   have:k=0∨k=1∨k=2∨k=3∨k=4∨k=5∨k=6:=by omega
   rcases this with rfl|rfl|rfl|rfl|rfl|rfl|rfl<;>decide
  obtain⟨hw,ok⟩:=Strip.w84 hk
  have cl:=Strip.c84 hk
  obtain⟨v,hv,hl⟩:=az5 hk n
  have hd:=az4 hk n;refine⟨_,rfl,by show 1<=1000;decide,rfl,_,rfl,.tup (intz [k]),[k],n,_,rfl,.inl rfl,ok,cl,hn,Strip.ar3 hw n,trivial,?_⟩;refine⟨_,rfl,_,rfl,_,rfl,cF ⟨_,rfl,_,rfl,_,rfl,k,3,rfl,_,_,_,rfl,rfl,hd,.inl ⟨_,_,rfl,rfl,_,rfl,?_⟩⟩⟩;show if (if true=true then !decide (((Strip.bH [k] n (Strip.aO [k]):Nat):Int)=(Strip.bH [k] n (Strip.aO [k]):Nat)) else _)=true then _ else _
  rw[if_pos rfl,aG5 rfl];refine cF ⟨_,rfl,by show 1<=1000;decide,rfl,_,rfl,.lst (intz [k]),[k],n,v,rfl,.inr rfl,ok,cl,hn,hv,_,rfl,_,rfl,k,3,rfl,_,_,_,rfl,rfl,hl,.inl ⟨_,_,rfl,rfl,_,rfl,?_⟩⟩;show if (if true=true then !decide ((v.1:Int)=(v.1:Int)) else _)=true then _ else _
  rw[if_pos rfl,aG5 rfl];refine cF ?_
  exact⟨_,_,rfl⟩
 ·rintro ρ ⟨y7,y8,rfl⟩
  exact⟨trivial,q⟩
noncomputable def e8 (k:Nat):List PV:=(List.range k).map λi=>PV.int (wy i)
theorem u9 (k:Nat):(e8 k).length=k:=by unfold e8;rw[aD8,List.length_range]
theorem K0 {k i:Nat}(h:i<k):(e8 k)[i]? = some (.int (wy i)):=by unfold e8;rw[aF8,List.getElem?_range h];rfl
theorem K1 {k m:Nat}(h1:1<=m)(h2:m<=k):L2.atI (e8 k) (-(m:Int))=some (.int (wy (k-m))):=by
 unfold L2.atI L2.fE;rw[if_neg (by omega),u9,if_pos (by omega)];show (e8 k)[(-(m:Int)+(k:Int)).toNat]? = _;rw[show (-(m:Int)+(k:Int)).toNat=k-m by omega];exact K0 (by omega)
theorem az7 {s:PV}{n k:Nat}{Q:PV->Prop}(hn:n<=300)(hk:n<k)(q:Q (.bl true)):J7 { nx:=λ_=>Q .non,rt:=Q } [some (.sh true s),si n,some (.own (.lst (e8 k))),none,none,none,none,none,none]:=by
 have e0:(if decide ((n:Int)=0)=true then (1:Int) else 0)=eO n:=by
  unfold eO;by_cases h:n=0
  ·rw[if_pos h,if_pos (aG5 (by omega))]
  ·rw[if_neg h,if_neg (by rw[aE7 (by omega)];exact aF1)]
 refine⟨_,rfl,.inl ⟨_,_,rfl,rfl,.inr ⟨decide ((n:Int)=0),rfl,trivial,?_⟩⟩⟩;rw[e0];refine⟨_,_,rfl,rfl,⟨by decide,by decide,by decide⟩,_,rfl,_,rfl,_,rfl,_,_,_,rfl,rfl,qH (K0 hk),by show 4<=1000;decide,rfl,rfl,rfl,?_⟩;refine⟨_,rfl,(n:Int),rfl,by omega,by omega,λi ρ=>∃y5,ρ = [some (.sh true s),si n,some (.own (.lst (e8 k))),si (eO n),some (.own (.lst [.int (2^i),.int (eO n),.int (wy n),.int 1])),y5,none,none,none],⟨_,rfl⟩,?_,?_⟩
 ·rintro i z ρ hz ⟨y5,rfl⟩
  refine⟨_,rfl,_,_,_,rfl,rfl,rfl,_,_,rfl,rfl,.inl ⟨by decide,by decide⟩,_,rfl,0,0,rfl,rfl,trivial,some (.sh true (.int (0+(i:Int)))),?_⟩;rw[Int.pow_succ,Int.mul_comm _ (2:Int)];have ez:z = .int (0+(i:Int)):=by
   have hi:i<((n:Int)).toNat:=by
    have:=(aG1.mp hz).1
    rwa [eF]at this
   rw[lT hi]at hz;cases hz;rfl
  rw[ez];rfl
 rintro ρ ⟨y5,rfl⟩;have e:(g9 0 ((n:Int)).toNat).length=n:=by rw[eF];exact aM3 _
 rw[e];refine⟨_,rfl,_,_,_,rfl,rfl,rfl,_,_,rfl,rfl,_,rfl,_,_,rfl,rfl,_,rfl,1,1,rfl,rfl,trivial,?_⟩;refine⟨_,rfl,_,_,rfl,rfl,_,rfl,_,_,rfl,rfl,_,_,rfl,rfl,⟨by decide,by decide⟩,_,rfl,_,_,rfl,rfl,_,_,rfl,rfl,.inl ⟨by omega,by omega⟩,_,rfl,by show 4<=1000;decide,rfl,trivial,?_⟩;have h:=az6 (s:=s) (n:=n) (y2:=some (.own (.lst (e8 k)))) (y3:=si (eO n)) (y5:=y5) hn q;dsimp only[List.set];exact h
theorem K2 {s:PV}{n:Nat}{Q:PV->Prop}(hn:n<=300)(q:Q (.bl true)):J8 { nx:=λ_=>Q .non,rt:=Q } [some (.sh true s),si n,none,none,none,none,none,none,none]:=by
 refine⟨by show 3<=1000;decide,rfl,rfl,rfl,?_⟩;refine⟨λm ρ=>∃k,ρ = [some (.sh true s),si n,some (.own (.lst (e8 k))),none,none,none,none,none,none]/\3<=k/\k<=n+3/\m=n+4-k,⟨n+1,3,rfl,by omega,by omega,by omega⟩,?_⟩;rintro m ρ ⟨k,rfl,h3,hk,rfl⟩;refine⟨_,rfl,_,_,rfl,rfl,_,rfl,_,_,rfl,rfl,_,rfl,?_⟩;show if decide (((e8 k).length:Int)<=(n:Int))=true then _ else _
 rw[u9];by_cases g:k<=n
 ·rw[aG5 (by omega)]
  refine cC ⟨_,rfl,_,rfl,_,rfl,_,_,_,rfl,rfl,K1 (m:=1) (by omega) (by omega),_,rfl,_,rfl,_,_,_,rfl,rfl,K1 (m:=2) (by omega) (by omega),_,_,rfl,rfl,trivial,by rw[u9];omega,n+4-(k+1),by omega,k+1,?_,by omega,by omega,rfl⟩;have e:e8 k++[.int ((wy (k-1):Int)+(wy (k-2):Int))]=e8 (k+1):=by
   obtain⟨j,rfl⟩:∃j,k=j+3:=⟨k-3,by omega⟩
   unfold e8;rw[List.range_succ (n:=j+3),aG4];show _++[PV.int ((wy (j+2):Int)+(wy (j+1):Int))]=_++[PV.int ((wy (j+2)+wy (j+1):Nat):Int)];rw[Int.natCast_add]
  show _ = [some (.sh true s),si n,some (.own (.lst (e8 (k+1)))),none,none,none,none,none,none];rw[<- e];rfl
 ·rw[aE7 (by omega)]
  exact cF (az7 hn (by omega) q)
theorem az8:∀xs Q,u8 xs Q->J9 { nx:=λ_=>Q .non,rt:=Q } (bF ["script","length","ways","none","due","turn","least","want","told"] xs):=by
 rintro _ Q ⟨ns,rfl,hl,q⟩;have d4:(0:Int)<4:=by decide
 have d40:(0:Int)<40:=by decide
 have d301:(0:Int)<301:=by decide
 obtain⟨m,em,hm⟩:∃m:Nat,ns.getD 0 0/4%40=m/\m<=39:=⟨(ns.getD 0 0/4%40).toNat,by omega,by omega⟩
 obtain⟨n,en,hn⟩:∃n:Nat,ns.getD 0 0/4%301=n/\n<=300:=⟨(ns.getD 0 0/4%301).toNat,by omega,by omega⟩
 refine⟨_,rfl,.scr ns,ns,0,rfl,.inl rfl,by decide,_,_,rfl,rfl,⟨by decide,by decide⟩,_,_,rfl,rfl,d40,trivial,?_⟩;refine⟨_,rfl,.scr ns,ns,0,rfl,.inl rfl,by decide,_,_,rfl,rfl,d4,.inl ⟨_,_,rfl,rfl,_,rfl,?_⟩⟩;show if decide (ns.getD 0 0%4=1)=true then _ else _
 by_cases g:ns.getD 0 0%4=1
 ·rw[aG5 g]
  refine cC ⟨_,rfl,.scr ns,ns,0,rfl,.inl rfl,by decide,_,_,rfl,rfl,⟨by decide,by decide⟩,_,_,rfl,rfl,d301,trivial,?_⟩;have h:=K2 (s:=.scr ns) hn q;rw[<- en]at h;dsimp only[List.set];exact h
 ·rw[aE7 g]
  refine cF ?_;have h:=K2 (s:=.scr ns) (n:=m) (by omega) q;rw[<- em]at h;dsimp only[List.set];exact h
end PP
namespace K_k84
open PySem PySem.W L2 PP Core
theorem _root_.L2.FnScope.au {N P:List Str}{s:Scope}(a:s.kind=.function:=by rfl)(b:s.isCoroutine=false:=by rfl)(c:s.isGenerator=false:=by rfl)(d:N.Nodup:=by decide +kernel)(e:N.take P.length=P:=by rfl)(f:∀x∈P,s.names.lookup x=some .local∨s.names.lookup x=some .cell:=by decide +kernel)(g:∀y∈s.names,y.2≠.free:=by decide +kernel):FnScope N P s:=⟨a,b,c,d,e,f,g⟩
noncomputable def aD (i:Nat):Stmt:=PySem.Challenge.pw_kindleweb_k84_whole_rows_of_one.main.body.getD i (.Pass ⟨0,0,0,0⟩)
section
variable {P:ay}{w:ba}{K:Frag}{mg:Str→Option av}{base:Heap}{f:ax}{fd:FuncData}{T:List (ax×Str)}
noncomputable def iQ:b9:=tZ "strip_count.<locals>.<lambda>" (u0 (aD 10) 3)
theorem az9:eJ P w K mg base 1 iQ mX:=
 eJ.of (N:=["many","seeds"]) (ps:=["many","seeds"]) .au (λ_ _ _ us hl=>by obtain⟨_,_,rfl⟩:=us2 hl;rfl) ay3 (λf cv A outer s H E hr=>⟨_,(qv 0),ay0⟩)
noncomputable def dF:b9:=tZ "strip_count.<locals>.<lambda>" (u0 (aD 10) 4)
theorem K3:eJ P w K mg base 1 dF kQ:=
 eJ.of (N:=["one","other"]) (ps:=["one","other"]) .au (λ_ _ _ us hl=>by obtain⟨_,_,rfl⟩:=us2 hl;rfl) ay4 (λf cv A outer s H E hr=>⟨_,(iH (qv 0) (qv 1)),ay1⟩)
noncomputable def lF:b9:=tZ "fewest.<locals>.<lambda>" (u0 (aD 12) 4)
theorem K4 (B:Bt mg):eJ P w K mg base 1 lF kR:=
 eJ.of (N:=["one","other"]) (ps:=["one","other"]) .au (λ_ _ _ us hl=>by obtain⟨_,_,rfl⟩:=us2 hl;rfl) ay5 (λf cv A outer s H E hr=>⟨_,(av3 B rfl (by show (A.deeper (PyProof.Rows.envOfC lF.qual lF.scope s.heap.objs.size f cv)).units+6<cLine;have:=hr.units;omega) (aG (qv 0) (aG (qv 1) aQ))),ay2⟩)
theorem aA0:FnScope ["wants","length"] ["wants","length"] (aK (aD 8)):=.au
theorem aA1 (B:Bt mg)(F:bN K "looked_through" "looked_through" (aD 8) f fd)(m:mg "looked_through" = some (.ref f))(x_BadBoard:Xc K mg base "BadBoard"){u_MOST_WIDE:Nat}(m_MOST_WIDE:mg "MOST_WIDE" = some (.int 2 u_MOST_WIDE)){u_MOST_WANTED_ON_STRIPS:Nat}(m_MOST_WANTED_ON_STRIPS:mg "MOST_WANTED_ON_STRIPS" = some (.int 6 u_MOST_WANTED_ON_STRIPS)):gD P w K mg base 1 "looked_through" ["wants","length"] jF:=
 gD.of F m aA0 (λ_ _ _ _ _ _ us hl=>by obtain⟨_,_,rfl⟩:=us2 hl;rfl) z6 (λEp xs Q h=>by unfold jF at h;repeat (first|(obtain⟨rfl,_⟩:=h;rfl)|(obtain⟨_,h⟩:=h))) ap1 (λcdv A outer s H E Ep hr hX=>by
  exact (bA (gO (xT (lY (oK (hV B (aG (qv 0) aQ)) aV) (lY (rX (hV B (aG (qv 0) aQ)) (oT rfl m_MOST_WIDE)) (lY (oK (ao7 B rfl (aG (qv 0) aQ)) aV) (xS (rX (ao8 B rfl (aG (qv 0) aQ)) (oT rfl m_MOST_WANTED_ON_STRIPS))))))) (bD (sP hX x_BadBoard (aG rS aQ))) gN)
   (bD (gO (oK (qv 1) aV) (bD (sP hX x_BadBoard (aG rS aQ))) gN))))
theorem aA2:FnScope ["length","most"] ["length","most"] (aK (aD 9)):=.au
theorem aA3 (B:Bt mg)(F:bN K "held_to" "held_to" (aD 9) f fd)(m:mg "held_to" = some (.ref f))(x_TooMany:Xc K mg base "TooMany"):gD P w K mg base 1 "held_to" ["length","most"] jG:=
 gD.of F m aA2 (λ_ _ _ _ _ _ us hl=>by obtain⟨_,_,rfl⟩:=us2 hl;rfl) z7 (λEp xs Q h=>by unfold jG at h;repeat (first|(obtain⟨rfl,_⟩:=h;rfl)|(obtain⟨_,h⟩:=h))) ap2 (λcdv A outer s H E Ep hr hX=>by
  exact (bD (gO (rX (qv 0) (qv 1)) (bD (sP hX x_TooMany (aG rS aQ))) gN)))
theorem aA4:FnScope ["mask","place"] ["mask","place"] (aK (aD 14)):=.au
theorem aA5 (B:Bt mg)(F:bN K "has" "has" (aD 14) f fd)(m:mg "has" = some (.ref f)) :Df P w K mg base 1 "has" ["mask","place"] gV:=
 Df.of F m aA4 (λ_ _ _ _ _ _ us hl=>by obtain⟨_,_,rfl⟩:=us2 hl;rfl) (λxs Q h=>by unfold gV at h;repeat (first|(obtain⟨rfl,_⟩:=h;rfl)|(obtain⟨_,h⟩:=h))) (λcdv A outer s H E hr=>by
  exact⟨(B9),(bD (dZ (am0 (ae9 (qv 0) (qv 1)) aV))),au1⟩)
theorem aA6:FnScope ["script","k"] ["script","k"] (aK (aD 23)):=.au
theorem aA7 (B:Bt mg)(F:bN K "_law_cell_at" "_law_cell_at" (aD 23) f fd)(m:mg "_law_cell_at" = some (.ref f)) :Df P w K mg base 1 "_law_cell_at" ["script","k"] jC:=
 Df.of F m aA6 (λ_ _ _ _ _ _ us hl=>by obtain⟨_,_,rfl⟩:=us2 hl;rfl) (λxs Q h=>by unfold jC at h;repeat (first|(obtain⟨rfl,_⟩:=h;rfl)|(obtain⟨_,h⟩:=h))) (λcdv A outer s H E hr=>by
  exact⟨(yF),(bA (gO (oK (qv 1) (hV B (aG (qv 0) aQ))) (bD (dZ (cG (qv 0) (qv 1)))) gN)
   (bD (dZ aV))),ah8⟩)
theorem aA8:FnScope ["found"] ["found"] (aK (aD 24)):=.au
theorem aA9 (B:Bt mg)(F:bN K "_law_whole" "_law_whole" (aD 24) f fd)(m:mg "_law_whole" = some (.ref f)) :Df P w K mg base 1 "_law_whole" ["found"] mE:=
 Df.of F m aA8 (λ_ _ _ _ _ _ us hl=>by obtain⟨_,rfl⟩:=us1 hl;rfl) (λxs Q h=>by unfold mE at h;repeat (first|(obtain⟨rfl,_⟩:=h;rfl)|(obtain⟨_,h⟩:=h))) (λcdv A outer s H E hr=>by
  exact⟨(yG K),(bD (dZ (xV (ag3 B (qv 0)) (xU (af6 (ag4 B (qv 0))))))),ah9 (yK K).ii (yK K).ib⟩)
theorem aB0:FnScope ["mask"] ["mask"] (aK (aD 15)):=.au
theorem aB1 (B:Bt mg)(F:bN K "count_in" "count_in" (aD 15) f fd)(m:mg "count_in" = some (.ref f))(d_has:Df P w K mg base 1 "has" ["mask","place"] gV):Df P w K mg base 2 "count_in" ["mask"] mP:=
 Df.of F m aB0 (λ_ _ _ _ _ _ us hl=>by obtain⟨_,rfl⟩:=us1 hl;rfl) (λxs Q h=>by unfold mP at h;repeat (first|(obtain⟨rfl,_⟩:=h;rfl)|(obtain⟨_,h⟩:=h))) (λcdv A outer s H E hr=>by
  exact⟨(C0),(bD (dZ (iH (d3 d_has hr (aG (qv 0) (aG aV aQ))) (d3 d_has hr (aG (qv 0) (aG aV aQ)))))),au2⟩)
theorem pO:FnScope ["values","key","value","joined"] ["values","key","value","joined"] (aK (aD 17)):=.au
theorem aB2 (F:bN K "join_in" "join_in" (aD 17) f fd)(m:mg "join_in" = some (.ref f))(lm:eJ P w K mg base 1 dF kQ):i7 P w K mg base 2 "join_in" ["values","key","value","joined"] (.lm dF) (dE rN) JN:=
 i7.of F m pO (λ_ _ _ _ _ _ us hl=>by obtain⟨_,_,_,_,rfl⟩:=jD hl;rfl) (λcdv A outer s H E hr=>by
  have hu16:(A.deeper (PyProof.Rows.envOfC "join_in" (aK (aD 17)) s.heap.objs.size f cdv)).units+16<cLine:=by have:=hr.units;omega
  exact⟨jJ (u3 dF),eQ (kZ (p8 hu16 (qv 1) (qv 0)) (eQ (hG hu16 (pv 0) (pv 1) (mL 3 (λz hz=>by obtain rfl:=aE6.mp hz;exact lm) hr (aG (eY hu16 (qv 0) (qv 1)) (aG (qv 2) aQ))) rfl)) (eQ (hG hu16 (pv 0) (pv 1) (pv 2) rfl))),G7 dF⟩)
theorem aB3 (F:bN K "join_in" "join_in" (aD 17) f fd)(m:mg "join_in" = some (.ref f))(lm:eJ P w K mg base 1 dF kQ):i8 P w K mg base 2 "join_in" ["values","key","value","joined"] (.lm dF) (dE rN) JN:=
 i8.of F m pO (λ_ _ _ _ _ _ us hl=>by obtain⟨_,_,_,_,rfl⟩:=jD hl;rfl) (λcdv A outer s H E hr=>by
  have hu16:(A.deeper (PyProof.Rows.envOfC "join_in" (aK (aD 17)) s.heap.objs.size f cdv)).units+16<cLine:=by have:=hr.units;omega
  exact⟨jJ (u3 dF),eQ (kZ (p8 hu16 (qv 1) (qv 0)) (eQ (hG hu16 (pv 0) (pv 1) (mL 3 (λz hz=>by obtain rfl:=aE6.mp hz;exact lm) hr (aG (eY hu16 (qv 0) (qv 1)) (aG (qv 2) aQ))) rfl)) (eQ (hG hu16 (pv 0) (pv 1) (pv 2) rfl))),G7 dF⟩)
theorem aB4 (F:bN K "join_in" "join_in" (aD 17) f fd)(m:mg "join_in" = some (.ref f))(lm:eJ P w K mg base 1 lF kR):i7 P w K mg base 2 "join_in" ["values","key","value","joined"] (.lm lF) (dE rP) kS:=
 i7.of F m pO (λ_ _ _ _ _ _ us hl=>by obtain⟨_,_,_,_,rfl⟩:=jD hl;rfl) (λcdv A outer s H E hr=>by
  have hu16:(A.deeper (PyProof.Rows.envOfC "join_in" (aK (aD 17)) s.heap.objs.size f cdv)).units+16<cLine:=by have:=hr.units;omega
  exact⟨jJ (u5 lF),eQ (kZ (p8 hu16 (qv 1) (qv 0)) (eQ (hG hu16 (pv 0) (pv 1) (mL 3 (λz hz=>by obtain rfl:=aE6.mp hz;exact lm) hr (aG (eY hu16 (qv 0) (qv 1)) (aG (qv 2) aQ))) rfl)) (eQ (hG hu16 (pv 0) (pv 1) (pv 2) rfl))),J3 lF⟩)
theorem aB5 (F:bN K "join_in" "join_in" (aD 17) f fd)(m:mg "join_in" = some (.ref f))(lm:eJ P w K mg base 1 lF kR):i8 P w K mg base 2 "join_in" ["values","key","value","joined"] (.lm lF) (dE rP) kS:=
 i8.of F m pO (λ_ _ _ _ _ _ us hl=>by obtain⟨_,_,_,_,rfl⟩:=jD hl;rfl) (λcdv A outer s H E hr=>by
  have hu16:(A.deeper (PyProof.Rows.envOfC "join_in" (aK (aD 17)) s.heap.objs.size f cdv)).units+16<cLine:=by have:=hr.units;omega
  exact⟨jJ (u5 lF),eQ (kZ (p8 hu16 (qv 1) (qv 0)) (eQ (hG hu16 (pv 0) (pv 1) (mL 3 (λz hz=>by obtain rfl:=aE6.mp hz;exact lm) hr (aG (eY hu16 (qv 0) (qv 1)) (aG (qv 2) aQ))) rfl)) (eQ (hG hu16 (pv 0) (pv 1) (pv 2) rfl))),J3 lF⟩)
theorem K5:FnScope ["wants","behind","burning","ahead","lit","place","want"] ["wants","behind","burning","ahead"] (aK (aD 21)):=.au
theorem aB6 (B:Bt mg)(F:bN K "with_kindled" "with_kindled" (aD 21) f fd)(m:mg "with_kindled" = some (.ref f))(d_has:Df P w K mg base 1 "has" ["mask","place"] gV):Df P w K mg base 2 "with_kindled" ["wants","behind","burning","ahead"] kO:=
 Df.of F m K5 (λ_ _ _ _ _ _ us hl=>by obtain⟨_,_,_,_,rfl⟩:=jD hl;rfl) (λxs Q h=>by unfold kO at h;repeat (first|(obtain⟨rfl,_⟩:=h;rfl)|(obtain⟨_,h⟩:=h))) (λcdv A outer s H E hr=>by
  have nd:=K5.nd
  exact⟨(E2),(bA (d2 (i:=4) nd (qv 2))
   (bA (sD 5 6 nd (ak3 rfl B.enum (qv 0))
    (bD (gO (af2 (iH (iH (d3 d_has hr (aG (qv 1) (aG (qv 5) aQ))) (d3 d_has hr (aG (qv 3) (aG (qv 5) aQ)))) (d3 d_has hr (aG (qv 2) (aG (lX aV (qv 5)) aQ)))) (qv 6)) (bD (d2 (i:=4) nd (av1 (qv 4) (rW aV (qv 5))))) gN)))
   (bD (xX 4)))),aw4⟩)
theorem aB7:FnScope ["pair","seeds"] ["pair","seeds"] (aK (aD 13)):=.au
theorem aB8 (B:Bt mg)(F:bN K "with_slice" "with_slice" (aD 13) f fd)(m:mg "with_slice" = some (.ref f))(d_count_in:Df P w K mg base 2 "count_in" ["mask"] mP):Df P w K mg base 3 "with_slice" ["pair","seeds"] mZ:=
 Df.of F m aB7 (λ_ _ _ _ _ _ us hl=>by obtain⟨_,_,rfl⟩:=us2 hl;rfl) (λxs Q h=>by unfold mZ at h;repeat (first|(obtain⟨rfl,_⟩:=h;rfl)|(obtain⟨_,h⟩:=h))) (λcdv A outer s H E hr=>by
  exact⟨(J1),(bD (dZ (gC (aG (iH (cG (qv 0) aV) (d3 d_count_in hr (aG (qv 1) aQ))) (aG (ak7 (cG (qv 0) aV) (gC (aG (qv 1) aQ))) aQ))))),ay9⟩)
theorem K6:FnScope ["wants","answer","seeds","ahead","burning","more","whole"] ["wants","answer","seeds","ahead"] (aK (aD 20)):=.au
theorem aB9 (B:Bt mg)(F:bN K "settled" "settled" (aD 20) f fd)(m:mg "settled" = some (.ref f))(d_with_kindled:Df P w K mg base 2 "with_kindled" ["wants","behind","burning","ahead"] kO):Df P w K mg base 3 "settled" ["wants","answer","seeds","ahead"] mV:=
 Df.of F m K6 (λ_ _ _ _ _ _ us hl=>by obtain⟨_,_,_,_,rfl⟩:=jD hl;rfl) (λxs Q h=>by unfold mV at h;repeat (first|(obtain⟨rfl,_⟩:=h;rfl)|(obtain⟨_,h⟩:=h))) (λcdv A outer s H E hr=>by
  have nd:=K6.nd
  exact⟨(E3),(bA (d2 (i:=4) nd (qv 2))
   (bA (d2 (i:=5) nd (d3 d_with_kindled hr (aG (qv 0) (aG (cG (cG (qv 1) (qv 4)) aV) (aG (qv 4) (aG (qv 3) aQ))))))
   (bA (sA PassesOwn.never (rY (qv 5) (qv 4))
    (bA (d2 (i:=4) nd (qv 5))
    (bD (d2 (i:=5) nd (d3 d_with_kindled hr (aG (qv 0) (aG (cG (cG (qv 1) (qv 4)) aV) (aG (qv 4) (aG (qv 3) aQ)))))))))
   (bA (d2 (i:=6) nd (lX (hV B (aG (qv 1) aQ)) aV))
   (bD (dZ (gC (aG (qv 4) (aG (xV (xR (qv 4) (qv 6)) (xU (cG (cG (qv 1) (qv 6)) aV))) aQ))))))))),aw5⟩)
theorem aC0:FnScope ["wants","answer","seeds"] ["wants","answer","seeds"] (aK (aD 19)):=.au
theorem aC1 (B:Bt mg)(F:bN K "next_answer" "next_answer" (aD 19) f fd)(m:mg "next_answer" = some (.ref f))(d_settled:Df P w K mg base 3 "settled" ["wants","answer","seeds","ahead"] mV):Df P w K mg base 4 "next_answer" ["wants","answer","seeds"] mW:=
 Df.of F m aC0 (λ_ _ _ _ _ _ us hl=>by obtain⟨_,_,_,rfl⟩:=yT hl;rfl) (λxs Q h=>by unfold mW at h;repeat (first|(obtain⟨rfl,_⟩:=h;rfl)|(obtain⟨_,h⟩:=h))) (λcdv A outer s H E hr=>by
  exact⟨(E5),(bD (dZ (ag0 B (aG (ag5 (N:=["ahead","wants","answer","seeds"]) (fr:=[none,some 0,some 1,some 2]) (kH rfl B.range (hV B (aG (qv 1) aQ))) (λ_ _ _ _=>(d3 d_settled hr (aG (qv 1) (aG (qv 2) (aG (qv 3) (aG (qv 0) aQ))))))) aQ)))),aw7⟩)
theorem K7:FnScope ["wants","begin","following","waiting","answer","pairs"] ["wants","begin"] (aK (aD 18)):=.au
theorem aC2 (B:Bt mg)(F:bN K "answers_behind" "answers_behind" (aD 18) f fd)(m:mg "answers_behind" = some (.ref f))(d_next_answer:Df P w K mg base 4 "next_answer" ["wants","answer","seeds"] mW):Df P w K mg base 5 "answers_behind" ["wants","begin"] kP:=
 Df.of F m K7 (λ_ _ _ _ _ _ us hl=>by obtain⟨_,_,rfl⟩:=us2 hl;rfl) (λxs Q h=>by unfold kP at h;repeat (first|(obtain⟨rfl,_⟩:=h;rfl)|(obtain⟨_,h⟩:=h))) (λcdv A outer s H E hr=>by
  have nd:=K7.nd;have hu16:(A.deeper (PyProof.Rows.envOfC "answers_behind" (aK (aD 18)) s.heap.objs.size f cdv)).units+16<cLine:=by have:=hr.units;omega
  exact⟨E7,(bA (mR (i:=2) nd tI)
   (bA (rZ (i:=3) nd (lZ (aG (qv 1) aQ)))
   (bA (sA PassesOwn.never (oM (qv 3))
    (bA (al9 nd 3 4)
    (bD (gO (as5 hu16 (qv 4) (qv 2)) (bA (ag7 (N:=["seeds","wants","answer"]) (fr:=[none,some 0,some 4]) (i:=5) nd (kH rfl B.range (hV B (aG (qv 4) aQ))) (λ_ _ _ _=>(gC (aG (qv 0) (aG (d3 d_next_answer hr (aG (qv 1) (aG (qv 2) (aG (qv 0) aQ)))) aQ)))))
     (bA (as6 (i:=2) hu16 (qv 4) (ap7 (ag6 (N:=["pair"]) (fr:=[none]) (oO (qv 5)) (λ_ _ _ _=>(oM (cG (cG (cG (qv 0) aV) (sC aV)) aV))) (λ_ _ _ _=>(qv 0)))))
     (bD (ag9 3 (ak5 (N:=["seeds","behind"]) (fr:=[none,none]) (oO (eY hu16 (qv 2) (qv 4))) (λ_ _ _ _=>(qv 1))))))) gN))))
   (bD (xX 2))))),ax0⟩)
theorem pP:FnScope ["wants","length","first","passed","joined","begin","following","values","turn","later","answer","seeds","behind","ends"] ["wants","length","first","passed","joined"] (aK (aD 16)):=.au
theorem aC3 (B:Bt mg)(F:bN K "gone_through" "gone_through" (aD 16) f fd)(m:mg "gone_through" = some (.ref f))(d_answers_behind:Df P w K mg base 5 "answers_behind" ["wants","begin"] kP)(jA:i7 P w K mg base 2 "join_in" ["values","key","value","joined"] (.lm dF) (dE rN) JN)(jB:i8 P w K mg base 2 "join_in" ["values","key","value","joined"] (.lm dF) (dE rN) JN)(lp:eJ P w K mg base 1 iQ mX):Df P w K mg base 6 "gone_through" ["wants","length","first","passed","joined"] (pM iQ dF):=
 Df.of F m pP (λ_ _ _ _ _ _ us hl=>by obtain⟨_,_,_,_,_,rfl⟩:=yU hl;rfl) G4 (λcdv A outer s H E hr=>by
  have nd:=pP.nd;have hu16:(A.deeper (PyProof.Rows.envOfC "gone_through" (aK (aD 16)) s.heap.objs.size f cdv)).units+16<cLine:=by have:=hr.units;omega
  exact⟨(G6 iQ dF),(bA (d2 (i:=5) nd (yI (gC (aG (gC (aG aV (aG iG aQ))) aQ)) (rW aV (hV B (aG (qv 0) aQ)))))
   (bA (d2 (i:=6) nd (pA (d3 d_answers_behind hr (aG (qv 0) (aG (qv 5) aQ)))))
   (bA (d2 (i:=7) nd (pA (A6 hu16 (qv 5) (qv 2))))
   (bA (iJ 8 nd (kH rfl B.range (qv 1))
    (bA (mR (i:=9) nd tI)
    (bA (iJ 10 nd (pC (qv 7))
     (bD (sD 11 12 nd (oO (eY hu16 (qv 6) (qv 10)))
      (bD (B0 jA hr 9 (qv 12) (mL 3 (λz hz=>by obtain rfl:=aE6.mp hz;exact lp) hr (aG (eY hu16 (qv 7) (qv 10)) (aG (qv 11) aQ))) (qv 4))))))
    (bD (C3 9 (i:=7) nd)))))
   (bA (mR (i:=13) nd A5)
   (bA (iJ 10 nd (pC (qv 7))
    (bD (gO (oM (cG (cG (qv 10) aV) aV)) (bD (B1 jB hr 13 iG (eY hu16 (qv 7) (qv 10)) (qv 4))) gN)))
   (bD (dZ (eY hu16 (qv 13) iG))))))))),(ay7 iQ dF)⟩)
theorem aC4 (B:Bt mg)(F:bN K "gone_through" "gone_through" (aD 16) f fd)(m:mg "gone_through" = some (.ref f))(d_answers_behind:Df P w K mg base 5 "answers_behind" ["wants","begin"] kP)(jA:i7 P w K mg base 2 "join_in" ["values","key","value","joined"] (.lm lF) (dE rP) kS)(jB:i8 P w K mg base 2 "join_in" ["values","key","value","joined"] (.lm lF) (dE rP) kS)(fv:oX K mg "with_slice")(lp:Df P w K mg base 3 "with_slice" ["pair","seeds"] mZ):Df P w K mg base 6 "gone_through" ["wants","length","first","passed","joined"] (pN lF):=
 Df.of F m pP (λ_ _ _ _ _ _ us hl=>by obtain⟨_,_,_,_,_,rfl⟩:=yU hl;rfl) G4 (λcdv A outer s H E hr=>by
  have nd:=pP.nd;have hu16:(A.deeper (PyProof.Rows.envOfC "gone_through" (aK (aD 16)) s.heap.objs.size f cdv)).units+16<cLine:=by have:=hr.units;omega
  exact⟨(J2 lF),(bA (d2 (i:=5) nd (yI (gC (aG (gC (aG aV (aG iG aQ))) aQ)) (rW aV (hV B (aG (qv 0) aQ)))))
   (bA (d2 (i:=6) nd (pA (d3 d_answers_behind hr (aG (qv 0) (aG (qv 5) aQ)))))
   (bA (d2 (i:=7) nd (pA (A6 hu16 (qv 5) (qv 2))))
   (bA (iJ 8 nd (kH rfl B.range (qv 1))
    (bA (mR (i:=9) nd tI)
    (bA (iJ 10 nd (pC (qv 7))
     (bD (sD 11 12 nd (oO (eY hu16 (qv 6) (qv 10)))
      (bD (B0 jA hr 9 (qv 12) (at5 3 (λz hz=>by obtain rfl:=aE6.mp hz;exact⟨fv.ex,_,lp⟩) hr (aG (eY hu16 (qv 7) (qv 10)) (aG (qv 11) aQ))) (qv 4))))))
    (bD (C3 9 (i:=7) nd)))))
   (bA (mR (i:=13) nd A5)
   (bA (iJ 10 nd (pC (qv 7))
    (bD (gO (oM (cG (cG (qv 10) aV) aV)) (bD (B1 jB hr 13 iG (eY hu16 (qv 7) (qv 10)) (qv 4))) gN)))
   (bD (dZ (eY hu16 (qv 13) iG))))))))),(az1 lF)⟩)
theorem aC5:FnScope ["wants","length"] ["wants","length"] (aK (aD 10)):=.au
theorem aC6 {c0 P0:ax}{oc:av}{od an:Option ax}{osl:Array (Option av)}{kV doc pm ct:av}(l:K.lookup f=some ⟨oc,od,.func (fnOf "strip_count" "strip_count" (bK (aD 10)) (bB (aD 10)) (aK (aD 10)) .none kV doc pm an (.ref c0) ct),osl⟩)(cc:codeIn K (.ref c0) "strip_count" = true)(kp:keepIn K (.ref f)=true)(m:mg "strip_count" = some (.ref f))(hK:codeHdIn K c0 P0=true)(BK:fX base mg P0)(hgP:mainGlobals≠P0)(hmem:((P0,"strip_count.<locals>.<lambda>"):ax×Str)∈T)(d_looked_through:gD P w K mg base 1 "looked_through" ["wants","length"] jF)(d_held_to:gD P w K mg base 1 "held_to" ["length","most"] jG)(d_gone:Df P w K mg base 6 "gone_through" ["wants","length","first","passed","joined"] (pM iQ dF)){u_:Nat}(m_:mg "MOST_COUNTED" = some (.int 300 u_)):eM P w K mg base T 7 "strip_count" ["wants","length"] mY:=
 eM.ofC l cc kp m aC5 (λ_ _ _ _ _ _ us hl=>by obtain⟨_,_,rfl⟩:=us2 hl;rfl) (λxs Q h=>by unfold mY at h;repeat (first|(obtain⟨rfl,_⟩:=h;rfl)|(obtain⟨_,h⟩:=h))) (λA outer s H E hr hT=>⟨(G8 iQ dF),(bA (oN (oU d_looked_through hr (aG (qv 0) (aG (qv 1) aQ))))
   (bA (oN (oU d_held_to hr (aG (qv 1) (aG (oT rfl m_) aQ))))
   (bD (dZ (d3 d_gone hr (aG (qv 0) (aG (qv 1) (aG aV (aG (tJ (hT _ hmem) rfl rfl hK BK hgP) (aG (tJ (hT _ hmem) rfl rfl hK BK hgP) aQ)))))))))) , (ay8 iQ dF)⟩)
theorem aC7:FnScope ["wants","length"] ["wants","length"] (aK (aD 12)):=.au
theorem aC8 {c0 P0:ax}{oc:av}{od an:Option ax}{osl:Array (Option av)}{kV doc pm ct:av}(l:K.lookup f=some ⟨oc,od,.func (fnOf "fewest" "fewest" (bK (aD 12)) (bB (aD 12)) (aK (aD 12)) .none kV doc pm an (.ref c0) ct),osl⟩)(cc:codeIn K (.ref c0) "fewest" = true)(kp:keepIn K (.ref f)=true)(m:mg "fewest" = some (.ref f))(hK:codeHdIn K c0 P0=true)(BK:fX base mg P0)(hgP:mainGlobals≠P0)(hmem:((P0,"fewest.<locals>.<lambda>"):ax×Str)∈T)(d_gone:Df P w K mg base 6 "gone_through" ["wants","length","first","passed","joined"] (pN lF))(fv:oX K mg "with_slice"):eM P w K mg base T 7 "fewest" ["wants","length"] n4:=
 eM.ofC l cc kp m aC7 (λ_ _ _ _ _ _ us hl=>by obtain⟨_,_,rfl⟩:=us2 hl;rfl) (λxs Q h=>by unfold n4 at h;repeat (first|(obtain⟨rfl,_⟩:=h;rfl)|(obtain⟨_,h⟩:=h))) (λA outer s H E hr hT=>⟨(J4 lF),(bD (dZ (d3 d_gone hr (aG (qv 0) (aG (qv 1) (aG (gC (aG aV (aG (gC aQ) aQ))) (aG (ap8 fv) (aG (tJ (hT _ hmem) rfl rfl hK BK hgP) aQ)))))))),(az2 lF)⟩)
theorem aC9:FnScope ["wants","length"] ["wants","length"] (aK (aD 11)):=.au
theorem aD0 (B:Bt mg)(F:bN K "strip_least" "strip_least" (aD 11) f fd)(m:mg "strip_least" = some (.ref f))(d_looked_through:gD P w K mg base 1 "looked_through" ["wants","length"] jF)(d_held_to:gD P w K mg base 1 "held_to" ["length","most"] jG)(d_fewest:eM P w K mg base T 7 "fewest" ["wants","length"] n4){u_MOST_COUNTED:Nat}(m_MOST_COUNTED:mg "MOST_COUNTED" = some (.int 300 u_MOST_COUNTED)):eM P w K mg base T 8 "strip_least" ["wants","length"] n5:=
 eM.of F m aC9 (λ_ _ _ _ _ _ us hl=>by obtain⟨_,_,rfl⟩:=us2 hl;rfl) (λxs Q h=>by unfold n5 at h;repeat (first|(obtain⟨rfl,_⟩:=h;rfl)|(obtain⟨_,h⟩:=h))) (λcdv A outer s H E hr hT=>by
  exact⟨(J5),(bA (oN (oU d_looked_through hr (aG (qv 0) (aG (qv 1) aQ))))
   (bA (oN (oU d_held_to hr (aG (qv 1) (aG (oT rfl m_MOST_COUNTED) aQ))))
   (bD (dZ (cG (tN hT d_fewest hr (aG (qv 0) (aG (qv 1) aQ))) aV))))),az3⟩)
theorem K8:FnScope ["script","length","ways","none","due","turn","least","want","told"] ["script"] (aK (aD 25)):=.au
theorem aD1 (B:Bt mg)(F:bN K "law" "law" (aD 25) f fd)(d__law_cell_at:Df P w K mg base 1 "_law_cell_at" ["script","k"] jC)(d_strip_count:eM P w K mg base T 7 "strip_count" ["wants","length"] mY)(d__law_whole:Df P w K mg base 1 "_law_whole" ["found"] mE)(d_strip_least:eM P w K mg base T 8 "strip_least" ["wants","length"] n5):cK P w K mg base bX 9 f fd ["script"] (mM K T u8):=
 ax5 F K8 (λxs Q h=>by unfold u8 at h;repeat (first|(obtain⟨rfl,_⟩:=h;rfl)|(obtain⟨_,h⟩:=h))) (λcdv A outer s H E hr hT=>by
  have nd:=K8.nd
  exact⟨(J9),(bA (d2 (i:=1) nd (rV (rT (d3 d__law_cell_at hr (aG (qv 0) (aG aV aQ))) aV) aV))
   (bA (gO (af3 (rV (d3 d__law_cell_at hr (aG (qv 0) (aG aV aQ))) aV) aV) (bD (d2 (i:=1) nd (rV (rT (d3 d__law_cell_at hr (aG (qv 0) (aG aV aQ))) aV) aV))) gN)
   (bA (rZ (i:=2) nd (lZ (aG aV (aG aV (aG aV aQ)))))
   (bA (sA PassesOwn.never (af1 (hV B (aG (qv 2) aQ)) (qv 1))
    (bD (af7 2 (iH (cG (qv 2) (sC aV)) (cG (qv 2) (sC aV))))))
   (bA (d2 (i:=3) nd (am6 B (aG (xR (qv 1) aV) aQ)))
   (bA (rZ (i:=4) nd (lZ (aG (ae8 aV aV) (aG (qv 3) (aG (cG (qv 2) (qv 1)) (aG aV aQ))))))
   (bA (iJ 5 nd (kH rfl B.range (qv 1))
    (bD (yB (i:=4) aV (xQ aV (cG (qv 4) aV)))))
   (bA (yB (i:=4) aV (iH (lX (cG (qv 4) aV) aV) (qv 3)))
   (bA (d2 (i:=6) nd (lZ (aG aV (aG (lX aV (qv 3)) (aG (xQ (rT (iH (qv 1) aV) aV) (lX aV (qv 3))) (aG (qv 1) aQ))))))
   (bA (iJ 7 nd (kH rfl B.range aV)
    (bA (d2 (i:=8) nd (tN hT d_strip_count hr (aG (gC (aG (qv 7) aQ)) (aG (qv 1) aQ))))
    (bD (gO (xT (lY (af5 (af4 (d3 d__law_whole hr (aG (qv 8) aQ)))) (lY (rY (qv 8) (cG (qv 4) (xZ B rfl (aG (qv 7) (aG aV aQ))))) (xS (rY (tN hT d_strip_least hr (aG (lZ (aG (qv 7) aQ)) (aG (qv 1) aQ))) (cG (qv 6) (xZ B rfl (aG (qv 7) (aG aV aQ))))))))) (bD (dZ iG)) gN))))
   (bD (dZ iG)))))))))))),az8⟩)
end
set_option autoImplicit true in
theorem aD2 {l:OpenLaw}{w:ba}{K:Frag}{h:Heap}{mg:Str->Option av}(X:K.In h)(G:h.Ns mainGlobals mg)(hfa:mg "law" = some (.ref fa))(a0:nsIn K mainGlobals "looked_through" = some (some (.ref f0)))(l0:K.lookup f0=some ⟨oc0,od0,.func (fnOf "looked_through" "looked_through" (bK (aD 8)) (bB (aD 8)) (aK (aD 8)) .none kV0 dc0 pm0 an0 cd0 ct0),sl0⟩)(c0:codeIn K cd0 "looked_through" = true)(k0:keepIn K (.ref f0)=true)(a1:nsIn K mainGlobals "held_to" = some (some (.ref f1)))(l1:K.lookup f1=some ⟨oc1,od1,.func (fnOf "held_to" "held_to" (bK (aD 9)) (bB (aD 9)) (aK (aD 9)) .none kV1 dc1 pm1 an1 cd1 ct1),sl1⟩)(c1:codeIn K cd1 "held_to" = true)(k1:keepIn K (.ref f1)=true)(a2:nsIn K mainGlobals "has" = some (some (.ref f2)))(l2:K.lookup f2=some ⟨oc2,od2,.func (fnOf "has" "has" (bK (aD 14)) (bB (aD 14)) (aK (aD 14)) .none kV2 dc2 pm2 an2 cd2 ct2),sl2⟩)(c2:codeIn K cd2 "has" = true)(k2:keepIn K (.ref f2)=true)(a3:nsIn K mainGlobals "_law_cell_at" = some (some (.ref f3)))(l3:K.lookup f3=some ⟨oc3,od3,.func (fnOf "_law_cell_at" "_law_cell_at" (bK (aD 23)) (bB (aD 23)) (aK (aD 23)) .none kV3 dc3 pm3 an3 cd3 ct3),sl3⟩)(c3:codeIn K cd3 "_law_cell_at" = true)(k3:keepIn K (.ref f3)=true)(a4:nsIn K mainGlobals "_law_whole" = some (some (.ref f4)))(l4:K.lookup f4=some ⟨oc4,od4,.func (fnOf "_law_whole" "_law_whole" (bK (aD 24)) (bB (aD 24)) (aK (aD 24)) .none kV4 dc4 pm4 an4 cd4 ct4),sl4⟩)(c4:codeIn K cd4 "_law_whole" = true)(k4:keepIn K (.ref f4)=true)(a5:nsIn K mainGlobals "count_in" = some (some (.ref f5)))(l5:K.lookup f5=some ⟨oc5,od5,.func (fnOf "count_in" "count_in" (bK (aD 15)) (bB (aD 15)) (aK (aD 15)) .none kV5 dc5 pm5 an5 cd5 ct5),sl5⟩)(c5:codeIn K cd5 "count_in" = true)(k5:keepIn K (.ref f5)=true)(a6:nsIn K mainGlobals "join_in" = some (some (.ref f6)))(l6:K.lookup f6=some ⟨oc6,od6,.func (fnOf "join_in" "join_in" (bK (aD 17)) (bB (aD 17)) (aK (aD 17)) .none kV6 dc6 pm6 an6 cd6 ct6),sl6⟩)(c6:codeIn K cd6 "join_in" = true)(k6:keepIn K (.ref f6)=true)(a7:nsIn K mainGlobals "with_kindled" = some (some (.ref f7)))(l7:K.lookup f7=some ⟨oc7,od7,.func (fnOf "with_kindled" "with_kindled" (bK (aD 21)) (bB (aD 21)) (aK (aD 21)) .none kV7 dc7 pm7 an7 cd7 ct7),sl7⟩)(c7:codeIn K cd7 "with_kindled" = true)(k7:keepIn K (.ref f7)=true)(a8:nsIn K mainGlobals "with_slice" = some (some (.ref f8)))(l8:K.lookup f8=some ⟨oc8,od8,.func (fnOf "with_slice" "with_slice" (bK (aD 13)) (bB (aD 13)) (aK (aD 13)) .none kV8 dc8 pm8 an8 cd8 ct8),sl8⟩)(c8:codeIn K cd8 "with_slice" = true)(k8:keepIn K (.ref f8)=true)(a9:nsIn K mainGlobals "settled" = some (some (.ref f9)))(l9:K.lookup f9=some ⟨oc9,od9,.func (fnOf "settled" "settled" (bK (aD 20)) (bB (aD 20)) (aK (aD 20)) .none kV9 dc9 pm9 an9 cd9 ct9),sl9⟩)(c9:codeIn K cd9 "settled" = true)(k9:keepIn K (.ref f9)=true)(a10:nsIn K mainGlobals "next_answer" = some (some (.ref f10)))(l10:K.lookup f10=some ⟨oc10,od10,.func (fnOf "next_answer" "next_answer" (bK (aD 19)) (bB (aD 19)) (aK (aD 19)) .none kV10 dc10 pm10 an10 cd10 ct10),sl10⟩)(c10:codeIn K cd10 "next_answer" = true)(k10:keepIn K (.ref f10)=true)(a11:nsIn K mainGlobals "answers_behind" = some (some (.ref f11)))(l11:K.lookup f11=some ⟨oc11,od11,.func (fnOf "answers_behind" "answers_behind" (bK (aD 18)) (bB (aD 18)) (aK (aD 18)) .none kV11 dc11 pm11 an11 cd11 ct11),sl11⟩)(c11:codeIn K cd11 "answers_behind" = true)(k11:keepIn K (.ref f11)=true)(a12:nsIn K mainGlobals "gone_through" = some (some (.ref f12)))(l12:K.lookup f12=some ⟨oc12,od12,.func (fnOf "gone_through" "gone_through" (bK (aD 16)) (bB (aD 16)) (aK (aD 16)) .none kV12 dc12 pm12 an12 cd12 ct12),sl12⟩)(c12:codeIn K cd12 "gone_through" = true)(k12:keepIn K (.ref f12)=true){cq13 pq13:ax}(a13:nsIn K mainGlobals "strip_count" = some (some (.ref f13)))(l13:K.lookup f13=some ⟨oc13,od13,.func (fnOf "strip_count" "strip_count" (bK (aD 10)) (bB (aD 10)) (aK (aD 10)) .none kV13 dc13 pm13 an13 (.ref cq13) ct13),sl13⟩)(c13:codeIn K (.ref cq13) "strip_count" = true)(k13:keepIn K (.ref f13)=true)(tb13:codeHdIn K cq13 pq13=true)(ng13:(mainGlobals==pq13)=false){cq14 pq14:ax}(a14:nsIn K mainGlobals "fewest" = some (some (.ref f14)))(l14:K.lookup f14=some ⟨oc14,od14,.func (fnOf "fewest" "fewest" (bK (aD 12)) (bB (aD 12)) (aK (aD 12)) .none kV14 dc14 pm14 an14 (.ref cq14) ct14),sl14⟩)(c14:codeIn K (.ref cq14) "fewest" = true)(k14:keepIn K (.ref f14)=true)(tb14:codeHdIn K cq14 pq14=true)(ng14:(mainGlobals==pq14)=false)(a15:nsIn K mainGlobals "strip_least" = some (some (.ref f15)))(l15:K.lookup f15=some ⟨oc15,od15,.func (fnOf "strip_least" "strip_least" (bK (aD 11)) (bB (aD 11)) (aK (aD 11)) .none kV15 dc15 pm15 an15 cd15 ct15),sl15⟩)(c15:codeIn K cd15 "strip_least" = true)(k15:keepIn K (.ref f15)=true)(a16:nsIn K mainGlobals "law" = some (some (.ref f16)))(l16:K.lookup f16=some ⟨oc16,od16,.func (fnOf "law" "law" (bK (aD 25)) (bB (aD 25)) (aK (aD 25)) .none kV16 dc16 pm16 an16 cd16 ct16),sl16⟩)(c16:codeIn K cd16 "law" = true)(k16:keepIn K (.ref f16)=true)(z_len:nsIn K mainGlobals "len" = some none)(z_range:nsIn K mainGlobals "range" = some none)(z_tuple:nsIn K mainGlobals "tuple" = some none)(z_list:nsIn K mainGlobals "list" = some none)(z_sorted:nsIn K mainGlobals "sorted" = some none)(z_all:nsIn K mainGlobals "all" = some none)(z_any:nsIn K mainGlobals "any" = some none)(z_zip:nsIn K mainGlobals "zip" = some none)(z_min:nsIn K mainGlobals "min" = some none)(z_max:nsIn K mainGlobals "max" = some none)(z_sum:nsIn K mainGlobals "sum" = some none)(z_isinstance:nsIn K mainGlobals "isinstance" = some none)(z_int:nsIn K mainGlobals "int" = some none)(z_bool:nsIn K mainGlobals "bool" = some none)(z_enumerate:nsIn K mainGlobals "enumerate" = some none){u_MOST_COUNTED:Nat}(z_MOST_COUNTEDx:nsIn K mainGlobals "MOST_COUNTED" = some (some (.int 300 u_MOST_COUNTED))){u_MOST_WANTED_ON_STRIPS:Nat}(z_MOST_WANTED_ON_STRIPSx:nsIn K mainGlobals "MOST_WANTED_ON_STRIPS" = some (some (.int 6 u_MOST_WANTED_ON_STRIPS))){u_MOST_WIDE:Nat}(z_MOST_WIDEx:nsIn K mainGlobals "MOST_WIDE" = some (some (.int 2 u_MOST_WIDE))){C_HearthError C_BadBoard C_TooMany:ax}(aX_HE:nsIn K mainGlobals "HearthError" = some (some (.ref C_HearthError)))(aX_BB:nsIn K mainGlobals "BadBoard" = some (some (.ref C_BadBoard)))(aX_TM:nsIn K mainGlobals "TooMany" = some (some (.ref C_TooMany)))(zX_BW:nsIn K mainGlobals "BadWeb" = some none)(zX_BS:nsIn K mainGlobals "BadSet" = some none)(zX_BO:nsIn K mainGlobals "BadOrder" = some none)(zX_BP:nsIn K mainGlobals "BadPrices" = some none)(zX_BD:nsIn K mainGlobals "BadDeed" = some none)(zX_NW:nsIn K mainGlobals "NotWood" = some none)(zX_NP:nsIn K mainGlobals "NoPaper" = some none)(zX_NS:nsIn K mainGlobals "NoSuch" = some none)(zX_NT:nsIn K mainGlobals "NoText" = some none)(zX_OR:nsIn K mainGlobals "OddRound" = some none)(y_fg:specialIn K (.builtin "object.__class__") "__get__" = some (some (.builtin "getset_descriptor.__get__")))(y_ft:takesIn K (.builtin "object.__class__")=some true)(z_VE:nsIn K mainGlobals "ValueError" = some none)(y1_HE:isClsIn K C_HearthError=true)(y2_HE:typeIn K (.ref C_HearthError)=some (.type "type"))(y3_HE:findIn K (.ref C_HearthError) "__getattribute__" = some (some (.builtin "BaseException.__getattribute__")))(y4_HE:findIn K (.ref C_HearthError) "__getattr__" = some none)(y5_HE:findIn K (.ref C_HearthError) "__class__" = some (some (.builtin "object.__class__")))(y6_HE:mroIn K C_HearthError (.type "object")=some true)(y7_HE:mroIn K C_HearthError (.type "BaseException")=some true)(y1_BB:isClsIn K C_BadBoard=true)(y2_BB:typeIn K (.ref C_BadBoard)=some (.type "type"))(y3_BB:findIn K (.ref C_BadBoard) "__getattribute__" = some (some (.builtin "BaseException.__getattribute__")))(y4_BB:findIn K (.ref C_BadBoard) "__getattr__" = some none)(y5_BB:findIn K (.ref C_BadBoard) "__class__" = some (some (.builtin "object.__class__")))(y6_BB:mroIn K C_BadBoard (.type "object")=some true)(y7_BB:mroIn K C_BadBoard (.type "BaseException")=some true)(y1_TM:isClsIn K C_TooMany=true)(y2_TM:typeIn K (.ref C_TooMany)=some (.type "type"))(y3_TM:findIn K (.ref C_TooMany) "__getattribute__" = some (some (.builtin "BaseException.__getattribute__")))(y4_TM:findIn K (.ref C_TooMany) "__getattr__" = some none)(y5_TM:findIn K (.ref C_TooMany) "__class__" = some (some (.builtin "object.__class__")))(y6_TM:mroIn K C_TooMany (.type "object")=some true)(y7_TM:mroIn K C_TooMany (.type "BaseException")=some true)(q_BB:excIn K C_BadBoard [.type "ValueError",.type "Exception",.type "BaseException",.type "object"] "ValueError.__new__" = true)(q_TM:excIn K C_TooMany [.type "ValueError",.type "Exception",.type "BaseException",.type "object"] "ValueError.__new__" = true)
 :∃fd:FuncData,(∀(s:aw) (v:av),BindsTo s fd ⟨[v],[]⟩ [("script",v)])/\∀base:Heap,K.In base->base.Ns mainGlobals mg->(∀z∈([(pq14,"fewest.<locals>.<lambda>"),(pq13,"strip_count.<locals>.<lambda>")]:List (ax×Str)),fX base mg z.1)->cK l.prog w K mg base bX 9 fa fd ["script"] (pL K [(pq14,"fewest.<locals>.<lambda>"),(pq13,"strip_count.<locals>.<lambda>")]):=by
 have e:=hfa.symm.trans (mg_of X G a16);cases e;have F0:=cY (st:=aD 8) l0 c0 k0;have m0:=mg_of X G a0;have F1:=cY (st:=aD 9) l1 c1 k1;have m1:=mg_of X G a1;have F2:=cY (st:=aD 14) l2 c2 k2;have m2:=mg_of X G a2;have F3:=cY (st:=aD 23) l3 c3 k3;have m3:=mg_of X G a3;have F4:=cY (st:=aD 24) l4 c4 k4;have m4:=mg_of X G a4;have F5:=cY (st:=aD 15) l5 c5 k5;have m5:=mg_of X G a5;have F6:=cY (st:=aD 17) l6 c6 k6;have m6:=mg_of X G a6;have F7:=cY (st:=aD 21) l7 c7 k7;have m7:=mg_of X G a7;have F8:=cY (st:=aD 13) l8 c8 k8;have m8:=mg_of X G a8;have F9:=cY (st:=aD 20) l9 c9 k9;have m9:=mg_of X G a9;have F10:=cY (st:=aD 19) l10 c10 k10;have m10:=mg_of X G a10;have F11:=cY (st:=aD 18) l11 c11 k11;have m11:=mg_of X G a11;have F12:=cY (st:=aD 16) l12 c12 k12;have m12:=mg_of X G a12;have F13:=cY (st:=aD 10) l13 c13 k13;have m13:=mg_of X G a13;have F14:=cY (st:=aD 12) l14 c14 k14;have m14:=mg_of X G a14;have F15:=cY (st:=aD 11) l15 c15 k15;have m15:=mg_of X G a15;have F16:=cY (st:=aD 25) l16 c16 k16;have m16:=mg_of X G a16;have B:Bt mg:=⟨mg_none_of X G z_len,mg_none_of X G z_range,mg_none_of X G z_tuple,mg_none_of X G z_list,mg_none_of X G z_sorted,mg_none_of X G z_all,mg_none_of X G z_any,mg_none_of X G z_zip,mg_none_of X G z_min,mg_none_of X G z_max,mg_none_of X G z_sum,mg_none_of X G z_isinstance,mg_none_of X G z_int,mg_none_of X G z_bool,mg_none_of X G z_enumerate⟩;have fv_with_slice:oX K mg "with_slice":=⟨_,m8,a8⟩;have m_MOST_COUNTED:=mg_of X G z_MOST_COUNTEDx;have m_MOST_WANTED_ON_STRIPS:=mg_of X G z_MOST_WANTED_ON_STRIPSx;have m_MOST_WIDE:=mg_of X G z_MOST_WIDEx;refine⟨fnOf "law" "law" (bK (aD 25)) (bB (aD 25)) (aK (aD 25)) .none kV16 dc16 pm16 an16 cd16 ct16,λs v=>.of_eq rfl,λbase KB _ bms=>?_⟩;have XK_HearthError:sQ K C_HearthError:=⟨y1_HE,y2_HE,y3_HE,y4_HE,y5_HE,y_fg,y_ft,y6_HE,y7_HE⟩;have XK_BadBoard:sQ K C_BadBoard:=⟨y1_BB,y2_BB,y3_BB,y4_BB,y5_BB,y_fg,y_ft,y6_BB,y7_BB⟩;have XK_TooMany:sQ K C_TooMany:=⟨y1_TM,y2_TM,y3_TM,y4_TM,y5_TM,y_fg,y_ft,y6_TM,y7_TM⟩;have x_BadBoard:Xc K mg base "BadBoard":=⟨C_BadBoard,_,_,_,_,yQ KB (mg_of X G aX_BB) q_BB,PySem.F.excBase_ValueError,aX_BB⟩
 have x_TooMany:Xc K mg base "TooMany":=⟨C_TooMany,_,_,_,_,yQ KB (mg_of X G aX_TM) q_TM,PySem.F.excBase_ValueError,aX_TM⟩;have D0:=aA1 (P:=l.prog) (w:=w) (base:=base) B F0 m0  x_BadBoard m_MOST_WIDE m_MOST_WANTED_ON_STRIPS;have D1:=aA3 (P:=l.prog) (w:=w) (base:=base) B F1 m1  x_TooMany;have D2:=aA5 (P:=l.prog) (w:=w) (base:=base) B F2 m2;have D3:=aA7 (P:=l.prog) (w:=w) (base:=base) B F3 m3;have D4:=aA9 (P:=l.prog) (w:=w) (base:=base) B F4 m4;have D5:=aB1 (P:=l.prog) (w:=w) (base:=base) B F5 m5 D2;have D6AC:=aB2 (P:=l.prog) (w:=w) (base:=base) F6 m6 (K3);have D6BC:=aB3 (P:=l.prog) (w:=w) (base:=base) F6 m6 (K3);have D6AF:=aB4 (P:=l.prog) (w:=w) (base:=base) F6 m6 (K4 B);have D6BF:=aB5 (P:=l.prog) (w:=w) (base:=base) F6 m6 (K4 B);have D7:=aB6 (P:=l.prog) (w:=w) (base:=base) B F7 m7 D2;have D8:=aB8 (P:=l.prog) (w:=w) (base:=base) B F8 m8 D5;have D9:=aB9 (P:=l.prog) (w:=w) (base:=base) B F9 m9 D7;have D10:=aC1 (P:=l.prog) (w:=w) (base:=base) B F10 m10 D9;have D11:=aC2 (P:=l.prog) (w:=w) (base:=base) B F11 m11 D10;have D12C:=aC3 (P:=l.prog) (w:=w) (base:=base) B F12 m12 D11 D6AC D6BC az9;have D12F:=aC4 (P:=l.prog) (w:=w) (base:=base) B F12 m12 D11 D6AF D6BF fv_with_slice D8;have D13:=aC6 (P:=l.prog) (w:=w) (base:=base) (T:=[(pq14,"fewest.<locals>.<lambda>"),(pq13,"strip_count.<locals>.<lambda>")]) l13 c13 k13 m13 tb13 (bms _ (aF2 _ aE0)) (G3 ng13) (aF2 _ aE0) D0 D1 D12C m_MOST_COUNTED;have D14:=aC8 (P:=l.prog) (w:=w) (base:=base) (T:=[(pq14,"fewest.<locals>.<lambda>"),(pq13,"strip_count.<locals>.<lambda>")]) l14 c14 k14 m14 tb14 (bms _ aE0) (G3 ng14) aE0 D12F fv_with_slice;have D15:=aD0 (P:=l.prog) (w:=w) (base:=base) B F15 m15 D0 D1 D14 m_MOST_COUNTED;exact ax6 (aD1 (T:=[(pq14,"fewest.<locals>.<lambda>"),(pq13,"strip_count.<locals>.<lambda>")]) B F16 D3 D13 D4 D15)
theorem aD3 {l:OpenLaw}{q:ay}{loose:List Str}{XP:(Str->Option av)->Heap->Prop}{d:DefRec}{K:Params->Frag}{as:List ax}{e:∀P,as=(K P).map (·.1)}{P1 P2:ax}(hn:l.most=some 63)(hdf:d.params.defaults = [])(hN:∀p,(K p).lookup P1=none/\(K p).lookup P2=none){f1 c1:ax}(hA1:∀p,nsIn (K p) mainGlobals "fewest" = some (some (.ref f1)))(hL1:∀p,∃oc od kV doc pm an ct osl,(K p).lookup f1=some ⟨oc,od,.func (fnOf "fewest" "fewest" (bK (aD 12)) (bB (aD 12)) (aK (aD 12)) .none kV doc pm an (.ref c1) ct),osl⟩)(hC1:∀p,codeHdIn (K p) c1 P1=true){f2 c2:ax}(hA2:∀p,nsIn (K p) mainGlobals "strip_count" = some (some (.ref f2)))(hL2:∀p,∃oc od kV doc pm an ct osl,(K p).lookup f2=some ⟨oc,od,.func (fnOf "strip_count" "strip_count" (bK (aD 10)) (bB (aD 10)) (aK (aD 10)) .none kV doc pm an (.ref c2) ct),osl⟩)(hC2:∀p,codeHdIn (K p) c2 P2=true)(h12:P1≠P2)(F:∀(w:ba) (mg:Str->Option av) (fa:ax) (h:Heap),(K w.params).In h->h.Ns mainGlobals mg->mg d.name=some (.ref fa)->
   ∃fd:FuncData,(∀(s:aw) (u:av),BindsTo s fd ⟨[u],[]⟩ [("script",u)])/\∀base:Heap,(K w.params).In base->base.Ns mainGlobals mg->(∀z∈([(P1,"fewest.<locals>.<lambda>"),(P2,"strip_count.<locals>.<lambda>")]:List (ax×Str)),fX base mg z.1)->cK l.prog w (K w.params) mg base bX 9 fa fd ["script"] (pL (K w.params) [(P1,"fewest.<locals>.<lambda>"),(P2,"strip_count.<locals>.<lambda>")])) :
  WalkO q loose XP (kmHook K as e [P1,P2]).says l.row.toRowW d [] (λf vs=>PySem.call f vs):=
 L2.at9 (n:=63) (k:=9) (x:="script") (CX:=λ_=>bX) (T:=[(P1,"fewest.<locals>.<lambda>"),(P2,"strip_count.<locals>.<lambda>")]) (sp:=λw=>pL (K w.params) [(P1,"fewest.<locals>.<lambda>"),(P2,"strip_count.<locals>.<lambda>")]) hn (by decide) hdf ⟨rfl,by decide,by decide⟩ (λw h Y=>km_in_of Y) (λw h Y=>⟨λz hz=>by
  simp only[aE2,aG6,aI4]at hz;rcases hz with rfl|rfl
  ·exact⟨km_tabs_of Y _ aE0,(hN w.params).1,B8 (km_in_of Y) (hC1 w.params)⟩
  ·exact⟨km_tabs_of Y _ (aF2 _ aE0),(hN w.params).2,B8 (km_in_of Y) (hC2 w.params)⟩,by simp only[aG3,List.map_nil,aI9,aE2,aG6,aI4,not_false_eq_true,aO5,and_true];exact h12⟩) F (λ_ _ a ns hl hO hT hS=>⟨hT,a,ns,rfl,at8 hO hS,hl,λ_=>rfl⟩) λ_ _ _ _ _ z=>z
end K_k84
open PySem PySem.W PyProof.Rows
set_option maxRecDepth 100000 in
set_option maxHeartbeats 0 in
theorem PySem.Challenge.cw_kindleweb_k84_whole_rows_of_one_holds : PySem.Challenge.rw_kindleweb_k84_whole_rows_of_one.Holds := by
 w_on;o_law;k_head;(case hw => w_witness2)
 k_fill
 refine' K_k84.aD3 (l := PySem.Challenge.rw_kindleweb_k84_whole_rows_of_one) rfl rfl ?hN ?hA1 ?hL1 ?hC1 ?hA2 ?hL2 ?hC2 ?h12 ?F
 (case hA1 => intro p;k_is)
 (case hL1 => intro p;apply PP.G2;k_is)
 (case hC1 => intro p;kernel_rfl)
 (case hA2 => intro p;k_is)
 (case hL2 => intro p;apply PP.G2;k_is)
 (case hC2 => intro p;kernel_rfl)
 (case hN => intro p;exact⟨by kernel_rfl, by kernel_rfl⟩)
 (case h12 => decide)
 case F =>
  intro w mg fa h KX G hmg
  refine' K_k84.aD2 KX G hmg ?a0 ?l0 ?c0 ?k0 ?a1 ?l1 ?c1 ?k1 ?a2 ?l2 ?c2 ?k2 ?a3 ?l3 ?c3 ?k3 ?a4 ?l4 ?c4 ?k4 ?a5 ?l5 ?c5 ?k5 ?a6 ?l6 ?c6 ?k6 ?a7 ?l7 ?c7 ?k7 ?a8 ?l8 ?c8 ?k8 ?a9 ?l9 ?c9 ?k9 ?a10 ?l10 ?c10 ?k10 ?a11 ?l11 ?c11 ?k11 ?a12 ?l12 ?c12 ?k12 ?a13 ?l13 ?c13 ?k13 ?tb13 ?ng13 ?a14 ?l14 ?c14 ?k14 ?tb14 ?ng14 ?a15 ?l15 ?c15 ?k15 ?a16 ?l16 ?c16 ?k16 ?z_len ?z_range ?z_tuple ?z_list ?z_sorted ?z_all ?z_any ?z_zip ?z_min ?z_max ?z_sum ?z_isinstance ?z_int ?z_bool ?z_enumerate ?z_MOST_COUNTEDx ?z_MOST_WANTED_ON_STRIPSx ?z_MOST_WIDEx ?aX_HE ?aX_BB ?aX_TM ?zX_BW ?zX_BS ?zX_BO ?zX_BP ?zX_BD ?zX_NW ?zX_NP ?zX_NS ?zX_NT ?zX_OR ?y_fg ?y_ft ?z_VE ?y1_HE ?y2_HE ?y3_HE ?y4_HE ?y5_HE ?y6_HE ?y7_HE ?y1_BB ?y2_BB ?y3_BB ?y4_BB ?y5_BB ?y6_BB ?y7_BB ?y1_TM ?y2_TM ?y3_TM ?y4_TM ?y5_TM ?y6_TM ?y7_TM ?q_BB ?q_TM
  (case a0|l0|c0|k0|a1|l1|c1|k1|a2|l2|c2|k2|a3|l3|c3|k3|a4|l4|c4|k4|a5|l5|c5|k5|a6|l6|c6|k6|a7|l7|c7|k7|a8|l8|c8|k8|a9|l9|c9|k9|a10|l10|c10|k10|a11|l11|c11|k11|a12|l12|c12|k12|a13|l13|c13|k13 => k_is)
  (case tb13 => kernel_rfl)
  (case ng13 => decide)
  (case a14|l14|c14|k14 => k_is)
  (case tb14 => kernel_rfl)
  (case ng14 => decide)
  (case a15|l15|c15|k15|a16|l16|c16|k16|z_len|z_range|z_tuple|z_list|z_sorted|z_all|z_any|z_zip|z_min|z_max|z_sum|z_isinstance|z_int|z_bool|z_enumerate|z_MOST_COUNTEDx|z_MOST_WANTED_ON_STRIPSx|z_MOST_WIDEx|aX_HE|aX_BB|aX_TM|zX_BW|zX_BS|zX_BO|zX_BP|zX_BD|zX_NW|zX_NP|zX_NS|zX_NT|zX_OR|y_fg|y_ft|z_VE|y1_HE|y2_HE|y3_HE|y4_HE|y5_HE|y6_HE|y7_HE|y1_BB|y2_BB|y3_BB|y4_BB|y5_BB|y6_BB|y7_BB|y1_TM|y2_TM|y3_TM|y4_TM|y5_TM|y6_TM|y7_TM => k_is)
  (case q_BB|q_TM => k_exc)


