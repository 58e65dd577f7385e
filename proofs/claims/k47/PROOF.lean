import PyProof.Rows.All
import Wide.All
import OpenK.AllK
import Wide.FinOn
import Lean
import PyProof.EqAt
import PyProof.EqKinds
import PyProof.TupleCall
import PyProof.NeKinds
import PyProof.Draws
import PyProof.ZipIter
import PyProof.DictUpdate
import PyProof.AutoSeq1
import PyProof.ListRange
import PyProof.ListMulRoad
import PyProof.FactsAll.tuple_2
import PyProof.Rows.SortShell
import PyProof.EnumFor
import PyProof.EnumMake
import PyProof.EnumStmt
import PyProof.Rows.SortWalk
import KE.KDictList
import PyProof.SumAny
import PyProof.ConsumeWalk
import PyProof.WalksMore
import PyProof.Rows.TupAssign
import PyProof.ExcArgsOwn
import PySem.Challenge.RW_kindleweb_k47_whole_who_must_be_ahead
set_option Elab.async false
set_option linter.all false
set_option maxRecDepth 100000
set_option maxHeartbeats 4000000
section
open PySem PySem.Spec PyProof.Rows
def bd9:=@wpAny_bind
def be0:=@List.size_toArray
def be1:=@Heap.get?_push_of_some
def be2:=@List.length_append
def be3:=@List.getElem?_eq_getElem
def be4:=@wpAny_pure
def be5:=@List.length_map
def be6:=@Nat.le_refl
def be7:=@decide_eq_true
def be8:=@decide_eq_false
def be9:=@List.mem_cons
def bf0:=@List.getElem?_eq_some_iff
def bf1:=@List.not_mem_nil
def bf2:=@Nat.lt_of_lt_of_le
def bf3:=@List.mem_singleton
def bf4:=@List.getElem?_map
def bf5:=@List.mem_cons_self
def bf6:=@Heap.get?_push_size
def bf7:=@List.getD_eq_getElem?_getD
def bf8:=@Heap.lt_size
def bf9:=@List.append_nil
def bg0:=@List.mem_cons_of_mem
def bg1:=@Bool.and_eq_true
def bg2:=@List.mem_append
def bg3:=@List.getElem?_set_ne
def bg6:=@Bool.false_ne_true
def bg7:=@Bool.false_eq_true
def bg9:=@Option.some.inj
def bh1:=@List.mem_of_getElem?
def bh2:=@List.mem_append_right
def bh3:=@List.map_append
def bh4:=@List.getElem?_cons_succ
def bh5:=@Nat.ne_of_lt
def bh6:=@Nat.le_trans
def bh7:=@List.pairwise_singleton
def bh8:=@Nat.zero_le
def bh9:=@List.getElem?_set_self
def bi0:=@Array.length_toList
def bi2:=@List.length_cons
def bi3:=@List.take_length
def bi4:=@List.mem_append_left
def bi5:=@List.length_set
def bi6:=@or_false
def bi7:=@List.mem_map
def bi8:=@List.length_singleton
def bi9:=@List.append_assoc
def bj0:=@List.length_take
def bj2:=@decide_eq_true_eq
def bj3:=@List.nodup_append
def bj4:=@List.map_cons
def bj5:=@PySem.mem_of_lookup
def bj6:=@Nat.le_of_lt
def bj7:=@Nat.lt_irrefl
def bk0:=@wpAny_field
def bk1:=@wpAny_callSpecial?_slot
def bk3:=@PySem.W.kia_one
def bk4:=@List.length_drop
def bk5:=@wpAny_call_entry
def bk6:=@List.lookup_cons
def bk7:=@Nat.le_add_right
def bk8:=@if_false
def bk9:=@wpAny_setField_rec
def bl0:=@PyProof.Rows.callWith_type1
def bl1:=@List.mem_filter
def bl2:=@Int.emod_nonneg
def bl3:=@beq_self_eq_true
def bl4:=@Int.toNat_natCast
def bl5:=@wpAny_newObj_type
def bl7:=@Nat.ne_of_gt
def bl8:=@List.take_of_length_le
def bl9:=@List.find?_cons
def bm0:=@wpAny_holding
def bm2:=@wpAny_mono
def bm3:=@List.take_add_one
def bm4:=@PySem.F.plainAttrs_list
def bm7:=@Bool.eq_iff_iff
def bm8:=@List.all_eq_true
def bn0:=@List.pairwise_map
def bn3:=@List.map_map
def bn5:=@Int.emod_lt_of_pos
def bn8:=@Array.getD_eq_getD_getElem?
def bn9:=@List.all_cons
def bo2:=@Bool.and_false
def bo3:=@Bool.eq_false_iff
def bo4:=@Heap.size_push
def bo5:=@List.length_range
def bo6:=@Heap.SameBut.update
def bo7:=@List.getElem_of_mem
def bo8:=@PyProof.Rows.slot_tuple_getitem
def bo9:=@Array.getElem?_eq_getElem
def bp0:=@List.length_filter_le
def bp1:=@Nat.le_of_not_lt
def bp2:=@List.getElem_mem
def bp3:=@of_decide_eq_false
def bp7:=@Bool.true_and
def bq0:=@List.idxOf_lt_length_iff
def bq2:=@wpAny_truthy_bool
def bq3:=@of_decide_eq_true
def bq5:=@beq_eq_false_iff_ne
def bq6:=@Calls.callWith_builtin
def bq8:=@PyProof.Rows.ne_of_lt_idxOf
def br1:=@decide_eq_decide
def br2:=@List.mem_range
def br3:=@Bool.false_and
def br4:=@wpAny_pyIter_tuple
def br6:=@List.Perm.refl
def br7:=@wpAny_seqItems
def br8:=@List.zip_cons_cons
def bs0:=@Heap.get?_update_self
def bs1:=@wpAny_execs_nil
def bs2:=@wpAny_passesOwn
def bs8:=@Calls.evalArgs_plain
def bt2:=@True.intro
end
namespace L2
open PySem PySem.Spec PyProof.Rows
abbrev aC:=Sum Int Str
def lG:aC->Value->Bool
 | .inl k,v=>Value.isInt k v
 | .inr x,v=>Value.isStrOf x v
def af5 (w:World):aC->Int
 | .inl k=>hashInt k
 | .inr x=>hashStr w x
theorem iH:∀ {k:aC}{v:Value},lG k v=true->(∃ i t,k=Sum.inl i/\v=Value.int i t) ∨ (∃ x t,k=Sum.inr x/\v=Value.str x t)
 | .inl i,v,h=>by
  obtain ⟨t,e⟩:=Value.isInt_shape (k:=i) (v:=v) h
  exact .inl ⟨i,t,rfl,e⟩
 | .inr x,v,h=>by
  obtain ⟨t,e⟩:=Value.isStrOf_shape (x:=x) (v:=v) h
  exact .inr ⟨x,t,rfl,e⟩
theorem af6 (i:Int) (t:Tok):lG (.inl i) (.int i t)=true:=by simp [lG,Value.isInt]
theorem af7 (x:Str) (t:Tok):lG (.inr x) (.str x t)=true:=by simp [lG,Value.isStrOf]
theorem af8 (a b:Int):decide ((Sum.inl a:aC)=Sum.inl b)=(a == b):=by
 by_cases e:a=b
 ·subst e; simp
 ·have h : ¬ (Sum.inl a:aC)=Sum.inl b:=fun q=>e (Sum.inl.inj q)
  rw [be8 h]
  exact (bq5.mpr e).symm
theorem af9 (a b:Str):decide ((Sum.inr a:aC)=Sum.inr b)=decide (a=b):=by
 by_cases e:a=b
 ·subst e; simp
 ·have h : ¬ (Sum.inr a:aC)=Sum.inr b:=fun q=>e (Sum.inr.inj q)
  rw [be8 h,be8 e]
theorem ag0 (a:Int) (b:Str):decide ((Sum.inl a:aC)=Sum.inr b)=false:=be8 (fun q=>nomatch q)
theorem ag1 (a:Str) (b:Int):decide ((Sum.inr a:aC)=Sum.inl b)=false:=be8 (fun q=>nomatch q)
def eM (prog:Program) (w:World):PySem.KeyKind prog w aC where
 is:=lG
 hash:=af5 w
 inj:=fun v a b ha hb=>by
  rcases iH ha with ⟨i,t,rfl,rfl⟩ | ⟨x,t,rfl,rfl⟩
  ·rcases iH hb with ⟨j,u,rfl,e⟩ | ⟨y,u,rfl,e⟩
   ·injection e with e1 _; rw [e1]
   ·exact nomatch e
  ·rcases iH hb with ⟨j,u,rfl,e⟩ | ⟨y,u,rfl,e⟩
   ·exact nomatch e
   ·injection e with e1 _; rw [e1]
 byValue:=fun k v h=>by
  rcases iH h with ⟨i,t,rfl,rfl⟩ | ⟨x,t,rfl,rfl⟩ <;> rfl
 pyHash:=fun hv h=>by
  rcases iH hv with ⟨i,t,rfl,rfl⟩ | ⟨x,t,rfl,rfl⟩
  ·exact wpAny_pyHash_int h
  ·exact wpAny_pyHash_str h
 eqBool:=fun hu hv h=>by
  rcases iH hu with ⟨i,t,rfl,rfl⟩ | ⟨x,t,rfl,rfl⟩
  ·rcases iH hv with ⟨j,u,rfl,rfl⟩ | ⟨y,u,rfl,rfl⟩
   ·rw [af8] at h; exact wpAny_eqBool_int h
   ·rw [ag0] at h; exact SeqAt.EqAt.int_str i t y u _ _ _ _ h
  ·rcases iH hv with ⟨j,u,rfl,rfl⟩ | ⟨y,u,rfl,rfl⟩
   ·rw [ag1] at h; exact SeqAt.EqAt.str_int x t j u _ _ _ _ h
   ·rw [af9] at h; exact wpAny_eqBool_str h
 «strs»:=fun k x t v h=>by
  rcases iH h with ⟨i,u,rfl,e⟩ | ⟨y,u,rfl,e⟩
  ·exact nomatch e
  ·injection e with e1 _
   subst e1
   cases v <;> rfl
theorem ag2 (prog:Program) (w:World) (i:Int) (t:Tok):(eM prog w).is (.inl i) (.int i t)=true:=af6 i t
theorem ag3 (prog:Program) (w:World) (x:Str) (t:Tok):(eM prog w).is (.inr x) (.str x t)=true:=af7 x t
inductive V where
 | non | bl (b:Bool) | int (i:Int) | str (x:Str) | byt (b:Array UInt8) | flt (b:UInt64) | ref (a:Addr) | ty (n:String)
 deriving DecidableEq
def b4:V->Value->Prop
 | .non,u=>u=Value.none
 | .bl b,u=>u=Value.bool b
 | .int i,u=>∃ t,u=Value.int i t
 | .str x,u=>∃ t,u=Value.str x t
 | .byt b,u=>∃ t,u=Value.bytes b t
 | .flt b,u=>∃ t,u=Value.float b t
 | .ref a,u=>u=Value.ref a
 | .ty n,u=>u=Value.type n
abbrev aQ:List V->List Value->Prop:=Paired b4
theorem aQ.length {xs:List V}{us:List Value} (r:aQ xs us):xs.length=us.length:=Paired.length r
theorem aQ.get:∀ {xs:List V}{us:List Value}{i:Nat}{x:V},aQ xs us->xs[i]? = some x->∃ u,us[i]? = some u/\b4 x u
 | _,_,_,_,.nil,e=>by simp at e
 | _,_,0,_,.cons r _,e=>by simp at e; subst e; exact⟨_,rfl,r⟩
 | _,_,i+1,x,.cons _ t,e=>by
  obtain ⟨u,h1,h2⟩:=aQ.get (i:=i) (x:=x) t (by simpa using e)
  exact⟨u,by simpa using h1,h2⟩
theorem aQ.set {x:V}{u:Value} (r:b4 x u):∀ {xs:List V}{us:List Value} (i:Nat),aQ xs us->aQ (xs.set i x) (us.set i u)
 | _,_,_,.nil=>.nil
 | _,_,0,.cons _ t=>.cons r t
 | _,_,i+1,.cons q t=>.cons q (aQ.set r i t)
theorem aQ.append:∀ {xs ys:List V}{us ws:List Value},aQ xs us->aQ ys ws->aQ (xs ++ ys) (us ++ ws)
 | _,_,_,_,.nil,s=>s
 | _,_,_,_,.cons r t,s=>.cons r (aQ.append t s)
theorem aQ.take:∀ {xs:List V}{us:List Value} (n:Nat),aQ xs us->aQ (xs.take n) (us.take n)
 | _,_,0,_=>.nil
 | _,_,_+1,.nil=>.nil
 | _,_,n+1,.cons r t=>.cons r (aQ.take n t)
theorem aQ.drop:∀ {xs:List V}{us:List Value} (n:Nat),aQ xs us->aQ (xs.drop n) (us.drop n)
 | _,_,0,r=>r
 | _,_,_+1,.nil=>.nil
 | _,_,n+1,.cons _ t=>aQ.drop n t
def kG:Option V->Option Value->Prop
 | some v,some u=>b4 v u
 | none,none=>True
 | _,_=>False
def KV {κ:Type}:List (κ × V)->List (κ × Value)->Prop:=Paired fun (p:κ × V) (q:κ × Value)=>p.1=q.1/\b4 p.2 q.2
def kV:aC->V
 | .inl i=>.int i
 | .inr x=>.str x
inductive HO where
 | lst (xs:List V)
 | tup (xs:List V)
 | dK (kvs:List (aC × V)) | dT (kvs:List (List aC × V))
 | set (S:Int->Bool) (n:Nat)
 | ins (C dx:Addr) (fs:List (Str × V))
 | own (x:Addr)
 | xd (fs:List (Str × V))
 | met (f x:Addr)
 | rng (lo hi:Int)
 | frz (o:Obj) (u:HO)
 | tbl (ps:Array Value)
 | ext (φ:Heap->Prop)
abbrev Hp:=Addr->Option HO
def upd (H:Hp) (a:Addr) (o:HO):Hp:=fun b=>if b=a then some o else H b
theorem bD {H:Hp}{a:Addr}{o:HO}:upd H a o a=some o:=by unfold upd; rw [if_pos rfl]
theorem aI {H:Hp}{a b:Addr}{o:HO} (h:b ≠ a):upd H a o b=H b:=by unfold upd; rw [if_neg h]
theorem xZ {H:Hp}{a b:Addr}{o u:HO} (h:H a=some o) (h':H b=some u) (d:o ≠ u):a ≠ b:=by
 intro e; subst e; rw [h] at h'; exact d (bg9 h')
theorem cF {H:Hp}{a b:Addr}{o:HO} (h:H a=some o) (h':H b=none):a ≠ b:=by
 intro e; subst e; rw [h] at h'; cases h'
def iI (h:Heap) (a:Addr):Prop:=∀ o,h.get? a=some o->o.dict=none
theorem iI.new (h:Heap) (o:Obj) (d:o.dict=none) (s:o.isFreed=false:=by rfl):iI (h.push o) h.objs.size:=fun u e=>by
 rw [bf6 h (o:=o) s] at e
 cases e; exact d
theorem iI.stay {h h':Heap}{a:Addr}{o:Obj} (n:iI h a) (e:h.get? a=some o) (e':h'.get? a=some o):iI h' a:=fun u hu=>by
 rw [e'] at hu; cases hu; exact n _ e
section
variable (P : Program) (w : World)
def bR (H:Hp) (h:Heap) (a:Addr):HO->Prop
 | .lst xs=>xs.length<=sizeLine/\∃ (its:List Value) (n:Nat),aQ xs its/\h.get? a=some { cls:=.type "list",data:=.seq its.toArray n }
 | .tup xs=>xs.length<=sizeLine/\∃ its:List Value,aQ xs its/\IsTup h a its.toArray/\iI h a
 | .dK kvs=>kvs.length<=sizeLine/\(a == sysModules)=false/\∃ vs,KV kvs vs/\h.DictOf (eM P w) a vs
 | .dT kvs=>kvs.length<=sizeLine/\(a == sysModules)=false/\∃ xs:List (List aC × Addr × Value),
   Paired (fun (p:List aC × V) (q:List aC × Addr × Value)=>p.1=q.1/\H q.2.1=some (.tup (p.1.map kV))/\b4 p.2 q.2.2) kvs xs/\
   ∃ o es ep,h.get? a=some o/\o.ExactDict/\o.data = .dict es ep/\es.toList=xs.map (entryOfKey (tupleKind (eM P w)))/\(xs.map (·.1)).Nodup
 | .set S n=>h.SetOf (intKind P w) a S n
 | .ins C dx fs=>H dx=some (.own a)/\fs.length<=1000/\dx ≠ a/\h.get? a=some (PySem.W.instObj C dx)/\
   ∃ mA,h.Ns1 dx mA/\(∀ f,kG (fs.lookup f) (mA f))/\PySem.Within mA (fs.map (·.1))
 | .own _=>∃ o,h.get? a=some o
 | .xd fs=>∃ mA,h.Ns1 a mA/\∀ f,kG (fs.lookup f) (mA f)
 | .rng lo hi=>∃ t u v,h.get? a=some { cls:=.type "range",data:=.fields #[.int lo t,.int hi u,.int 1 v] }
 | .frz o u=>h.get? a=some o/\bR H h a u
 | .tbl ps=>h.get? a=some { cls:=.none,data:=.fields ps }
 | .met f x=>h.get? a=some (PySem.W.methodObj (.ref f) (.ref x))
 | .ext φ=>φ h/\(∃ o,h.get? a=some o)/\∀ h1 h2:Heap,φ h1->(∀ o,h1.get? a=some o->h2.get? a=some o)->φ h2
def bW (H:Hp) (h:Heap):Prop:=∀ a o,H a=some o->bR P w H h a o
end
section
variable {P : Program} {w : World} {H H' : Hp} {h h' : Heap} {a : Addr} {o : HO}
theorem bR.lt (x:bR P w H h a o):a < h.objs.size:=by
 cases o with
 | lst xs=>obtain ⟨_,_,_,_,e⟩:=x; exact bf8 e
 | tup xs=>obtain ⟨_,_,_,p,_⟩:=x; exact p.lt
 | dK kvs=>obtain ⟨_,_,_,_,o,_,_,e,_⟩:=x; exact bf8 e
 | dT kvs=>obtain ⟨_,_,_,_,o,_,_,e,_⟩:=x; exact bf8 e
 | set S n=>obtain ⟨o,_,_,_,e,_⟩:=x; exact bf8 e
 | ins C dx fs=>obtain ⟨_,_,_,e,_⟩:=x; exact bf8 e
 | own y=>obtain ⟨_,e⟩:=x; exact bf8 e
 | xd fs=>obtain ⟨_,⟨_,_,_,e,_⟩,_⟩:=x; exact bf8 e
 | rng lo hi=>obtain ⟨_,_,_,e⟩:=x; exact bf8 e
 | frz ob u=>obtain ⟨e,_⟩:=x; exact bf8 e
 | tbl ps=>exact bf8 (show h.get? a=some _ from x)
 | met f y=>exact bf8 (show h.get? a=some _ from x)
 | ext φ=>obtain ⟨_,⟨_,e⟩,_⟩:=x; exact bf8 e
theorem Paired.mapP {α β:Type}{F G:α->β->Prop}:∀ {l₁:List α}{l₂:List β},Paired F l₁ l₂->(∀ a b,F a b->G a b)->Paired G l₁ l₂
 | _,_,.nil,_=>.nil
 | _,_,.cons r t,f=>.cons (f _ _ r) (Paired.mapP t f)
theorem bR.stay (x:bR P w H h a o) (k:∀ b u,(b=a ∨ H b=some (.own a))->h.get? b=some u->h'.get? b=some u)
  (ho:∀ b,H b=some (.own a)->H' b=some (.own a)) (ht:∀ b xs,H b=some (.tup xs)->H' b=some (.tup xs)):bR P w H' h' a o:=by
 induction o with
 | lst xs=>obtain ⟨z,its,n,r,e⟩:=x; exact⟨z,its,n,r,k _ _ (.inl rfl) e⟩
 | tup xs=>obtain ⟨z,its,r,⟨ob,e,c⟩,nd⟩:=x; exact⟨z,its,r,⟨ob,k _ _ (.inl rfl) e,c⟩,nd.stay e (k _ _ (.inl rfl) e)⟩
 | dK kvs=>obtain ⟨z,y,vs,r,ob,es,ep,e,c⟩:=x; exact⟨z,y,vs,r,ob,es,ep,k _ _ (.inl rfl) e,c⟩
 | dT kvs=>
  obtain ⟨z,y,xs,r,ob,es,ep,e,c⟩:=x
  exact⟨z,y,xs,Paired.mapP r fun p q z=>⟨z.1,ht _ _ z.2.1,z.2.2⟩,ob,es,ep,k _ _ (.inl rfl) e,c⟩
 | set S n=>obtain ⟨ob,es,ep,t,e,c⟩:=x; exact⟨ob,es,ep,t,k _ _ (.inl rfl) e,c⟩
 | ins C dx fs=>
  obtain ⟨d,z,ne,e,mA,⟨od,es,ep,e2,c⟩,r⟩:=x
  exact⟨ho _ d,z,ne,k _ _ (.inl rfl) e,mA,⟨od,es,ep,k _ _ (.inr d) e2,c⟩,r⟩
 | own y=>obtain ⟨ob,e⟩:=x; exact⟨ob,k _ _ (.inl rfl) e⟩
 | xd fs=>obtain ⟨mA,⟨od,es,ep,e,c⟩,r⟩:=x; exact⟨mA,⟨od,es,ep,k _ _ (.inl rfl) e,c⟩,r⟩
 | rng lo hi=>obtain ⟨t,u,v,e⟩:=x; exact⟨t,u,v,k _ _ (.inl rfl) e⟩
 | frz ob u ih=>obtain ⟨e,q⟩:=x; exact⟨k _ _ (.inl rfl) e,ih q⟩
 | tbl ps=>
  have e:h.get? a=some { cls:=.none,data:=.fields ps }:=x
  show h'.get? a=some { cls:=.none,data:=.fields ps }
  exact k a _ (.inl rfl) e
 | met f y=>
  have e:h.get? a=some (PySem.W.methodObj (.ref f) (.ref y)):=x
  show h'.get? a=some (PySem.W.methodObj (.ref f) (.ref y))
  exact k a _ (.inl rfl) e
 | ext φ=>obtain ⟨p,⟨o,e⟩,st⟩:=x; exact⟨st _ _ p fun o q=>k _ _ (.inl rfl) q,⟨o,k _ _ (.inl rfl) e⟩,st⟩
theorem bW.lt (x:bW P w H h) (e:H a=some o):a < h.objs.size:=(x a o e).lt
theorem bW.fresh (x:bW P w H h) (e:h.objs.size<=a):H a=none:=by
 cases q:H a with
 | none=>rfl
 | some u=>exact absurd (bf2 (x.lt q) e) (bj7 _)
theorem bW.kept (x:bW P w H h) (k:∀ b u,h.get? b=some u->h'.get? b=some u):bW P w H h':=fun a o e=>
 (x a o e).stay (fun b u _ q=>k b u q) (fun _ q=>q) fun _ _ q=>q
theorem bW.laid (x:bW P w H h) (k:∀ b u,h.get? b=some u->h'.get? b=some u) (hp:h.objs.size<=a) (new:bR P w (upd H a o) h' a o):bW P w (upd H a o) h':=fun b u e=>by
 have hn:=x.fresh hp
 by_cases hb:b=a
 ·subst hb; rw [bD] at e; cases e; exact new
 ·rw [aI hb] at e
  exact (x b u e).stay (fun c v _ q=>k c v q) (fun c q=>by rw [aI (cF q hn)]; exact q) fun c xs q=>by rw [aI (cF q hn)]; exact q
end
def Rd (H:Hp) (a:Addr) (u:HO):Prop:=H a=some u ∨ ∃ o,H a=some (.frz o u)
theorem Rd.ok {P:Program}{w:World}{H:Hp}{h:Heap}{a:Addr}{u:HO} (r:Rd H a u) (x:bW P w H h):bR P w H h a u:=by
 rcases r with r | ⟨o,r⟩
 ·exact x a u r
 ·obtain ⟨_,q⟩:=x a _ r
  exact q
def mY:Option HO->Prop
 | some (.lst _)=>True
 | some (.dK _)=>True
 | some (.dT _)=>True
 | some (.set _ _)=>True
 | some (.ins _ _ _)=>True
 | some (.ext _)=>True
 | _=>False
section
variable {P : Program} {w : World} {H : Hp} {h h' : Heap} {x e : Addr} {o' : HO}
theorem bW.write (ok:bW P w H h) (mu:mY (H x)) (he:e=x ∨ H e=some (.own x)) (k:∀ b u,b ≠ e->h.get? b=some u->h'.get? b=some u) (heo:∃ u,h'.get? e=some u)
  (new:bR P w (upd H x o') h' x o'):bW P w (upd H x o') h':=fun b u q=>by
 have nown:∀ c y,H c=some (.own y)->c ≠ x:=fun c y r z=>by subst z; rw [r] at mu; exact mu
 have ntup:∀ c xs,H c=some (.tup xs)->c ≠ x:=fun c xs r z=>by subst z; rw [r] at mu; exact mu
 by_cases hb:b=x
 ·subst hb; rw [bD] at q; cases q; exact new
 ·rw [aI hb] at q
  by_cases hbe:b=e
  ·have q':H b=some (.own x):=by
    rcases he with z | z
    ·exact absurd (hbe.trans z) hb
    ·rw [hbe]; exact z
   rw [q] at q'; cases q'
   obtain ⟨v,hv⟩:=heo
   exact⟨v,by rw [hbe]; exact hv⟩
  ·refine (ok b u q).stay (fun c v hc r=>k c v ?_ r) (fun c r=>by rw [aI (nown c b r)]; exact r) fun c xs r=>by rw [aI (ntup c xs r)]; exact r
   rcases hc with rfl | hc
   ·exact hbe
   ·rintro rfl
    rcases he with z | z
    ·exact nown c b hc z
    ·rw [hc] at z; cases z; exact hb rfl
end
structure Un (fs ex:List Addr) (H H':Hp) (h h':Heap):Prop where
 keep:∀ b o,h.get? b=some o->H b=none->b ∉ fs->b ∉ ex->h'.get? b=some o
 slot:∀ b o,h.get? b=some o->H b=none->b ∈ fs->b ∉ ex->∃ sl,h'.get? b=some { o with slots:=sl }
 free:∀ b o,h.get? b=some o->H b=none->b ∉ ex->H' b=none
 there:∀ b o,h.get? b=some o->b ∉ ex->∃ o',h'.get? b=some o'
 tups:∀ b xs,H b=some (.tup xs)->H' b=some (.tup xs)
 frzs:∀ b o u,H b=some (.frz o u)->H' b=some (.frz o u)
 tbls:∀ b ps,H b=some (.tbl ps)->∃ more,H' b=some (.tbl (ps ++ more))
section
variable {fs fs' ex ex' : List Addr} {H H1 H2 : Hp} {h h1 h2 h' : Heap} {a x e : Addr} {o : HO}
theorem Un.any (u:Un fs ex H H1 h h1) {b:Addr}{ob:Obj} (q:h.get? b=some ob) (n:H b=none) (hx:b ∉ ex):∃ sl,h1.get? b=some { ob with slots:=sl }:=by
 by_cases hb:b ∈ fs
 ·exact u.slot b ob q n hb hx
 ·exact⟨ob.slots,u.keep b ob q n hb hx⟩
theorem Un.kept (k:∀ b u,h.get? b=some u->h'.get? b=some u):Un fs ex H H h h':=
 ⟨fun b ob q _ _ _=>k b ob q,fun b ob q _ _ _=>⟨ob.slots,k b ob q⟩,fun _ _ _ n _=>n,fun b ob q _=>⟨ob,k b ob q⟩,fun _ _ q=>q,fun _ _ _ q=>q,fun _ ps q=>⟨#[],by rw [q]; simp⟩⟩
theorem Un.refl:Un fs ex H H h h:=Un.kept fun _ _ q=>q
theorem Un.laid (k:∀ b u,h.get? b=some u->h'.get? b=some u) (hp:h.objs.size<=a) (hn:H a=none):Un fs ex H (upd H a o) h h' where
 keep:=fun b u q _ _ _=>k b u q
 slot:=fun b u q _ _ _=>⟨u.slots,k b u q⟩
 free:=fun b u q n _=>by rw [aI (bh5 (bf2 (bf8 q) hp))]; exact n
 there:=fun b u q _=>⟨u,k b u q⟩
 tups:=fun b xs q=>by rw [aI (cF q hn)]; exact q
 frzs:=fun b u xs q=>by rw [aI (cF q hn)]; exact q
 tbls:=fun b ps q=>⟨#[],by rw [aI (cF q hn),q]; simp⟩
theorem Un.write (mu:mY (H x)) (he:e=x ∨ H e=some (.own x)) (k:∀ b u,b ≠ e->h.get? b=some u->h'.get? b=some u) (heo:∃ u,h'.get? e=some u):Un fs ex H (upd H x o) h h':=by
 have hx:∀ b,H b=none->b ≠ x:=fun b n z=>by subst z; rw [n] at mu; exact mu
 have hb:∀ b,H b=none->b ≠ e:=fun b n z=>by
  subst z
  rcases he with r | r
  ·exact hx b n r
  ·rw [n] at r; cases r
 have hm:∀ b u,H b=some u->¬ mY (some u)->b ≠ x:=fun b u q nm z=>by subst z; rw [q] at mu; exact nm mu
 refine⟨fun b u q n _ _=>k b u (hb b n) q,fun b u q n _ _=>⟨u.slots,k b u (hb b n) q⟩,fun b u q n _=>by rw [aI (hx b n)]; exact n,fun b u q _=>?_,
  fun b xs q=>by rw [aI (hm b _ q fun z=>z)]; exact q,fun b u xs q=>by rw [aI (hm b _ q fun z=>z)]; exact q,fun b ps q=>⟨#[],by rw [aI (hm b _ q fun z=>z),q]; simp⟩⟩
 by_cases hbe:b=e
 ·subst hbe; exact heo
 ·exact⟨u,k b u hbe q⟩
end
def pD (h:Heap) (H:Hp):List Addr:=(List.range h.objs.size).filter fun a=>(H a).isSome
def iZ (h:Heap) (H:Hp):Heap:=PySem.W.hideAll h (pD h H)
theorem ag4 (h:Heap) (H:Hp):(iZ h H).objs.size=h.objs.size:=PySem.W.hideAll_size _ _
theorem ag5 {h:Heap}{H:Hp}{b:Addr}{o:Obj} (e:h.get? b=some o) (n:H b=none):(iZ h H).get? b=some o:=
 PySem.W.hideAll_get _ e fun hm=>by
  have q:(H b).isSome=true:=(bl1.mp hm).2
  rw [n] at q; simp at q
theorem ag6 {h:Heap}{H:Hp}{b:Addr}{o:Obj} (e:(iZ h H).get? b=some o):h.get? b=some o/\H b=none:=by
 have e':h.get? b=some o:=PySem.W.of_hideAll (pD h H) e
 refine⟨e',?_⟩
 cases q:H b with
 | none=>rfl
 | some x=>
  have hm:b ∈ pD h H:=bl1.mpr ⟨br2.mpr (bf8 e'),by simp [q]⟩
  have z:(iZ h H).get? b=none:=PySem.W.hideAll_none (pD h H) hm
  rw [z] at e; cases e
def mZ (g h:Heap) (L:Addr):List (Addr × Obj):=(List.range h.objs.size).filterMap fun a=>if a=L ∨ (g.get? a).isSome=true then none else (h.get? a).map fun o=>(a,o)
theorem y3 {g h:Heap}{L a:Addr}{o:Obj} (h1:a ≠ L) (h2:g.get? a=none) (h3:h.get? a=some o):(a,o) ∈ mZ g h L:=
 List.mem_filterMap.mpr ⟨a,br2.mpr (bf8 h3),by simp [h1,h2,h3]⟩
theorem ag7 {g h:Heap}{L:Addr}{p:Addr × Obj} (hp:p ∈ mZ g h L):p.1 ≠ L/\g.get? p.1=none/\h.get? p.1=some p.2:=by
 obtain ⟨b,_,e⟩:=List.mem_filterMap.mp hp
 split at e
 ·cases e
 ·rename_i hn
  cases q:h.get? b with
  | none=>rw [q] at e; simp at e
  | some u=>
   rw [q] at e
   simp only [Option.map_some,Option.some.injEq] at e
   subst e
   refine⟨fun z=>hn (.inl z),?_,q⟩
   show g.get? b=none
   cases r:g.get? b with
   | none=>rfl
   | some v=>exact (hn (.inr (by simp [r]))).elim
def cJ (g h:Heap) (L d:Addr):List (Addr × Obj):=(mZ g h L).filter fun p=>decide (p.1 ≠ d)
theorem ag8 {g h:Heap}{L:Addr}:News g L h (mZ g h L):=fun p hp=>let ⟨a,b,c⟩:=ag7 hp; ⟨c,a,b⟩
structure Mod (K:PySem.W.Frag) (mg:Str->Option Value) (base:Heap):Prop where
 kin:K.In base
 glob:base.Ns mainGlobals mg
 blt:∃ mb,base.Ns builtinsNs mb/\∀ x:Str,x ≠ "__name__"->mb x=bootBuiltins x
 nolimit:base.NoLimit
structure Cx where
 prog:Program
 w:World
 K:PySem.W.Frag
 mg:Str->Option Value
 base:Heap
 A:Around
 N:List Str
 s₀:Shared
 H₀:Hp
 env:Env
 outer:List Env
 stack:List Env
 ex:List Addr
 fn:Str->Bool
 calm:Bool
 pn:List (Addr × Obj)
 xe:Value->Shared->Prop
def bT (l:List Env):List Addr:=l.filterMap (·.frame)
abbrev Cx.fs (X:Cx):List Addr:=bT X.outer
def eN (sc:Scope) (x:Str):Prop:=sc.names.lookup x=some .local ∨ sc.names.lookup x=some .cell ∨ sc.names.lookup x=some .free
def hV (sc:Scope) (x:Str):Prop:=sc.names.lookup x=some .local ∨ sc.names.lookup x=some .cell
def ag9 (env:Env) (h:Heap) (m:Str->Option Value) (x:Str) (u:Value):Prop:=
 (env.kindOf x=some .local/\m x=some u) ∨ ((env.kindOf x=some .cell ∨ env.kindOf x=some .free)/\∃ c,env.cells.lookup x=some c/\h.IsCell c (some u))
structure Cx.Ok (X:Cx):Prop where
 mod:Mod X.K X.mg X.base
 kind:X.env.scope.kind = .function
 glob:X.env.globals=mainGlobals
 blt:X.env.builtins=builtinsNs
 above:X.s₀.heap.objs.size<=X.env.locals
 inj:∀ x y c,X.env.cells.lookup x=some c->X.env.cells.lookup y=some c->x=y
 has:∀ x,(X.env.kindOf x=some .cell ∨ X.env.kindOf x=some .free)->∃ c,X.env.cells.lookup x=some c
 cab:∀ x c,X.fn x=true->X.env.cells.lookup x=some c->X.s₀.heap.objs.size<=c
 hd:X.calm=true->X.A.handled=none
 frames:X.A.frames=some X.stack
 stk:X.stack=X.outer ∨ (X.stack=X.env :: X.outer/\X.env.frame=some X.env.locals)
 exf:∀ b ∈ X.ex,b ≠ X.env.locals/\∀ x c,X.env.cells.lookup x=some c->c ≠ b
 bs:∀ b o,X.base.get? b=some o->X.s₀.heap.get? b=some o/\X.H₀ b=none
 bsz:X.base.objs.size<=X.s₀.heap.objs.size
 noex:∀ b o,X.base.get? b=some o->b ∉ X.ex
 exfs:∀ b ∈ X.ex,b ∉ X.fs
 funs:X.s₀.heap.FunFrames X.base X.outer
 frf:∀ b ∈ X.fs,X.H₀ b=none
structure a8 (X:Cx) (pins:List (Addr × Obj)) (σ:List (Option V)) (H:Hp) (s:Shared):Prop where
 ok:X.Ok
 os:s.os=X.s₀.os
 bare:AllBare s.gens
 base:Un X.fs X.ex X.H₀ H X.s₀.heap s.heap
 loc:∃ m,s.heap.Ns X.env.locals m/\∀ (i:Nat) (x:Str) (v:V),X.N[i]? = some x->σ[i]? = some (some v)->eN X.env.scope x->∃ u,b4 v u/\ag9 X.env s.heap m x u
 cell:∀ x c,X.env.cells.lookup x=some c->∃ v,s.heap.IsCell c v
 free:H X.env.locals=none
 freeC:∀ x c,X.env.cells.lookup x=some c->H c=none
 pin:∀ p ∈ X.pn ++ pins,s.heap.get? p.1=some p.2/\H p.1=none/\p.1 ≠ X.env.locals/\p.1 ∉ X.fs/\∀ v,p.2.data ≠ .cell v
 hok:bW X.prog X.w H s.heap
 len:σ.length=X.N.length
section
variable {X : Cx} {pins : List (Addr × Obj)} {σ : List (Option V)} {H H' : Hp} {s : Shared} {h' : Heap}
theorem Cx.Ok.nofr (ok:X.Ok) {b:Addr}{o:Obj} (e:X.base.get? b=some o):b ∉ X.fs:=fun hb=>by
 have:=(ok.funs.mem hb).1
 rw [e] at this; cases this
theorem a8.bs (I:a8 X pins σ H s):∀ b o,X.base.get? b=some o->s.heap.get? b=some o/\H b=none:=fun b o e=>
 ⟨I.base.keep b o (I.ok.bs b o e).1 (I.ok.bs b o e).2 (I.ok.nofr e) (I.ok.noex b o e),I.base.free b o (I.ok.bs b o e).1 (I.ok.bs b o e).2 (I.ok.noex b o e)⟩
theorem a8.bk (I:a8 X pins σ H s):∀ b o,X.base.get? b=some o->s.heap.get? b=some o:=fun b o e=>(I.bs b o e).1
theorem a8.mod (I:a8 X pins σ H s):Mod X.K X.mg X.base:=I.ok.mod
theorem a8.kIn (I:a8 X pins σ H s):X.K.In s.heap:=I.ok.mod.kin.keeps I.bk
theorem a8.fr (I:a8 X pins σ H s):∃ m,Fr X.base X.env.locals s.heap m:=
 let ⟨m,hn,_⟩:=I.loc
 ⟨m,hn,I.bk,bh6 I.ok.bsz I.ok.above⟩
theorem a8.lt (I:a8 X pins σ H s):X.env.locals < s.heap.objs.size:=let ⟨_,hn,_⟩:=I.loc; hn.lt
theorem a8.sz (I:a8 X pins σ H s):X.s₀.heap.objs.size<=s.heap.objs.size:=bh6 I.ok.above (bj6 I.lt)
theorem a8.nofs (I:a8 X pins σ H s) {a:Addr} (h:s.heap.objs.size<=a):a ∉ X.fs:=fun hb=>by
 obtain ⟨_,o,ho,_⟩:=I.ok.funs.mem hb
 exact absurd (bf2 (bf8 ho) (bh6 I.sz h)) (bj7 _)
theorem a8.cne (I:a8 X pins σ H s):∀ x c,X.env.cells.lookup x=some c->c ≠ X.env.locals:=fun x c e z=>by
 obtain ⟨v,o,ho,hd⟩:=I.cell x c e
 obtain ⟨m,⟨o',es,ep,ho',hd',_⟩,_⟩:=I.loc
 rw [z,ho'] at ho; cases ho; rw [hd'] at hd; cases hd
theorem a8.funs (I:a8 X pins σ H s):s.heap.FunFrames X.base X.outer:=by
 have all:∀ (l:List Env),(∀ b ∈ bT l,b ∈ X.fs)->X.s₀.heap.FunFrames X.base l->s.heap.FunFrames X.base l:=by
  intro l
  induction l with
  | nil=>intro _ _; trivial
  | cons env r ih=>
   intro hs hl
   obtain ⟨hk,⟨L,o,hf,hn,ho,hd⟩,hr⟩:=hl
   have hL:L ∈ X.fs:=hs L (by unfold bT; rw [List.filterMap_cons,hf]; exact bf5)
   obtain ⟨sl,e⟩:=I.base.slot L o ho (I.ok.frf L hL) hL fun z=>I.ok.exfs L z hL
   exact⟨hk,⟨L,_,hf,hn,e,hd⟩,ih (fun b hb=>hs b (by unfold bT; rw [List.filterMap_cons,hf]; exact bg0 _ hb)) hr⟩
 exact all X.outer (fun _ hb=>hb) I.ok.funs
theorem a8.stack (I:a8 X pins σ H s):s.heap.FunFrames X.base X.stack:=by
 rcases I.ok.stk with e | ⟨e,hf⟩
 ·rw [e]; exact I.funs
 ·rw [e]
  obtain ⟨m,hn,_⟩:=I.loc
  refine .cons (by rw [I.ok.kind]; decide) hf hn ?_ I.funs
  exact Heap.get?_none_of_le (bh6 I.ok.bsz I.ok.above)
theorem a8.stkSub (I:a8 X pins σ H s):∀ b ∈ bT X.stack,b ∈ X.env.locals :: X.fs:=fun b hb=>by
 rcases I.ok.stk with e | ⟨e,hf⟩
 ·rw [e] at hb; exact bg0 _ hb
 ·rw [e] at hb
  unfold bT at hb
  rw [List.filterMap_cons,hf] at hb
  exact hb
theorem a8.stkFree (I:a8 X pins σ H s):∀ b ∈ bT X.stack,H b=none:=fun b hb=>by
 rcases be9.mp (I.stkSub b hb) with e | hb
 ·rw [e]; exact I.free
 ·obtain ⟨_,o,ho,_⟩:=I.ok.funs.mem hb
  exact I.base.free b o ho (I.ok.frf b hb) fun z=>I.ok.exfs b z hb
theorem a8.step {g':Array GenState}{t':Nat}{d':Drawn}{ch:List Addr} (I:a8 X pins σ H s)
  (hch:∀ b ∈ ch,(b ∈ X.ex ∨ X.s₀.heap.objs.size<=b)/\b ≠ X.env.locals/\(∀ x c,X.env.cells.lookup x=some c->c ≠ b)/\∀ p ∈ X.pn ++ pins,p.1 ≠ b)
  (keep:∀ b o,b ≠ X.env.locals->b ∉ X.fs->b ∉ ch->s.heap.get? b=some o->H b=none->h'.get? b=some o)
  (slot:∀ b o,b ≠ X.env.locals->b ∈ X.fs->b ∉ ch->s.heap.get? b=some o->H b=none->∃ sl,h'.get? b=some { o with slots:=sl }) (free:∀ b o,b ∉ ch->s.heap.get? b=some o->H b=none->H' b=none)
  (there:∀ b o,b ∉ ch->s.heap.get? b=some o->∃ o',h'.get? b=some o')
  (tups:∀ b xs,H b=some (.tup xs)->H' b=some (.tup xs)) (frzs:∀ b o u,H b=some (.frz o u)->H' b=some (.frz o u)) (tbls:∀ b ps,H b=some (.tbl ps)->∃ more,H' b=some (.tbl (ps ++ more)))
  (ns:∀ m,s.heap.Ns X.env.locals m->h'.Ns X.env.locals m) (hok:bW X.prog X.w H' h') (hg:AllBare g') :
  a8 X pins σ H' { s with heap:=h',gens:=g',drawn:=d',toks:=t' }:=by
 have neL:∀ b o,X.s₀.heap.get? b=some o->b ≠ X.env.locals:=fun b o e=>bh5 (bf2 (bf8 e) I.ok.above)
 have neC:∀ b o,X.s₀.heap.get? b=some o->b ∉ X.ex->b ∉ ch:=fun b o e hx hb=>by
  rcases (hch b hb).1 with z | z
  ·exact hx z
  ·exact absurd (bf2 (bf8 e) z) (bj7 _)
 have cellK:∀ x c,X.env.cells.lookup x=some c->∀ v,s.heap.IsCell c v->h'.IsCell c v:=fun x c e v ⟨o,ho,hd⟩=>by
  have nch:c ∉ ch:=fun z=>(hch c z).2.2.1 x c e rfl
  by_cases hc:c ∈ X.fs
  ·obtain ⟨sl,q⟩:=slot c o (I.cne x c e) hc nch ho (I.freeC x c e)
   exact⟨_,q,hd⟩
  ·exact⟨o,keep c o (I.cne x c e) hc nch ho (I.freeC x c e),hd⟩
 refine⟨I.ok,I.os,hg,⟨fun b o e n hb hx=>?_,fun b o e n hb hx=>?_,fun b o e n hx=>?_,fun b o e hx=>?_,fun b xs e=>tups b xs (I.base.tups b xs e),fun b o xs e=>frzs b o xs (I.base.frzs b o xs e),fun b ps e=>?_⟩,?_,fun x c e=>?_,?_,fun x c e=>?_,fun p hp=>?_,hok,I.len⟩
 ·exact keep b o (neL b o e) hb (neC b o e hx) (I.base.keep b o e n hb hx) (I.base.free b o e n hx)
 ·obtain ⟨sl,e1⟩:=I.base.slot b o e n hb hx
  obtain ⟨sl',e2⟩:=slot b _ (neL b o e) hb (neC b o e hx) e1 (I.base.free b o e n hx)
  exact⟨sl',e2⟩
 ·obtain ⟨o',e1⟩:=I.base.there b o e hx
  exact free b o' (neC b o e hx) e1 (I.base.free b o e n hx)
 ·obtain ⟨o',e1⟩:=I.base.there b o e hx
  exact there b o' (neC b o e hx) e1
 ·obtain ⟨m1,e1⟩:=I.base.tbls b ps e
  obtain ⟨m2,e2⟩:=tbls b _ e1
  exact⟨m1 ++ m2,by rw [e2,Array.append_assoc]⟩
 ·obtain ⟨m,hn,hl⟩:=I.loc
  refine⟨m,ns m hn,fun i x v e1 e2 e3=>?_⟩
  obtain ⟨u,r,l⟩:=hl i x v e1 e2 e3
  refine⟨u,r,?_⟩
  rcases l with l | ⟨k,c,e,z⟩
  ·exact .inl l
  ·exact .inr ⟨k,c,e,cellK x c e _ z⟩
 ·obtain ⟨v,z⟩:=I.cell x c e
  exact⟨v,cellK x c e v z⟩
 ·obtain ⟨m,⟨o,_,_,ho,_⟩,_⟩:=I.loc
  exact free _ o (fun z=>(hch _ z).2.1 rfl) ho I.free
 ·obtain ⟨v,o,ho,hd⟩:=I.cell x c e
  exact free c o (fun z=>(hch c z).2.2.1 x c e rfl) ho (I.freeC x c e)
 ·obtain ⟨e,n,ne,nf,d⟩:=I.pin p hp
  have nch:p.1 ∉ ch:=fun z=>(hch p.1 z).2.2.2 p hp rfl
  exact⟨keep p.1 p.2 ne nf nch e n,free p.1 p.2 nch e n,ne,nf,d⟩
theorem a8.un {t':Nat} (I:a8 X pins σ H s) (u:Un X.fs [] H H' s.heap h') (hok:bW X.prog X.w H' h'):a8 X pins σ H' { s with heap:=h',toks:=t' }:=by
 obtain ⟨m,⟨o,es,ep,ho,r⟩,_⟩:=id I.loc
 obtain ⟨sl,hL⟩:=u.any ho I.free (by simp)
 exact I.step (g':=s.gens) (d':=s.drawn) (ch:=[]) (fun _ z=>nomatch z) (fun b o _ hb _ e n=>u.keep b o e n hb (by simp)) (fun b o _ hb _ e n=>u.slot b o e n hb (by simp)) (fun b o _ e n=>u.free b o e n (by simp)) (fun b o _ e=>u.there b o e (by simp)) u.tups u.frzs u.tbls (fun m' hm=>by
  obtain ⟨o',es',ep',ho',r'⟩:=hm
  rw [ho] at ho'; cases ho'
  exact⟨_,es',ep',hL,r'⟩) hok I.bare
theorem a8.call {g':Array GenState}{t':Nat}{d':Drawn}{ch:List Addr} (I:a8 X pins σ H s) (u:Un (bT X.stack) ch H H' s.heap h') (hok:bW X.prog X.w H' h') (hg:AllBare g')
  (hch:∀ b ∈ ch,(b ∈ X.ex ∨ X.s₀.heap.objs.size<=b)/\b ≠ X.env.locals/\(∀ x c,X.env.cells.lookup x=some c->c ≠ b)/\∀ p ∈ X.pn ++ pins,p.1 ≠ b) :
  a8 X pins σ H' { s with heap:=h',gens:=g',drawn:=d',toks:=t' }:=by
 obtain ⟨m,⟨o,es,ep,ho,r⟩,_⟩:=id I.loc
 obtain ⟨sl,hL⟩:=u.any ho I.free fun z=>(hch _ z).2.1 rfl
 exact I.step (ch:=ch) hch (fun b o hL hb hc e n=>u.keep b o e n (fun z=>(be9.mp (I.stkSub b z)).elim hL hb) hc) (fun b o _ _ hc e n=>u.any e n hc) (fun b o hc e n=>u.free b o e n hc) (fun b o hc e=>u.there b o e hc) u.tups u.frzs u.tbls (fun m' hm=>by
  obtain ⟨o',es',ep',ho',r'⟩:=hm
  rw [ho] at ho'; cases ho'
  exact⟨_,es',ep',hL,r'⟩) hok hg
theorem a8.turned {t':Nat}{it:Addr} (I:a8 X pins σ H s) (k:∀ b o,b ≠ it->s.heap.get? b=some o->h'.get? b=some o) (hn:H it=none) (hL:it ≠ X.env.locals)
  (h1:it ∈ X.ex ∨ X.s₀.heap.objs.size<=it) (h2:∀ x c,X.env.cells.lookup x=some c->c ≠ it) (h3:∀ p ∈ X.pn ++ pins,p.1 ≠ it):a8 X pins σ H { s with heap:=h',toks:=t' }:=by
 have nit:∀ b u,H b=some u->b ≠ it:=fun b u e z=>by rw [z,hn] at e; cases e
 refine I.step (g':=s.gens) (d':=s.drawn) (ch:=[it]) (fun b hb=>?_) (fun b o _ _ hc e _=>k b o (fun z=>hc (by simp [z])) e) (fun b o _ _ hc e _=>⟨o.slots,k b o (fun z=>hc (by simp [z])) e⟩) (fun _ _ _ _ n=>n)
  (fun b o hc e=>⟨o,k b o (fun z=>hc (by simp [z])) e⟩) (fun _ _ e=>e) (fun _ _ _ e=>e) (fun b ps e=>⟨#[],by rw [e]; simp⟩) (fun m hm=>?_) (fun b u e=>?_) I.bare
 ·have e:b=it:=by simpa using hb
  subst e
  exact⟨h1,hL,h2,h3⟩
 ·obtain ⟨o,es,ep,ho,r⟩:=hm
  exact⟨o,es,ep,k _ o (Ne.symm hL) ho,r⟩
 ·refine (I.hok b u e).stay (fun c v hc q=>k c v ?_ q) (fun _ q=>q) fun _ _ q=>q
  rcases hc with z | z
  ·rw [z]; exact nit b u e
  ·exact nit c _ z
theorem a8.tok (I:a8 X pins σ H s) (t:Nat):a8 X pins σ H { s with toks:=t }:=I.un (h':=s.heap) (t':=t) Un.refl I.hok
theorem a8.kept {t':Nat} (I:a8 X pins σ H s) (k:∀ b u,s.heap.get? b=some u->h'.get? b=some u):a8 X pins σ H { s with heap:=h',toks:=t' }:=I.un (Un.kept k) (I.hok.kept k)
theorem a8.laid {a:Addr}{o:HO}{t':Nat} (I:a8 X pins σ H s) (k:∀ b u,s.heap.get? b=some u->h'.get? b=some u) (hp:s.heap.objs.size<=a) (new:bR X.prog X.w (upd H a o) h' a o) :
  a8 X pins σ (upd H a o) { s with heap:=h',toks:=t' }:=I.un (Un.laid k hp (I.hok.fresh hp)) (I.hok.laid k hp new)
theorem a8.write {x e:Addr}{o:HO}{t':Nat} (I:a8 X pins σ H s) (mu:mY (H x)) (he:e=x ∨ H e=some (.own x)) (k:∀ b u,b ≠ e->s.heap.get? b=some u->h'.get? b=some u) (heo:∃ u,h'.get? e=some u)
  (new:bR X.prog X.w (upd H x o) h' x o):a8 X pins σ (upd H x o) { s with heap:=h',toks:=t' }:=I.un (Un.write mu he k heo) (I.hok.write mu he k heo new)
theorem a8.weak {σ':List (Option V)} (I:a8 X pins σ H s) (hl:σ'.length=σ.length) (w:∀ (i:Nat) v,σ'[i]? = some (some v)->σ[i]? = some (some v)):a8 X pins σ' H s:=
 ⟨I.ok,I.os,I.bare,I.base,let ⟨m,hn,hl'⟩:=I.loc; ⟨m,hn,fun i x v e1 e2 e3=>hl' i x v e1 (w i v e2) e3⟩,I.cell,I.free,I.freeC,I.pin,I.hok,hl.trans I.len⟩
theorem a8.pins_of {pins':List (Addr × Obj)} (I:a8 X pins σ H s) (h:∀ p ∈ pins',s.heap.get? p.1=some p.2/\H p.1=none/\p.1 ≠ X.env.locals/\p.1 ∉ X.fs/\∀ v,p.2.data ≠ .cell v):a8 X pins' σ H s:=
 ⟨I.ok,I.os,I.bare,I.base,I.loc,I.cell,I.free,I.freeC,fun p hp=>(bg2.mp hp).elim (fun z=>I.pin p (bi4 _ z)) (h p),I.hok,I.len⟩
theorem tD {N:List Str} (hN:N.Nodup) {i j:Nat}{x:Str} (a:N[i]? = some x) (b:N[j]? = some x):i=j:=by
 obtain ⟨h1,e1⟩:=bf0.mp a
 obtain ⟨h2,e2⟩:=bf0.mp b
 exact (List.getElem_inj hN).mp (e1.trans e2.symm)
theorem tE {M:Model}{A:Around}{E:Value->Shared->Prop}{i:Nat}{x:Str}{v:V}{u:Value}{Q:Unit->Shared->Prop} (I:a8 X pins σ H s) (hN:X.N.Nodup) (hi:X.N[i]? = some x) (hx:hV X.env.scope x) (r:b4 v u)
  (h:∀ s',a8 X pins (σ.set i (some v)) H s'->(∃ a,Heap.SameBut a s.heap s'.heap/\(a=X.env.locals ∨ X.env.cells.lookup x=some a))->Q () s') (hf:X.fn x=true ∨ X.env.scope.names.lookup x=some .local:=by first | exact .inl rfl | exact .inr rfl | assumption):wpAny M A (storeName X.env x u) Q E s:=by
 obtain ⟨m,hn,hl⟩:=id I.loc
 have hcls:(X.env.scope.kind == .class || (X.env.scope.kind == .module && X.env.locals != X.env.globals))=false:=by rw [I.ok.kind]; rfl
 have hiσ:i < σ.length:=by rw [I.len]; exact (bf0.mp hi).1
 have cne:=I.cne
 have tracked:∀ {a:Addr}{h':Heap},(∃ o,s.heap.get? a=some o/\H a=none)->Heap.SameBut a s.heap h'->bW X.prog X.w H h':=fun {a h'} ha hs b ob e=>by
  obtain ⟨_,_,hfree⟩:=ha
  refine (I.hok b ob e).stay (fun c w' hc q=>(hs.2 c ?_).trans q) (fun _ q=>q) fun _ _ q=>q
  rintro rfl
  rcases hc with rfl | hc
  ·rw [hfree] at e; cases e
  ·rw [hfree] at hc; cases hc
 rcases hx with hk | hk
 ·refine wpAny_storeName_local hk hn (fun h' hn' hs=>?_) hcls
  obtain ⟨oL,_,_,hoL,_⟩:=id hn
  refine h _ ⟨I.ok,I.os,I.bare,⟨fun b o e n hb hx=>?_,fun b o e n hb hx=>?_,I.base.free,fun b o e hx=>?_,I.base.tups,I.base.frzs,I.base.tbls⟩,⟨_,hn',fun j y v' e1 e2 e3=>?_⟩,fun y c e=>?_,I.free,I.freeC,fun p hp=>?_,tracked ⟨oL,hoL,I.free⟩ hs,by simpa using I.len⟩ ⟨_,hs,.inl rfl⟩
  ·exact (hs.2 b (bh5 (bf2 (bf8 e) I.ok.above))).trans (I.base.keep b o e n hb hx)
  ·obtain ⟨sl,e1⟩:=I.base.slot b o e n hb hx
   exact⟨sl,(hs.2 b (bh5 (bf2 (bf8 e) I.ok.above))).trans e1⟩
  ·obtain ⟨o',e1⟩:=I.base.there b o e hx
   exact⟨o',(hs.2 b (bh5 (bf2 (bf8 e) I.ok.above))).trans e1⟩
  ·by_cases hj:j=i
   ·subst hj
    rw [hi] at e1; cases e1
    rw [bh9 hiσ] at e2
    cases e2
    exact⟨u,r,.inl ⟨hk,by simp⟩⟩
   ·rw [bg3 (Ne.symm hj)] at e2
    obtain ⟨u',r',q⟩:=hl j y v' e1 e2 e3
    refine⟨u',r',?_⟩
    rcases q with ⟨k,e⟩ | ⟨k,c,e,z⟩
    ·refine .inl ⟨k,?_⟩
     have:y ≠ x:=fun e=>hj (tD hN e1 (e ▸ hi))
     simp [this,e]
    ·exact .inr ⟨k,c,e,z.sameBut hs (cne y c e)⟩
  ·obtain ⟨w',z⟩:=I.cell y c e
   exact⟨w',z.sameBut hs (cne y c e)⟩
  ·obtain ⟨e,n,ne,nf,d⟩:=I.pin p hp
   exact⟨(hs.2 p.1 ne).trans e,n,ne,nf,d⟩
 ·have hfn:X.fn x=true:=by
   rcases hf with z | z
   ·exact z
   ·rw [z] at hk; cases hk
  obtain ⟨c,hc⟩:=I.ok.has x (.inl hk)
  obtain ⟨w',z⟩:=I.cell x c hc
  refine wpAny_storeName_cell I.ok.kind hk hc z (fun h' hc' hs=>?_)
  obtain ⟨oc,hoc,hocd⟩:=id z
  refine h { s with heap:=h' } ⟨I.ok,I.os,I.bare,⟨fun b o e n hb hx=>?_,fun b o e n hb hx=>?_,I.base.free,fun b o e hx=>?_,I.base.tups,I.base.frzs,I.base.tbls⟩,⟨m,hn.sameBut hs (Ne.symm (cne x c hc)),fun j y v' e1 e2 e3=>?_⟩,fun y c' e=>?_,I.free,I.freeC,fun p hp=>?_,tracked ⟨oc,hoc,I.freeC x c hc⟩ hs,by simpa using I.len⟩ ⟨c,hs,.inr hc⟩
  ·exact (hs.2 b (bh5 (bf2 (bf8 e) (I.ok.cab x c hfn hc)))).trans (I.base.keep b o e n hb hx)
  ·obtain ⟨sl,e1⟩:=I.base.slot b o e n hb hx
   exact⟨sl,(hs.2 b (bh5 (bf2 (bf8 e) (I.ok.cab x c hfn hc)))).trans e1⟩
  ·obtain ⟨o',e1⟩:=I.base.there b o e hx
   exact⟨o',(hs.2 b (bh5 (bf2 (bf8 e) (I.ok.cab x c hfn hc)))).trans e1⟩
  ·by_cases hj:j=i
   ·subst hj
    rw [hi] at e1; cases e1
    rw [bh9 hiσ] at e2
    cases e2
    exact⟨u,r,.inr ⟨.inl hk,c,hc,hc'⟩⟩
   ·rw [bg3 (Ne.symm hj)] at e2
    obtain ⟨u',r',q⟩:=hl j y v' e1 e2 e3
    refine⟨u',r',?_⟩
    rcases q with q | ⟨k,c',e,z'⟩
    ·exact .inl q
    ·refine .inr ⟨k,c',e,z'.sameBut hs ?_⟩
     rintro rfl
     exact hj (tD hN e1 (I.ok.inj _ _ _ e hc ▸ hi))
  ·by_cases hcc:c'=c
   ·subst hcc; exact⟨_,hc'⟩
   ·obtain ⟨w2,z2⟩:=I.cell y c' e
    exact⟨w2,z2.sameBut hs hcc⟩
  ·obtain ⟨e,n,ne,nf,d⟩:=I.pin p hp
   refine⟨(hs.2 p.1 ?_).trans e,n,ne,nf,d⟩
   intro q
   rw [q,hoc] at e
   have q':oc=p.2:=bg9 e
   exact d w' (by rw [<- q']; exact hocd)
theorem tF {M:Model}{A:Around}{E:Value->Shared->Prop}{i:Nat}{x:Str}{v:V}{u:Value}{Q:Unit->Shared->Prop} (I:a8 X pins σ H s) (hN:X.N.Nodup) (hi:X.N[i]? = some x) (hx:hV X.env.scope x) (r:b4 v u)
  (h:∀ s',a8 X pins (σ.set i (some v)) H s'->Q () s') (hf:X.fn x=true ∨ X.env.scope.names.lookup x=some .local:=by first | exact .inl rfl | exact .inr rfl | assumption):wpAny M A (storeName X.env x u) Q E s:=
 tE I hN hi hx r (fun s' I' _=>h s' I') hf
theorem a8.call' {s':Shared}{ch:List Addr} (I:a8 X pins σ H s) (ho:s'.os=s.os) (u:Un (bT X.stack) ch H H' s.heap s'.heap) (hok:bW X.prog X.w H' s'.heap) (hg:AllBare s'.gens)
  (hch:∀ b ∈ ch,(b ∈ X.ex ∨ X.s₀.heap.objs.size<=b)/\b ≠ X.env.locals/\(∀ x c,X.env.cells.lookup x=some c->c ≠ b)/\∀ p ∈ X.pn ++ pins,p.1 ≠ b):a8 X pins σ H' s':=by
 obtain ⟨h',g',d',t',o'⟩:=s'
 have e:o'=s.os:=ho
 subst e
 exact I.call (g':=g') (t':=t') (d':=d') u hok hg hch
end
abbrev XK:=Value->Option Addr->Hp->Prop
abbrev St:=List (Option V)
abbrev VK:=V->Hp->Prop
abbrev TE:=St->Hp->VK->Prop
abbrev TT:=St->Hp->(Bool->Hp->Prop)->Prop
abbrev TA:=St->Hp->(List V->Hp->Prop)->Prop
structure bS where
 nx:St->Hp->Prop
 rt:VK
 bk:St->Hp->Prop:=fun _ _=>False
 ct:St->Hp->Prop:=fun _ _=>False
abbrev TS:=bS->St->Hp->Prop
def EP (X:Cx) (pins:List (Addr × Obj)) (σ:St) (Q:VK) (u:Value) (s':Shared):Prop:=∃ v H',a8 X pins σ H' s'/\b4 v u/\Q v H'
def TP (X:Cx) (pins:List (Addr × Obj)) (σ:St) (Q:Bool->Hp->Prop) (b:Bool) (s':Shared):Prop:=∃ H',a8 X pins σ H' s'/\Q b H'
def AP (X:Cx) (pins:List (Addr × Obj)) (σ:St) (Q:List V->Hp->Prop) (us:List Value) (s':Shared):Prop:=∃ vs H',a8 X pins σ H' s'/\aQ vs us/\Q vs H'
def SP (X:Cx) (pins:List (Addr × Obj)) (D:bS) (f:Flow) (s':Shared):Prop:=
 match f with
 | .next=>∃ σ' H',a8 X pins σ' H' s'/\D.nx σ' H'
 | .brk=>∃ σ' H',a8 X pins σ' H' s'/\D.bk σ' H'
 | .cont=>∃ σ' H',a8 X pins σ' H' s'/\D.ct σ' H'
 | .ret u=>∃ v σ' H',a8 X pins σ' H' s'/\b4 v u/\D.rt v H'
def PE (X:Cx) (e:Expr) (t:TE):Prop:=
 ∀ (pins:List (Addr × Obj)) (s:Shared) (σ:St) (H:Hp) (Q:VK),a8 X pins σ H s->t σ H Q->wpAny (model X.prog X.w) X.A (eval e X.env) (EP X pins σ Q) X.xe s
def PT (X:Cx) (e:Expr) (t:TT):Prop:=
 ∀ (pins:List (Addr × Obj)) (s:Shared) (σ:St) (H:Hp) (Q:Bool->Hp->Prop),a8 X pins σ H s->t σ H Q->wpAny (model X.prog X.w) X.A (isTrue e X.env (eval e X.env)) (TP X pins σ Q) X.xe s
def PW (X:Cx) (e:Expr) (t:TT):Prop:=
 ∀ (whole:Sem Value) (pins:List (Addr × Obj)) (s:Shared) (σ:St) (H:Hp) (Q:Bool->Hp->Prop),a8 X pins σ H s->t σ H Q->wpAny (model X.prog X.w) X.A (isTrue e X.env whole) (TP X pins σ Q) X.xe s
theorem PW.pt {X:Cx}{e:Expr}{t:TT} (h:PW X e t):PT X e t:=h _
def PA (X:Cx) (es:List Expr) (t:TA):Prop:=
 ∀ (pos:Pos) (pins:List (Addr × Obj)) (s:Shared) (σ:St) (H:Hp) (Q:List V->Hp->Prop),a8 X pins σ H s->t σ H Q->wpAny (model X.prog X.w) X.A (spliced (backTo pos (starEach es X.env))) (AP X pins σ Q) X.xe s
def PS (X:Cx) (st:Stmt) (t:TS):Prop:=
 ∀ (pins:List (Addr × Obj)) (s:Shared) (σ:St) (H:Hp) (D:bS),a8 X pins σ H s->t D σ H->wpAny (model X.prog X.w) X.A (exec st X.env) (SP X pins D) X.xe s
def dA (X:Cx) (st:List Stmt) (t:TS):Prop:=
 ∀ (pins:List (Addr × Obj)) (s:Shared) (σ:St) (H:Hp) (D:bS),a8 X pins σ H s->t D σ H->wpAny (model X.prog X.w) X.A (execs st X.env) (SP X pins D) X.xe s
theorem aS {α:Type}{t:Sem α}{Q Q':α->Shared->Prop}{M:Model}{A:Around}{E:Value->Shared->Prop}{s:Shared} (h:wpAny M A t Q E s) (hQ:∀ a s,Q a s->Q' a s):wpAny M A t Q' E s:=bm2 h hQ fun _ _ x=>x
section
variable {X : Cx}
theorem bin {a b:Expr}{ta tb:TE} (ha:PE X a ta) (hb:PE X b tb) {pins:List (Addr × Obj)}{s:Shared}{σ:St}{H:Hp}{R:V->V->Hp->Prop} (I:a8 X pins σ H s) (h:ta σ H fun x H1=>tb σ H1 fun y H2=>R x y H2)
  {α:Type}{Q:α->Shared->Prop}{f:Value->Value->Sem α}
  (hf:∀ v u s2 x y H2,a8 X pins σ H2 s2->b4 x v->b4 y u->R x y H2->wpAny (model X.prog X.w) X.A (f v u) Q X.xe s2) :
  wpAny (model X.prog X.w) X.A (eval a X.env) (fun v s₁=>wpAny (model X.prog X.w) X.A (eval b X.env) (fun u s₂=>wpAny (model X.prog X.w) X.A (f v u) Q X.xe s₂) X.xe s₁) X.xe s:=by
 refine aS (ha pins s σ H _ I h) fun v s1 ⟨x,H1,I1,r1,q1⟩=>?_
 refine aS (hb pins s1 σ H1 _ I1 q1) fun u s2 ⟨y,H2,I2,r2,q2⟩=>?_
 exact hf v u s2 x y H2 I2 r1 r2 q2
def eO (i:Nat):TE:=fun σ H Q=>∃ v,σ[i]? = some (some v)/\Q v H
def tC (v:V):TE:=fun _ H Q=>Q v H
theorem fW {i:Nat}{x:Str}{pos:Pos} (hN:X.N[i]? = some x) (hv:eN X.env.scope x) (hd:(x == ("__debug__" : Str))=false:=by decide) (hcd:(x == ("__classdict__" : Str))=false:=by decide):PE X (.Name x pos) (eO i):=by
 intro pins s σ H Q I h
 obtain ⟨v,e,h⟩:=h
 obtain ⟨m,hn,hl⟩:=I.loc
 obtain ⟨u,r,l⟩:=hl i x v hN e hv
 have fin:EP X pins σ Q u s:=⟨v,H,I,r,h⟩
 rcases l with ⟨hk,hm⟩ | ⟨hk,c,hc,hcell⟩
 ·exact wpAny_Name (wpAny_loadName_local I.ok.kind hk hn hm fin) hd
 ·rcases hk with hk | hk
  ·exact wpAny_Name (wpAny_loadName_cell I.ok.kind hk hc hcell fin) hd
  ·exact wpAny_Name (wpAny_loadName_free I.ok.kind hk hc hcell fin hcd) hd
theorem nA {i j pos}:PE X (.Constant (.int i) j pos) (tC (.int i)):=fun _ _ _ H _ I h=>wpAny_Constant_int ⟨.int i,H,I.tok _,⟨_,rfl⟩,h⟩
theorem ah0 {b j pos}:PE X (.Constant (.bool b) j pos) (tC (.bl b)):=fun _ _ _ H _ I h=>Constant_bool ⟨.bl b,H,I,rfl,h⟩
theorem ah1 {j pos}:PE X (.Constant .none j pos) (tC .non):=fun _ _ _ H _ I h=>Constant_none ⟨.non,H,I,rfl,h⟩
theorem ah2 {x j pos}:PE X (.Constant (.str x) j pos) (tC (.str x)):=fun _ _ _ H _ I h=>Calls.Constant_str ⟨.str x,H,I.tok _,⟨_,rfl⟩,h⟩
def Gl (X:Cx) (x:Str):Prop:=X.env.kindOf x=some .globalImplicit
theorem nB {E:Value->Shared->Prop}{pins:List (Addr × Obj)}{s:Shared}{σ:St}{H:Hp}{x:Str}{u:Value}{pos:Pos}{Q:Value->Shared->Prop} (I:a8 X pins σ H s) (hg:Gl X x) (hm:X.mg x=some u) (h:Q u s)
  (hd:(x == ("__debug__" : Str))=false:=by decide):wpAny (model X.prog X.w) X.A (eval (.Name x pos) X.env) Q E s:=
 Calls.Name_function_global I.ok.kind hg (Calls.loadGlobal_global (by rw [I.ok.glob]; exact I.mod.glob.keeps I.bk) hm h) hd
theorem j3 {E:Value->Shared->Prop}{pins:List (Addr × Obj)}{s:Shared}{σ:St}{H:Hp}{x:Str}{u:Value}{pos:Pos}{Q:Value->Shared->Prop} (I:a8 X pins σ H s) (hg:Gl X x) (hm:X.mg x=none) (hv:bootBuiltins x=some u) (h:Q u s)
  (hn:x ≠ "__name__":=by decide) (hd:(x == ("__debug__" : Str))=false:=by decide):wpAny (model X.prog X.w) X.A (eval (.Name x pos) X.env) Q E s:=by
 obtain ⟨mb,h1,h2⟩:=I.mod.blt
 exact Calls.Name_function_global I.ok.kind hg (Calls.loadGlobal_builtin (by rw [I.ok.glob]; exact I.mod.glob.keeps I.bk) hm (by rw [I.ok.blt]; exact h1.keeps I.bk) ((h2 x hn).trans hv) h) hd
theorem ah3 {x:Str}{v:V}{u:Value}{pos:Pos} (hg:Gl X x) (hm:X.mg x=some u) (r:b4 v u) (hd:(x == ("__debug__" : Str))=false:=by decide):PE X (.Name x pos) (tC v):=
 fun _ _ _ H _ I h=>nB I hg hm ⟨v,H,I,r,h⟩ hd
theorem y6 {x:Str}{v:V}{u:Value}{pos:Pos} (hg:Gl X x) (hm:X.mg x=none) (hv:bootBuiltins x=some u) (r:b4 v u) (hn:x ≠ "__name__":=by decide) (hd:(x == ("__debug__" : Str))=false:=by decide):PE X (.Name x pos) (tC v):=
 fun _ _ _ H _ I h=>j3 I hg hm hv ⟨v,H,I,r,h⟩ hn hd
variable {a b : Expr} {ta tb : TE} {pos : Pos}
def PC (X:Cx) (op:CmpOp) (a b:Expr) (t:TE):Prop:=
 ∀ (pins:List (Addr × Obj)) (s:Shared) (σ:St) (H:Hp) (Q:VK),a8 X pins σ H s->t σ H Q->
  wpAny (model X.prog X.w) X.A (eval a X.env) (fun v s₁=>wpAny (model X.prog X.w) X.A (eval b X.env) (fun u s₂=>wpAny (model X.prog X.w) X.A (compareOp op v u) (EP X pins σ Q) X.xe s₂) X.xe s₁) X.xe s
def tB (t:TE):TT:=fun σ H Q=>t σ H fun x H1=>∃ c,x = .bl c/\Q c H1
theorem ah4 {op:CmpOp}{t:TE} (h:PC X op a b t) (h1:behindInMarks op b=false:=by first | exact nobehind _ (by decide) (by decide) | rfl):PE X (.Compare a [op] [b] pos) t:=fun pins s σ H Q I hw=>wpAny_Compare1 (h pins s σ H Q I hw) h1
theorem y7 {op:CmpOp}{t:TE} (h:PC X op a b t) (h1:behindInMarks op b=false:=by first | exact nobehind _ (by decide) (by decide) | rfl):PT X (.Compare a [op] [b] pos) (tB t):=by
 intro pins s σ H Q I hw
 refine wpAny_isTrue_Compare1 (aS (h pins s σ H _ I hw) fun v s1 h1=>aS h1 fun u s2 h2=>aS h2 fun c s3 ⟨x,H1,I1,r1,q1⟩=>?_) h1
 obtain ⟨d,rfl,q⟩:=q1
 cases r1
 exact bq2 ⟨H1,I1,q⟩
theorem ah5 {e:Expr}{t:TE} (h:PE X e t) (he:∀ whole,isTrue e X.env whole=(do let v <- whole; standAt e.pos; holding [v] (truthy v)):=by intro _; rfl):PT X e (tB t):=by
 intro pins s σ H Q I hw
 refine isTrue_plain (aS (h pins s σ H _ I hw) fun v s1 ⟨x,H1,I1,r1,q1⟩=>?_) (he _)
 obtain ⟨d,rfl,q⟩:=q1
 cases r1
 exact bq2 ⟨H1,I1,q⟩
variable {tA tB' : TT} {cJ : List Expr}
def yA (t u:TT):TT:=fun σ H Q=>t σ H fun c H1=>if c=true then u σ H1 Q else Q false H1
def yB (t u:TT):TT:=fun σ H Q=>t σ H fun c H1=>if c=true then Q true H1 else u σ H1 Q
def yC (t:TT):TT:=fun σ H Q=>t σ H fun c H1=>Q (!c) H1
theorem ah6 (ha:PT X a tA):PW X (.BoolOp .And [a] pos) tA:=by
 intro wh pins s σ H Q I h
 refine isTrue_and (aS (ha pins s σ H Q I h) fun c s1 e=>?_)
 cases c with
 | true=>exact isTrue_and_nil e
 | false=>exact e
theorem ah7 (ha:PT X a tA):PW X (.BoolOp .Or [a] pos) tA:=by
 intro wh pins s σ H Q I h
 refine isTrue_or (aS (ha pins s σ H Q I h) fun c s1 e=>?_)
 cases c with
 | false=>exact isTrue_or_nil e
 | true=>exact e
theorem ah8 (ha:PT X a tA) (hb:PW X (.BoolOp .And (b :: cJ) pos) tB'):PW X (.BoolOp .And (a :: b :: cJ) pos) (yA tA tB'):=by
 intro wh pins s σ H Q I h
 refine isTrue_and (aS (ha pins s σ H _ I h) fun c s1 ⟨H1,I1,q1⟩=>?_)
 cases c with
 | true=>exact hb wh pins s1 σ H1 Q I1 q1
 | false=>exact⟨H1,I1,q1⟩
theorem ah9 (ha:PT X a tA) (hb:PW X (.BoolOp .Or (b :: cJ) pos) tB'):PW X (.BoolOp .Or (a :: b :: cJ) pos) (yB tA tB'):=by
 intro wh pins s σ H Q I h
 refine isTrue_or (aS (ha pins s σ H _ I h) fun c s1 ⟨H1,I1,q1⟩=>?_)
 cases c with
 | true=>exact⟨H1,I1,q1⟩
 | false=>exact hb wh pins s1 σ H1 Q I1 q1
theorem ai0 (ha:PT X a tA):PT X (.UnaryOp .Not a pos) (yC tA):=by
 intro pins s σ H Q I h
 exact isTrue_not (ha pins s σ H (fun c H1=>Q (!c) H1) I h)
def yD (ta tb:TE):TE:=fun σ H Q=>ta σ H fun x H1=>∃ c,x = .bl c/\if c=true then tb σ H1 Q else Q (.bl false) H1
def yE (ta:TE):TE:=fun σ H Q=>ta σ H fun x H1=>∃ c,x = .bl c/\Q (.bl (!c)) H1
theorem ai1 {op}{t:TE} (h:PE X a t):PE X (.BoolOp op [a] pos) t:=fun pins s σ H Q I hw=>BoolOp_one (h pins s σ H Q I hw)
theorem ai2 (ha:PE X a ta) (hb:PE X (.BoolOp .And (b :: cJ) pos) tb):PE X (.BoolOp .And (a :: b :: cJ) pos) (yD ta tb):=by
 intro pins s σ H Q I h
 refine BoolOp_and (aS (ha pins s σ H _ I h) fun v s1 ⟨x,H1,I1,r1,q1⟩=>?_)
 obtain ⟨c,rfl,q1⟩:=q1
 cases r1
 refine bq2 ?_
 cases c with
 | true=>exact hb pins s1 σ H1 Q I1 q1
 | false=>exact⟨.bl false,H1,I1,rfl,q1⟩
theorem ai3 (ha:PE X a ta):PE X (.UnaryOp .Not a pos) (yE ta):=by
 intro pins s σ H Q I h
 refine UnaryOp_ (aS (ha pins s σ H _ I h) fun v s1 ⟨x,H1,I1,r1,q1⟩=>?_)
 obtain ⟨c,rfl,q1⟩:=q1
 cases r1
 exact not_of (bq2 ⟨.bl (!c),H1,I1,rfl,q1⟩)
end
def aU (K:PySem.W.Frag) (H:Hp) (a:Addr) (xs:List V):Prop:=
 Rd H a (.lst xs) ∨
  ∃ (o:Obj) (its:Array Value) (n:Nat),K.lookup a=some o/\o.cls = .type "list"/\o.dict=none/\o.data = .seq its n/\its.size<=sizeLine/\aQ xs its.toList
def aO (K:PySem.W.Frag) (H:Hp) (a:Addr) (xs:List V):Prop:=
 Rd H a (.tup xs) ∨
  ∃ (o:Obj) (its:Array Value) (n:Nat),K.lookup a=some o/\o.cls = .type "tuple"/\o.data = .seq its n/\its.size<=sizeLine/\aQ xs its.toList
def ai4:Value->Option V
 | .none=>some .non
 | .bool b=>some (.bl b)
 | .int i _=>some (.int i)
 | .str x _=>some (.str x)
 | .bytes b _=>some (.byt b)
 | .float b _=>some (.flt b)
 | .ref a=>some (.ref a)
 | .type n=>some (.ty n)
 | _=>none
theorem b4.abs {x:V}{u:Value} (r:b4 x u):ai4 u=some x:=by
 cases x with
 | non=>cases r; rfl
 | bl _=>cases r; rfl
 | int _=>obtain ⟨t,rfl⟩:=r; rfl
 | str _=>obtain ⟨t,rfl⟩:=r; rfl
 | byt _=>obtain ⟨t,rfl⟩:=r; rfl
 | flt _=>obtain ⟨t,rfl⟩:=r; rfl
 | ref _=>cases r; rfl
 | ty _=>cases r; rfl
theorem b4.inj {x y:V}{u:Value} (r:b4 x u) (q:b4 y u):x=y:=bg9 (r.abs.symm.trans q.abs)
theorem aQ.inj:∀ {xs ys:List V}{us:List Value},aQ xs us->aQ ys us->xs=ys
 | _,_,_,.nil,.nil=>rfl
 | _,_,_,.cons r t,.cons r' t'=>by rw [r.inj r',aQ.inj t t']
section
variable {X : Cx} {pins : List (Addr × Obj)} {σ : St} {H : Hp} {s : Shared} {a : Addr} {xs ys : List V}
theorem aU.of {K:PySem.W.Frag} (h:H a=some (.lst xs)):aU K H a xs:=.inl (.inl h)
theorem aO.of {K:PySem.W.Frag} (h:H a=some (.tup xs)):aO K H a xs:=.inl (.inl h)
theorem a8.list (I:a8 X pins σ H s) (h:aU X.K H a xs):∃ its:List Value,aQ xs its/\PlainL s.heap a its.toArray/\xs.length<=sizeLine:=by
 rcases h with h | ⟨o,its,n,hk,hc,hd,hs,hz,r⟩
 ·obtain ⟨z,its,n,r,e⟩:=h.ok I.hok
  exact⟨its,r,⟨_,n,e,rfl,rfl,rfl⟩,z⟩
 ·refine⟨its.toList,r,⟨o,n,I.kIn a o hk,hc,hd,by simpa using hs⟩,?_⟩
  have e:=r.length
  simp only [bi0] at e
  omega
theorem a8.tuple (I:a8 X pins σ H s) (h:aO X.K H a xs):∃ its:List Value,aQ xs its/\IsTup s.heap a its.toArray/\xs.length<=sizeLine:=by
 rcases h with h | ⟨o,its,n,hk,hc,hs,hz,r⟩
 ·obtain ⟨z,its,r,p,_⟩:=h.ok I.hok
  exact⟨its,r,p,z⟩
 ·refine⟨its.toList,r,⟨o,I.kIn a o hk,hc,n,by simpa using hs⟩,?_⟩
  have e:=r.length
  simp only [bi0] at e
  omega
theorem a8.list_inj (I:a8 X pins σ H s) (h:aU X.K H a xs) (h':aU X.K H a ys):xs=ys:=by
 obtain ⟨its,r,⟨o,n,e,_,_,d⟩,_⟩:=I.list h
 obtain ⟨its',r',⟨o',n',e',_,_,d'⟩,_⟩:=I.list h'
 rw [e] at e'; cases e'
 rw [d] at d'
 injection d' with d1 _
 have:its=its':=by simpa using congrArg Array.toList d1
 subst this
 exact r.inj r'
theorem a8.tuple_inj (I:a8 X pins σ H s) (h:aO X.K H a xs) (h':aO X.K H a ys):xs=ys:=by
 obtain ⟨its,r,⟨o,e,_,n,d⟩,_⟩:=I.tuple h
 obtain ⟨its',r',⟨o',e',_,n',d'⟩,_⟩:=I.tuple h'
 rw [e] at e'; cases e'
 rw [d] at d'
 injection d' with d1 _
 have:its=its':=by simpa using congrArg Array.toList d1
 subst this
 exact r.inj r'
end
abbrev Cx.wish (X:Cx) (E:Value->Shared->Prop):Cx:={ X with xe:=E }
abbrev Cx.nox (X:Cx):Cx:=X.wish fun _ _=>False
theorem Cx.Ok.wish {X:Cx} (ok:X.Ok) (E:Value->Shared->Prop):(X.wish E).Ok:=
 ⟨ok.mod,ok.kind,ok.glob,ok.blt,ok.above,ok.inj,ok.has,ok.cab,ok.hd,ok.frames,ok.stk,ok.exf,ok.bs,ok.bsz,ok.noex,ok.exfs,ok.funs,ok.frf⟩
theorem Cx.Ok.unwish {X:Cx}{E:Value->Shared->Prop} (ok:(X.wish E).Ok):X.Ok:=
 ⟨ok.mod,ok.kind,ok.glob,ok.blt,ok.above,ok.inj,ok.has,ok.cab,ok.hd,ok.frames,ok.stk,ok.exf,ok.bs,ok.bsz,ok.noex,ok.exfs,ok.funs,ok.frf⟩
section
variable {X : Cx} {pins : List (Addr × Obj)} {σ : St} {H : Hp} {s : Shared} {E : Value → Shared → Prop}
theorem a8.wish (I:a8 X pins σ H s) (E:Value->Shared->Prop):a8 (X.wish E) pins σ H s:=⟨I.ok.wish E,I.os,I.bare,I.base,I.loc,I.cell,I.free,I.freeC,I.pin,I.hok,I.len⟩
theorem a8.unwish (I:a8 (X.wish E) pins σ H s):a8 X pins σ H s:=⟨I.ok.unwish,I.os,I.bare,I.base,I.loc,I.cell,I.free,I.freeC,I.pin,I.hok,I.len⟩
theorem SP.unwish {D:bS}{f:Flow}{s':Shared} (h:SP (X.wish E) pins D f s'):SP X pins D f s':=by
 cases f with
 | next=>obtain ⟨σ',H',I,q⟩:=h; exact⟨σ',H',I.unwish,q⟩
 | brk=>obtain ⟨σ',H',I,q⟩:=h; exact⟨σ',H',I.unwish,q⟩
 | cont=>obtain ⟨σ',H',I,q⟩:=h; exact⟨σ',H',I.unwish,q⟩
 | ret u=>obtain ⟨v,σ',H',I,r,q⟩:=h; exact⟨v,σ',H',I.unwish,r,q⟩
theorem dA.nox {st:List Stmt}{t:TS} (h:dA X.nox st t):dA X st t:=fun pins s σ H D I hw=>
 bm2 (h pins s σ H D (I.wish _) hw) (fun _ _ q=>q.unwish) fun _ _ z=>False.elim z
end
section
variable {X : Cx} {st : Stmt} {cJ : List Stmt} {t u : TS} {e : Expr} {te : TE} {pos : Pos}
def yF:TS:=fun D σ H=>D.nx σ H
def tG (t u:TS):TS:=fun D σ H=>t { D with nx:=u D } σ H
theorem ai5:dA X [] yF:=fun _ _ σ H _ I h=>bs1 ⟨σ,H,I,h⟩
theorem nC (h1:PS X st t) (h2:dA X cJ u):dA X (st :: cJ) (tG t u):=by
 intro pins s σ H D I h
 refine wpAny_execs_cons (aS (h1 pins s σ H { D with nx:=u D } I h) fun f s1 q=>?_)
 cases f with
 | next=>
  obtain ⟨σ',H',I',q⟩:=q
  exact h2 pins s1 σ' H' D I' q
 | ret v=>exact q
 | brk=>exact q
 | cont=>exact q
theorem lH (h1:PS X st t):dA X [st] t:=by
 intro pins s σ H D I h
 refine wpAny_execs_cons (aS (h1 pins s σ H D I h) fun f s1 q=>?_)
 cases f with
 | next=>exact bs1 q
 | ret v=>exact q
 | brk=>exact q
 | cont=>exact q
theorem a8.quiet {pins:List (Addr × Obj)}{σ:St}{H:Hp}{s:Shared} (I:a8 X pins σ H s):interactive X.env=false:=by simp [interactive,I.ok.kind]
def kH (te:TE):TS:=fun D σ H=>te σ H fun _ H1=>D.nx σ H1
theorem jQ (he:PE X e te) (hs:swapsWith e none pos.line X.env=pure false:=by rfl):PS X (.Expr e pos) (kH te):=by
 intro pins s σ H D I h
 exact wpAny_Expr_any (aS (he pins s σ H _ I h) fun v s1 ⟨x,H1,I1,r1,q1⟩=>⟨σ,H1,I1,q1⟩) I.quiet hs
def lI (te:TE):TS:=fun D σ H=>te σ H D.rt
theorem lJ (he:PE X e te):PS X (.Return (some e) pos) (lI te):=by
 intro pins s σ H D I h
 exact wpAny_Return_some (aS (he pins s σ H _ I h) fun v s1 ⟨x,H1,I1,r1,q1⟩=>⟨x,σ,H1,I1,r1,q1⟩)
def yG (c:TT) (t u:TS):TS:=fun D σ H=>c σ H fun b H1=>if b=true then t D σ H1 else u D σ H1
theorem ai6 {c:Expr}{a b:List Stmt}{tc:TT} (hc:PT X c tc) (ha:dA X a t) (hb:dA X b u):PS X (.If c a b pos) (yG tc t u):=by
 intro pins s σ H D I h
 refine wpAny_If (aS (hc pins s σ H _ I h) fun d s1 ⟨H1,I1,q1⟩=>?_)
 cases d with
 | true=>exact ha pins s1 σ H1 D I1 q1
 | false=>exact hb pins s1 σ H1 D I1 q1
end
abbrev TG:=V->St->Hp->(St->Hp->Prop)->Prop
abbrev kI:=List V->St->Hp->(St->Hp->Prop)->Prop
def PG (X:Cx) (target:Expr) (t:TG):Prop:=
 ∀ (pins:List (Addr × Obj)) (s:Shared) (σ:St) (H:Hp) (v:V) (u:Value) (Q:St->Hp->Prop),a8 X pins σ H s->b4 v u->t v σ H Q->
  wpAny (model X.prog X.w) X.A (assign target X.env u) (fun _ s'=>∃ σ' H',a8 X pins σ' H' s'/\Q σ' H') X.xe s
def pE (X:Cx) (ts:List Expr) (t:kI):Prop:=
 ∀ (pins:List (Addr × Obj)) (s:Shared) (σ:St) (H:Hp) (vs:List V) (us:List Value) (Q:St->Hp->Prop),a8 X pins σ H s->aQ vs us->t vs σ H Q->
  wpAny (model X.prog X.w) X.A (assignInOrder ((assignEach ts X.env).map (·.2)) us) (fun _ s'=>∃ σ' H',a8 X pins σ' H' s'/\Q σ' H') X.xe s
abbrev tH:=V->V->V->Hp->(Hp->Prop)->Prop
def yH (X:Cx) (t:tH):Prop:=
 ∀ (pins:List (Addr × Obj)) (s:Shared) (σ:St) (H:Hp) (o i v:V) (ov iv u:Value) (Q:Hp->Prop),a8 X pins σ H s->b4 o ov->b4 i iv->b4 v u->t o i v H Q->
  wpAny (model X.prog X.w) X.A (setItem ov iv u) (fun _ s'=>∃ H',a8 X pins σ H' s'/\Q H') X.xe s
section
variable {X : Cx} {pos : Pos}
def cG (i:Nat):TG:=fun v σ H Q=>Q (σ.set i (some v)) H
theorem eQ {i:Nat}{x:Str} (hN:X.N.Nodup) (hi:X.N[i]? = some x) (hx:hV X.env.scope x) (hf:X.fn x=true ∨ X.env.scope.names.lookup x=some .local:=by first | exact .inl rfl | exact .inr rfl | assumption):PG X (.Name x pos) (cG i):=by
 intro pins s σ H v u Q I r h
 exact wpAny_assign_Name (tF I hN hi hx r (fun s' I'=>⟨_,H,I',h⟩) hf)
def jR:kI:=fun vs σ H Q=>vs = []/\Q σ H
def fD (t:TG) (u:kI):kI:=fun vs σ H Q=>∃ v r,vs=v :: r/\t v σ H fun σ' H'=>u r σ' H' Q
theorem lK:pE X [] jR:=by
 intro pins s σ H vs us Q I r h
 obtain ⟨e,h⟩:=h
 subst e
 cases r
 exact assignInOrder_nil ⟨σ,H,I,h⟩
theorem gK {e:Expr}{es:List Expr}{t:TG}{u:kI} (h1:PG X e t) (h2:pE X es u)
  (hs:(assignEach (e :: es) X.env).map (·.2)=assign e X.env :: (assignEach es X.env).map (·.2):=by rfl):pE X (e :: es) (fD t u):=by
 intro pins s σ H vs us Q I r h
 obtain ⟨v,vr,e1,h⟩:=h
 subst e1
 cases r with
 | cons r rr=>
  rw [hs]
  refine assignInOrder_cons (aS (h1 pins s σ H _ _ _ I r h) fun _ s1 ⟨σ1,H1,I1,q1⟩=>?_)
  exact h2 pins s1 σ1 H1 _ _ Q I1 rr q1
def jS (K:PySem.W.Frag) (n:Nat) (t:kI):TG:=fun v σ H Q=>∃ a xs,v = .ref a/\aO K H a xs/\xs.length=n/\t xs σ H Q
theorem lM {es:List Expr}{k:Nat}{t:kI}{n:Nat} (hc:X.calm=true) (h:pE X es t)
  (hn:(assignEach es X.env).length=n:=by rfl) (hst:(assignEach es X.env).findIdx? (·.1)=none:=by rfl):PG X (.Tuple es k pos) (jS X.K n t):=by
 intro pins s σ H v u Q I r hw
 obtain ⟨a,xs,e1,hq,hl,hw⟩:=hw
 subst e1
 cases r
 obtain ⟨its,rv,ht,hz⟩:=I.tuple hq
 refine assign_Tuple_tuple (I.ok.hd hc) ht (by simp [hn,<- hl,rv.length]) hst fun h' hx=>?_
 have I1:a8 X pins σ H { s with heap:=h' }:=I.kept (t':=s.toks) fun b o e=>hx b o (bh5 (bf8 e)) e
 exact h pins _ σ H xs _ Q I1 (by simpa using rv) hw
def tI (to ti:TE) (t:tH):TG:=fun v σ H Q=>to σ H fun o H1=>ti σ H1 fun i H2=>t o i v H2 fun H3=>Q σ H3
theorem ai7 {o i:Expr}{to ti:TE}{t:tH} (ho:PE X o to) (hi:PE X i ti) (hs:yH X t)
  (ha:∀ v,assign (.Subscript o i pos) X.env v=(do
   let ov <- holding [v] (eval o X.env)
   let iv <- holding [v,ov] (eval i X.env)
   standAt pos
   holding [v,ov,iv] (setItem ov iv v)
   release [v,ov,iv] []):=by intro _; rfl):PG X (.Subscript o i pos) (tI to ti t):=by
 intro pins s σ H v u Q I r h
 rw [ha]
 refine bd9 (bm0 (aS (ho pins s σ H _ I h) fun ov s1 ⟨x,H1,I1,r1,q1⟩=>?_))
 refine bd9 (bm0 (aS (hi pins s1 σ H1 _ I1 q1) fun iv s2 ⟨y,H2,I2,r2,q2⟩=>?_))
 refine bd9 (wpAny_standAt (bd9 (bm0 (aS (hs pins s2 σ H2 x y v ov iv u _ I2 r1 r2 r q2) fun _ s3 ⟨H3,I3,q3⟩=>?_))))
 exact wpAny_release ⟨σ,H3,I3,q3⟩
def jT (te:TE) (g:TG):TS:=fun D σ H=>te σ H fun x H1=>g x σ H1 D.nx
theorem yI {tg e:Expr}{te:TE}{g:TG} (he:PE X e te) (hg:PG X tg g) (hs:swapsWithSole [tg] e pos.line X.env=pure false:=by rfl) (hw:swappedStores [tg] e X.env=pure none:=by rfl)
  (h1:(assignEach [tg] X.env).map (·.2) = [assign tg X.env]:=by rfl):PS X (.Assign [tg] e pos) (jT te g):=by
 intro pins s σ H D I h
 refine wpAny_Assign_stores (aS (he pins s σ H _ I h) fun v s1 ⟨x,H1,I1,r1,q1⟩=>?_) hs hw
 rw [h1]
 exact aS (hg pins s1 σ H1 x v _ I1 r1 q1) fun _ s2 q=>q
theorem yJ {i:Nat}{x:Str}{e:Expr}{te:TE}{pos':Pos} (hN:X.N.Nodup) (hi:X.N[i]? = some x) (hx:hV X.env.scope x) (he:PE X e te) (hs:swapsWith e (some (.Name x pos')) pos.line X.env=pure false:=by rfl) (hf:X.fn x=true ∨ X.env.scope.names.lookup x=some .local:=by first | exact .inl rfl | exact .inr rfl | assumption) :
  PS X (.Assign [.Name x pos'] e pos) (jT te (cG i)):=by
 intro pins s σ H D I h
 refine wpAny_Assign_Name (aS (he pins s σ H _ I h) fun v s1 ⟨y,H1,I1,r1,q1⟩=>?_) hs
 exact tF I1 hN hi hx r1 (fun s2 I2=>⟨_,H1,I2,q1⟩) hf
end
section
variable {X : Cx} {pos : Pos}
def yK (c:TT) (tb:TS):TS:=fun D σ H=>∃ W:Nat->St->Hp->Prop,(∃ m,W m σ H)/\∀ m σ H,W m σ H->
 c σ H fun b H1=>if b=true then ∃ N:St->Hp->Prop,(∀ σ' H',N σ' H'->∃ m',m' < m/\W m' σ' H')/\tb { D with nx:=N,ct:=N,bk:=D.nx } σ H1 else D.nx σ H1
theorem ai8 {c:Expr}{body:List Stmt}{tc:TT}{tb:TS} (hp:PassesOwn (model X.prog X.w) X.A X.env X.xe) (hc:PT X c tc) (hb:dA X body tb):PS X (.While c body [] pos) (yK tc tb):=by
 intro pins s σ H D I h
 obtain ⟨W,⟨m0,w0⟩,turn⟩:=h
 refine wpAny_While (codeAny_whileLoop (fun n s'=>∃ σ' H',a8 X pins σ' H' s'/\W n σ' H') ?_ m0 ⟨σ,H,I,w0⟩)
 rintro n s1 ⟨σ1,H1,I1,w1⟩
 refine bs2 hp (aS (hc pins s1 σ1 H1 _ I1 (turn n σ1 H1 w1)) fun b s2 ⟨H2,I2,q2⟩=>?_)
 cases b with
 | true=>
  obtain ⟨N,hN,q2⟩:=q2
  rw [if_pos rfl]
  refine bs2 hp (aS (hb pins s2 σ1 H2 _ I2 q2) fun f s3 q3=>?_)
  cases f with
  | next=>
   obtain ⟨σ3,H3,I3,n3⟩:=q3
   obtain ⟨m',hm,w3⟩:=hN σ3 H3 n3
   exact⟨m',hm,σ3,H3,I3,w3⟩
  | cont=>
   obtain ⟨σ3,H3,I3,n3⟩:=q3
   obtain ⟨m',hm,w3⟩:=hN σ3 H3 n3
   exact⟨m',hm,σ3,H3,I3,w3⟩
  | brk=>exact q3
  | ret v=>exact q3
 | false=>
  rw [if_neg bg6]
  exact bs1 ⟨σ1,H2,I2,q2⟩
end
structure It where
 go:Nat->Hp->Prop
 yld:Nat->Hp->V->Hp->Prop
 stop:Nat->Hp->Prop
def gL (X:Cx) (pins:List (Addr × Obj)) (H:Hp) (b:Addr):Prop:=
 H b=none/\b ≠ X.env.locals/\b ∉ X.fs/\(b ∈ X.ex ∨ X.s₀.heap.objs.size<=b)/\(∀ x c,X.env.cells.lookup x=some c->c ≠ b)/\∀ p ∈ X.pn ++ pins,p.1 ≠ b
theorem a8.fpOk {X:Cx}{pins:List (Addr × Obj)}{σ:St}{H H':Hp}{s:Shared}{b:Addr} (I:a8 X pins σ H s) (hb:s.heap.objs.size<=b) (hn:H' b=none):gL X pins H' b:=by
 refine⟨hn,bl7 (bf2 I.lt hb),I.nofs hb,.inr (bh6 I.sz hb),fun x c e z=>?_,fun p hp z=>?_⟩
 ·obtain ⟨v,q⟩:=I.cell x c e
  exact absurd (bf2 q.lt (by rw [z]; exact hb)) (bj7 _)
 ·exact absurd (bf2 (bf8 (I.pin p hp).1) (by rw [z]; exact hb)) (bj7 _)
structure hZ (P:Program) (w:World) (K:PySem.W.Frag) (tg:Expr) (J:It) (fp:List Addr) (it:Addr) (tn:Nat->Heap->Prop):Prop where
 mem:it ∈ fp
 obj:∀ i h,tn i h->∀ b ∈ fp,∃ o,h.get? b=some o/\∀ v,o.data ≠ .cell v
 keep:∀ i h h',tn i h->(∀ b ∈ fp,∀ o,h.get? b=some o->h'.get? b=some o)->tn i h'
 item:∀ (X:Cx),X.prog=P->X.w=w->X.K=K->X.calm=true->∀ (i:Nat) (pins:List (Addr × Obj)) (s:Shared) (σ:St) (H:Hp) (E:Value->Shared->Prop),a8 X pins σ H s->(∀ b ∈ fp,gL X pins H b)->tn i s.heap->J.go i H->
  wpAny (model P w) X.A (pyNext (.ref it)) (fun r s1=>∃ u,r=some u/\
   wpAny (model P w) X.A (letOwnedTupleGo tg (.ref it) u) (fun _ s2=>∃ x H',a8 X pins σ H' s2/\b4 x u/\J.yld i H x H'/\tn (i+1) s2.heap/\∀ b ∈ fp,H' b=none) E s1) E s
 done:∀ (X:Cx),X.prog=P->X.w=w->X.K=K->X.calm=true->∀ (i:Nat) (pins:List (Addr × Obj)) (s:Shared) (σ:St) (H:Hp) (E:Value->Shared->Prop),a8 X pins σ H s->(∀ b ∈ fp,gL X pins H b)->tn i s.heap->J.stop i H->
  wpAny (model P w) X.A (pyNext (.ref it)) (fun r s1=>r=none/\a8 X pins σ H s1) E s
 self:∀ (A:Around) (i:Nat) (s:Shared) (Q:Value->Shared->Prop) (E:Value->Shared->Prop),tn i s.heap->Q (.ref it) s->wpAny (model P w) A (pyIter (.ref it)) Q E s
abbrev TI:=St->Hp->(It->Hp->Prop)->Prop
def yL (X:Cx) (pins:List (Addr × Obj)) (σ:St) (tg:Expr) (R:It->Hp->Prop) (itv:Value) (s2:Shared):Prop:=
 ∃ (it:Addr) (fp:List Addr) (tn:Nat->Heap->Prop) (J:It) (H':Hp),itv = .ref it/\a8 X pins σ H' s2/\hZ X.prog X.w X.K tg J fp it tn/\tn 0 s2.heap/\(∀ b ∈ fp,gL X pins H' b)/\R J H'
def PI (X:Cx) (tg iter:Expr) (wi:TI):Prop:=
 ∀ (pins:List (Addr × Obj)) (s:Shared) (σ:St) (H:Hp) (R:It->Hp->Prop),a8 X pins σ H s->wi σ H R->
  wpAny (model X.prog X.w) X.A (eval iter X.env) (fun v s1=>wpAny (model X.prog X.w) X.A (pyIter v) (yL X pins σ tg R) X.xe s1) X.xe s
theorem pF {M:Model}{A:Around}{E:Value->Shared->Prop}{s:Shared}{tg:Expr}{it:Addr}{u:Value}{o:Obj}{n:String}{vs:Array Value}{Q:Unit->Shared->Prop} (ho:s.heap.get? it=some o) (hc:o.cls = .type n) (hd:o.data = .fields vs)
    (hn : ["enumerate","zip","dict_itemiterator","dict_reverseitemiterator","odict_iterator","itertools.zip_longest","itertools.pairwise"].contains n=false) (hQ:Q () s):wpAny M A (letOwnedTupleGo tg (.ref it) u) Q E s:=by
  unfold letOwnedTupleGo
  cases tg <;> first
    | exact be4 hQ
    | (cases u <;> first
        | exact be4 hQ
        | (refine bd9 (wpAny_load ho ?_)
           rw [hc,hd]
           show wpAny M A (if (["enumerate","zip","dict_itemiterator","dict_reverseitemiterator","odict_iterator","itertools.zip_longest","itertools.pairwise"].contains n && vs[0]? == some (rawInt _))=true then _ else _) Q E s
           rw [if_neg (by intro h; rw [hn,br3] at h; cases h)]
           exact be4 hQ))
def lN (K:PySem.W.Frag) (a:Addr):It:=
 ⟨fun i H=>∃ xs x,aU K H a xs/\xs[i]? = some x,fun i H x H'=>H'=H/\∀ xs,aU K H a xs->xs[i]? = some x,fun i H=>∃ xs,aU K H a xs/\xs.length<=i⟩
def jU (K:PySem.W.Frag) (a:Addr):It:=
 ⟨fun i H=>∃ xs x,aO K H a xs/\xs[i]? = some x,fun i H x H'=>H'=H/\∀ xs,aO K H a xs->xs[i]? = some x,fun i H=>∃ xs,aO K H a xs/\xs.length<=i⟩
def nD (lo:Int) (n:Nat):It:=⟨fun i _=>i < n,fun i H x H'=>H'=H/\x = .int (lo+i),fun i _=>n<=i⟩
theorem ai9 {P:Program}{w:World}{K:PySem.W.Frag}{tg:Expr} (a it:Addr):hZ P w K tg (lN K a) [it] it (fun i h=>h.IsListIter it a i) where
 mem:=by simp
 obj:=fun i h st b hb=>by
  have e:b=it:=by simpa using hb
  subst e
  obtain ⟨o,e,c,d⟩:=st
  exact⟨o,e,fun v z=>by rw [d] at z; cases z⟩
 keep:=fun i h h' st k=>st.at fun o e=>k it (by simp) o e
 item:=by
  intro X hP hw hK hc i pins s σ H E I hf st hg
  subst hP hw hK
  obtain ⟨xs,x,hq,hx⟩:=hg
  obtain ⟨its,rv,p,hz⟩:=I.list hq
  obtain ⟨u,hu,ru⟩:=rv.get hx
  obtain ⟨f0,f1,f2,f3,f4,f5⟩:=hf it (by simp)
  refine wpAny_pyNext_list_item st p.isList (x:=u) (by simpa using hu) fun h' st' sb=>?_
  have I1:a8 X pins σ H { s with heap:=h' }:=I.turned (t':=s.toks) (fun b o hb e=>(sb.2 b hb).trans e) f0 f1 f3 f4 f5
  obtain ⟨o,e,c,d⟩:=id st'
  exact⟨u,rfl,pF (s:={ s with heap:=h' }) e c d (by decide) ⟨x,H,I1,ru,⟨rfl,fun ys hy=>by rw [I.list_inj hy hq]; exact hx⟩,st',fun b hb=>(hf b hb).1⟩⟩
 done:=by
  intro X hP hw hK hc i pins s σ H E I hf st hg
  subst hP hw hK
  obtain ⟨xs,hq,hx⟩:=hg
  obtain ⟨its,rv,p,hz⟩:=I.list hq
  obtain ⟨f0,f1,f2,f3,f4,f5⟩:=hf it (by simp)
  have hl:=rv.length
  exact wpAny_pyNext_list_end (I.ok.hd hc) st p.isList (by simp; omega) fun h' eb=>⟨rfl,I.turned (t':=s.toks) (fun b o hb e=>eb b o hb e) f0 f1 f3 f4 f5⟩
 self:=fun _ _ _ _ _ st h=>wpAny_pyIter_listiter st h
theorem yM {P:Program}{w:World}{K:PySem.W.Frag}{tg:Expr} (a it:Addr):hZ P w K tg (jU K a) [it] it (fun i h=>h.IsTupleIter it a i) where
 mem:=by simp
 obj:=fun i h st b hb=>by
  have e:b=it:=by simpa using hb
  subst e
  obtain ⟨o,e,c,d⟩:=st
  exact⟨o,e,fun v z=>by rw [d] at z; cases z⟩
 keep:=fun i h h' st k=>st.at fun o e=>k it (by simp) o e
 item:=by
  intro X hP hw hK hc i pins s σ H E I hf st hg
  subst hP hw hK
  obtain ⟨xs,x,hq,hx⟩:=hg
  obtain ⟨its,rv,p,hz⟩:=I.tuple hq
  obtain ⟨u,hu,ru⟩:=rv.get hx
  obtain ⟨f0,f1,f2,f3,f4,f5⟩:=hf it (by simp)
  refine wpAny_pyNext_tuple_item st (show s.heap.IsTuple a its.toArray from p) (x:=u) (by simpa using hu) fun h' st' sb=>?_
  have I1:a8 X pins σ H { s with heap:=h' }:=I.turned (t':=s.toks) (fun b o hb e=>(sb.2 b hb).trans e) f0 f1 f3 f4 f5
  obtain ⟨o,e,c,d⟩:=id st'
  exact⟨u,rfl,pF (s:={ s with heap:=h' }) e c d (by decide) ⟨x,H,I1,ru,⟨rfl,fun ys hy=>by rw [I.tuple_inj hy hq]; exact hx⟩,st',fun b hb=>(hf b hb).1⟩⟩
 done:=by
  intro X hP hw hK hc i pins s σ H E I hf st hg
  subst hP hw hK
  obtain ⟨xs,hq,hx⟩:=hg
  obtain ⟨its,rv,p,hz⟩:=I.tuple hq
  obtain ⟨f0,f1,f2,f3,f4,f5⟩:=hf it (by simp)
  have hl:=rv.length
  exact wpAny_pyNext_tuple_end (I.ok.hd hc) st (show s.heap.IsTuple a its.toArray from p) (by simp; omega) fun h' eb=>⟨rfl,I.turned (t':=s.toks) (fun b o hb e=>eb b o hb e) f0 f1 f3 f4 f5⟩
 self:=fun _ _ _ _ _ st h=>wpAny_pyIter_tupleiter st h
theorem aj0 {P:Program}{w:World}{K:PySem.W.Frag}{tg:Expr} (it:Addr) (lo:Int) (n:Nat):hZ P w K tg (nD lo n) [it] it (fun i h=>IsRangeIter h it (lo+(i:Nat) * 1) ((n:Int) - (i:Nat)) 1) where
 mem:=by simp
 obj:=fun i h st b hb=>by
  have e:b=it:=by simpa using hb
  subst e
  exact⟨_,st,fun v z=>by
   have z':Data.fields _=Data.cell v:=z
   cases z'⟩
 keep:=fun i h h' st k=>k it (by simp) _ st
 item:=by
  intro X hP hw hK hc i pins s σ H E I hf st hg
  subst hP hw hK
  obtain ⟨f0,f1,f2,f3,f4,f5⟩:=hf it (by simp)
  have W:=Walks.range (prog:=X.prog) (w:=X.w) (I.ok.hd hc) it lo 1 n
  refine W.item i s _ _ hg st fun v h' tk hv st' kk=>?_
  obtain ⟨t,rfl⟩:=hv
  have I1:a8 X pins σ H { s with heap:=h',toks:=tk }:=I.turned (fun b o hb e=>kk b o (by simpa using hb) e) f0 f1 f3 f4 f5
  refine⟨_,rfl,pF (s:={ s with heap:=h',toks:=tk }) (n:="range_iterator") st' rfl rfl (by decide) ⟨.int (lo+i),H,I1,⟨t,?_⟩,⟨rfl,rfl⟩,st',fun b hb=>(hf b hb).1⟩⟩
  rw [Int.mul_one]
 done:=by
  intro X hP hw hK hc i pins s σ H E I hf st hg
  subst hP hw hK
  obtain ⟨f0,f1,f2,f3,f4,f5⟩:=hf it (by simp)
  exact wpAny_pyNext_range_end (I.ok.hd hc) st (by have:n<=i:=hg; omega) fun h' eb=>⟨rfl,I.turned (t':=s.toks) (fun b o hb e=>eb b o hb e) f0 f1 f3 f4 f5⟩
 self:=fun _ _ _ _ _ st h=>wpAny_pyIter_rangeiter st h
section
variable {X : Cx} {tg : Expr}
def aj1 (K:PySem.W.Frag) (tl:TE):TI:=fun σ H R=>tl σ H fun x H1=>∃ a,x = .ref a/\(∃ xs,aO K H1 a xs)/\R (jU K a) H1
theorem yN {l:Expr}{tl:TE} (hl:PE X l tl):PI X tg l (aj1 X.K tl):=by
 intro pins s σ H R I h
 refine aS (hl pins s σ H _ I h) fun v s1 ⟨x,H1,I1,r1,q1⟩=>?_
 obtain ⟨a,e,⟨xs,hq⟩,q⟩:=q1
 subst e
 cases r1
 obtain ⟨its,rv,p,hz⟩:=I1.tuple hq
 refine br4 (show s1.heap.IsTuple a its.toArray from p) ?_
 refine⟨s1.heap.objs.size,[s1.heap.objs.size],_,_,H1,rfl,I1.kept (t':=s1.toks) fun b o e=>be1 _ e,yM a _,⟨_,bf6 _ rfl,rfl,rfl⟩,fun b hb=>?_,q⟩
 have e:b=s1.heap.objs.size:=by simpa using hb
 subst e
 exact I1.fpOk (be6 _) (I1.hok.fresh (be6 _))
theorem yO {pins:List (Addr × Obj)}{σ:St}{H:Hp}{s:Shared}{R:It->Hp->Prop}{E:Value->Shared->Prop}{lo hi:Int}{t u v:Tok}{tk:Nat} (I:a8 X pins σ H s) (h1 : -(2 ^ 62)<=lo) (h2:lo < 2 ^ 62) (h3 : -(2 ^ 62)<=hi) (h4:hi < 2 ^ 62)
  (q:R (nD lo (hi - lo).toNat) H):wpAny (model X.prog X.w) X.A (pyIter (.ref s.heap.objs.size)) (yL X pins σ tg R) E { s with heap:=s.heap.push { cls:=.type "range",data:=.fields #[.int lo t,.int hi u,.int 1 v] },toks:=tk }:=by
 refine wpAny_pyIter_range (IsRange.new ..) (small_one h1 h2 h3 h4) ?_
 have I1:a8 X pins σ H { s with heap:=s.heap.push { cls:=.type "range",data:=.fields #[.int lo t,.int hi u,.int 1 v] },toks:=tk }:=I.kept fun b o e=>be1 _ e
 refine⟨(s.heap.push { cls:=.type "range",data:=.fields #[.int lo t,.int hi u,.int 1 v] }).objs.size,[(s.heap.push { cls:=.type "range",data:=.fields #[.int lo t,.int hi u,.int 1 v] }).objs.size],_,_,H,rfl,
  I1.kept (t':=tk) fun b o e=>be1 _ e,aj0 _ lo (hi - lo).toNat,?_,fun b hb=>?_,q⟩
 ·have e1:lo+((0:Nat):Int) * 1=lo:=by simp
  have e2:(((hi - lo).toNat:Nat):Int) - ((0:Nat):Int)=Builtin.Range.rangeSize lo hi 1:=by rw [rangeSize_one]; split <;> omega
  show IsRangeIter _ _ (lo+((0:Nat):Int) * 1) ((((hi - lo).toNat:Nat):Int) - ((0:Nat):Int)) 1
  rw [e1,e2]
  exact bf6 _ rfl
 ·have e:b=(s.heap.push { cls:=.type "range",data:=.fields #[.int lo t,.int hi u,.int 1 v] }).objs.size:=by simpa using hb
  subst e
  exact I1.fpOk (be6 _) (I1.hok.fresh (be6 _))
def yP (ta:TA):TI:=fun σ H R=>ta σ H fun vs H1=>∃ j:Int,vs = [.int j]/\-(2 ^ 62)<=j/\j < 2 ^ 62/\R (nD 0 j.toNat) H1
def yQ (ta:TA):TI:=fun σ H R=>ta σ H fun vs H1=>∃ i j:Int,vs = [.int i,.int j]/\(-(2 ^ 62)<=i/\i < 2 ^ 62/\-(2 ^ 62)<=j/\j < 2 ^ 62)/\R (nD i (j - i).toNat) H1
theorem aj2 {a:Expr}{ta:TA}{p pos:Pos} (hg:Gl X "range") (hm:X.mg "range" = none) (ha:PA X [a] ta) (hs:starEach [a] X.env = [(false,eval a X.env)]:=by rfl):PI X tg (.Call (.Name "range" p) [a] [] pos) (yP ta):=by
 intro pins s σ H R I h
 refine Call_ (j3 I hg hm boot_range (bl0 (aS (ha pos pins s σ H _ I h) fun us s1 ⟨vs,H1,I1,r1,q1⟩=>?_) hs rfl))
 obtain ⟨j,e,q1,q2,q⟩:=q1
 subst e
 cases r1 with
 | cons r rr=>
  cases rr
  obtain ⟨t,rfl⟩:=r
  exact call_range_1 (yO I1 (by omega) (by omega) q1 q2 (by simpa using q))
theorem aj3 {a b:Expr}{ta:TA}{p pos:Pos} (hg:Gl X "range") (hm:X.mg "range" = none) (ha:PA X [a,b] ta) (hs:starEach [a,b] X.env = [(false,eval a X.env),(false,eval b X.env)]:=by rfl) (hs2:starEach [b] X.env = [(false,eval b X.env)]:=by rfl) :
  PI X tg (.Call (.Name "range" p) [a,b] [] pos) (yQ ta):=by
 intro pins s σ H R I h
 refine Call_ (j3 I hg hm boot_range (bl0 (aS (ha pos pins s σ H _ I h) fun us s1 ⟨vs,H1,I1,r1,q1⟩=>?_) (by rw [hs,hs2]) (by rw [hs2]; rfl)))
 obtain ⟨i,j,e,⟨q1,q2,q3,q4⟩,q⟩:=q1
 subst e
 cases r1 with
 | cons r rr=>
  cases rr with
  | cons r' rr=>
   cases rr
   obtain ⟨t,rfl⟩:=r
   obtain ⟨t',rfl⟩:=r'
   exact call_range_2 (yO I1 q1 q2 q3 q4 q)
def yR (wi:TI) (g:TG) (tb:TS):TS:=fun D σ H=>wi σ H fun J H1=>∃ W:Nat->Nat->St->Hp->Prop,(∃ m,W 0 m σ H1)/\∀ i m σ H,W i m σ H->
 (J.stop i H/\D.nx σ H) ∨ (J.go i H/\∃ N:St->Hp->Prop,(∀ σ' H',N σ' H'->∃ m',m' < m/\W (i+1) m' σ' H')/\∀ x H',J.yld i H x H'->g x σ H' fun σ2 H2=>tb { D with nx:=N,ct:=N,bk:=D.nx } σ2 H2)
def nE (fp:List Addr) (h:Heap):List (Addr × Obj):=fp.filterMap fun b=>(h.get? b).map fun o=>(b,o)
theorem pG {fp:List Addr}{h:Heap}{b:Addr}{o:Obj} (hb:b ∈ fp) (e:h.get? b=some o):(b,o) ∈ nE fp h:=List.mem_filterMap.mpr ⟨b,hb,by rw [e]; rfl⟩
theorem aj4 {fp:List Addr}{h:Heap}{p:Addr × Obj} (hp:p ∈ nE fp h):p.1 ∈ fp/\h.get? p.1=some p.2:=by
 obtain ⟨b,hb,e⟩:=List.mem_filterMap.mp hp
 cases q:h.get? b with
 | none=>rw [q] at e; cases e
 | some o=>
  rw [q] at e
  have e':(b,o)=p:=bg9 e
  subst e'
  exact⟨hb,q⟩
theorem a8.pinned {pins:List (Addr × Obj)}{σ:St}{H:Hp}{s:Shared}{fp:List Addr} (I:a8 X pins σ H s) (hf:∀ b ∈ fp,gL X pins H b) (ho:∀ b ∈ fp,∃ o,s.heap.get? b=some o/\∀ v,o.data ≠ .cell v):a8 X (pins ++ nE fp s.heap) σ H s:=
 I.pins_of fun p hp=>(bg2.mp hp).elim (fun z=>I.pin p (bh2 _ z)) fun z=>by
  obtain ⟨hb,e⟩:=aj4 z
  obtain ⟨f0,f1,f2,_⟩:=hf p.1 hb
  obtain ⟨o,e',d⟩:=ho p.1 hb
  rw [e] at e'; cases e'
  exact⟨e,f0,f1,f2,d⟩
theorem a8.unpinned {pins pl:List (Addr × Obj)}{σ:St}{H:Hp}{s:Shared} (I:a8 X (pins ++ pl) σ H s):a8 X pins σ H s:=I.pins_of fun p hp=>I.pin p (bh2 _ (bi4 _ hp))
theorem yS {iter:Expr}{body:List Stmt}{wi:TI}{g:TG}{tb:TS}{pos:Pos} (hp:PassesOwn (model X.prog X.w) X.A X.env X.xe) (hc:X.calm=true) (hi:PI X tg iter wi) (hg:PG X tg g) (hb:dA X body tb)
  (hs:∀ x,foldedSetIterable iter X.env x=pure x:=by intro _; rfl):PS X (.For tg iter body [] pos) (yR wi g tb):=by
 intro pins s σ H D I h
 refine wpAny_For (aS (hi pins s σ H _ I h) fun v s1 h1=>aS h1 fun itv s2 h2=>?_) hs
 obtain ⟨it,fp,tn,J,H2,e,I2,T,st2,f2,W,⟨m0,w0⟩,turn⟩:=h2
 subst e
 have stat:∀ {H':Hp},(∀ b ∈ fp,H' b=none)->∀ b ∈ fp,gL X pins H' b:=fun hn b hb=>⟨hn b hb,(f2 b hb).2⟩
 refine codeAny_forLoop_any (fun n s'=>∃ i σ' H',a8 X pins σ' H' s'/\tn i s'.heap/\(∀ b ∈ fp,H' b=none)/\W i n σ' H') ?_ m0 ⟨0,σ,H2,I2,st2,fun b hb=>(f2 b hb).1,w0⟩
 rintro n s3 ⟨i,σ3,H3,I3,st3,fr3,w3⟩
 rcases turn i n σ3 H3 w3 with ⟨stop,qn⟩ | ⟨go,N,hN,step⟩
 ·refine bs2 hp (aS (T.done X rfl rfl rfl hc i pins s3 σ3 H3 X.xe I3 (stat fr3) st3 stop) fun r s4 ⟨hr,I4⟩=>?_)
  subst hr
  exact bs1 ⟨σ3,H3,I4,qn⟩
 ·refine bs2 hp (aS (T.item X rfl rfl rfl hc i pins s3 σ3 H3 X.xe I3 (stat fr3) st3 go) fun r s4 ⟨u,hr,h4⟩=>?_)
  subst hr
  refine bs2 hp (aS h4 fun _ s5 ⟨x,H5,I5,r5,y5,st5,fr5⟩=>?_)
  have I5':=I5.pinned (stat fr5) (T.obj _ _ st5)
  refine bs2 hp (aS (hg _ s5 σ3 H5 x u _ I5' r5 (step x H5 y5)) fun _ s6 ⟨σ6,H6,I6,q6⟩=>?_)
  refine bs2 hp (aS (hb _ s6 σ6 H6 _ I6 q6) fun f s7 q7=>?_)
  have again:∀ {σ7:St}{H7:Hp},a8 X (pins ++ nE fp s5.heap) σ7 H7 s7->N σ7 H7->∃ m,m < n/\∃ i σ' H',a8 X pins σ' H' s7/\tn i s7.heap/\(∀ b ∈ fp,H' b=none)/\W i m σ' H':=fun {σ7 H7} I7 n7=>by
   obtain ⟨m',hm,w7⟩:=hN σ7 H7 n7
   refine⟨m',hm,i+1,σ7,H7,I7.unpinned,T.keep _ _ _ st5 fun b hb o e=>(I7.pin (b,o) (bh2 _ (bh2 _ (pG hb e)))).1,fun b hb=>?_,w7⟩
   obtain ⟨o,e,d⟩:=T.obj _ _ st5 b hb
   exact (I7.pin (b,o) (bh2 _ (bh2 _ (pG hb e)))).2.1
  cases f with
  | next=>obtain ⟨σ7,H7,I7,n7⟩:=q7; exact again I7 n7
  | cont=>obtain ⟨σ7,H7,I7,n7⟩:=q7; exact again I7 n7
  | brk=>obtain ⟨σ7,H7,I7,q7⟩:=q7; exact⟨σ7,H7,I7.unpinned,q7⟩
  | ret v=>obtain ⟨x7,σ7,H7,I7,r7,q7⟩:=q7; exact⟨x7,σ7,H7,I7.unpinned,r7,q7⟩
end
theorem bd4 {K:PySem.W.Frag}{a:Addr}{xs:List V}{g:TG}{tb:TS}{D:bS}{σ:St}{H:Hp} (Pv:Nat->St->Hp->Prop) (h0:Pv 0 σ H) (hl:∀ i σ H,i<=xs.length->Pv i σ H->aU K H a xs)
  (hs:∀ i x σ H,xs[i]? = some x->Pv i σ H->g x σ H fun σ2 H2=>tb { D with nx:=Pv (i+1),ct:=Pv (i+1),bk:=D.nx } σ2 H2) (hd:∀ σ H,Pv xs.length σ H->D.nx σ H) :
  ∃ W:Nat->Nat->St->Hp->Prop,(∃ m,W 0 m σ H)/\∀ i m σ H,W i m σ H->
   ((lN K a).stop i H/\D.nx σ H) ∨ ((lN K a).go i H/\∃ N:St->Hp->Prop,(∀ σ' H',N σ' H'->∃ m',m' < m/\W (i+1) m' σ' H')/\∀ x H',(lN K a).yld i H x H'->g x σ H' fun σ2 H2=>tb { D with nx:=N,ct:=N,bk:=D.nx } σ2 H2):=by
 refine⟨fun i m σ H=>m=xs.length - i/\i<=xs.length/\Pv i σ H,⟨xs.length,by simp,bh8 _,h0⟩,?_⟩
 rintro i m σ H ⟨rfl,hi,p⟩
 have q:=hl i σ H hi p
 by_cases hlt:i < xs.length
 ·refine .inr ⟨⟨xs,xs[i],q,by simp [hlt]⟩,Pv (i+1),fun σ' H' p'=>⟨xs.length - (i+1),by omega,rfl,hlt,p'⟩,fun x H' y=>?_⟩
  obtain ⟨e,y⟩:=y
  subst e
  exact hs i x σ _ (y xs q) p
 ·have e:i=xs.length:=by omega
  subst e
  exact .inl ⟨⟨xs,q,be6 _⟩,hd σ H p⟩
theorem aj5 {K:PySem.W.Frag}{a:Addr}{xs:List V}{g:TG}{tb:TS}{D:bS}{σ:St}{H:Hp} (Pv:Nat->St->Hp->Prop) (h0:Pv 0 σ H) (hl:∀ i σ H,i<=xs.length->Pv i σ H->aO K H a xs)
  (hs:∀ i x σ H,xs[i]? = some x->Pv i σ H->g x σ H fun σ2 H2=>tb { D with nx:=Pv (i+1),ct:=Pv (i+1),bk:=D.nx } σ2 H2) (hd:∀ σ H,Pv xs.length σ H->D.nx σ H) :
  ∃ W:Nat->Nat->St->Hp->Prop,(∃ m,W 0 m σ H)/\∀ i m σ H,W i m σ H->
   ((jU K a).stop i H/\D.nx σ H) ∨ ((jU K a).go i H/\∃ N:St->Hp->Prop,(∀ σ' H',N σ' H'->∃ m',m' < m/\W (i+1) m' σ' H')/\∀ x H',(jU K a).yld i H x H'->g x σ H' fun σ2 H2=>tb { D with nx:=N,ct:=N,bk:=D.nx } σ2 H2):=by
 refine⟨fun i m σ H=>m=xs.length - i/\i<=xs.length/\Pv i σ H,⟨xs.length,by simp,bh8 _,h0⟩,?_⟩
 rintro i m σ H ⟨rfl,hi,p⟩
 have q:=hl i σ H hi p
 by_cases hlt:i < xs.length
 ·refine .inr ⟨⟨xs,xs[i],q,by simp [hlt]⟩,Pv (i+1),fun σ' H' p'=>⟨xs.length - (i+1),by omega,rfl,hlt,p'⟩,fun x H' y=>?_⟩
  obtain ⟨e,y⟩:=y
  subst e
  exact hs i x σ _ (y xs q) p
 ·have e:i=xs.length:=by omega
  subst e
  exact .inl ⟨⟨xs,q,be6 _⟩,hd σ H p⟩
abbrev R2:=V->V->Hp->VK->Prop
def cB (X:Cx) (f:Value->Value->Sem Value) (r:R2):Prop:=
 ∀ (pins:List (Addr × Obj)) (s:Shared) (σ:St) (H:Hp) (x y:V) (v u:Value) (Q:VK),a8 X pins σ H s->b4 x v->b4 y u->r x y H Q->
  wpAny (model X.prog X.w) X.A (f v u) (EP X pins σ Q) X.xe s
def tJ (X:Cx) (f:Value->Sem Value) (r:V->Hp->VK->Prop):Prop:=
 ∀ (pins:List (Addr × Obj)) (s:Shared) (σ:St) (H:Hp) (x:V) (v:Value) (Q:VK),a8 X pins σ H s->b4 x v->r x H Q->
  wpAny (model X.prog X.w) X.A (f v) (EP X pins σ Q) X.xe s
def cU (X:Cx) (f:Value) (r:List V->Hp->VK->Prop):Prop:=
 ∀ (pins:List (Addr × Obj)) (s:Shared) (σ:St) (H:Hp) (xs:List V) (us:List Value) (Q:VK),a8 X pins σ H s->aQ xs us->r xs H Q->
  wpAny (model X.prog X.w) X.A (call f us) (EP X pins σ Q) X.xe s
def aj6 (X:Cx) (r:V->Hp->(Bool->Hp->Prop)->Prop):Prop:=
 ∀ (pins:List (Addr × Obj)) (s:Shared) (σ:St) (H:Hp) (x:V) (v:Value) (Q:Bool->Hp->Prop),a8 X pins σ H s->b4 x v->r x H Q->
  wpAny (model X.prog X.w) X.A (truthy v) (TP X pins σ Q) X.xe s
def nF (r:R2) (ta tb:TE):TE:=fun σ H Q=>ta σ H fun x H1=>tb σ H1 fun y H2=>r x y H2 Q
def tUn (r:V->Hp->VK->Prop) (ta:TE):TE:=fun σ H Q=>ta σ H fun x H1=>r x H1 Q
def rI (C:Int->Int->Prop) (g:Int->Int->V):R2:=fun x y H Q=>∃ i j,x = .int i/\y = .int j/\C i j/\Q (g i j) H
def j4 (g:Int->Int->V):R2:=fun x y H Q=>∃ i j,x = .int i/\y = .int j/\Q (g i j) H
def rU (g:Int->V):V->Hp->VK->Prop:=fun x H Q=>∃ i,x = .int i/\Q (g i) H
section
variable {X : Cx} {a b c : Expr} {ta tb tc : TE} {pos : Pos}
theorem tK (ha:PE X a ta) (hb:PE X b tb) {pins:List (Addr × Obj)}{s:Shared}{σ:St}{H:Hp}{R:V->V->Hp->Prop} (I:a8 X pins σ H s)
  (h:ta σ H fun x H1=>tb σ H1 fun y H2=>R x y H2) {Q:Value->Shared->Prop}{f:Value->Value->Sem Value}
  (hf:∀ v u s2 x y H2,a8 X pins σ H2 s2->b4 x v->b4 y u->R x y H2->wpAny (model X.prog X.w) X.A (f v u) Q X.xe s2) :
  wpAny (model X.prog X.w) X.A (eval a X.env) (fun v s₁=>wpAny (model X.prog X.w) X.A (eval b X.env) (fun u s₂=>wpAny (model X.prog X.w) X.A (f v u) Q X.xe s₂) X.xe s₁) X.xe s:=by
 refine aS (ha pins s σ H _ I h) fun v s1 ⟨x,H1,I1,r1,q1⟩=>?_
 refine aS (hb pins s1 σ H1 _ I1 q1) fun u s2 ⟨y,H2,I2,r2,q2⟩=>?_
 exact hf v u s2 x y H2 I2 r1 r2 q2
theorem aj7 {op:Operator}{r:R2} (ho:cB X (binaryOp op) r) (ha:PE X a ta) (hb:PE X b tb):PE X (.BinOp a op b pos) (nF r ta tb):=by
 intro pins s σ H Q I h
 exact wpAny_BinOp (tK ha hb I h fun v u s2 x y H2 I2 rx ry q=>ho pins s2 σ H2 x y v u Q I2 rx ry q)
theorem aj8 {op:UnaryOp}{r:V->Hp->VK->Prop} (ho:tJ X (unaryOp op) r) (ha:PE X a ta):PE X (.UnaryOp op a pos) (tUn r ta):=by
 intro pins s σ H Q I h
 exact UnaryOp_ (aS (ha pins s σ H _ I h) fun v s1 ⟨x,H1,I1,r1,q1⟩=>ho pins s1 σ H1 x v Q I1 r1 q1)
theorem nG {f:Value->Value->Sem Value}{C:Int->Int->Prop}{g:Int->Int->Int}
  (rule:∀ (i j:Int) (t u:Tok) (s:Shared) (Q:Value->Shared->Prop) (E:Value->Shared->Prop),C i j->Q (.int (g i j) s.toks) { s with toks:=s.toks+1 }->wpAny (model X.prog X.w) X.A (f (.int i t) (.int j u)) Q E s) :
  cB X f (rI C fun i j=>.int (g i j)):=by
 intro pins s σ H x y v u Q I rx ry h
 obtain ⟨i,j,rfl,rfl,hc,q⟩:=h
 obtain ⟨t,rfl⟩:=rx
 obtain ⟨t',rfl⟩:=ry
 exact rule i j t t' s _ _ hc ⟨.int (g i j),H,I.tok _,⟨_,rfl⟩,q⟩
theorem yT {f:Value->Value->Sem Value}{g:Int->Int->Int}
  (rule:∀ (i j:Int) (t u:Tok) (s:Shared) (Q:Value->Shared->Prop) (E:Value->Shared->Prop),Q (.int (g i j) s.toks) { s with toks:=s.toks+1 }->wpAny (model X.prog X.w) X.A (f (.int i t) (.int j u)) Q E s) :
  cB X f (j4 fun i j=>.int (g i j)):=by
 intro pins s σ H x y v u Q I rx ry h
 obtain ⟨i,j,rfl,rfl,q⟩:=h
 obtain ⟨t,rfl⟩:=rx
 obtain ⟨t',rfl⟩:=ry
 exact rule i j t t' s _ _ ⟨.int (g i j),H,I.tok _,⟨_,rfl⟩,q⟩
theorem tL {f:Value->Value->Sem Value}{g:Int->Int->Bool}
  (rule:∀ (i j:Int) (t u:Tok) (s:Shared) (Q:Value->Shared->Prop) (E:Value->Shared->Prop),Q (.bool (g i j)) s->wpAny (model X.prog X.w) X.A (f (.int i t) (.int j u)) Q E s) :
  cB X f (j4 fun i j=>.bl (g i j)):=by
 intro pins s σ H x y v u Q I rx ry h
 obtain ⟨i,j,rfl,rfl,q⟩:=h
 obtain ⟨t,rfl⟩:=rx
 obtain ⟨t',rfl⟩:=ry
 exact rule i j t t' s _ _ ⟨.bl (g i j),H,I,rfl,q⟩
def tM (i j:Int):Prop:=0 < j/\j < 1073741824
def tN (i j:Int):Prop:=0<=j/\j<=1000000/\i.natAbs < 2 ^ 64
def nH (i j:Int):Prop:=(-(2 ^ 64) < i/\i < 2 ^ 64) ∨ (-(2 ^ 64) < j/\j < 2 ^ 64)
theorem nH.ok {i j:Int} (h:nH i j):IntMulOk i j:=by
 rcases h with ⟨h1,h2⟩ | ⟨h1,h2⟩
 ·exact .of_left (intBits_le_64 h1 h2)
 ·exact .of_right (intBits_le_64 h1 h2)
theorem aj9 (k:Nat):(0:Int)<=2 ^ k:=by
 rw [two_pow_cast]
 exact Int.natCast_nonneg _
theorem ak0:cB X (binaryOp .Add) (j4 fun i j=>.int (i+j)):=yT fun _ _ _ _ _ _ _ q=>add_int q
theorem ak1:cB X (binaryOp .Sub) (j4 fun i j=>.int (i - j)):=yT fun _ _ _ _ _ _ _ q=>sub_int q
theorem ak2:cB X (binaryOp .Mult) (rI nH fun i j=>.int (i * j)):=nG fun _ _ _ _ _ _ _ hc q=>mul_int q hc.ok
theorem ak3:cB X (binaryOp .FloorDiv) (rI tM fun i j=>.int (i / j)):=nG fun i j _ _ _ _ _ hc q=>by
 have h1:(0:Int) < j:=hc.1
 have h2:j < 1073741824:=hc.2
 exact floordiv_int (by omega) (by rw [Int.fdiv_eq_ediv_of_nonneg i (by omega)]; exact q) (.inl (PyProof.noPylong_small (by omega)))
theorem ak4:cB X (binaryOp .Mod) (rI (fun _ j=>0 < j) fun i j=>.int (i % j)):=nG fun i j _ _ _ _ _ hc q=>by
 have h1:(0:Int) < j:=hc
 exact mod_int' (by omega) (by rw [Int.fmod_eq_emod_of_nonneg i (by omega)]; exact q)
theorem ak5:cB X (binaryOp .Pow) (rI tN fun i j=>.int (i ^ j.toNat)):=nG fun _ _ _ _ _ _ _ hc q=>pow_int_small hc.1 hc.2.1 hc.2.2 q
theorem ak6:cB X (binaryOp .RShift) (rI (fun _ j=>0<=j) fun i j=>.int (i / 2 ^ j.toNat)):=nG fun i j _ _ _ _ _ hc q=>
 rshift_int hc (by rw [Int.fdiv_eq_ediv_of_nonneg i (aj9 _)]; exact q)
theorem unI {f:Value->Sem Value}{g:Int->Int}
  (rule:∀ (i:Int) (t:Tok) (s:Shared) (Q:Value->Shared->Prop) (E:Value->Shared->Prop),Q (.int (g i) s.toks) { s with toks:=s.toks+1 }->wpAny (model X.prog X.w) X.A (f (.int i t)) Q E s) :
  tJ X f (rU fun i=>.int (g i)):=by
 intro pins s σ H x v Q I rx h
 obtain ⟨i,rfl,q⟩:=h
 obtain ⟨t,rfl⟩:=rx
 exact rule i t s _ _ ⟨.int (g i),H,I.tok _,⟨_,rfl⟩,q⟩
theorem ak7:tJ X (unaryOp .USub) (rU fun i=>.int (-i)):=unI fun _ _ _ _ _ q=>neg_int q
end
def yU:V->V->Bool
 | .non,.non=>true | .non,.int _=>true | .int _,.non=>true | .non,.bl _=>true | .bl _,.non=>true | .non,.str _=>true | .str _,.non=>true
 | .int _,.int _=>true | .bl _,.bl _=>true | .str _,.str _=>true | .byt _,.byt _=>true
 | .int _,.str _=>true | .str _,.int _=>true | .bl _,.str _=>true | .str _,.bl _=>true
 | _,_=>false
def yV:R2:=fun x y H Q=>yU x y=true/\Q (.bl (decide (x=y))) H
def tO:R2:=fun x y H Q=>yU x y=true/\Q (.bl (!decide (x=y))) H
theorem yW {i j:Int}:decide (V.int i=V.int j)=(i == j):=by
 rw [bm7]
 simp
theorem yX {i j:Bool}:decide (V.bl i=V.bl j)=(i == j):=by
 rw [bm7]
 simp
theorem yY {i j:Str}:decide (V.str i=V.str j)=(i == j):=by
 rw [bm7]
 simp
theorem yZ {i j:Array UInt8}:decide (V.byt i=V.byt j)=(i.toList == j.toList):=by
 rw [bm7]
 cases i
 cases j
 simp
section
variable {X : Cx} {a b c : Expr} {ta tb tc : TE} {pos : Pos}
theorem c8 {pins:List (Addr × Obj)}{σ:St}{H:Hp}{s:Shared}{Q:VK}{k k':Bool} (I:a8 X pins σ H s) (q:Q (.bl k) H) (e:k=k'):EP X pins σ Q (.bool k') s:=by
 subst e
 exact⟨.bl k,H,I,rfl,q⟩
theorem z9:cB X (compareOp .Eq) yV:=by
 intro pins s σ H x y v u Q I rx ry h
 obtain ⟨hs,q⟩:=h
 cases x with
 | non=>
  cases rx
  cases y with
  | non=>cases ry; exact PySem.EqNone.eq_none_none (c8 I q (by simp))
  | bl j=>cases ry; exact PySem.EqNone.eq_none_bool (c8 I q (by simp))
  | int j=>obtain ⟨t',rfl⟩:=ry; exact PySem.EqNone.eq_none_int (c8 I q (by simp))
  | str j=>obtain ⟨t',rfl⟩:=ry; exact PySem.EqNone.eq_none_str (c8 I q (by simp))
  | _=>exact absurd (show false=true from hs) bg6
 | bl i=>
  cases rx
  cases y with
  | non=>cases ry; exact PySem.EqNone.eq_bool_none (c8 I q (by simp))
  | bl j=>cases ry; exact eq_bool (c8 I q yX)
  | str j=>obtain ⟨t',rfl⟩:=ry; exact PySem.EqMixed.eq_bool_str (c8 I q (by simp))
  | _=>exact absurd (show false=true from hs) bg6
 | int i=>
  obtain ⟨t,rfl⟩:=rx
  cases y with
  | non=>cases ry; exact PySem.EqNone.eq_int_none (c8 I q (by simp))
  | int j=>obtain ⟨t',rfl⟩:=ry; exact eq_int (c8 I q yW)
  | str j=>obtain ⟨t',rfl⟩:=ry; exact PySem.EqMixed.eq_int_str (c8 I q (by simp))
  | _=>exact absurd (show false=true from hs) bg6
 | str i=>
  obtain ⟨t,rfl⟩:=rx
  cases y with
  | non=>cases ry; exact PySem.EqNone.eq_str_none (c8 I q (by simp))
  | bl j=>cases ry; exact PySem.EqMixed.eq_str_bool (c8 I q (by simp))
  | int j=>obtain ⟨t',rfl⟩:=ry; exact PySem.EqMixed.eq_str_int (c8 I q (by simp))
  | str j=>obtain ⟨t',rfl⟩:=ry; exact eq_str (c8 I q yY)
  | _=>exact absurd (show false=true from hs) bg6
 | byt i=>
  obtain ⟨t,rfl⟩:=rx
  cases y with
  | byt j=>obtain ⟨t',rfl⟩:=ry; exact PySem.W.eq_bytes (c8 I q yZ)
  | _=>exact absurd (show false=true from hs) bg6
 | _=>cases y <;> exact absurd (show false=true from hs) bg6
theorem zA:cB X (compareOp .NotEq) tO:=by
 intro pins s σ H x y v u Q I rx ry h
 obtain ⟨hs,q⟩:=h
 cases x with
 | non=>
  cases rx
  cases y with
  | non=>cases ry; exact PySem.EqNone.ne_none_none (c8 I q (by simp))
  | bl j=>cases ry; exact PySem.EqNone.ne_none_bool (c8 I q (by simp))
  | int j=>obtain ⟨t',rfl⟩:=ry; exact PySem.EqNone.ne_none_int (c8 I q (by simp))
  | str j=>obtain ⟨t',rfl⟩:=ry; exact PySem.EqNone.ne_none_str (c8 I q (by simp))
  | _=>exact absurd (show false=true from hs) bg6
 | bl i=>
  cases rx
  cases y with
  | non=>cases ry; exact PySem.EqNone.ne_bool_none (c8 I q (by simp))
  | bl j=>cases ry; exact ne_bool (c8 I q (congrArg not yX))
  | str j=>obtain ⟨t',rfl⟩:=ry; exact PySem.EqMixed.ne_bool_str (c8 I q (by simp))
  | _=>exact absurd (show false=true from hs) bg6
 | int i=>
  obtain ⟨t,rfl⟩:=rx
  cases y with
  | non=>cases ry; exact PySem.EqNone.ne_int_none (c8 I q (by simp))
  | int j=>obtain ⟨t',rfl⟩:=ry; exact ne_int (c8 I q (congrArg not yW))
  | str j=>obtain ⟨t',rfl⟩:=ry; exact PySem.EqMixed.ne_int_str (c8 I q (by simp))
  | _=>exact absurd (show false=true from hs) bg6
 | str i=>
  obtain ⟨t,rfl⟩:=rx
  cases y with
  | non=>cases ry; exact PySem.EqNone.ne_str_none (c8 I q (by simp))
  | bl j=>cases ry; exact PySem.EqMixed.ne_str_bool (c8 I q (by simp))
  | int j=>obtain ⟨t',rfl⟩:=ry; exact PySem.EqMixed.ne_str_int (c8 I q (by simp))
  | str j=>obtain ⟨t',rfl⟩:=ry; exact ne_str (c8 I q (congrArg not yY))
  | _=>exact absurd (show false=true from hs) bg6
 | byt i=>
  obtain ⟨t,rfl⟩:=rx
  cases y with
  | byt j=>obtain ⟨t',rfl⟩:=ry; exact PySem.W.ne_bytes (c8 I q (congrArg not yZ))
  | _=>exact absurd (show false=true from hs) bg6
 | _=>cases y <;> exact absurd (show false=true from hs) bg6
theorem pH:cB X (compareOp .Lt) (j4 fun i j=>.bl (decide (i < j))):=tL fun _ _ _ _ _ _ _ q=>lt_int q
theorem ak8:cB X (compareOp .Gt) (j4 fun i j=>.bl (decide (j < i))):=tL fun _ _ _ _ _ _ _ q=>gt_int q
theorem ak9:cB X (compareOp .GtE) (j4 fun i j=>.bl (decide (j<=i))):=tL fun _ _ _ _ _ _ _ q=>ge_int q
theorem zB:cB X (compareOp .Is) (fun x y H Q=>y = .non/\Q (.bl (decide (x = .non))) H):=by
 intro pins s σ H x y v u Q I rx ry h
 obtain ⟨rfl,q⟩:=h
 cases ry
 refine is_none_gen (c8 I q ?_)
 cases x <;> first
  | (cases rx; rfl)
  | (obtain ⟨t,rfl⟩:=rx; rfl)
theorem al0:cB X (compareOp .IsNot) (fun x y H Q=>y = .non/\Q (.bl (!decide (x = .non))) H):=by
 intro pins s σ H x y v u Q I rx ry h
 obtain ⟨rfl,q⟩:=h
 cases ry
 refine isnot_none_gen (c8 I q ?_)
 cases x <;> first
  | (cases rx; rfl)
  | (obtain ⟨t,rfl⟩:=rx; rfl)
theorem fE (b:Expr) {op:CmpOp} (h:op ≠ .In:=by decide) (h2:op ≠ .NotIn:=by decide):behindInMarks op b=false:=by
 have e1:(op == CmpOp.In)=false:=by cases op <;> first | rfl | exact absurd rfl h
 have e2:(op == CmpOp.NotIn)=false:=by cases op <;> first | rfl | exact absurd rfl h2
 cases b <;> simp [behindInMarks,e1,e2]
theorem tP {op:CmpOp}{r:R2} (ho:cB X (compareOp op) r) (ha:PE X a ta) (hb:PE X b tb) (hm:behindInMarks op b=false):PE X (.Compare a [op] [b] pos) (nF r ta tb):=by
 intro pins s σ H Q I h
 exact wpAny_Compare1 (tK ha hb I h fun v u s2 x y H2 I2 rx ry q=>ho pins s2 σ H2 x y v u Q I2 rx ry q) hm
def al1 (t:TE):TT:=fun σ H Q=>t σ H fun x H'=>∃ k,x = .bl k/\Q k H'
theorem al2 {op:CmpOp}{r:R2} (ho:cB X (compareOp op) r) (ha:PE X a ta) (hb:PE X b tb) (hm:behindInMarks op b=false):PT X (.Compare a [op] [b] pos) (al1 (nF r ta tb)):=by
 intro pins s σ H Q I h
 refine wpAny_isTrue_Compare1 (aS (ha pins s σ H _ I h) fun v s1 ⟨x,H1,I1,r1,q1⟩=>aS (hb pins s1 σ H1 _ I1 q1) fun u s2 ⟨y,H2,I2,r2,q2⟩=>
  aS (ho pins s2 σ H2 x y v u _ I2 r1 r2 q2) fun c s3 ⟨z,H3,I3,r3,k,e,q3⟩=>?_) hm
 subst e
 cases r3
 exact bq2 ⟨H3,I3,q3⟩
def tQ (K:PySem.W.Frag) (x:V) (H:Hp) (k:Bool):Prop:=
 match x with
 | .non=>k=false
 | .bl b=>k=b
 | .int i=>k=(i != 0)
 | .str y=>y.length<=sizeLine/\k=((y.length:Int) != 0)
 | .byt y=>y.size<=sizeLine/\k=((y.size:Int) != 0)
 | .ref p=>(∃ xs,aU K H p xs/\k = !xs.isEmpty) ∨ (∃ xs,aO K H p xs/\k = !xs.isEmpty) ∨ ∃ kvs,H p=some (.dK kvs)/\k = !kvs.isEmpty
 | _=>False
theorem al3 {κ:Type}{kvs:List (κ × V)}{vs:List (κ × Value)} (r:KV kvs vs):(!vs.isEmpty) = !kvs.isEmpty:=by
 cases r <;> rfl
theorem zC {xs:List V}{its:List Value} (r:aQ xs its):(!its.toArray.isEmpty) = !xs.isEmpty:=by
 cases r <;> simp
theorem lO:(sizeLine:Nat) < 2 ^ 63:=by rw [sizeLine_eq]; decide
theorem al4:aj6 X (fun x H Q=>∃ k,tQ X.K x H k/\Q k H):=by
 intro pins s σ H x v Q I rx h
 obtain ⟨k,e,q⟩:=h
 have hl:=lO
 have hs:sizeLine=16777216:=sizeLine_eq
 cases x with
 | non=>
  cases rx
  have e':k=false:=e
  subst e'
  exact truthy_none ⟨H,I,q⟩
 | bl b=>
  cases rx
  have e':k=b:=e
  subst e'
  exact bq2 ⟨H,I,q⟩
 | int i=>
  obtain ⟨t,rfl⟩:=rx
  have e':k=(i != 0):=e
  subst e'
  exact PySem.P.truthy_int ⟨H,I,q⟩
 | str y=>
  obtain ⟨t,rfl⟩:=rx
  obtain ⟨hy,e'⟩:y.length<=sizeLine/\k=((y.length:Int) != 0):=e
  subst e'
  exact PySem.P.truthy_str (by omega) ⟨H,I.tok _,q⟩
 | byt y=>
  obtain ⟨t,rfl⟩:=rx
  obtain ⟨hy,e'⟩:y.size<=sizeLine/\k=((y.size:Int) != 0):=e
  subst e'
  exact PySem.W.truthy_bytes (by omega) ⟨H,I.tok _,q⟩
 | ref p=>
  cases rx
  have e':(∃ xs,aU X.K H p xs/\k = !xs.isEmpty) ∨ (∃ xs,aO X.K H p xs/\k = !xs.isEmpty) ∨ ∃ kvs,H p=some (.dK kvs)/\k = !kvs.isEmpty:=e
  rcases e' with ⟨xs,hx,e'⟩ | ⟨xs,hx,e'⟩ | ⟨kvs,hx,e'⟩
  ·subst e'
   obtain ⟨its,r,pl,hz⟩:=I.list hx
   have hlen:=r.length
   exact wpAny_truthy_list pl.isList (by simp only [be0]; omega) ⟨H,I.tok _,by rw [zC r]; exact q⟩
  ·subst e'
   obtain ⟨its,r,pl,hz⟩:=I.tuple hx
   have hlen:=r.length
   exact truthy_tuple pl (by simp only [be0]; omega) ⟨H,I.tok _,by rw [zC r]; exact q⟩
  ·subst e'
   obtain ⟨hz,hS,vs,r,m⟩:kvs.length<=sizeLine/\(p == sysModules)=false/\∃ vs,KV kvs vs/\s.heap.DictOf (eM X.prog X.w) p vs:=I.hok p _ hx
   have hlen:kvs.length=vs.length:=Paired.length r
   exact wpAny_truthy_dict hS m (by omega) ⟨H,I.tok _,by rw [al3 r]; exact q⟩
 | _=>exact (show False from e).elim
theorem al5 (ha:PE X a ta) (he:∀ whole,isTrue a X.env whole=(do let v <- whole; standAt a.pos; holding [v] (truthy v))) :
  PT X a (fun σ H Q=>ta σ H fun x H'=>∃ k,tQ X.K x H' k/\Q k H'):=by
 intro pins s σ H Q I h
 exact isTrue_plain (aS (ha pins s σ H _ I h) fun v s1 ⟨x,H1,I1,r1,q1⟩=>al4 pins s1 σ H1 x v Q I1 r1 q1) (he _)
theorem fX {x:V}{us:List Value} (r:aQ [x] us):∃ u,us = [u]/\b4 x u:=by
 cases r with
 | cons r1 r2=>cases r2; exact⟨_,rfl,r1⟩
theorem nI {x y:V}{us:List Value} (r:aQ [x,y] us):∃ u w',us = [u,w']/\b4 x u/\b4 y w':=by
 cases r with
 | cons r1 r2=>
  cases r2 with
  | cons r3 r4=>cases r4; exact⟨_,_,rfl,r1,r3⟩
theorem al6 (hc:X.calm=true):cU X (.builtin "max") (fun xs H Q=>∃ i j,xs = [.int i,.int j]/\Q (.int (if j > i then j else i)) H):=by
 intro pins s σ H xs us Q I r h
 obtain ⟨i,j,rfl,q⟩:=h
 obtain ⟨u,w',rfl,⟨t,rfl⟩,⟨t',rfl⟩⟩:=nI r
 refine max_two_ints (I.ok.hd hc) fun h' tk k=>⟨_,H,I.kept k,?_,q⟩
 by_cases hj:j > i
 ·rw [if_pos hj,if_pos hj]; exact⟨_,rfl⟩
 ·rw [if_neg hj,if_neg hj]; exact⟨_,rfl⟩
theorem al7 (hc:X.calm=true):cU X (.builtin "min") (fun xs H Q=>∃ i j,xs = [.int i,.int j]/\Q (.int (if j < i then j else i)) H):=by
 intro pins s σ H xs us Q I r h
 obtain ⟨i,j,rfl,q⟩:=h
 obtain ⟨u,w',rfl,⟨t,rfl⟩,⟨t',rfl⟩⟩:=nI r
 refine min_two_ints (I.ok.hd hc) fun h' tk k=>⟨_,H,I.kept k,?_,q⟩
 by_cases hj:j < i
 ·rw [if_pos hj,if_pos hj]; exact⟨_,rfl⟩
 ·rw [if_neg hj,if_neg hj]; exact⟨_,rfl⟩
end
structure tR (h:Heap) (x dx C:Addr) (mA:Str->Option Value):Prop where
 obj:h.get? x=some (PySem.W.instObj C dx)
 ns:h.Ns1 dx mA
 ne:dx ≠ x
theorem al8 {h:Heap}{dx:Addr}{mA:Str->Option Value} (n:h.Ns1 dx mA):∃ od,h.get? dx=some od/\∀ name,PySem.W.lookIn name od=some (mA name):=by
 obtain ⟨o,es,ep,ho,hd,hk,_,hm⟩:=n
 refine⟨o,ho,fun name=>?_⟩
 have e:=hm name
 unfold nsFind findBy at e
 rw [<- Array.find?_toList] at e
 unfold PySem.W.lookIn
 rw [hd]
 dsimp only
 split
 ·rename_i y q
  rw [q] at e
  exact congrArg some e
 ·rename_i q
  rw [q] at e
  have a:es.toList.any (·.refKey)=false:=by
   rw [List.any_eq_false]
   intro y hy
   obtain ⟨z,t,hkey⟩:=hk y (Array.mem_toList_iff.mp hy)
   simp [DictEntry.refKey,hkey]
  have a' : ¬ es.toList.any (·.refKey)=true:=by rw [a]; exact bg6
  rw [if_neg a']
  exact congrArg some e
theorem tR.look {h:Heap}{x dx C:Addr}{mA:Str->Option Value} (I:tR h x dx C mA):∃ od,PySem.W.InstAt h x (PySem.W.instObj C dx) C (some od)/\∀ name,PySem.W.lookIn name od=some (mA name):=
 let ⟨od,ho,hl⟩:=al8 I.ns
 ⟨od,⟨I.obj,rfl,rfl,ho⟩,hl⟩
section
variable {P : Program} {w : World} {H H' : Hp} {h h' : Heap} {a C dx : Addr} {fs fs' : List (Str × V)}
theorem al9 (hok:bW P w H h) (e:H a=some (.ins C dx fs)):∃ mA,tR h a dx C mA/\(∀ f,kG (fs.lookup f) (mA f))/\PySem.Within mA (fs.map (·.1))/\fs.length<=1000/\H dx=some (.own a):=by
 obtain ⟨d,z,ne,ob,mA,n,r,q⟩:=(show bR P w H h a (.ins C dx fs) from hok a _ e)
 exact⟨mA,⟨ob,n,ne⟩,r,q,z,d⟩
end
structure tS (K:PySem.W.Frag) (C:Addr):Prop where
 pg:PySem.W.plainGet K C Str.empty=true
 hd:PySem.W.hasDictIn K C=true
 po:PySem.W.plainOver K C=true
 sa:PySem.W.findIn K (.ref C) "__setattr__" = some (some (.builtin "object.__setattr__"))
theorem tS.get {K:PySem.W.Frag}{C:Addr} (c:tS K C) (f:Str):PySem.W.plainGet K C f=true:=c.pg
section
variable {X : Cx} {pins : List (Addr × Obj)} {σ : St} {H : Hp} {s : Shared} {A : Around} {E : Value → Shared → Prop} {Q : Value → Shared → Prop} {c : Value} {b : Bool}
inductive fM (K:PySem.W.Frag) (H:Hp):V->Value->Prop where
 | non:fM K H .non (.type "NoneType")
 | bl (x:Bool):fM K H (.bl x) (.type "bool")
 | int (i:Int):fM K H (.int i) (.type "int")
 | str (x:Str):fM K H (.str x) (.type "str")
 | flt (x:UInt64):fM K H (.flt x) (.type "float")
 | lst {a:Addr}{xs:List V} (e:H a=some (.lst xs)):fM K H (.ref a) (.type "list")
 | frz {a:Addr}{o:Obj}{xs:List V} (e:H a=some (.frz o (.lst xs))):fM K H (.ref a) (.type "list")
 | tup {a:Addr}{xs:List V} (e:H a=some (.tup xs)):fM K H (.ref a) (.type "tuple")
 | dK {a:Addr}{kvs:List (aC × V)} (e:H a=some (.dK kvs)):fM K H (.ref a) (.type "dict")
 | dT {a:Addr}{kvs:List (List aC × V)} (e:H a=some (.dT kvs)):fM K H (.ref a) (.type "dict")
 | ins {a C dx:Addr}{fs:List (Str × V)} (e:H a=some (.ins C dx fs)) (cl:tS K C) (ha:PySem.W.findIn K (.ref C) "__class__" = some (some (.builtin "object.__class__")))
   (hn:PySem.W.specialIn K (.builtin "object.__class__") "__get__" = some (some (.builtin "getset_descriptor.__get__"))) (htk:PySem.W.takesIn K (.builtin "object.__class__")=some true)
   (hm:PySem.W.mroIn K C (.type "object")=some true):fM K H (.ref a) (.ref C)
theorem am0 {x:V}{u t:Value} (I:a8 X pins σ H s) (rx:b4 x u) (ty:fM X.K H x t) (e:PySem.W.kitOne X.K t c=some b) (h:∀ tk,Q (.bool b) { s with toks:=tk }) :
  wpAny (model X.prog X.w) A (call (.builtin "isinstance") [u,c]) Q E s:=by
 cases ty with
 | non=>cases (show u=Value.none from rx); exact bk3 PySem.W.kitx_none I.kIn bt2 e (fun z=>nomatch z) h
 | bl y=>cases (show u=Value.bool y from rx); exact bk3 PySem.W.kitx_bool I.kIn bt2 e (fun z=>nomatch z) h
 | int i=>obtain ⟨t,q⟩:=(show ∃ t,u=Value.int i t from rx); cases q; exact bk3 PySem.W.kitx_int I.kIn bt2 e (fun z=>nomatch z) h
 | str y=>obtain ⟨t,q⟩:=(show ∃ t,u=Value.str y t from rx); cases q; exact bk3 PySem.W.kitx_str I.kIn bt2 e (fun z=>nomatch z) h
 | flt y=>obtain ⟨t,q⟩:=(show ∃ t,u=Value.float y t from rx); cases q; exact bk3 PySem.W.kitx_float I.kIn bt2 e (fun z=>nomatch z) h
 | @lst a xs ea=>
  cases (show u=Value.ref a from rx)
  obtain ⟨_,_,n,_,h1⟩:=(show bR X.prog X.w H s.heap a (.lst xs) from I.hok a _ ea)
  exact bk3 PySem.W.kitx_list I.kIn ⟨_,h1,rfl⟩ e (fun z=>nomatch z) h
 | @frz a ob xs ea=>
  cases (show u=Value.ref a from rx)
  obtain ⟨_,_,_,n,_,h1⟩:=(show bR X.prog X.w H s.heap a (.frz ob (.lst xs)) from I.hok a _ ea)
  exact bk3 PySem.W.kitx_list I.kIn ⟨_,h1,rfl⟩ e (fun z=>nomatch z) h
 | @tup a xs ea=>
  cases (show u=Value.ref a from rx)
  obtain ⟨_,_,_,p,_⟩:=(show bR X.prog X.w H s.heap a (.tup xs) from I.hok a _ ea)
  obtain ⟨o,h1,h2,_⟩:=p
  exact bk3 PySem.W.kitx_tuple I.kIn ⟨o,h1,h2⟩ e (fun z=>nomatch z) h
 | @dK a kvs ea=>
  cases (show u=Value.ref a from rx)
  obtain ⟨_,_,vs,_,p⟩:=(show bR X.prog X.w H s.heap a (.dK kvs) from I.hok a _ ea)
  obtain ⟨o,es,ep,h1,h2,_⟩:=p
  exact bk3 PySem.W.kitx_dict I.kIn ⟨o,h1,h2.1⟩ e (fun z=>nomatch z) h
 | @dT a kvs ea=>
  cases (show u=Value.ref a from rx)
  obtain ⟨_,_,xs,_,o,es,ep,h1,h2,_⟩:=(show bR X.prog X.w H s.heap a (.dT kvs) from I.hok a _ ea)
  exact bk3 PySem.W.kitx_dict I.kIn ⟨o,h1,h2.1⟩ e (fun z=>nomatch z) h
 | @ins a C dx fs ea cl ha hn htk hm=>
  cases (show u=Value.ref a from rx)
  obtain ⟨mA,O,_⟩:=al9 I.hok ea
  obtain ⟨od,J,_⟩:=O.look
  exact bk3 (PySem.W.kitx_own (cl.get _) cl.hd ha hn htk hm) I.kIn J e (fun z=>nomatch z) h
end
structure c9 (k:Nat) (A:Around):Prop where
 hd:A.handled=none
 dp:A.depth+3 * k+5 < recursionLimit
 un:A.units+16 * k+200 < cLine
theorem c9.mono {j k:Nat}{A:Around} (r:c9 k A) (h:j<=k):c9 j A:=⟨r.hd,by have:=r.dp; omega,by have:=r.un; omega⟩
theorem c9.deeper {k:Nat}{A:Around} (r:c9 (k+1) A) (env:Env):c9 k (A.deeper env):=
 ⟨r.hd,by have:=r.dp; show A.depth+1+3 * k+5 < _; omega,by have:=r.un; show A.units+3+16 * k+200 < _; omega⟩
theorem c9.depth {k:Nat}{A:Around} (r:c9 k A):A.depth < recursionLimit:=by have:=r.dp; omega
theorem c9.units {k:Nat}{A:Around} (r:c9 k A):A.units+64 < cLine:=by have:=r.un; omega
def iJ:TA:=fun _ H Q=>Q [] H
def gM (ta:TE) (tr:TA):TA:=fun σ H Q=>ta σ H fun x H1=>tr σ H1 fun xs H2=>Q (x :: xs) H2
section
variable {X : Cx} {e : Expr} {es : List Expr} {te : TE} {t : TA} {pos : Pos}
theorem dP:PA X [] iJ:=fun _ _ _ _ H Q I h=>Calls.spliced_nil ⟨[],H,I,.nil,h⟩
theorem cP (ha:PE X e te) (hr:PA X es t) (hs:starEach (e :: es) X.env=(false,eval e X.env) :: starEach es X.env:=by rfl):PA X (e :: es) (gM te t):=by
 intro pos pins s σ H Q I h
 rw [hs]
 show wpAny _ _ (spliced ((false,eval e X.env) :: backTo pos (starEach es X.env))) _ _ s
 refine Calls.spliced_cons (aS (ha pins s σ H _ I h) fun u s1 ⟨x,H1,I1,r1,q1⟩=>?_)
 exact aS (hr pos pins s1 σ H1 _ I1 q1) fun us s2 ⟨xs,H2,I2,r2,q2⟩=>⟨x :: xs,H2,I2,.cons r1 r2,q2⟩
def tT (t:TA):TE:=fun σ H Q=>t σ H fun xs H1=>xs.length<=sizeLine/\∀ p,H1 p=none->Q (.ref p) (upd H1 p (.tup xs))
def zD (t:TA):TE:=fun σ H Q=>t σ H fun xs H1=>xs.length<=sizeLine/\∀ p,H1 p=none->Q (.ref p) (upd H1 p (.lst xs))
theorem zE {x1} (h:PA X es t):PE X (.Tuple es x1 pos) (tT t):=by
 intro pins s σ H Q I hq
 refine wpAny_Tuple_spliced (aS (h pos pins s σ H _ I hq) fun us s1 ⟨xs,H1,I1,r,z,q⟩=>⟨by rw [<- r.length]; exact z,?_⟩)
 have hf:H1 s1.heap.objs.size=none:=I1.hok.fresh (be6 _)
 refine⟨.ref s1.heap.objs.size,upd H1 s1.heap.objs.size (.tup xs),I1.laid (t':=s1.toks) (fun b u e=>be1 _ e) (be6 _) ?_,rfl,q _ hf⟩
 exact⟨z,us,r,⟨_,bf6 _ rfl,rfl,_,rfl⟩,iI.new _ _ rfl⟩
theorem zF (h:PA X es t):PE X (.List es pos) (zD t):=by
 intro pins s σ H Q I hq
 refine wpAny_List_spliced (aS (h pos pins s σ H _ I hq) fun us s1 ⟨xs,H1,I1,r,z,q⟩=>⟨by rw [<- r.length]; exact z,?_⟩)
 have hf:H1 s1.heap.objs.size=none:=I1.hok.fresh (be6 _)
 refine⟨.ref s1.heap.objs.size,upd H1 s1.heap.objs.size (.lst xs),I1.laid (t':=s1.toks) (fun b u e=>be1 _ e) (be6 _) ?_,rfl,q _ hf⟩
 exact⟨z,us,0,r,bf6 _ rfl⟩
end
abbrev Sp:=List V->Hp->VK->XK->Prop
abbrev gN:=List Env->Hp->Shared->XK->Value->Shared->Prop
structure pI (P:Program) (w:World) (K:PySem.W.Frag) (mg:Str->Option Value) (base:Heap) (A:Around) (outer:List Env) (s:Shared) (H:Hp):Prop where
 frames:A.frames=some outer
 mod:Mod K mg base
 bs:∀ b o,base.get? b=some o->s.heap.get? b=some o/\H b=none
 bsz:base.objs.size<=s.heap.objs.size
 funs:s.heap.FunFrames base outer
 frf:∀ b ∈ bT outer,H b=none
 hok:bW P w H s.heap
 bare:AllBare s.gens
def CE (outer:List Env) (P:Program) (w:World) (H:Hp) (s:Shared) (Q:VK) (u:Value) (s':Shared):Prop:=
 ∃ v H',s'.os=s.os/\AllBare s'.gens/\Un (bT outer) [] H H' s.heap s'.heap/\bW P w H' s'.heap/\b4 v u/\Q v H'
def CR (CX:gN) (outer:List Env) (P:Program) (w:World) (H:Hp) (s:Shared) (Q:VK) (E:XK) (r:Result) (s':Shared):Prop:=
 match r with
 | .ok (.ret u)=>CE outer P w H s Q u s'
 | .ok _=>False
 | .error e=>CX outer H s E e s'
structure cV (P:Program) (w:World) (K:PySem.W.Frag) (mg:Str->Option Value) (base:Heap) (CX:gN) (k:Nat) (f:Addr) (fd:FuncData) (ps:List Str) (sp:Sp):Prop where
 len:∀ vs H Q E,sp vs H Q E->vs.length=ps.length
 run:∀ (A:Around) (outer:List Env) (s:Shared) (H:Hp) (args:Args) (us:List Value) (vs:List V) (Q:VK) (E:XK),c9 k A->pI P w K mg base A outer s H->BindsTo s fd args (ps.zip us)->aQ vs us->sp vs H Q E->
  codeAny (model P w) A (.call (.ref f) args) (CR CX outer P w H s Q E) s
theorem cV.imp {P:Program}{w:World}{K:PySem.W.Frag}{mg:Str->Option Value}{base:Heap}{CX:gN}{k:Nat}{f:Addr}{fd:FuncData}{ps:List Str}{sp sp':Sp} (F:cV P w K mg base CX k f fd ps sp)
  (h:∀ vs H Q E,sp' vs H Q E->sp vs H Q E):cV P w K mg base CX k f fd ps sp':=
 ⟨fun vs H Q E q=>F.len vs H Q E (h _ _ _ _ q),fun A outer s H args us vs Q E hr he hb hv hs=>F.run A outer s H args us vs Q E hr he hb hv (h _ _ _ _ hs)⟩
section
variable {X : Cx} {pins : List (Addr × Obj)} {σ : St} {H : Hp} {s s' : Shared}
theorem a8.env0 (I:a8 X pins σ H s):pI X.prog X.w X.K X.mg X.base X.A X.stack s H:=
 ⟨I.ok.frames,I.ok.mod,I.bs,bh6 I.ok.bsz I.sz,I.stack,I.stkFree,I.hok,I.bare⟩
theorem a8.after {Q:VK}{u:Value} (I:a8 X pins σ H s) (h:CE X.stack X.prog X.w H s Q u s'):EP X pins σ Q u s':=by
 obtain ⟨v,H',os,bare,un,hok,r,q⟩:=h
 obtain ⟨hh,g,d,t,os'⟩:=s'
 obtain rfl:os'=s.os:=os
 exact⟨v,H',I.call (h':=hh) (g':=g) (d':=d) (t':=t) (ch:=[]) un hok bare (fun b z=>absurd z (by simp)),r,q⟩
end
def tU (sp:Sp) (dvs:List V) (E:XK) (t:TA):TE:=fun σ H Q=>t σ H fun vs H1=>sp (vs ++ dvs) H1 Q E
def i3 (K:PySem.W.Frag) (fd:FuncData) (ps:List Str) (ds:List Value):Prop:=
 ∀ (s:Shared) (us:List Value),K.In s.heap->(us ++ ds).length=ps.length->BindsTo s fd ⟨us,[]⟩ (ps.zip (us ++ ds))
theorem i3.all {K:PySem.W.Frag}{fd:FuncData}{ps:List Str} (h:∀ us:List Value,us.length=ps.length->bindArgs fd ⟨us,[]⟩=pure (ps.zip us)):i3 K fd ps []:=fun s us _ hl=>by
 rw [bf9] at hl ⊢
 exact .of_eq (h us hl)
def nJ (CX:gN) (X:Cx) (E:XK):Prop:=∀ (pins:List (Addr × Obj)) (σ:St) (H:Hp) (s:Shared) (e:Value) (s':Shared),a8 X pins σ H s->CX X.stack H s E e s'->X.xe e s'
section
variable {X : Cx} {CX : gN} {k : Nat} {f C : Addr} {fd : FuncData} {ps : List Str} {sp : Sp} {dvs : List V} {ds : List Value} {E : XK} {x m : Str} {p pos apos : Pos} {e o : Expr} {es : List Expr} {ta : TE} {t : TA}
theorem am1 {pins:List (Addr × Obj)}{σ:St}{H:Hp}{s:Shared}{Q:VK}{us:List Value}{vs:List V} (F:cV X.prog X.w X.K X.mg X.base CX k f fd ps sp) (hr:c9 k X.A) (hb:i3 X.K fd ps ds) (hd:aQ dvs ds) (hx:nJ CX X E)
  (I:a8 X pins σ H s) (r:aQ vs us) (h:sp (vs ++ dvs) H Q E):wpAny (model X.prog X.w) X.A (call (.ref f) us) (EP X pins σ Q) X.xe s:=by
 have r2:aQ (vs ++ dvs) (us ++ ds):=r.append hd
 have hl:(us ++ ds).length=ps.length:=by rw [<- r2.length]; exact F.len _ _ _ _ h
 refine wpAny_call (codeAny_mono (F.run X.A X.stack s H ⟨us,[]⟩ (us ++ ds) (vs ++ dvs) Q E hr I.env0 (hb s us I.kIn hl) r2 h) fun r s' hq=>?_)
 cases r with
 | error e=>exact hx pins σ H s e s' I hq
 | ok fl=>
  cases fl with
  | ret u=>exact I.after hq
  | next=>exact False.elim hq
  | brk=>exact False.elim hq
  | cont=>exact False.elim hq
theorem pJ (F:cV X.prog X.w X.K X.mg X.base CX k f fd ps sp) (hr:c9 k X.A) (hg:Gl X x) (hm:X.mg x=some (.ref f)) (hk:PySem.W.keepIn X.K (.ref f)=true) (hb:i3 X.K fd ps ds) (hd:aQ dvs ds) (hx:nJ CX X E)
  (ha:PA X (e :: es) t) (hdb:(x == ("__debug__" : Str))=false:=by decide) (he:starEach (e :: es) X.env=(false,eval e X.env) :: starEach es X.env:=by rfl) (hpl:(backTo pos (starEach es X.env)).any (·.1)=false:=by rfl) :
  PE X (.Call (.Name x p) (e :: es) [] pos) (tU sp dvs E t):=by
 intro pins s σ H Q I h
 refine wpAny_Call_Name_kw (nB I hg hm ?_ hdb)
 refine PySem.W.callWith_K (h₀:=X.base) I.ok.mod.kin hk (aS (ha pos pins s σ H _ I h) fun us s1 ⟨vs,H1,I1,r,q⟩=>⟨I1.kIn,?_⟩) he hpl
 exact am1 F hr hb hd hx I1 r q
end
def PK (X:Cx) (kws:List Keyword) (t:TA):Prop:=
 ∀ (pos:Pos) (pins:List (Addr × Obj)) (s:Shared) (σ:St) (H:Hp) (Q:List V->Hp->Prop),a8 X pins σ H s->t σ H Q->wpAny (model X.prog X.w) X.A (evalAll ((backToKw pos (keywordEach kws X.env)).map (·.2))) (AP X pins σ Q) X.xe s
structure FnScope (N P:List Str) (sc:Scope):Prop where
 kind:sc.kind = .function
 co:sc.isCoroutine=false
 gen:sc.isGenerator=false
 nd:N.Nodup
 pre:N.take P.length=P
 par:∀ x ∈ P,sc.names.lookup x=some .local ∨ sc.names.lookup x=some .cell
 nofree:∀ y ∈ sc.names,y.2 ≠ .free
theorem zG {kindOf:Str->Option NameKind}{x:Str}:∀ {binds:List (Str × Value)}{m:Str->Option Value},(∀ v,(x,v) ∉ binds)->bindL kindOf binds m x=m x
 | [],_,_=>rfl
 | (n,v) :: r,m,h=>by
  unfold bindL
  rw [zG fun w hw=>h w (bg0 _ hw)]
  split
  ·have:x ≠ n:=by rintro rfl; exact h v bf5
   simp [this]
  ·rfl
theorem zH {kindOf:Str->Option NameKind}{x:Str}:∀ {binds:List (Str × Value)}{m:Str->Option Value},(∀ v,(x,v) ∉ binds)->bindC kindOf binds m x=m x
 | [],_,_=>rfl
 | (n,v) :: r,m,h=>by
  unfold bindC
  rw [zH fun w hw=>h w (bg0 _ hw)]
  split
  ·rfl
  ·have:x ≠ n:=by rintro rfl; exact h v bf5
   simp [this]
theorem zI {kindOf:Str->Option NameKind}{x:Str}{v:Value}:∀ {P:List Str}{vs:List Value}{i:Nat}{m:Str->Option Value},P.Nodup->P[i]? = some x->vs[i]? = some v->kindOf x=some .local->
  bindL kindOf (P.zip vs) m x=some v
 | [],_,_,_,_,h,_,_=>by simp at h
 | _ :: _,[],_,_,_,_,h,_=>by simp at h
 | p :: P,w :: vs,0,m,nd,h1,h2,hk=>by
  simp at h1 h2; subst h1; subst h2
  show bindL kindOf ((p,w) :: P.zip vs) m p=_
  unfold bindL
  rw [zG fun v hv=>(List.nodup_cons.mp nd).1 (List.of_mem_zip hv).1,if_pos hk]
  simp
 | p :: P,w :: vs,i+1,m,nd,h1,h2,hk=>by
  show bindL kindOf ((p,w) :: P.zip vs) m x=_
  unfold bindL
  exact zI (i:=i) (List.nodup_cons.mp nd).2 (by simpa using h1) (by simpa using h2) hk
theorem zJ {kindOf:Str->Option NameKind}{x:Str}{v:Value}:∀ {P:List Str}{vs:List Value}{i:Nat}{m:Str->Option Value},P.Nodup->P[i]? = some x->vs[i]? = some v->kindOf x ≠ some .local->
  bindC kindOf (P.zip vs) m x=some v
 | [],_,_,_,_,h,_,_=>by simp at h
 | _ :: _,[],_,_,_,_,h,_=>by simp at h
 | p :: P,w :: vs,0,m,nd,h1,h2,hk=>by
  simp at h1 h2; subst h1; subst h2
  show bindC kindOf ((p,w) :: P.zip vs) m p=_
  unfold bindC
  rw [zH fun v hv=>(List.nodup_cons.mp nd).1 (List.of_mem_zip hv).1,if_neg hk]
  simp
 | p :: P,w :: vs,i+1,m,nd,h1,h2,hk=>by
  show bindC kindOf ((p,w) :: P.zip vs) m x=_
  unfold bindC
  exact zJ (i:=i) (List.nodup_cons.mp nd).2 (by simpa using h1) (by simpa using h2) hk
def start (N:List Str) (vs:List V):St:=vs.map some ++ List.replicate (N.length - vs.length) none
def dB (CX:gN) (P:Program) (w:World) (K:PySem.W.Frag) (mg:Str->Option Value) (base:Heap) (N:List Str) (qual:Str) (scope:Scope) (f:Addr) (cd:Value) (A:Around) (outer:List Env) (s:Shared) (H:Hp) (E:XK):Cx where
 prog:=P
 w:=w
 K:=K
 mg:=mg
 base:=base
 A:=A.deeper (envOfC qual scope s.heap.objs.size f cd)
 N:=N
 s₀:=s
 H₀:=H
 env:=envOfC qual scope s.heap.objs.size f cd
 outer:=outer
 stack:=envOfC qual scope s.heap.objs.size f cd :: outer
 ex:=[]
 calm:=true
 fn:=fun _=>true
 pn:=[]
 xe:=fun e s'=>wpAny (model P w) (A.deeper (envOfC qual scope s.heap.objs.size f cd)) (leaving (envOfC qual scope s.heap.objs.size f cd) e) (fun _ s''=>CX outer H s E e s'') (fun e' s''=>CX outer H s E e' s'') s'
theorem zK {sc:Scope}{n:Nat}{x:Str} (h:sc.names.lookup x=some .cell):∃ c,(cellsFrom n sc.names []).lookup x=some c:=by
 have q:=PySem.W.cellsFrom_some sc.names n [] (.inl h)
 exact Option.isSome_iff_exists.mp q
theorem am2 {CX:gN}{P:Program}{w:World}{K:PySem.W.Frag}{mg:Str->Option Value}{base:Heap}{N ps:List Str}{qual:Str}{scope:Scope}{f:Addr}{cd:Value}{A:Around}{outer:List Env}{s s1:Shared}{H:Hp}{E:XK}{us:List Value}{vs:List V}
  (S:FnScope N ps scope) (hd:A.handled=none) (e0:pI P w K mg base A outer s H) (hl:vs.length=ps.length) (r:aQ vs us)
  (x:InCallC s s.heap.objs.size (bindL (envOfC qual scope s.heap.objs.size f cd).kindOf (ps.zip us) fun _=>none) (cellsFrom (s.heap.objs.size+1) scope.names []) (bindC (envOfC qual scope s.heap.objs.size f cd).kindOf (ps.zip us) fun _=>none) s1) :
  a8 (dB CX P w K mg base N qual scope f cd A outer s H E) [] (start N vs) H s1:=by
 have hpl:ps.length<=N.length:=by have:=congrArg List.length S.pre; rw [bj0] at this; omega
 obtain ⟨h1,tk,rfl,hk⟩:=x.done
 have noA:∀ b:Addr,b ∉ (dB CX P w K mg base N qual scope f cd A outer s H E).ex:=fun b z=>absurd (show b ∈ ([]:List Addr) from z) (by simp)
 refine⟨⟨e0.mod,S.kind,rfl,rfl,be6 _,fun y z c h1 h2=>?_,fun y hy=>?_,fun y c _ h=>?_,fun _=>hd,Around.frames_deeper e0.frames,.inr ⟨rfl,rfl⟩,fun b z=>absurd z (noA b),e0.bs,e0.bsz,fun b _ _=>noA b,fun b z=>absurd z (noA b),e0.funs,e0.frf⟩,
  rfl,e0.bare,Un.kept hk,⟨_,x.toInCall.ns,fun i y v h1 h2 h3=>?_⟩,fun y c h=>⟨_,x.cell y c h⟩,e0.hok.fresh (be6 _),fun y c h=>?_,fun p hp=>absurd (show p ∈ ([]:List (Addr × Obj)) from hp) (by simp),e0.hok.kept hk,?_⟩
 ·exact name_of_addr x.apart (bj5 h1) (bj5 h2)
 ·have hy:scope.names.lookup y=some .cell ∨ scope.names.lookup y=some .free:=hy
  rcases hy with hy | hy
  ·exact zK hy
  ·exact absurd rfl (S.nofree _ (bj5 hy))
 ·exact bj6 (x.above y c (bj5 h))
 ·have hi:i < vs.length:=by
   unfold start at h2
   by_cases hi:i < vs.length
   ·exact hi
   ·rw [List.getElem?_append_right (by simpa using hi)] at h2
    rw [List.getElem?_replicate] at h2
    split at h2 <;> cases h2
  have ha:vs[i]? = some v:=by
   unfold start at h2
   rw [List.getElem?_append_left (by simpa using hi),bf4] at h2
   cases e:vs[i]? with
   | none=>rw [e] at h2; cases h2
   | some a=>rw [e] at h2; cases h2; rfl
  obtain ⟨u,hu,rv⟩:=r.get ha
  have hp:ps[i]? = some y:=by
   rw [<- S.pre,List.getElem?_take_of_lt (by omega)]; exact h1
  have ndP:ps.Nodup:=by rw [<- S.pre]; exact S.nd.sublist (List.take_sublist _ _)
  refine⟨u,rv,?_⟩
  rcases S.par y (bh1 hp) with k | k
  ·exact .inl ⟨k,zI ndP hp hu k⟩
  ·obtain ⟨c,e⟩:=zK (n:=s.heap.objs.size+1) k
   refine .inr ⟨.inl k,c,e,?_⟩
   have q:=x.cell y c e
   rw [zJ ndP hp hu (by show scope.names.lookup y ≠ _; rw [k]; decide)] at q
   exact q
 ·exact e0.hok.fresh (bj6 (x.above y c (bj5 h)))
 ·unfold start
  show _=N.length
  rw [be2,be5,List.length_replicate]
  omega
theorem zL {CX:gN}{P:Program}{w:World}{K:PySem.W.Frag}{mg:Str->Option Value}{base:Heap}{k:Nat}{f:Addr}{name qual:Str}{params:Arguments}{body:List Stmt}{scope:Scope}{dV kV doc pm cdv ct oc:Value}{an od:Option Addr}
  {osl:Array (Option Value)}{N ps:List Str}{sp:Sp} (lk:K.lookup f=some ⟨oc,od,.func (PySem.W.fnOf name qual params body scope dV kV doc pm an cdv ct),osl⟩) (hcd:PySem.W.codeIn K cdv qual=true) (S:FnScope N ps scope)
  (len:∀ vs H Q E,sp vs H Q E->vs.length=ps.length)
  (hbody:∀ (A:Around) (outer:List Env) (s:Shared) (H:Hp) (vs:List V) (Q:VK) (E:XK),c9 k (A.deeper (envOfC qual scope s.heap.objs.size f cdv))->sp vs H Q E->
   ∃ t,dA (dB CX P w K mg base N qual scope f cdv A outer s H E) body t/\t { nx:=fun _ H'=>Q .non H',rt:=Q } (start N vs) H) :
  cV P w K mg base CX (k+1) f (PySem.W.fnOf name qual params body scope dV kV doc pm an cdv ct) ps sp:=by
 refine⟨len,fun A outer s H args us vs Q E hr e0 hb r hsp=>?_⟩
 have hl:=len _ _ _ _ hsp
 have KX:K.In s.heap:=e0.mod.kin.keeps fun b o e=>(e0.bs b o e).1
 have lim:s.heap.NoLimit:=e0.mod.nolimit.keeps fun b o e=>(e0.bs b o e).1
 have hkind:∀ y ∈ ps.zip us,scope.names.lookup y.1=some .local ∨ (scope.names.lookup y.1=some .cell/\((cellsFrom (s.heap.objs.size+1) scope.names []).lookup y.1).isSome=true):=fun ⟨n,v⟩ hy=>by
  rcases S.par n (List.of_mem_zip hy).1 with q | q
  ·exact .inl q
  ·exact .inr ⟨q,PySem.W.cellsFrom_some _ _ _ (.inl q)⟩
 refine codeAny_call_function hr.depth (KX _ _ lk) rfl S.co S.gen rfl (PySem.W.codeRec_of KX hcd) (hb _ _ _ _ ?_)
 refine wpAny_newFunctionEnv_cells S.kind hkind fun env he s1 x=>?_
 subst he
 refine⟨lim.keeps x.toInCall.keep,codeAny_func ?_⟩
 obtain ⟨t,ht,hq⟩:=hbody A outer s H vs Q E (hr.deeper _) hsp
 have I:a8 (dB CX P w K mg base N qual scope f cdv A outer s H E) [] (start N vs) H s1:=am2 S hr.hd e0 hl r x
 refine bm2 (ht [] s1 (start N vs) H _ I hq) (fun fl s' hs=>?_) fun e s' hs=>hs
 have fin:∀ {σ':St}{H':Hp}{v:V}{u:Value},a8 (dB CX P w K mg base N qual scope f cdv A outer s H E) [] σ' H' s'->b4 v u->Q v H'->CE outer P w H s Q u s':=
  fun {σ' H' v u} J rv q=>⟨v,H',J.os,J.bare,J.base,J.hok,rv,q⟩
 cases fl with
 | ret u=>
  obtain ⟨v,σ',H',J,rv,q⟩:=hs
  exact fin J rv q
 | next=>
  obtain ⟨σ',H',J,q⟩:=hs
  exact fin (v:=V.non) (u:=Value.none) J rfl q
 | brk=>
  obtain ⟨_,_,_,q⟩:=hs
  exact False.elim q
 | cont=>
  obtain ⟨_,_,_,q⟩:=hs
  exact False.elim q
section
variable {X : Cx} {x : Str} {p pos : Pos} {e : Expr} {es : List Expr} {t : TA} {id T : String} {r : List V → Hp → VK → Prop}
def tV (r:List V->Hp->VK->Prop) (t:TA):TE:=fun σ H Q=>t σ H fun vs H1=>r vs H1 Q
theorem nK (hc:cU X (.builtin id) r) (hg:Gl X x) (hm:X.mg x=none) (hv:bootBuiltins x=some (.builtin id)) (ha:PA X (e :: es) t) (hn:x ≠ "__name__":=by decide) (hdb:(x == ("__debug__" : Str))=false:=by decide)
  (he:starEach (e :: es) X.env=(false,eval e X.env) :: starEach es X.env:=by rfl) (hpl:(backTo pos (starEach es X.env)).any (·.1)=false:=by rfl):PE X (.Call (.Name x p) (e :: es) [] pos) (tV r t):=by
 intro pins s σ H Q I h
 refine wpAny_Call_Name_kw (j3 I hg hm hv ?_ hn hdb)
 exact PyProof.Rows.callWith_builtin1 (aS (ha pos pins s σ H _ I h) fun us s1 ⟨vs,H1,I1,r1,q1⟩=>hc pins s1 σ H1 vs us Q I1 r1 q1) he hpl
theorem zM (hc:cU X (.type T) r) (hg:Gl X x) (hm:X.mg x=none) (hv:bootBuiltins x=some (.type T)) (ha:PA X (e :: es) t) (hn:x ≠ "__name__":=by decide) (hdb:(x == ("__debug__" : Str))=false:=by decide)
  (he:starEach (e :: es) X.env=(false,eval e X.env) :: starEach es X.env:=by rfl) (hpl:(backTo pos (starEach es X.env)).any (·.1)=false:=by rfl):PE X (.Call (.Name x p) (e :: es) [] pos) (tV r t):=by
 intro pins s σ H Q I h
 refine wpAny_Call_Name_kw (j3 I hg hm hv ?_ hn hdb)
 exact bl0 (aS (ha pos pins s σ H _ I h) fun us s1 ⟨vs,H1,I1,r1,q1⟩=>hc pins s1 σ H1 vs us Q I1 r1 q1) he hpl
end
end L2
namespace HT
open PySem PyProof.Rows
def fN:List Int->List Int->Bool
 | [],[]=>false
 | [],_ :: _=>true
 | _ :: _,[]=>false
 | x :: xs,y :: ys=>if x=y then fN xs ys else decide (x < y)
theorem nL (x y:Int) (xs ys:List Int):fN (x :: xs) (y :: ys)=if x=y then fN xs ys else decide (x < y):=rfl
section
variable {prog : Program} {w : World} {A : Around} {E : Value → Shared → Prop} {s : Shared}
theorem am3 {t b:Addr}{vs ws:List Value}{Q:Value->Shared->Prop} (ht:IsTup s.heap t vs.toArray) (hb:IsTup s.heap b ws.toArray) (hv:vs ≠ [])
  (h1:ws = []->Q (.ref t) s) (h2:ws ≠ []->Q (.ref s.heap.objs.size) { s with heap:=s.heap.push { cls:=.type "tuple",data:=.seq (vs ++ ws).toArray } })
  (hsz:vs.length+ws.length<=sizeLine):wpAny (model prog w) A (binaryOp .Add (.ref t) (.ref b)) Q E s:=by
 obtain ⟨⟨cls,dd,data,sl⟩,ho,hc,n,hd⟩:=id ht
 obtain ⟨⟨cls2,dd2,data2,sl2⟩,ho2,hc2,n2,hd2⟩:=id hb
 simp only at hc hd hc2 hd2
 subst hc hd hc2 hd2
 have e:vs.toArray ++ ws.toArray=(vs ++ ws).toArray:=by simp
 by_cases hw:ws = []
 ·exact concat_meets ⟨_,ho,rfl⟩ ⟨_,ho2,rfl⟩ noFill_tuple_add seq_tuple_add PySem.F.slot_tuple_add PySem.F.entry_tuple_add (PySem.F.args_tuple_add_2 _ _)
   (tuple_addW1 t b vs.toArray ws.toArray n n2 dd dd2 sl sl2 (by simpa using hv) (by simp [hw])) ⟨ho,ho2,h1 hw⟩
 ·refine concat_meets ⟨_,ho,rfl⟩ ⟨_,ho2,rfl⟩ noFill_tuple_add seq_tuple_add PySem.F.slot_tuple_add PySem.F.entry_tuple_add (PySem.F.args_tuple_add_2 _ _)
   (tuple_addW2 t b vs.toArray ws.toArray n n2 dd dd2 sl sl2 (by simpa using hv) (by simpa using hw) (by rw [be0,be0]; exact hsz)) ⟨ho,ho2,?_⟩
  rw [e]
  exact h2 hw
def b7 (n d:Nat):Option Int->Nat
 | none=>d
 | some v=>if v < 0 then (v+(n:Int)).toNat else min v.toNat n
theorem zN (n d k:Nat):b7 n d (some (k:Int))=min k n:=by
 show (if (k:Int) < 0 then ((k:Int)+(n:Int)).toNat else min (k:Int).toNat n)=min k n
 rw [if_neg (by omega),bl4]
theorem am4 (n d:Nat) (hd:d<=n) (o:Option Int):b7 n d o<=n:=by
 cases o with
 | none=>exact hd
 | some v=>
  show (if v < 0 then (v+(n:Int)).toNat else min v.toNat n)<=n
  by_cases hv:v < 0
  ·rw [if_pos hv]; omega
  ·rw [if_neg hv]; exact Nat.min_le_right _ _
theorem zO (v:Int) (n d:Nat):(if v < 0 then max (v+(n:Int)) 0 else min v (n:Int))=((b7 n d (some v):Nat):Int):=by
 show (if v < 0 then max (v+(n:Int)) 0 else min v (n:Int))=(((if v < 0 then (v+(n:Int)).toNat else min v.toNat n):Nat):Int)
 by_cases hv:v < 0
 ·simp only [if_pos hv]; omega
 ·simp only [if_neg hv]; omega
theorem am5 (lo hi:Option Int) (n:Nat):Builtin.Slice.sliceAdjust lo hi 1 (n:Int)=(((b7 n 0 lo:Nat):Int),((b7 n n hi:Nat):Int)):=by
 have h1 : ¬ ((1:Int) < 0):=by omega
 unfold Builtin.Slice.sliceAdjust
 simp only [h1,bk8]
 refine Prod.ext ?_ ?_
 ·cases lo with
  | none=>rfl
  | some v=>exact zO v n 0
 ·cases hi with
  | none=>rfl
  | some v=>exact zO v n n
theorem am6 (i j:Nat):Builtin.Slice.slicePlaces (i:Int) (j:Int) 1=j - i:=by
 unfold Builtin.Slice.slicePlaces
 have h1:(1:Int) > 0:=by omega
 simp only [h1,if_true,Int.ediv_one]
 split <;> omega
theorem zP {v:Value}{o:Option Int}{Q:Option Int->Shared->Prop} (p:IsPart v o) (h:Q o s):wpAny (model prog w) A (Builtin.Slice.slicePartIndex v) Q E s:=by
 cases p with
 | none=>exact slicePart_none h
 | int i t=>exact slicePart_int h
theorem zQ {sl:Addr}{vl vu:Value}{lo hi:Option Int}{n:Nat}{Q:Int × Int × Nat->Shared->Prop} (hs:s.heap.IsSliceOf sl vl vu .none) (pl:IsPart vl lo) (pu:IsPart vu hi)
  (h:Q (((b7 n 0 lo:Nat):Int),1,b7 n n hi - b7 n 0 lo) s):wpAny (model prog w) A (Builtin.Slice.sliceApplied (.ref sl) (pure (n:Int))) Q E s:=by
 obtain ⟨os,hos,hcs,hds⟩:=id hs
 unfold Builtin.Slice.sliceApplied Builtin.Slice.sliceFields
 refine bd9 (bd9 (bk0 hos hds (x:=vl) rfl (bd9 (bk0 hos hds (x:=vu) rfl (bd9 (bk0 hos hds (x:=.none) rfl (be4 ?_)))))))
 refine bd9 (slicePart_none ?_)
 show wpAny _ _ (if ((1:Int) == 0)=true then _ else _) _ _ s
 rw [if_neg (by decide)]
 refine bd9 (zP pl (bd9 (zP pu (bd9 (be4 ?_)))))
 show wpAny _ _ (match Builtin.Slice.sliceAdjust lo hi 1 (n:Int) with | (lo,hi)=>pure (lo,(1:Int),Builtin.Slice.slicePlaces lo hi 1)) _ _ s
 rw [am5 lo hi n]
 show wpAny _ _ (pure (((b7 n 0 lo:Nat):Int),(1:Int),Builtin.Slice.slicePlaces ((b7 n 0 lo:Nat):Int) ((b7 n n hi:Nat):Int) 1)) _ _ s
 rw [am6]
 exact be4 h
theorem am7 (xs:Array Value) (i k:Nat):((List.range k).filterMap fun (m:Nat)=>xs[((i:Int)+(m:Int) * 1).toNat]?).toArray=((xs.toList.drop i).take k).toArray:=by
 have e:(fun (m:Nat)=>xs[((i:Int)+(m:Int) * 1).toNat]?)=fun m=>xs[i+m]?:=by
  funext m
  have:((i:Int)+(m:Int) * 1).toNat=i+m:=by omega
  rw [this]
 rw [e]
 have:=pick_run xs i k
 rw [List.filterMap_map] at this
 have e2:((fun x=>xs[x]?) ∘ fun x=>i+x)=fun m=>xs[i+m]?:=rfl
 rw [e2] at this
 rw [this]
theorem am8 {t sl:Addr}{items:Array Value}{vl vu:Value}{lo hi:Option Int}{Q:Value->Shared->Prop} (ht:IsTup s.heap t items) (hs:s.heap.IsSliceOf sl vl vu .none) (pl:IsPart vl lo) (pu:IsPart vu hi)
  (hw : ¬ (b7 items.size 0 lo=0/\b7 items.size items.size hi=items.size))
  (h:Q (.ref s.heap.objs.size) { s with heap:=s.heap.push { cls:=.type "tuple",data:=.seq ((items.toList.drop (b7 items.size 0 lo)).take (b7 items.size items.size hi - b7 items.size 0 lo)).toArray } })
  (hsz:items.size<=sizeLine):wpAny (model prog w) A (getItem (.ref t) (.ref sl)) Q E s:=by
 have htake:sizeOk (.seq ((items.toList.drop (b7 items.size 0 lo)).take (b7 items.size items.size hi - b7 items.size 0 lo)).toArray):=by
  show ((items.toList.drop (b7 items.size 0 lo)).take (b7 items.size items.size hi - b7 items.size 0 lo)).toArray.size<=sizeLine
  rw [be0,bj0,bk4,bi0]
  omega
 have hj:b7 items.size items.size hi<=items.size:=am4 _ _ (be6 _) hi
 obtain ⟨os,hos,hcs,hds⟩:=id hs
 have hTs:s.TypeIs (.ref sl) "slice":=⟨os,hos,hcs⟩
 unfold getItem
 try with_reducible refine bm0 ?_
 first | refine bd9 (be4 ?_) | skip
 refine bd9 (wpAny_sequenceKey ht.typeIs (by decide) ?_)
 refine bd9 (bk1 (name:=Str.ofString "__getitem__") ht.typeIs bo8
  (bk5 bo8 ht.typeIs entry_tuple_getitem ?_ (args_tuple_getitem _ _)))
 show wpAny _ _ (Builtin.Tuple.tupleItemsOf (.ref t) >>= _) _ _ s
 refine bd9 (tupleItemsOf_ ht ?_)
 refine bd9 (wpAny_typeOf hTs ?_)
 rw [if_pos (by decide)]
 refine bd9 (zQ hs pl pu ?_)
 have hno : ¬ ((((b7 items.size 0 lo:Nat):Int) == 0 && (1:Int) == 1 && (b7 items.size items.size hi - b7 items.size 0 lo) == items.size)=true):=by
  intro q
  rw [bg1,bg1] at q
  have q1:((b7 items.size 0 lo:Nat):Int)=0:=eq_of_beq q.1.1
  have q2:b7 items.size items.size hi - b7 items.size 0 lo=items.size:=eq_of_beq q.2
  exact hw ⟨by omega,by omega⟩
 show wpAny _ _ (if (((b7 items.size 0 lo:Nat):Int) == 0 && (1:Int) == 1 && (b7 items.size items.size hi - b7 items.size 0 lo) == items.size)=true then _ else _) _ _ s
 rw [if_neg hno,am7]
 first
  | exact bd9 (m:=Builtin.Tuple.tupleExact _) (bl5 (be4 ⟨_,rfl,be4 h⟩) htake)
  | exact bd9 (m:=Builtin.Tuple.tupleExact _) (bl5 (bd9 (be4 (be4 ⟨_,rfl,be4 h⟩))) htake)
  | exact bd9 (bd9 (m:=Builtin.Tuple.tupleExact _) (bl5 (be4 (be4 ⟨_,rfl,be4 h⟩)) htake))
  | exact bd9 (bd9 (m:=Builtin.Tuple.tupleExact _) (bl5 (be4 ⟨_,rfl,be4 h⟩) htake))
end
end HT
namespace L2
open PySem PySem.Spec PyProof.Rows
abbrev TO:=St->Hp->(Option Int->Hp->Prop)->Prop
def PO (X:Cx) (e:Option Expr) (t:TO):Prop:=
 ∀ (pins:List (Addr × Obj)) (s:Shared) (σ:St) (H:Hp) (Q:Option Int->Hp->Prop),a8 X pins σ H s->t σ H Q->
  wpAny (model X.prog X.w) X.A (evalPart e X.env) (fun u s'=>∃ o H',a8 X pins σ H' s'/\IsPart u o/\Q o H') X.xe s
def am9:TO:=fun _ H Q=>Q none H
def an0 (t:TE):TO:=fun σ H Q=>t σ H fun x H1=>∃ i,x = .int i/\Q (some i) H1
theorem kJ {ns:List Int}:∀ {us:List Value},aQ (ns.map V.int) us->IntsAre us ns:=by
 induction ns with
 | nil=>intro us r; rw [List.map_nil] at r; cases r; exact .nil
 | cons n ns ih=>
  intro us r
  rw [bj4] at r
  cases r with
  | cons r1 r2=>
   obtain ⟨t,e⟩:=r1
   subst e
   exact .cons n t (ih r2)
section
variable {X : Cx} {e : Expr} {te : TE} {lo hi : Option Expr} {tl th : TO} {pos p2 : Pos}
theorem tW:PO X none am9:=by
 intro pins s σ H Q I h
 rw [evalPart_none]
 exact be4 ⟨none,H,I,.none,h⟩
theorem tX (h:PE X e te):PO X (some e) (an0 te):=by
 intro pins s σ H Q I hw
 rw [evalPart_some]
 refine aS (h pins s σ H _ I hw) fun u s1 ⟨x,H1,I1,r1,q1⟩=>?_
 obtain ⟨i,rfl,q⟩:=q1
 obtain ⟨t,rfl⟩:=r1
 exact⟨some i,H1,I1,.int i t,q⟩
def jV (X:Cx) (r:V->Option Int->Option Int->Hp->VK->Prop):Prop:=
 ∀ (pins:List (Addr × Obj)) (s:Shared) (σ:St) (H:Hp) (x:V) (v vl vu:Value) (lo hi:Option Int) (sl:Addr) (Q:VK),a8 X pins σ H s->b4 x v->s.heap.IsSliceOf sl vl vu .none->IsPart vl lo->IsPart vu hi->r x lo hi H Q->
  ∃ T id,typeLookup (.type T) "__getitem__" = pure (some (.builtin id))/\s.TypeIs v T/\wpAny (model X.prog X.w) X.A (getItem v (.ref sl)) (EP X pins σ Q) X.xe s
theorem jV.or {r r':V->Option Int->Option Int->Hp->VK->Prop} (h:jV X r) (h':jV X r'):jV X (fun x lo hi H Q=>r x lo hi H Q ∨ r' x lo hi H Q):=by
 intro pins s σ H x v vl vu lo hi sl Q I rx hs pl pu q
 rcases q with q | q
 ·exact h pins s σ H x v vl vu lo hi sl Q I rx hs pl pu q
 ·exact h' pins s σ H x v vl vu lo hi sl Q I rx hs pl pu q
def tSl (r:V->Option Int->Option Int->Hp->VK->Prop) (te:TE) (tl th:TO):TE:=fun σ H Q=>te σ H fun x H1=>tl σ H1 fun l H2=>th σ H2 fun u H3=>r x l u H3 Q
theorem tY {r:V->Option Int->Option Int->Hp->VK->Prop} (hr:jV X r) (he:PE X e te) (hl:PO X lo tl) (hu:PO X hi th):PE X (.Subscript e (.Slice lo hi none p2) pos) (tSl r te tl th):=by
 intro pins s σ H Q I h
 refine Subscript_ (aS (he pins s σ H _ I h) fun v s1 ⟨x,H1,I1,r1,q1⟩=>?_)
 refine wpAny_Slice (aS (hl pins s1 σ H1 _ I1 q1) fun vl s2 ⟨l,H2,I2,pl,q2⟩=>aS (hu pins s2 σ H2 _ I2 q2) fun vu s3 ⟨u,H3,I3,pu,q3⟩=>?_)
 rw [evalPart_none]
 refine be4 ?_
 have I4:a8 X pins σ H3 { s3 with heap:=s3.heap.push { cls:=.type "slice",data:=.fields #[vl,vu,.none] } }:=I3.kept (t':=s3.toks) fun b ob q=>be1 _ q
 obtain ⟨T,id,hT,ht,hg⟩:=hr pins { s3 with heap:=s3.heap.push { cls:=.type "slice",data:=.fields #[vl,vu,.none] } } σ H3 x v vl vu l u s3.heap.objs.size Q I4 r1 (Heap.IsSliceOf.new ..) pl pu q3
 show wpAny (model X.prog X.w) X.A (subscriptTail e (.Slice lo hi none p2) v (.ref s3.heap.objs.size)) (EP X pins σ Q) X.xe { s3 with heap:=s3.heap.push { cls:=.type "slice",data:=.fields #[vl,vu,.none] } }
 exact tail_any (ops:=[.ref s3.heap.objs.size,v]) ht hT hg (by with_unfolding_all rfl)
def eD (xs:List V) (lo hi:Option Int):List V:=(xs.drop (HT.b7 xs.length 0 lo)).take (HT.b7 xs.length xs.length hi - HT.b7 xs.length 0 lo)
theorem zR (xs:List V) (lo hi:Option Int):(eD xs lo hi).length<=xs.length:=by
 unfold eD
 rw [bj0,bk4]
 omega
def an1 (K:PySem.W.Frag):V->Option Int->Option Int->Hp->VK->Prop:=fun x lo hi H Q=>∃ a xs,x = .ref a/\aO K H a xs/\
 ¬ (HT.b7 xs.length 0 lo=0/\HT.b7 xs.length xs.length hi=xs.length)/\∀ p,H p=none->Q (.ref p) (upd H p (.tup (eD xs lo hi)))
theorem an2:jV X (an1 X.K):=by
 intro pins s σ H x v vl vu lo hi sl Q I rx hs pl pu h
 obtain ⟨a,xs,rfl,hx,hw,q⟩:=h
 cases rx
 obtain ⟨its,r,ht,hz⟩:=I.tuple hx
 have hlen:its.toArray.size=xs.length:=by rw [be0]; exact r.length.symm
 refine⟨"tuple",_,PyProof.Rows.slot_tuple_getitem.lookup,ht.typeIs,?_⟩
 refine HT.am8 ht hs pl pu (by rw [hlen]; exact hw) ?_ (by rw [hlen]; exact hz)
 rw [hlen]
 refine⟨.ref s.heap.objs.size,_,I.laid (t':=s.toks) (o:=.tup (eD xs lo hi)) (fun b ob q=>be1 _ q) (be6 _) ?_,rfl,q _ (I.hok.fresh (be6 _))⟩
 exact⟨bh6 (zR xs lo hi) hz,_,(r.drop (HT.b7 xs.length 0 lo)).take (HT.b7 xs.length xs.length hi - HT.b7 xs.length 0 lo),IsTup.new _ _,iI.new _ _ rfl⟩
def an3 (K:PySem.W.Frag):R2:=fun x y H Q=>∃ a b xs ys,x = .ref a/\y = .ref b/\aO K H a xs/\aO K H b ys/\xs ≠ []/\xs.length+ys.length<=sizeLine/\
 (ys = []->Q (.ref a) H)/\(ys ≠ []->∀ p,H p=none->Q (.ref p) (upd H p (.tup (xs ++ ys))))
theorem aQ.nil_iff {xs:List V}{us:List Value} (r:aQ xs us):us = [] ↔ xs = []:=by
 cases r with
 | nil=>simp
 | cons _ _=>simp
theorem an4:cB X (binaryOp .Add) (an3 X.K):=by
 intro pins s σ H x y v u Q I rx ry h
 obtain ⟨a,b,xs,ys,rfl,rfl,ha,hb,hx,hz,q1,q2⟩:=h
 cases rx
 cases ry
 obtain ⟨its,r1,p1,_⟩:=I.tuple ha
 obtain ⟨its2,r2,p2,_⟩:=I.tuple hb
 refine HT.am3 p1 p2 (fun z=>hx (r1.nil_iff.mp z)) (fun z=>⟨.ref a,H,I,rfl,q1 (r2.nil_iff.mp z)⟩) (fun z=>?_) (by rw [<- r1.length,<- r2.length]; exact hz)
 refine⟨.ref s.heap.objs.size,_,I.laid (t':=s.toks) (o:=.tup (xs ++ ys)) (fun b ob q=>be1 _ q) (be6 _) ?_,rfl,q2 (fun w=>z (r2.nil_iff.mpr w)) _ (I.hok.fresh (be6 _))⟩
 exact⟨by rw [be2]; exact hz,_,r1.append r2,IsTup.new _ _,iI.new _ _ rfl⟩
end
def i4 (n:Nat) (i:Int):Option Nat:=if 0<=i then (if i < n then some i.toNat else none) else if -(n:Int)<=i then some (i+n).toNat else none
def atI {α:Type} (xs:List α) (i:Int):Option α:=(i4 xs.length i).bind fun j=>xs[j]?
theorem zS {n:Nat}{i:Int}{j:Nat} (h:i4 n i=some j):seqIndex? i n=some j/\j < n/\-(n:Int)<=i/\i < n:=by
 unfold i4 at h
 by_cases h0:0<=i
 ·rw [if_pos h0] at h
  by_cases h1:i < n
  ·rw [if_pos h1] at h
   have e:i.toNat=j:=bg9 h
   exact⟨by rw [seqIndex_of h0 h1,e],by omega,by omega,h1⟩
  ·rw [if_neg h1] at h; cases h
 ·rw [if_neg h0] at h
  by_cases h1 : -(n:Int)<=i
  ·rw [if_pos h1] at h
   have e:(i+n).toNat=j:=bg9 h
   exact⟨by rw [seqIndex_neg (by omega) h1,e],by omega,h1,by omega⟩
  ·rw [if_neg h1] at h; cases h
theorem tZ {α:Type}{xs:List α}{i:Int}{v:α} (h:atI xs i=some v):∃ j,seqIndex? i xs.length=some j/\xs[j]? = some v/\j < xs.length/\-(xs.length:Int)<=i/\i < xs.length:=by
 unfold atI at h
 cases e:i4 xs.length i with
 | none=>rw [e] at h; cases h
 | some j=>
  rw [e] at h
  obtain ⟨h1,h2,h3,h4⟩:=zS e
  exact⟨j,h1,h,h2,h3,h4⟩
theorem pK {α:Type}{xs:List α}{j:Nat}{v:α} (h:xs[j]? = some v):atI xs (j:Int)=some v:=by
 have hj:j < xs.length:=(bf0.mp h).1
 have e:i4 xs.length (j:Int)=some j:=by
  unfold i4
  rw [if_pos (by omega),if_pos (by omega)]; simp
 unfold atI; rw [e]; exact h
def zT (b:Expr):Prop:=∀ o i,subscripted b false o i=operate [o,i] (getItem o i)
def j5 (X:Cx) (r:R2):Prop:=
 ∀ (value slice:Expr) (pins:List (Addr × Obj)) (s:Shared) (σ:St) (H:Hp) (x y:V) (v u:Value) (Q:VK),a8 X pins σ H s->b4 x v->b4 y u->r x y H Q->
  subscripted slice false v u=operate [v,u] (getItem v u)->wpAny (model X.prog X.w) X.A (subscriptTail value slice v u) (EP X pins σ Q) X.xe s
def u3 (X:Cx) (id:String) (r:V->List V->Hp->VK->Prop):Prop:=
 ∀ (pins:List (Addr × Obj)) (s:Shared) (σ:St) (H:Hp) (x:V) (xs:List V) (v:Value) (us:List Value) (Q:VK),a8 X pins σ H s->b4 x v->aQ xs us->r x xs H Q->
  wpAny (model X.prog X.w) X.A (call (.builtin id) (v :: us)) (EP X pins σ Q) X.xe s
section
variable {X : Cx} {a b : Expr} {ta tb : TE} {pos : Pos}
theorem j5.or {r r':R2} (h:j5 X r) (h':j5 X r'):j5 X (fun x y H Q=>r x y H Q ∨ r' x y H Q):=by
 intro value slice pins s σ H x y v u Q I rx ry q hs
 rcases q with q | q
 ·exact h value slice pins s σ H x y v u Q I rx ry q hs
 ·exact h' value slice pins s σ H x y v u Q I rx ry q hs
theorem nM {r:R2} (hr:j5 X r) (ha:PE X a ta) (hb:PE X b tb) (hs:zT b):PE X (.Subscript a b pos) (nF r ta tb):=by
 intro pins s σ H Q I h
 exact Subscript_ (tK ha hb I h fun v u s2 x y H2 I2 rx ry q=>hr a b pins s2 σ H2 x y v u Q I2 rx ry q (hs _ _))
def zU (K:PySem.W.Frag):R2:=fun x y H Q=>∃ p xs i v,x = .ref p/\y = .int i/\aU K H p xs/\atI xs i=some v/\Q v H
def zV (K:PySem.W.Frag):R2:=fun x y H Q=>∃ p xs i v,x = .ref p/\y = .int i/\aO K H p xs/\atI xs i=some v/\Q v H
def zW:R2:=fun x y H Q=>∃ z i c,x = .str z/\y = .int i/\z.length<=sizeLine/\atI z.cps.toList i=some c/\Q (.str ⟨#[c]⟩) H
theorem u4:j5 X (zU X.K):=by
 intro value slice pins s σ H x y v u Q I rx ry h hs
 obtain ⟨p,xs,i,z,rfl,rfl,hq,he,q⟩:=h
 cases rx
 obtain ⟨t,rfl⟩:=ry
 obtain ⟨its,r,pl,hz⟩:=I.list hq
 obtain ⟨j,h1,h2,h3,h4,h5⟩:=tZ he
 obtain ⟨w,ew,rw'⟩:=r.get h2
 have hl:=r.length
 have hn:=lO
 have fin:EP X pins σ Q w s:=⟨z,H,I,rw',q⟩
 by_cases h0:0<=i
 ·have hj:i.toNat=j:=by
   rw [seqIndex_of h0 h5] at h1
   exact bg9 h1
  exact item_listR pl.isList h0 (by omega) (by rw [hj]; simpa using ew) fin hs
 ·have hj:(i+(its.toArray.size:Int)).toNat=j:=by
   rw [seqIndex_neg (by omega) h4] at h1
   rw [be0,<- hl]
   exact bg9 h1
  exact subscriptTail_builtinR (x:=w) pl.isList.typeIs slot_list_getitem.lookup
   (wpAny_getItem_list_neg (Q:=fun r s'=>r=w/\EP X pins σ Q r s') pl.isList (by omega) (by rw [be0] <;> omega) (by omega) (by rw [hj]; simpa using ew) ⟨rfl,fin⟩) hs
theorem u5:j5 X (zV X.K):=by
 intro value slice pins s σ H x y v u Q I rx ry h hs
 obtain ⟨p,xs,i,z,rfl,rfl,hq,he,q⟩:=h
 cases rx
 obtain ⟨t,rfl⟩:=ry
 obtain ⟨its,r,pl,hz⟩:=I.tuple hq
 obtain ⟨j,h1,h2,h3,h4,h5⟩:=tZ he
 obtain ⟨w,ew,rw'⟩:=r.get h2
 have hl:=r.length
 have hn:=lO
 have fin:EP X pins σ Q w s:=⟨z,H,I,rw',q⟩
 exact subscriptTail_builtinR (x:=w) pl.typeIs slot_tuple_getitem.lookup
  (getItem_tuple (j:=j) (Q:=fun r s'=>r=w/\EP X pins σ Q r s') pl (by omega) (by omega) (by rw [be0,<- hl]; exact h1) (by simpa using ew) ⟨rfl,fin⟩) hs
theorem an5:j5 X zW:=by
 intro value slice pins s σ H x y v u Q I rx ry h hs
 obtain ⟨z,i,c,rfl,rfl,hz,he,q⟩:=h
 obtain ⟨t,rfl⟩:=rx
 obtain ⟨t',rfl⟩:=ry
 obtain ⟨j,h1,h2,h3,h4,h5⟩:=tZ he
 have hl:z.cps.toList.length=z.length:=by simp [Str.length]
 rw [hl] at h1 h4 h5
 have hn:=lO
 exact tail_any (typeIs_str s z t) slot_str_getitem.lookup (getItem_str (c:=c) (by
  have e1:decide (i < -(2 ^ 63:Int))=false:=be8 (by omega)
  have e2:decide (i >= 2 ^ 63)=false:=be8 (by omega)
  rw [e1,e2,Bool.or_false]) (by rw [h1]; simpa using h2) ⟨.str ⟨#[c]⟩,H,I.tok _,⟨_,rfl⟩,q⟩) hs
def zX (K:PySem.W.Frag):R2:=fun x y H Q=>zU K x y H Q ∨ zV K x y H Q ∨ zW x y H Q
theorem an6:j5 X (zX X.K):=u4.or (u5.or an5)
theorem an7 (its:List Value) (n j:Nat) (u:Value):Obj.mapSeq (·.setIfInBounds j u) { cls:=.type "list",data:=.seq its.toArray n }={ cls:=.type "list",data:=.seq (its.set j u).toArray n }:=by
 simp [Obj.mapSeq]
theorem a8.lst {pins:List (Addr × Obj)}{σ:St}{H:Hp}{s:Shared}{p:Addr}{xs:List V} (I:a8 X pins σ H s) (h:H p=some (.lst xs)) :
  ∃ (its:List Value) (n:Nat),aQ xs its/\s.heap.get? p=some { cls:=.type "list",data:=.seq its.toArray n }/\xs.length<=sizeLine:=by
 obtain ⟨z,its,n,r,e⟩:=I.hok p _ h
 exact⟨its,n,r,e,z⟩
theorem a8.lstUpd {pins:List (Addr × Obj)}{σ:St}{H:Hp}{s:Shared}{p:Addr}{xs ys:List V}{its its':List Value}{n n':Nat}{f:Obj->Obj} (I:a8 X pins σ H s) (h:H p=some (.lst xs))
  (ho:s.heap.get? p=some { cls:=.type "list",data:=.seq its.toArray n }) (hf:f { cls:=.type "list",data:=.seq its.toArray n }={ cls:=.type "list",data:=.seq its'.toArray n' }) (r:aQ ys its') (hz:ys.length<=sizeLine) (t:Nat) :
  a8 X pins σ (upd H p (.lst ys)) { s with heap:=s.heap.update p f,toks:=t }:=by
 have e:(s.heap.update p f).get? p=some { cls:=.type "list",data:=.seq its'.toArray n' }:=by
  rw [bs0 f ho (by rw [hf] <;> rfl),hf]
 refine I.write (x:=p) (e:=p) (by rw [h]; trivial) (.inl rfl) (fun b u hb q=>(Heap.get?_update_other _ _ (Ne.symm hb)).trans q) ⟨_,e⟩ ?_
 exact⟨hz,its',n',r,e⟩
def u6:V->V->V->Hp->(Hp->Prop)->Prop:=fun o i v H Q=>∃ p xs k j,o = .ref p/\i = .int k/\H p=some (.lst xs)/\i4 xs.length k=some j/\Q (upd H p (.lst (xs.set j v)))
theorem an8:yH X u6:=by
 intro pins s σ H o i v ov iv u Q I ro ri rv h
 obtain ⟨p,xs,k,j,rfl,rfl,hp,hj,q⟩:=h
 cases ro
 obtain ⟨t,rfl⟩:=ri
 obtain ⟨its,n,r,ho,hz⟩:=I.lst hp
 obtain ⟨h1,h2,h3,h4⟩:=zS hj
 have hl:=r.length
 have hn:=lO
 have I':a8 X pins σ (upd H p (.lst (xs.set j v))) { s with heap:=s.heap.update p (Obj.mapSeq (·.setIfInBounds j u)) }:=
  I.lstUpd hp ho (an7 its n j u) (r.set rv j) (by rw [bi5]; exact hz) s.toks
 by_cases h0:0<=k
 ·have hk:k.toNat=j:=by
   rw [seqIndex_of h0 h4] at h1
   exact bg9 h1
  exact PySem.W.ki_setAt ho h0 (by omega) (by rw [be0,<- hl]; exact h4) (by rw [hk]; exact⟨_,I',q⟩)
 ·have hk:(k+(its.toArray.size:Int)).toNat=j:=by
   rw [seqIndex_neg (by omega) h3] at h1
   rw [be0,<- hl]
   exact bg9 h1
  exact PySem.W.ki_setBack ho (by omega) (by rw [be0,<- hl]; exact h3) (by omega) (by rw [hk]; exact⟨_,I',q⟩)
theorem an9 (lo hi:Option Int) (n:Nat):(sliceBounds lo hi none n).1=((HT.b7 n 0 lo:Nat):Int)/\(sliceBounds lo hi none n).2.1=((HT.b7 n n hi:Nat):Int)/\(sliceBounds lo hi none n).2.2=1:=by
 refine⟨?_,?_,rfl⟩
 ·cases lo with
  | none=>simp [sliceBounds,HT.b7]
  | some i=>
   simp only [sliceBounds,HT.b7,Option.getD_none,show (1:Int) > 0 by decide,if_true]
   by_cases h:i < 0
   ·simp only [h,if_true] <;> omega
   ·simp only [h,bk8] <;> omega
 ·cases hi with
  | none=>simp [sliceBounds,HT.b7]
  | some i=>
   simp only [sliceBounds,HT.b7,Option.getD_none,show (1:Int) > 0 by decide,if_true]
   by_cases h:i < 0
   ·simp only [h,if_true] <;> omega
   ·simp only [h,bk8] <;> omega
theorem ao0 (its:List Value) (lo hi:Option Int):slicePick its.toArray lo hi none=((its.drop (HT.b7 its.length 0 lo)).take (HT.b7 its.length its.length hi - HT.b7 its.length 0 lo)).toArray:=by
 obtain ⟨h1,h2,h3⟩:=an9 lo hi its.toArray.size
 unfold slicePick
 rw [h1,h2,h3]
 simp only [sliceRange_one,pick_run,be0] <;> rfl
def ao1 (K:PySem.W.Frag):V->Option Int->Option Int->Hp->VK->Prop:=fun x lo hi H Q=>∃ a xs,x = .ref a/\aU K H a xs/\∀ p,H p=none->Q (.ref p) (upd H p (.lst (eD xs lo hi)))
theorem zY:jV X (ao1 X.K):=by
 intro pins s σ H x v vl vu lo hi sl Q I rx hs pl pu h
 obtain ⟨a,xs,rfl,hx,q⟩:=h
 cases rx
 obtain ⟨its,r,ht,hz⟩:=I.list hx
 have hlen:=r.length
 refine⟨"list",_,slot_list_getitem.lookup,ht.isList.typeIs,?_⟩
 refine wpAny_getItem_list_slice ht.isList hs pl pu .none (by simp) ?_ (by rw [be0] <;> omega)
 rw [ao0,<- hlen]
 refine⟨.ref s.heap.objs.size,_,I.laid (t':=s.toks) (o:=.lst (eD xs lo hi)) (fun b ob q=>be1 _ q) (be6 _) ?_,rfl,q _ (I.hok.fresh (be6 _))⟩
 exact⟨bh6 (zR xs lo hi) hz,_,0,(r.drop (HT.b7 xs.length 0 lo)).take (HT.b7 xs.length xs.length hi - HT.b7 xs.length 0 lo),bf6 _ rfl⟩
def j6:V->Bool
 | .non=>true
 | .bl _=>true
 | .int _=>true
 | .str _=>true
 | _=>false
def i5:V->V->Bool
 | .non,.non=>true
 | .bl a,.bl b=>a == b
 | .bl a,.int b=>(if a then 1 else 0) == b
 | .int a,.bl b=>a == (if b then 1 else 0)
 | .int a,.int b=>a == b
 | .str a,.str b=>a == b
 | _,_=>false
theorem ao2 {A:Around}{s:Shared}{y x:V}{u v:Value} (ry:b4 y u) (rx:b4 x v) (fy:j6 y=true) (fx:j6 x=true):SeqAt.EqAt A s u v (i5 y x):=by
 cases y with
 | non=>
  cases ry
  cases x with
  | non=>cases rx; exact SeqAt.EqAt.same _
  | bl b=>cases rx; exact SeqAt.EqAt.none_bool b
  | int b=>obtain ⟨t,rfl⟩:=rx; exact SeqAt.EqAt.none_int b t
  | str b=>obtain ⟨t,rfl⟩:=rx; exact SeqAt.EqAt.none_str b t
  | _=>exact absurd (show false=true from fx) bg6
 | bl a=>
  cases ry
  cases x with
  | non=>cases rx; exact SeqAt.EqAt.bool_none a
  | bl b=>cases rx; exact SeqAt.EqAt.bool_bool a b
  | int b=>obtain ⟨t,rfl⟩:=rx; exact SeqAt.EqAt.bool_int a b t
  | str b=>obtain ⟨t,rfl⟩:=rx; exact SeqAt.EqAt.bool_str a b t
  | _=>exact absurd (show false=true from fx) bg6
 | int a=>
  obtain ⟨t',rfl⟩:=ry
  cases x with
  | non=>cases rx; exact SeqAt.EqAt.int_none a t'
  | bl b=>cases rx; exact SeqAt.EqAt.int_bool a t' b
  | int b=>obtain ⟨t,rfl⟩:=rx; exact SeqAt.EqAt.int_int a t' b t
  | str b=>obtain ⟨t,rfl⟩:=rx; exact SeqAt.EqAt.int_str a t' b t
  | _=>exact absurd (show false=true from fx) bg6
 | str a=>
  obtain ⟨t',rfl⟩:=ry
  cases x with
  | non=>cases rx; exact SeqAt.EqAt.str_none a t'
  | bl b=>cases rx; exact SeqAt.EqAt.str_bool a t' b
  | int b=>obtain ⟨t,rfl⟩:=rx; exact SeqAt.EqAt.str_int a t' b t
  | str b=>obtain ⟨t,rfl⟩:=rx; exact SeqAt.EqAt.str_str a t' b t
  | _=>exact absurd (show false=true from fx) bg6
 | _=>exact absurd (show false=true from fy) bg6
def fF (x:V) (u:Value):Bool:=match u with
 | .none=>i5 .non x
 | .bool b=>i5 (.bl b) x
 | .int i _=>i5 (.int i) x
 | .str z _=>i5 (.str z) x
 | _=>false
theorem zZ {x y:V}{u:Value} (r:b4 y u) (f:j6 y=true):fF x u=i5 y x:=by
 cases y with
 | non=>cases r; rfl
 | bl b=>cases r; rfl
 | int i=>obtain ⟨t,rfl⟩:=r; rfl
 | str z=>obtain ⟨t,rfl⟩:=r; rfl
 | _=>exact absurd (show false=true from f) bg6
theorem nN {x:V}:∀ {xs:List V}{us:List Value},aQ xs us->xs.all j6=true->us.any (fF x)=xs.any fun y=>i5 y x
 | _,_,.nil,_=>rfl
 | y :: xs,u :: us,.cons r t,f=>by
  rw [bn9,bg1] at f
  rw [List.any_cons,List.any_cons,zZ r f.1,nN t f.2]
theorem nO {A:Around}{s:Shared}{x:V}{v:Value} (rx:b4 x v) (fx:j6 x=true):∀ {xs:List V}{us:List Value},aQ xs us->xs.all j6=true->∀ u ∈ us,SeqAt.EqAt A s u v (fF x u)
 | _,_,.nil,_=>fun u hu=>by cases hu
 | y :: xs,u :: us,.cons r t,f=>fun u' hu=>by
  rw [bn9,bg1] at f
  rcases be9.mp hu with rfl | hu
  ·rw [zZ r f.1]; exact ao2 r rx f.1 fx
  ·exact nO rx fx t f.2 u' hu
def nP (x:V) (xs:List V):Bool:=xs.any fun y=>i5 y x
def u7 (K:PySem.W.Frag) (neg:Bool):R2:=fun x y H Q=>∃ p xs,y = .ref p/\(aU K H p xs ∨ aO K H p xs)/\j6 x=true/\xs.all j6=true/\Q (.bl (if neg then !nP x xs else nP x xs)) H
theorem ao3:cB X (compareOp .In) (u7 X.K false):=by
 intro pins s σ H x y v u Q I rx ry h
 obtain ⟨p,xs,rfl,hq,fx,fs,q⟩:=h
 cases ry
 rcases hq with hq | hq
 ·obtain ⟨its,r,pl,hz⟩:=I.list hq
  refine SeqAt.in_listAt (fF x) pl.isList (fun w hw=>nO rx fx r fs w (by simpa using hw)) ⟨.bl _,H,I,rfl,?_⟩
  rw [show its.toArray.any (fF x)=its.any (fF x) by simp,nN r fs]
  exact q
 ·obtain ⟨its,r,pl,hz⟩:=I.tuple hq
  refine SeqAt.in_tupleAt (fF x) pl (fun w hw=>nO rx fx r fs w (by simpa using hw)) ⟨.bl _,H,I,rfl,?_⟩
  rw [show its.toArray.any (fF x)=its.any (fF x) by simp,nN r fs]
  exact q
theorem ao4:cB X (compareOp .NotIn) (u7 X.K true):=by
 intro pins s σ H x y v u Q I rx ry h
 obtain ⟨p,xs,rfl,hq,fx,fs,q⟩:=h
 cases ry
 rcases hq with hq | hq
 ·obtain ⟨its,r,pl,hz⟩:=I.list hq
  refine SeqAt.notIn_listAt (fF x) pl.isList (fun w hw=>nO rx fx r fs w (by simpa using hw)) ⟨.bl _,H,I,rfl,?_⟩
  rw [show its.toArray.any (fF x)=its.any (fF x) by simp,nN r fs]
  exact q
 ·obtain ⟨its,r,pl,hz⟩:=I.tuple hq
  refine SeqAt.notIn_tupleAt (fF x) pl (fun w hw=>nO rx fx r fs w (by simpa using hw)) ⟨.bl _,H,I,rfl,?_⟩
  rw [show its.toArray.any (fF x)=its.any (fF x) by simp,nN r fs]
  exact q
theorem ao5:cU X (.builtin "len") (fun xs H Q=>∃ p ys,xs = [.ref p]/\(aU X.K H p ys ∨ aO X.K H p ys)/\Q (.int ys.length) H):=by
 intro pins s σ H xs us Q I r h
 obtain ⟨p,ys,rfl,hq,q⟩:=h
 obtain ⟨u,rfl,rx⟩:=fX r
 cases rx
 have hn:=lO
 rcases hq with hq | hq
 ·obtain ⟨its,r',pl,hz⟩:=I.list hq
  have hlen:=r'.length
  exact Calls.call_len_list pl.isList (by simp only [be0] <;> omega) ⟨.int ys.length,H,I.tok _,⟨s.toks+1,by rw [be0,hlen]⟩,q⟩
 ·obtain ⟨its,r',pl,hz⟩:=I.tuple hq
  have hlen:=r'.length
  exact len_tuple pl (by simp only [be0] <;> omega) ⟨.int ys.length,H,I.tok _,⟨s.toks+1,by rw [be0,hlen]⟩,q⟩
theorem cU.or {f:Value}{r r':List V->Hp->VK->Prop} (h:cU X f r) (h':cU X f r'):cU X f (fun xs H Q=>r xs H Q ∨ r' xs H Q):=by
 intro pins s σ H xs us Q I rs q
 rcases q with q | q
 ·exact h pins s σ H xs us Q I rs q
 ·exact h' pins s σ H xs us Q I rs q
theorem ao6:cU X (.type "list") (fun xs H Q=>∃ p ys,xs = [.ref p]/\(aU X.K H p ys ∨ aO X.K H p ys)/\∀ l,H l=none->Q (.ref l) (upd H l (.lst ys))):=by
 intro pins s σ H xs us Q I r h
 obtain ⟨p,ys,rfl,hq,q⟩:=h
 obtain ⟨u,rfl,rx⟩:=fX r
 cases rx
 have fin:∀ (its:List Value),aQ ys its->ys.length<=sizeLine->∀ (h':Heap) (c':Nat),(∀ b o',s.heap.get? b=some o'->h'.get? b=some o')->
   h'.get? s.heap.objs.size=some { cls:=.type "list",dict:=none,data:=.seq its.toArray c',slots:=#[] }->EP X pins σ Q (.ref s.heap.objs.size) { s with heap:=h' }:=fun its r' hz h' c' kp e=>
  ⟨.ref s.heap.objs.size,_,I.laid (t':=s.toks) kp (be6 _) (show bR X.prog X.w _ h' _ (.lst ys) from ⟨hz,its,c',r',e⟩),rfl,q _ (I.hok.fresh (be6 _))⟩
 rcases hq with hq | hq
 ·obtain ⟨its,r',pl,hz⟩:=I.list hq
  have hlen:=r'.length
  obtain ⟨o,ho,hc,n,hd⟩:=pl.isList
  exact call_list_seq p (.inl rfl) ho hc hd (fun h' c' kp e=>fin its r' hz h' c' kp e) (by simp only [be0] <;> omega)
 ·obtain ⟨its,r',pl,hz⟩:=I.tuple hq
  have hlen:=r'.length
  obtain ⟨o,ho,hc,n,hd⟩:=pl
  exact call_list_seq p (.inr rfl) ho hc hd (fun h' c' kp e=>fin its r' hz h' c' kp e) (by simp only [be0] <;> omega)
theorem ao7:cU X (.type "tuple") (fun xs H Q=>∃ p ys,xs = [.ref p]/\((aU X.K H p ys/\∀ l,H l=none->Q (.ref l) (upd H l (.tup ys))) ∨ (aO X.K H p ys/\Q (.ref p) H))):=by
 intro pins s σ H xs us Q I r h
 obtain ⟨p,ys,rfl,h⟩:=h
 obtain ⟨u,rfl,rx⟩:=fX r
 cases rx
 rcases h with ⟨hq,q⟩ | ⟨hq,q⟩
 ·obtain ⟨its,r',pl,hz⟩:=I.list hq
  have hlen:=r'.length
  refine call_tuple_list pl.isList (fun h' kp=>?_) (by simp only [be0] <;> omega)
  have I1:a8 X pins σ H { s with heap:=h' }:=I.kept (t':=s.toks) kp
  have I2:a8 X pins σ (upd H h'.objs.size (.tup ys)) { s with heap:=h'.push { cls:=.type "tuple",data:=.seq its.toArray } }:=
   I1.laid (t':=s.toks) (fun b o e=>be1 _ e) (be6 _) (show bR X.prog X.w _ _ _ (.tup ys) from ⟨hz,its,r',IsTup.new _ _,iI.new _ _ rfl⟩)
  exact⟨.ref h'.objs.size,_,I2,rfl,q _ (I1.hok.fresh (be6 _))⟩
 ·obtain ⟨its,r',pl,hz⟩:=I.tuple hq
  exact call_tuple_same pl ⟨.ref p,H,I,rfl,q⟩
def gO (K:PySem.W.Frag) (T:String) (x:V) (H:Hp):Prop:=match x with
 | .str _=>T="str"
 | .int _=>T="int"
 | .ref p=>(T="list"/\∃ xs,aU K H p xs) ∨ (T="tuple"/\∃ o,K.lookup p=some o/\o.cls = .type "tuple"/\o.dict=none) ∨
   (T="dict"/\((∃ kvs,H p=some (.dK kvs)) ∨ ∃ kvs,H p=some (.dT kvs))) ∨ (T="set"/\∃ S n,H p=some (.set S n))
 | _=>False
theorem A0 {pins:List (Addr × Obj)}{σ:St}{H:Hp}{s:Shared}{T:String}{x:V}{v:Value} (I:a8 X pins σ H s) (r:b4 x v) (ty:gO X.K T x H) :
  s.TypeIs v T/\∀ a,v = .ref a->∃ ob,s.heap.get? a=some ob/\ob.dict=none:=by
 cases x with
 | str z=>
  obtain ⟨t,rfl⟩:=r
  cases (show T="str" from ty)
  exact⟨typeIs_str s z t,fun _ e=>nomatch e⟩
 | int i=>
  obtain ⟨t,rfl⟩:=r
  cases (show T="int" from ty)
  exact⟨typeIs_int s i t,fun _ e=>nomatch e⟩
 | ref p=>
  cases r
  rcases ty with ⟨rfl,xs,hq⟩ | ⟨rfl,o,hk,hc,hd⟩ | ⟨rfl,hk⟩ | ⟨rfl,S,n,hk⟩
  ·obtain ⟨its,_,pl,_⟩:=I.list hq
   refine⟨pl.isList.typeIs,fun a e=>?_⟩
   cases e
   obtain ⟨o,n,e,c,hd,_⟩:=pl
   exact⟨o,e,hd⟩
  ·refine⟨⟨o,I.kIn p o hk,hc⟩,fun a e=>?_⟩
   cases e
   exact⟨o,I.kIn _ o hk,hd⟩
  ·have z:∃ o,s.heap.get? p=some o/\o.ExactDict:=by
    rcases hk with ⟨kvs,hk⟩ | ⟨kvs,hk⟩
    ·obtain ⟨_,_,_,_,o,_,_,e,ex,_⟩:=I.hok p _ hk
     exact⟨o,e,ex⟩
    ·obtain ⟨_,_,_,_,o,_,_,e,ex,_⟩:=I.hok p _ hk
     exact⟨o,e,ex⟩
   obtain ⟨o,e,ex⟩:=z
   refine⟨⟨o,e,ex.1⟩,fun a e2=>?_⟩
   cases e2
   exact⟨o,e,ex.2.1⟩
  ·obtain ⟨o,_,_,_,e,ex,_⟩:=I.hok p _ hk
   refine⟨⟨o,e,ex.1⟩,fun a e2=>?_⟩
   cases e2
   exact⟨o,e,ex.2.1⟩
 | _=>exact False.elim ty
def A1 (K:PySem.W.Frag) (T:String) (r:V->List V->Hp->VK->Prop) (to:TE):TE:=fun σ H Q=>to σ H fun x H1=>gO K T x H1/\r x [] H1 Q
def nQ (K:PySem.W.Frag) (T:String) (r:V->List V->Hp->VK->Prop) (to:TE) (t:TA):TE:=fun σ H Q=>to σ H fun x H1=>gO K T x H1/\t σ H1 fun xs H2=>r x xs H2 Q
variable {o e : Expr} {es : List Expr} {to : TE} {t : TA} {name : Str} {apos cpos : Pos} {T id : String} {r : V → List V → Hp → VK → Prop}
theorem ao8 (pa:PlainAttrs T) (slot:Slot T name id) (hty:typeOf (.builtin id)=pure (.type "method_descriptor")) (hm:u3 X id r) (ho:PE X o to)
  (hbase:attributeBase o name X.env (eval o X.env)=eval o X.env:=by rfl) (hline:(apos.endLine == cpos.line)=true:=by rfl):PE X (.Call (.Attribute o name apos) [] [] cpos) (A1 X.K T r to):=by
 intro pins s σ H Q I h
 refine wpAny_Call_method0_late hbase hline (aS (ho pins s σ H _ I h) fun v s1 ⟨x,H1,I1,r1,ty,q1⟩=>?_)
 obtain ⟨h1,h2⟩:=A0 I1 r1 ty
 exact⟨T,id,pa,slot,hty,h1,h2,bq6 rfl (PySem.evalArgs_none (hm pins s1 σ H1 x [] v [] Q I1 r1 .nil q1))⟩
theorem lP (pa:PlainAttrs T) (slot:Slot T name id) (hty:typeOf (.builtin id)=pure (.type "method_descriptor")) (hm:u3 X id r) (ho:PE X o to) (ha:PA X (e :: es) t)
  (hbase:attributeBase o name X.env (eval o X.env)=eval o X.env:=by rfl)
  (hfew:((backTo cpos (starEach (e :: es) X.env)).all (fun x=>!x.1) && (backToKw cpos (keywordEach [] X.env)).all (fun x=>x.1.isSome)
   && decide ((e :: es).length+([]:List Keyword).length+(if ([]:List Keyword).isEmpty then 0 else 1) < 30))=true:=by rfl)
  (hline:(apos.endLine == cpos.line)=true:=by rfl) (hs:starEach (e :: es) X.env=(false,eval e X.env) :: starEach es X.env:=by rfl) (hplain:(backTo cpos (starEach es X.env)).any (·.1)=false:=by rfl) :
  PE X (.Call (.Attribute o name apos) (e :: es) [] cpos) (nQ X.K T r to t):=by
 intro pins s σ H Q I h
 refine wpAny_Call_method_late hbase hfew hline rfl (aS (ho pins s σ H _ I h) fun v s1 ⟨x,H1,I1,r1,ty,q1⟩=>?_)
 obtain ⟨h1,h2⟩:=A0 I1 r1 ty
 refine⟨T,id,pa,slot,hty,h1,h2,?_⟩
 have hA:=ha cpos pins s1 σ H1 _ I1 q1
 rw [hs] at hA ⊢
 refine bq6 (by show (false || (backTo cpos (starEach es X.env)).any (·.1))=false; rw [hplain] <;> rfl) (bs8 ?_)
 exact aS hA fun us s2 ⟨vs,H2,I2,r2,q2⟩=>hm pins s2 σ H2 x vs v us Q I2 r1 r2 q2
end
def j7 (X:Cx) (id:String) (r:V->List V->Hp->VK->Prop):Prop:=
 ∀ (pins:List (Addr × Obj)) (s:Shared) (σ:St) (H:Hp) (x:V) (xs:List V) (v:Value) (us:List Value) (Q:VK),a8 X pins σ H s->b4 x v->aQ xs us->r x xs H Q->
  wpAny (model X.prog X.w) X.A (call (.builtin id) (v :: us)) (EP X pins σ Q) X.xe s
theorem aQ.one {x:V}{us:List Value} (h:aQ [x] us):∃ u,us = [u]/\b4 x u:=by
 cases h with
 | cons r t=>
  cases t
  exact⟨_,rfl,r⟩
theorem aQ.two {x y:V}{us:List Value} (h:aQ [x,y] us):∃ u v,us = [u,v]/\b4 x u/\b4 y v:=by
 cases h with
 | cons r t=>
  cases t with
  | cons q t=>
   cases t
   exact⟨_,_,rfl,r,q⟩
theorem aQ.zero:∀ {us:List Value},aQ [] us->us = []
 | _,.nil=>rfl
theorem aQ.dropLast {xs:List V}{us:List Value} (h:aQ xs us):aQ xs.dropLast us.dropLast:=by
 induction h with
 | nil=>exact .nil
 | cons r t ih=>
  cases t with
  | nil=>exact .nil
  | cons q t'=>exact .cons r ih
theorem aQ.eraseIdx:∀ {xs:List V}{us:List Value} (i:Nat),aQ xs us->aQ (xs.eraseIdx i) (us.eraseIdx i)
 | _,_,_,.nil=>.nil
 | _,_,0,.cons _ t=>t
 | _,_,i+1,.cons r t=>.cons r (aQ.eraseIdx i t)
theorem aQ.reverse {xs:List V}{us:List Value} (h:aQ xs us):aQ xs.reverse us.reverse:=by
 induction h with
 | nil=>exact .nil
 | cons r t ih=>rw [List.reverse_cons,List.reverse_cons]; exact aQ.append ih (.cons r .nil)
theorem ao9 {α:Type} (l:List α):l.eraseIdx (l.length - 1)=l.dropLast:=by
 induction l with
 | nil=>rfl
 | cons a r ih=>
  cases r with
  | nil=>rfl
  | cons b r=>
   have e:(a :: b :: r).length - 1=((b :: r).length - 1)+1:=by
    have h1:(a :: b :: r).length=r.length+2:=rfl
    have h2:(b :: r).length=r.length+1:=rfl
    omega
   rw [e,List.eraseIdx_cons_succ,ih]
   all_goals rfl
section
variable {X : Cx} {pins : List (Addr × Obj)} {σ : St} {H : Hp} {s : Shared} {l b : Addr} {xs ys zs : List V}
theorem a8.lset {its its':List Value}{n:Nat}{f:Array Value->Array Value}{t':Nat} (I:a8 X pins σ H s) (hH:H l=some (.lst xs))
  (e:s.heap.get? l=some { cls:=.type "list",data:=.seq its.toArray n }) (hf:f its.toArray=its'.toArray) (hv:aQ ys its') (hz:ys.length<=sizeLine) :
  a8 X pins σ (upd H l (.lst ys)) { s with heap:=s.heap.update l (Obj.mapSeq f),toks:=t' }:=by
 have q:=PySem.IsL.update e f
 rw [hf] at q
 refine I.write (x:=l) (e:=l) (by rw [hH]; exact trivial) (.inl rfl) (fun b' u hb hu=>(Heap.get?_update_other s.heap (Obj.mapSeq f) (Ne.symm hb)).trans hu) ⟨_,q⟩ ?_
 exact⟨hz,its',_,hv,q⟩
theorem a8.lnew {its:List Value}{t':Nat} (I:a8 X pins σ H s) (hv:aQ ys its) (hz:ys.length<=sizeLine) :
  a8 X pins σ (upd H s.heap.objs.size (.lst ys)) { s with heap:=s.heap.push { cls:=.type "list",data:=.seq its.toArray },toks:=t' }:=
 I.laid (fun _ _ q=>be1 _ q) (be6 _) ⟨hz,its,0,hv,bf6 _ rfl⟩
theorem a8.fresh (I:a8 X pins σ H s):H s.heap.objs.size=none:=I.hok.fresh (be6 _)
theorem a8.lstM (I:a8 X pins σ H s) (hH:H l=some (.lst xs)):xs.length<=sizeLine/\∃ (its:List Value) (n:Nat),aQ xs its/\xs.length=its.length/\s.heap.get? l=some { cls:=.type "list",data:=.seq its.toArray n }:=by
 obtain ⟨z,its,n,r,e⟩:=I.hok l _ hH
 exact⟨z,its,n,r,r.length,e⟩
theorem A2 {n:Nat} (h:n<=sizeLine):Builtin.List.listTooLong n=false:=by
 unfold Builtin.List.listTooLong
 exact be8 (by omega)
end
section
variable {X : Cx}
def A3:V->List V->Hp->VK->Prop:=fun x vs H Q=>∃ l xs y,x = .ref l/\vs = [y]/\H l=some (.lst xs)/\xs.length < sizeLine/\Q .non (upd H l (.lst (xs ++ [y])))
theorem pL:j7 X "list.append" A3:=by
 intro pins s σ H x vs v us Q I rx rv h
 obtain ⟨l,xs,y,rfl,rfl,hH,hz,q⟩:=h
 cases rx
 obtain ⟨u,rfl,ru⟩:=rv.one
 obtain ⟨z,its,n,r,hl,e⟩:=I.lstM hH
 refine call_meets F.slot_list_append ⟨_,e,rfl⟩ F.entry_list_append (F.args_list_append_2 _ _) (PySem.list_append l its.toArray n u (by rw [be0]; omega)) ⟨e,?_⟩
 refine⟨.non,_,I.lset (its':=its ++ [u]) hH e (by simp) (r.append (.cons ru .nil)) ?_,rfl,q⟩
 rw [be2,bi8]
 omega
def A4:V->List V->Hp->VK->Prop:=fun x vs H Q=>∃ l b xs zs,x = .ref l/\vs = [.ref b]/\H l=some (.lst xs)/\H b=some (.lst zs)/\xs.length+zs.length<=sizeLine/\Q .non (upd H l (.lst (xs ++ zs)))
theorem ap0:j7 X "list.extend" A4:=by
 intro pins s σ H x vs v us Q I rx rv h
 obtain ⟨l,b,xs,zs,rfl,rfl,hH,hB,hz,q⟩:=h
 cases rx
 obtain ⟨u,rfl,ru⟩:=rv.one
 cases ru
 obtain ⟨z,its,n,r,hl,e⟩:=I.lstM hH
 obtain ⟨z2,its2,n2,r2,hl2,e2⟩:=I.lstM hB
 have hsz:its.toArray.size+its2.toArray.size<=sizeLine:=by rw [be0,be0]; omega
 have hlong : ¬ (!its.toArray.isEmpty && Builtin.List.listTooLong (its.toArray.size+its2.toArray.size))=true:=by
  rw [A2 hsz,bo2]
  exact bg6
 refine call_meets F.slot_list_extend ⟨_,e,rfl⟩ F.entry_list_extend (F.args_list_extend_2 _ _)
  (AutoSeq1.list_extend_list_list_0 l its.toArray n b its2.toArray n2 hlong (by rw [be0]; omega) (by omega)) ⟨e,e2,?_⟩
 refine⟨.non,_,I.lset (its':=its ++ its2) hH e (by simp) (r.append r2) ?_,rfl,q⟩
 rw [be2]
 omega
def ap1:V->List V->Hp->VK->Prop:=fun x vs H Q=>∃ l xs y,x = .ref l/\vs = []/\H l=some (.lst xs)/\xs[xs.length - 1]? = some y/\Q y (upd H l (.lst xs.dropLast))
theorem bd5:j7 X "list.pop" ap1:=by
 intro pins s σ H x vs v us Q I rx rv h
 obtain ⟨l,xs,y,rfl,rfl,hH,hy,q⟩:=h
 cases rx
 have hus:=rv.zero
 subst hus
 obtain ⟨z,its,n,r,hl,e⟩:=I.lstM hH
 obtain ⟨u,hu,ru⟩:=r.get hy
 have hy':its.toArray[its.toArray.size - 1]? = some u:=by
  show its.toArray[its.length - 1]? = some u
  rw [<- Array.getElem?_toList,<- hl]
  exact hu
 refine call_meets F.slot_list_pop ⟨_,e,rfl⟩ F.entry_list_pop (F.args_list_pop_1 _) (MeetsSeq.list_pop_last l its.toArray n u hy' (by rw [be0]; omega)) ⟨e,?_⟩
 refine⟨y,_,I.lset (its':=its.dropLast) hH e ?_ r.dropLast ?_,ru,q⟩
 ·show its.toArray.eraseIdxIfInBounds (its.toArray.size - 1)=its.dropLast.toArray
  rw [be0,List.eraseIdxIfInBounds_toArray,ao9]
 ·rw [List.length_dropLast]
  omega
def A5:V->List V->Hp->VK->Prop:=fun x vs H Q=>∃ l xs,x = .ref l/\vs = []/\H l=some (.lst xs)/\Q .non (upd H l (.lst xs.reverse))
theorem ap2:j7 X "list.reverse" A5:=by
 intro pins s σ H x vs v us Q I rx rv h
 obtain ⟨l,xs,rfl,rfl,hH,q⟩:=h
 cases rx
 have hus:=rv.zero
 subst hus
 obtain ⟨z,its,n,r,hl,e⟩:=I.lstM hH
 refine call_meets F.slot_list_reverse ⟨_,e,rfl⟩ F.entry_list_reverse (F.args_list_reverse_1 _) (AutoSeq1.list_reverse_list_0 l its.toArray n (by rw [be0]; omega)) ⟨e,?_⟩
 refine⟨.non,_,I.lset (its':=its.reverse) hH e (by simp) r.reverse ?_,rfl,q⟩
 rw [List.length_reverse]
 omega
def A6:R2:=fun x y H Q=>∃ l b xs zs,x = .ref l/\y = .ref b/\H l=some (.lst xs)/\H b=some (.lst zs)/\xs.length+zs.length<=sizeLine/\∀ p,H p=none->Q (.ref p) (upd H p (.lst (xs ++ zs)))
theorem ap3:cB X (binaryOp .Add) A6:=by
 intro pins s σ H x y v u Q I rx ry h
 obtain ⟨l,b,xs,zs,rfl,rfl,hH,hB,hz,q⟩:=h
 cases rx
 cases ry
 obtain ⟨z,its,n,r,hl,e⟩:=I.lstM hH
 obtain ⟨z2,its2,n2,r2,hl2,e2⟩:=I.lstM hB
 refine PySem.P.add_list e e2 ?_ (by rw [be0,be0]; omega)
 have ea:its.toArray ++ its2.toArray=(its ++ its2).toArray:=by simp
 rw [ea]
 exact⟨.ref _,_,I.lnew (t':=s.toks) (r.append r2) (by rw [be2]; omega),rfl,q _ I.fresh⟩
end
section
variable {κ : Type} [DecidableEq κ]
def fG (kvs:List (κ × V)) (k:κ):Option V:=(kvs.find? fun kv=>decide (kv.1=k)).map (·.2)
def dU (kvs:List (κ × V)) (k:κ) (v:V):List (κ × V):=
 if (kvs.any fun kv=>decide (kv.1=k))=true then kvs.map (fun kv=>if kv.1=k then (kv.1,v) else kv) else kvs ++ [(k,v)]
theorem u8 {p:κ × V}{r:List (κ × V)}{k:κ} (e:p.1=k):fG (p :: r) k=some p.2:=by simp [fG,bl9,e]
theorem u9 {p:κ × V}{r:List (κ × V)}{k:κ} (e : ¬ p.1=k):fG (p :: r) k=fG r k:=by simp [fG,bl9,e]
theorem A7 (k:κ):∀ kvs:List (κ × V),(kvs.any fun kv=>decide (kv.1=k))=(fG kvs k).isSome
 | []=>rfl
 | p :: r=>by
  rw [List.any_cons]
  by_cases e:p.1=k
  ·simp only [u8 e,be7 e,Bool.true_or,Option.isSome_some]
  ·rw [u9 e,be8 e,Bool.false_or]; exact A7 k r
theorem uA (kvs:List (κ × V)) (k:κ) (v:V):(dU kvs k v).length<=kvs.length+1:=by
 unfold dU
 split
 ·rw [be5]; omega
 ·rw [be2,bi2,List.length_nil]; omega
theorem kG.isSome_eq {o:Option V}{u:Option Value} (r:kG o u):o.isSome=u.isSome:=by
 cases o with
 | none=>cases u with
  | none=>rfl
  | some _=>exact (show False from r).elim
 | some _=>cases u with
  | none=>exact (show False from r).elim
  | some _=>rfl
theorem KV.val {kvs:List (κ × V)}{vs:List (κ × Value)} (r:KV kvs vs) (k:κ):kG (fG kvs k) (valueAt vs k):=by
 unfold KV at r
 induction r with
 | nil=>exact bt2
 | @cons p q ps qs h t ih=>
  obtain ⟨h1,h2⟩:=h
  by_cases e:p.1=k
  ·have e':q.1=k:=h1.symm.trans e
   have b:valueAt (q :: qs) k=some q.2:=by simp [valueAt,bl9,e']
   rw [u8 e,b]; exact h2
  ·have e' : ¬ q.1=k:=fun z=>e (h1.trans z)
   have b:valueAt (q :: qs) k=valueAt qs k:=by simp [valueAt,bl9,e']
   rw [u9 e,b]; exact ih
theorem KV.any {kvs:List (κ × V)}{vs:List (κ × Value)} (r:KV kvs vs) (k:κ):(kvs.any fun kv=>decide (kv.1=k))=vs.any fun kv=>decide (kv.1=k):=by
 unfold KV at r
 induction r with
 | nil=>rfl
 | cons h t ih=>rw [List.any_cons,List.any_cons,ih,h.1]
theorem KV.repl {kvs:List (κ × V)}{vs:List (κ × Value)} (r:KV kvs vs) (k:κ) {y:V}{u:Value} (ry:b4 y u) :
  KV (kvs.map fun kv=>if kv.1=k then (kv.1,y) else kv) (vs.map fun kv=>if kv.1=k then (kv.1,u) else kv):=by
 unfold KV at r ⊢
 induction r with
 | nil=>exact .nil
 | @cons p q ps qs h t ih=>
  rw [bj4,bj4]
  refine .cons ?_ ih
  obtain ⟨h1,h2⟩:=h
  by_cases e:p.1=k
  ·rw [if_pos e,if_pos (h1.symm.trans e)]; exact⟨h1,ry⟩
  ·rw [if_neg e,if_neg (fun z=>e (h1.trans z))]; exact⟨h1,h2⟩
theorem KV.put {kvs:List (κ × V)}{vs:List (κ × Value)} (r:KV kvs vs) (k:κ) {y:V}{u:Value} (ry:b4 y u):KV (dU kvs k y) (stored vs k u):=by
 unfold dU stored
 rw [r.any k]
 by_cases e:(vs.any fun kv=>decide (kv.1=k))=true
 ·rw [if_pos e,if_pos e]; exact r.repl k ry
 ·rw [if_neg e,if_neg e]; exact Paired.snoc r ⟨rfl,ry⟩
theorem KV.length {kvs:List (κ × V)}{vs:List (κ × Value)} (r:KV kvs vs):kvs.length=vs.length:=Paired.length r
end
theorem pM {P:Program}{w:World}{k:aC}{u:Value} (r:b4 (kV k) u):(eM P w).is k u=true:=by
 cases k with
 | inl i=>obtain ⟨t,e⟩:=(show ∃ t,u=Value.int i t from r); subst e; exact ag2 P w i t
 | inr x=>obtain ⟨t,e⟩:=(show ∃ t,u=Value.str x t from r); subst e; exact ag3 P w x t
theorem A8 {P:Program}{w:World}:∀ {ks:List aC}{us:List Value},aQ (ks.map kV) us->ItemsAre (eM P w) ks us
 | [],_,r=>by rw [List.map_nil] at r; cases r; exact .nil
 | k :: ks,_,r=>by
  rw [bj4] at r
  cases r with
  | cons h t=>exact .cons (pM h) (A8 t)
abbrev KT (H:Hp):List (List aC × V)->List (List aC × Addr × Value)->Prop:=Paired fun p q=>p.1=q.1/\H q.2.1=some (.tup (p.1.map kV))/\b4 p.2 q.2.2
theorem KT.val {H:Hp}{kvs:List (List aC × V)}{xs:List (List aC × Addr × Value)} (r:KT H kvs xs) (k:List aC):kG (fG kvs k) ((atKey xs k).map (·.2)):=by
 induction r with
 | nil=>exact bt2
 | @cons p q ps qs h t ih=>
  obtain ⟨h1,_,h2⟩:=h
  by_cases e:p.1=k
  ·have e':q.1=k:=h1.symm.trans e
   have b:atKey (q :: qs) k=some q.2:=by simp [atKey,bl9,e']
   rw [u8 e,b]; exact h2
  ·have e' : ¬ q.1=k:=fun z=>e (h1.trans z)
   have b:atKey (q :: qs) k=atKey qs k:=by simp [atKey,bl9,e']
   rw [u9 e,b]; exact ih
theorem KT.repl {H:Hp}{kvs:List (List aC × V)}{xs:List (List aC × Addr × Value)} (r:KT H kvs xs) (k:List aC) {y:V}{u:Value} (ry:b4 y u) :
  KT H (kvs.map fun kv=>if kv.1=k then (kv.1,y) else kv) (xs.map (putAt k u)):=by
 induction r with
 | nil=>exact .nil
 | @cons p q ps qs h t ih=>
  rw [bj4,bj4]
  refine .cons ?_ ih
  obtain ⟨h1,h2,h3⟩:=h
  unfold putAt
  by_cases e:p.1=k
  ·rw [if_pos e,if_pos (h1.symm.trans e)]; exact⟨h1,h2,ry⟩
  ·rw [if_neg e,if_neg (fun z=>e (h1.trans z))]; exact⟨h1,h2,h3⟩
theorem KT.put {H:Hp}{kvs:List (List aC × V)}{xs:List (List aC × Addr × Value)} (r:KT H kvs xs) (k:List aC) {b:Addr}{y:V}{u:Value} (hb:H b=some (.tup (k.map kV))) (ry:b4 y u) :
  KT H (dU kvs k y) (storedH xs k b u):=by
 have e:(kvs.any fun kv=>decide (kv.1=k))=(atKey xs k).isSome:=by
  rw [A7,(r.val k).isSome_eq,Option.isSome_map]
 unfold dU storedH
 rw [e]
 by_cases q:(atKey xs k).isSome=true
 ·rw [if_pos q,if_pos q]; exact r.repl k ry
 ·rw [if_neg q,if_neg q]; exact Paired.snoc r ⟨rfl,hb,ry⟩
theorem KT.keeps {H H':Hp}{kvs:List (List aC × V)}{xs:List (List aC × Addr × Value)} (r:KT H kvs xs) (ht:∀ b ys,H b=some (.tup ys)->H' b=some (.tup ys)):KT H' kvs xs:=
 Paired.mapP r fun _ _ z=>⟨z.1,ht _ _ z.2.1,z.2.2⟩
section
variable {P : Program} {w : World} {H : Hp} {h : Heap} {a : Addr}
theorem A9 {u:HO} (ok:bW P w H h) (e:Rd H a u):bR P w H h a u:=e.ok ok
theorem nR {kvs:List (aC × V)} (ok:bW P w H h) (e:Rd H a (.dK kvs)):kvs.length<=sizeLine/\(a == sysModules)=false/\∃ vs,KV kvs vs/\h.DictOf (eM P w) a vs:=
 show bR P w H h a (.dK kvs) from A9 ok e
theorem uB {kvs:List (aC × V)} (ok:bW P w H h) (e:H a=some (.dK kvs)):kvs.length<=sizeLine/\(a == sysModules)=false/\∃ vs,KV kvs vs/\h.DictOf (eM P w) a vs:=nR ok (.inl e)
theorem nS {ks:List aC} (ok:bW P w H h) (e:H a=some (.tup (ks.map kV))):(tupleKind (eM P w)).is h ks a:=by
 obtain ⟨_,its,r,⟨o,h1,h2,n,h3⟩,_⟩:=(show bR P w H h a (.tup (ks.map kV)) from ok a _ e)
 exact⟨o,its.toArray,n,h1,h2,h3,by simpa using A8 r⟩
theorem pN {kvs:List (List aC × V)} (ok:bW P w H h) (e:Rd H a (.dT kvs)):kvs.length<=sizeLine/\(a == sysModules)=false/\
  ∃ xs,KT H kvs xs/\h.DictOfH (tupleKind (eM P w)) a xs:=by
 obtain ⟨z,y,xs,r,o,es,ep,h1,h2,h3,h4,h5⟩:=(show bR P w H h a (.dT kvs) from A9 ok e)
 refine⟨z,y,xs,r,o,es,ep,h1,h2,h3,h4,fun x hx=>?_,h5⟩
 have all:∀ {l:List (List aC × V)}{m:List (List aC × Addr × Value)},KT H l m->∀ x ∈ m,(tupleKind (eM P w)).is h x.1 x.2.1:=by
  intro l m q
  induction q with
  | nil=>intro x hx; exact nomatch hx
  | @cons p q ps qs hq t ih=>
   intro x hx
   rcases be9.mp hx with e | hx
   ·subst e
    exact nS ok (by rw [<- hq.1]; exact hq.2.1)
   ·exact ih x hx
 exact all r x hx
theorem B0 {kvs:List (List aC × V)} (ok:bW P w H h) (e:H a=some (.dT kvs)):kvs.length<=sizeLine/\(a == sysModules)=false/\
  ∃ xs,KT H kvs xs/\h.DictOfH (tupleKind (eM P w)) a xs:=pN ok (.inl e)
end
def i6 (H:Hp) (a:Addr) (y:V) (r:Option V):Prop:=
 (∃ kvs k,Rd H a (.dK kvs)/\y=kV k/\r=fG kvs k) ∨ ∃ kvs k b,Rd H a (.dT kvs)/\y = .ref b/\H b=some (.tup (k.map kV))/\r=fG kvs k
def jW (H:Hp) (a:Addr) (y v:V) (H':Hp):Prop:=
 (∃ kvs k,H a=some (.dK kvs)/\y=kV k/\kvs.length < sizeLine/\H'=upd H a (.dK (dU kvs k v))) ∨
 ∃ kvs k b,H a=some (.dT kvs)/\y = .ref b/\H b=some (.tup (k.map kV))/\kvs.length < sizeLine/\H'=upd H a (.dT (dU kvs k v))
theorem i6.k {H:Hp}{a:Addr}{kvs:List (aC × V)}{k:aC} (e:H a=some (.dK kvs)):i6 H a (kV k) (fG kvs k):=.inl ⟨kvs,k,.inl e,rfl,rfl⟩
theorem i6.t {H:Hp}{a b:Addr}{kvs:List (List aC × V)}{k:List aC} (e:H a=some (.dT kvs)) (eb:H b=some (.tup (k.map kV))):i6 H a (.ref b) (fG kvs k):=.inr ⟨kvs,k,b,.inl e,rfl,eb,rfl⟩
theorem jW.k {H:Hp}{a:Addr}{kvs:List (aC × V)}{k:aC}{v:V} (e:H a=some (.dK kvs)) (hl:kvs.length < sizeLine):jW H a (kV k) v (upd H a (.dK (dU kvs k v))):=.inl ⟨kvs,k,e,rfl,hl,rfl⟩
theorem jW.t {H:Hp}{a b:Addr}{kvs:List (List aC × V)}{k:List aC}{v:V} (e:H a=some (.dT kvs)) (eb:H b=some (.tup (k.map kV))) (hl:kvs.length < sizeLine) :
  jW H a (.ref b) v (upd H a (.dT (dU kvs k v))):=.inr ⟨kvs,k,b,e,rfl,eb,hl,rfl⟩
section
variable {X : Cx} {pins : List (Addr × Obj)} {σ : St} {H : Hp} {s : Shared} {a : Addr} {y v : V} {u r : Value} {o : Option V} {A : Around} {E : Value → Shared → Prop}
theorem a8.big (I:a8 X pins σ H s):sysModules < s.heap.objs.size:=by
 have h:mainGlobals < s.heap.objs.size:=(I.mod.glob.keeps I.bk).lt
 exact Nat.lt_trans (by decide) h
theorem ap4 {Q:Value->Shared->Prop} (hu:A.units+1 < cLine) (I:a8 X pins σ H s) (g:i6 H a y o) (ry:b4 y u) (h:∀ s',a8 X pins σ H s'->Q (.bool o.isSome) s') :
  wpAny (model X.prog X.w) A (compareOp .In u (.ref a)) Q E s:=by
 rcases g with ⟨kvs,k,e,ey,l⟩ | ⟨kvs,k,b,e,ey,eb,l⟩
 ·subst ey
  obtain ⟨z,hd,vs,rel,dd⟩:=nR I.hok e
  refine wpAny_in_of (pM ry) hd dd.mapOf ?_
  rw [<- (rel.val k).isSome_eq,<- l]
  exact h _ (I.tok _)
 ·subst ey
  cases (show u=Value.ref b from ry)
  obtain ⟨z,hd,xs,rel,dd⟩:=pN I.hok e
  refine wpAny_in_heap (tupleKind_room_in1 hu) (nS I.hok eb) hd dd ?_
  have q:=(rel.val k).isSome_eq
  rw [Option.isSome_map] at q
  rw [<- q,<- l]
  exact h _ (I.tok _)
theorem ap5 {Q:Value->Shared->Prop} (hu:A.units+1 < cLine) (I:a8 X pins σ H s) (g:i6 H a y o) (ry:b4 y u) (h:∀ s',a8 X pins σ H s'->Q (.bool (!o.isSome)) s') :
  wpAny (model X.prog X.w) A (compareOp .NotIn u (.ref a)) Q E s:=by
 rcases g with ⟨kvs,k,e,ey,l⟩ | ⟨kvs,k,b,e,ey,eb,l⟩
 ·subst ey
  obtain ⟨z,hd,vs,rel,dd⟩:=nR I.hok e
  refine wpAny_notIn_of (pM ry) hd dd.mapOf ?_
  rw [<- (rel.val k).isSome_eq,<- l]
  exact h _ (I.tok _)
 ·subst ey
  cases (show u=Value.ref b from ry)
  obtain ⟨z,hd,xs,rel,dd⟩:=pN I.hok e
  refine wpAny_notIn_heap (tupleKind_room_in1 hu) (nS I.hok eb) hd dd ?_
  have q:=(rel.val k).isSome_eq
  rw [Option.isSome_map] at q
  rw [<- q,<- l]
  exact h _ (I.tok _)
theorem pO {h':Heap}{t':Nat}{ob:HO} (I:a8 X pins σ H s) (mu:mY (H a)) (hs:Heap.SameBut a s.heap h') (he:∃ q,h'.get? a=some q) (new:bR X.prog X.w (upd H a ob) h' a ob) :
  a8 X pins σ (upd H a ob) { s with heap:=h',toks:=t' }:=
 I.write (x:=a) (e:=a) mu (.inl rfl) (fun b q hb z=>(hs.2 b hb).trans z) he new
theorem B1 {P:Program}{w:World}{H':Hp}{h':Heap}{kvs:List (aC × V)}{vs:List (aC × Value)} (z:kvs.length<=sizeLine) (hd:(a == sysModules)=false) (rel:KV kvs vs) (dd:h'.DictOf (eM P w) a vs) :
  bR P w H' h' a (.dK kvs):=⟨z,hd,vs,rel,dd⟩
theorem ap6 {H':Hp}{Q:Unit->Shared->Prop} (hu:A.units+1 < cLine) (I:a8 X pins σ H s) (g:jW H a y v H') (ry:b4 y u) (rv:b4 v r) (h:∀ s',a8 X pins σ H' s'->Q () s') :
  wpAny (model X.prog X.w) A (setItem (.ref a) u r) Q E s:=by
 rcases g with ⟨kvs,k,e,ey,l,eH⟩ | ⟨kvs,k,b,e,ey,eb,l,eH⟩
 ·subst ey eH
  obtain ⟨z,hd,vs,rel,dd⟩:=uB I.hok e
  have hz:vs.length<=sizeLine:=by rw [<- rel.length]; exact z
  have hl:(dU kvs k v).length<=sizeLine:=by have:=uA kvs k v; omega
  refine wpAny_setItem_pairs (hsz:=hz) (pM ry) dd fun h' dd' hs=>h _ ?_
  have he:∃ q,h'.get? a=some q:=let ⟨q,_,_,hq,_⟩:=dd'; ⟨q,hq⟩
  exact pO I (by rw [e]; exact bt2) hs he (B1 hl hd (rel.put k rv) dd')
 ·subst ey eH
  cases (show u=Value.ref b from ry)
  obtain ⟨z,hd,xs,rel,dd⟩:=B0 I.hok e
  have hz:xs.length<=sizeLine:=by rw [<- Paired.length rel]; exact z
  have hl:(dU kvs k v).length<=sizeLine:=by have:=uA kvs k v; omega
  refine wpAny_setItem_heap (hsz:=hz) (tupleKind_room_in1 hu) (nS I.hok eb) dd fun h' dd' hs=>h _ ?_
  obtain ⟨q,es,ep,hq,h2,h3,h4,_,h5⟩:=dd'
  refine pO I (by rw [e]; exact bt2) hs ⟨q,hq⟩ ⟨hl,hd,_,(rel.put k eb rv).keeps fun c ys ec=>?_,q,es,ep,hq,h2,h3,h4,h5⟩
  rw [aI (xZ ec e (fun z=>nomatch z))]
  exact ec
end
section
variable {X : Cx} {pins : List (Addr × Obj)} {σ : St} {H : Hp} {s : Shared} {a : Addr} {kvs : List (aC × V)} {k : aC} {u : Value} {A : Around} {E : Value → Shared → Prop}
theorem ap7 {Q:Value->Shared->Prop} (I:a8 X pins σ H s) (e:Rd H a (.dK kvs)) (h:∀ t s',a8 X pins σ H s'->Q (.int kvs.length t) s'):wpAny (model X.prog X.w) A (call (.builtin "len") [.ref a]) Q E s:=by
 obtain ⟨z,hd,vs,rel,dd⟩:=nR I.hok e
 refine call_len_dict hd dd (by rw [<- rel.length]; rw [sizeLine_eq] at z; omega) ?_
 rw [<- rel.length]
 exact h _ _ (I.tok _)
end
def B2 (ty td:TE):TE:=fun σ H Q=>ty σ H fun y H1=>td σ H1 fun x H2=>∃ a o,x = .ref a/\i6 H2 a y o/\Q (.bl o.isSome) H2
def B3 (ty td:TE):TE:=fun σ H Q=>ty σ H fun y H1=>td σ H1 fun x H2=>∃ a o,x = .ref a/\i6 H2 a y o/\Q (.bl (!o.isSome)) H2
def uC (td ty tv:TE):TS:=fun D σ H=>tv σ H fun v H1=>td σ H1 fun x H2=>ty σ H2 fun y H3=>∃ a H4,x = .ref a/\jW H3 a y v H4/\D.nx σ H4
section
variable {X : Cx} {o i e value : Expr} {pos pos' tpos : Pos} {td ty tv : TE}
theorem ap8 (hu:X.A.units+1 < cLine) (hi:PE X i ty) (ho:PE X o td):PC X .In i o (B2 ty td):=by
 intro pins s σ H Q I h
 refine aS (hi pins s σ H _ I h) fun iv s1 ⟨y,H1,I1,ry,q1⟩=>aS (ho pins s1 σ H1 _ I1 q1) fun u s2 ⟨x,H2,I2,rx,a,ov,ex,g,q2⟩=>?_
 subst ex
 obtain rfl:u=Value.ref a:=rx
 exact ap4 hu I2 g ry fun s3 I3=>⟨.bl ov.isSome,H2,I3,rfl,q2⟩
theorem B4 (hu:X.A.units+1 < cLine) (hi:PE X i ty) (ho:PE X o td):PC X .NotIn i o (B3 ty td):=by
 intro pins s σ H Q I h
 refine aS (hi pins s σ H _ I h) fun iv s1 ⟨y,H1,I1,ry,q1⟩=>aS (ho pins s1 σ H1 _ I1 q1) fun u s2 ⟨x,H2,I2,rx,a,ov,ex,g,q2⟩=>?_
 subst ex
 obtain rfl:u=Value.ref a:=rx
 exact ap5 hu I2 g ry fun s3 I3=>⟨.bl (!ov.isSome),H2,I3,rfl,q2⟩
theorem B5 (hu:X.A.units+1 < cLine) (ho:PE X o td) (hi:PE X i ty) (hv:PE X value tv) (hs:swapsWith value (some (.Subscript o i pos')) pos.line X.env=pure false) :
  PS X (.Assign [.Subscript o i pos'] value pos) (uC td ty tv):=by
 intro pins s σ H D I h
 refine wpAny_Assign_Subscript (aS (hv pins s σ H _ I h) fun r s1 ⟨v,H1,I1,rv,q1⟩=>aS (ho pins s1 σ H1 _ I1 q1) fun u s2 ⟨x,H2,I2,rx,q2⟩=>aS (hi pins s2 σ H2 _ I2 q2) fun iv s3 ⟨y,H3,I3,ry,a,H4,ex,g,q3⟩=>?_) hs
 subst ex
 obtain rfl:u=Value.ref a:=rx
 exact ap6 hu I3 g ry rv fun s4 I4=>⟨σ,H4,I4,q3⟩
end
theorem ap9 {P:Program}{w:World}{H:Hp} (h:Heap) (hb:sysModules < h.objs.size):bR P w H (h.push { cls:=.type "dict",data:=.dict #[] }) h.objs.size (.dK []):=
 ⟨bh8 _,bq5.mpr (Ne.symm (bh5 hb)),[],.nil,Heap.DictOf.new h⟩
theorem aq0 {P:Program}{w:World}{H:Hp} (h:Heap) (hb:sysModules < h.objs.size):bR P w H (h.push { cls:=.type "dict",data:=.dict #[] }) h.objs.size (.dT []):=
 ⟨bh8 _,bq5.mpr (Ne.symm (bh5 hb)),[],.nil,_,#[],0,bf6 _ rfl,⟨rfl,rfl,rfl⟩,rfl,rfl,List.nodup_nil⟩
def B6:TE:=fun _ H Q=>∀ p,H p=none->Q (.ref p) (upd H p (.dK []))
def B7:TE:=fun _ H Q=>∀ p,H p=none->Q (.ref p) (upd H p (.dT []))
section
variable {X : Cx} {pos : Pos}
theorem aq1:PE X (.Dict [] [] pos) B6:=fun pins s σ H Q I h=>
 wpAny_Dict_empty ⟨.ref s.heap.objs.size,_,I.laid (a:=s.heap.objs.size) (o:=.dK []) (t':=s.toks) (fun _ _ q=>be1 _ q) (be6 _) (ap9 s.heap I.big),rfl,h _ (I.hok.fresh (be6 _))⟩
theorem aq2:PE X (.Dict [] [] pos) B7:=fun pins s σ H Q I h=>
 wpAny_Dict_empty ⟨.ref s.heap.objs.size,_,I.laid (a:=s.heap.objs.size) (o:=.dT []) (t':=s.toks) (fun _ _ q=>be1 _ q) (be6 _) (aq0 s.heap I.big),rfl,h _ (I.hok.fresh (be6 _))⟩
end
def kK (kvs more:List (aC × V)):List (aC × V):=more.foldl (fun acc kv=>dU acc kv.1 kv.2) kvs
theorem KV.merge:∀ {more:List (aC × V)}{rs:List (aC × Value)}{kvs:List (aC × V)}{vs:List (aC × Value)},KV more rs->KV kvs vs->KV (kK kvs more) (merged vs rs):=by
 intro more rs kvs vs r
 unfold KV at r
 induction r generalizing kvs vs with
 | nil=>intro q; exact q
 | @cons p q ps qs h t ih=>
  intro r0
  have e:KV (dU kvs p.1 p.2) (stored vs q.1 q.2):=by
   have:=r0.put p.1 h.2
   rw [<- h.1]; exact this
  exact ih e
theorem B8:∀ (more kvs:List (aC × V)),(kK kvs more).length<=kvs.length+more.length
 | [],kvs=>by show kvs.length<=kvs.length+0; omega
 | p :: r,kvs=>by
  have h1:=B8 r (dU kvs p.1 p.2)
  have h2:=uA kvs p.1 p.2
  show (kK (dU kvs p.1 p.2) r).length<=_
  rw [bi2]; omega
structure M1 (X:Cx) (o:Expr) (m:Str) (apos:Pos) (e:Expr) (cpos:Pos):Prop where
 base:attributeBase o m X.env (eval o X.env)=eval o X.env
 few:((backTo cpos (starEach [e] X.env)).all (fun x=>!x.1) && (backToKw cpos (keywordEach [] X.env)).all (fun x=>x.1.isSome)
  && decide (([e]:List Expr).length+([]:List Keyword).length+(if ([]:List Keyword).isEmpty then 0 else 1) < 30))=true
 line:(apos.endLine == cpos.line)=true
 trees:backTo cpos (starEach [e] X.env) = [(false,eval e X.env)]
structure M2 (X:Cx) (o:Expr) (m:Str) (apos:Pos) (e f:Expr) (cpos:Pos):Prop where
 base:attributeBase o m X.env (eval o X.env)=eval o X.env
 few:((backTo cpos (starEach [e,f] X.env)).all (fun x=>!x.1) && (backToKw cpos (keywordEach [] X.env)).all (fun x=>x.1.isSome)
  && decide (([e,f]:List Expr).length+([]:List Keyword).length+(if ([]:List Keyword).isEmpty then 0 else 1) < 30))=true
 line:(apos.endLine == cpos.line)=true
 trees:backTo cpos (starEach [e,f] X.env) = [(false,eval e X.env),(false,eval f X.env)]
def uD (H:Hp) (a:Addr):Prop:=(∃ kvs,Rd H a (.dK kvs)) ∨ ∃ kvs,Rd H a (.dT kvs)
theorem B9 {X:Cx}{pins:List (Addr × Obj)}{σ:St}{H:Hp}{s:Shared}{a:Addr} (I:a8 X pins σ H s) (d:uD H a) :
  s.TypeIs (.ref a) "dict"/\(∀ b,Value.ref a = .ref b->∃ ob,s.heap.get? b=some ob/\ob.dict=none)/\(a == sysModules)=false:=by
 rcases d with ⟨kvs,e⟩ | ⟨kvs,e⟩
 ·obtain ⟨_,hd,vs,_,dd⟩:=nR I.hok e
  refine⟨dd.typeIs,fun b q=>?_,hd⟩
  cases q
  obtain ⟨ob,_,_,h1,h2,_⟩:=dd
  exact⟨ob,h1,h2.2.1⟩
 ·obtain ⟨_,hd,xs,_,dd⟩:=pN I.hok e
  refine⟨dd.typeIs,fun b q=>?_,hd⟩
  cases q
  obtain ⟨ob,_,_,h1,h2,_⟩:=dd
  exact⟨ob,h1,h2.2.1⟩
end L2
namespace Att
open PySem PySem.W PySem.Calls PyProof.Rows
theorem aq3 {P:Params}{h:Heap}:∀ (ns:List Int) (vs:List Value),WellAll P h vs (ns.map WData.int)->IntsAre vs ns:=by
 intro ns
 induction ns with
 | nil=>
  intro vs w
  rw [List.map_nil] at w
  cases w
  exact .nil
 | cons n ns ih=>
  intro vs w
  rw [bj4] at w
  cases w with
  | cons a b=>
   cases a
   exact .cons _ _ (ih _ b)
theorem C0 {l:OpenLaw}{n:Nat} (hn:l.most=some n) {P:Params}{h:Heap}{args:List WData}{vals:List Value}
  (hpre:l.row.toRowW.claim.pre args=true) (hwl:WellAll P h vals args) :
  ∃ a vs ns,vals = [Value.ref a]/\args = [WData.list (ns.map WData.int)]/\h.get? a=some { cls:=.type "list",data:=.seq vs.toArray }/\IntsAre vs ns/\ns.length<=n:=by
 have hsh:WShape.hasAll [] args [.list .int]=true:=(pre_splitW hpre).1
 have hc:l.pre.holds [] { args:=args }=true:=(pre_splitW hpre).2
 obtain ⟨d,r,rfl,h1,h2⟩:=hasAllW_cons hsh
 obtain rfl:=hasAllW_nil h2
 obtain ⟨xs,rfl,h3⟩:=hasW_list h1
 obtain ⟨ns,rfl⟩:=items_int h3
 have hlen:ns.length<=n:=by
  unfold OpenLaw.pre at hc
  have h4:(WTm.not (.lt (.lit (.int (n:Int))) (.len (.arg 0)))).holds [] { args:=[.list (ns.map .int)] }=true:=by
   have h4:=(holds_andW hc).1
   rw [hn] at h4
   exact h4
  have h5:=condW_of h4 (w_not (w_lt w_lit (w_len_list (w_arg rfl))))
  rw [be5] at h5
  refine bp1 fun q=>?_
  have q':(n:Int) < ((ns.length:Nat):Int):=by omega
  first
   | (rw [be7 q'] at h5; exact absurd h5 (by decide))
   | (simp at h5; omega)
 cases hwl with
 | cons w1 w2=>
  cases w2
  cases w1 with
  | list ho hall=>exact⟨_,_,ns,rfl,rfl,ho,aq3 ns _ hall,hlen⟩
theorem C1 (l:OpenLaw) (args:List WData):l.row.toRowW.claim.post args (.bool true) args=true:=
 postW_of (r:=l.row.toRowW) (X:=(true == true))
  (show WShape.has [] (.bool true) .bool=true by first | rfl | decide | simp [WShape.has,WShape.arms,WShape.armsAll])
  (show (WTm.eq .res (.lit (.bool true))).value [] { args:=args,res:=some (.bool true),after:=args }=some (.bool (true == true)) from w_eq_bool (w_res rfl) w_lit) rfl
theorem bd6 {l:OpenLaw}{n:Nat}{q:Program}{loose:List Str}{XP:(Str->Option Value)->Heap->Prop}{YP:World->Heap->Prop}{d:DefRec}{x:Str}
  (hn:l.most=some n) (hdf:d.params.defaults = [])
  (hbind:∀ pm cd doc v:Value,bindArgs (docDef d.name d.params d.body d.scope pm cd doc) ⟨[v],[]⟩=pure [(x,v)])
  (hx:d.scope.names.lookup x=some .local ∨ d.scope.names.lookup x=some .cell)
  (hk:d.scope.kind = .function) (hco:d.scope.isCoroutine=false) (hgen:d.scope.isGenerator=false)
  (body:∀ (w:World) (s₀ s₁ s:Shared) (mg mb:Str->Option Value) (fa:Addr) (o:Obj) (pm cd doc:Value) (a:Addr) (vs:List Value) (ns:List Int),
   Ground q loose [] XP w s₀ mg mb s₁.heap->YP w s₁.heap->
   s₁.heap.get? fa=some o->o.data = .func (docDef d.name d.params d.body d.scope pm cd doc)->s₁.heap.CodeRec cd d.name->mg d.name=some (.ref fa)->
   s₁.heap.get? a=some { cls:=.type "list",data:=.seq vs.toArray }->IntsAre vs ns->ns.length<=n->
   s.gens = #[]->s.os=s₁.os->
   Fr s₁.heap s₁.heap.objs.size s.heap (bindL (envOfC d.name d.scope s₁.heap.objs.size fa cd).kindOf [(x,.ref a)] fun _=>none)->
   Cl s₁.heap.objs.size (cellsFrom (s₁.heap.objs.size+1) d.scope.names []) s.heap (bindC (envOfC d.name d.scope s₁.heap.objs.size fa cd).kindOf [(x,.ref a)] fun _=>none)->
   wpAny (model l.prog w) (callerA.deeper (envOfC d.name d.scope s₁.heap.objs.size fa cd)) (execs d.body (envOfC d.name d.scope s₁.heap.objs.size fa cd))
    (fun f s'=>f = .ret (.bool true)/\OldK s₁.heap s'.heap/\s'.os=s₁.os/\AllBare s'.gens) (fun _ _=>False) s) :
  WalkO q loose XP YP l.row.toRowW d [] (fun f vs=>PySem.call f vs):=by
 intro w s₀ s₁ mg mb G Y fa o pm cd doc dV kV ho hd hcd hD hmg hg args vals as hpre hlay hrd hwl hlo
 obtain rfl:dV = .none:=Dflts.none hD hdf
 obtain rfl:kV = .none:=Dflts.noKw hD
 obtain ⟨a,vs,ns,rfl,rfl,hobj,hints,hlen⟩:=C0 hn hpre hwl
 refine enter_call ?_
 refine call_cells_ret (o:=o) (by rw [depth_caller]; decide) ho (fd_plain hd) G.T.nolimit hcd (hbind pm cd doc (.ref a)) (fun y hy=>?_) (fun h₁ tk F X=>?_) hco hgen hk
 ·obtain rfl:y=(x,Value.ref a):=bf3.mp hy
  rcases hx with e | e
  ·exact .inl e
  ·exact .inr ⟨e,cellsFrom_some _ _ _ (.inl e)⟩
 ·refine bm2 (body w s₀ s₁ { s₁ with heap:=h₁,toks:=tk } mg mb fa o pm cd doc a vs ns G Y ho (fd_plain hd) hcd hmg hobj hints hlen hg rfl F X) (fun f s' hq=>?_) (fun _ _ hq=>hq)
  obtain ⟨rfl,h2,h3,h4⟩:=hq
  exact⟨.inl ⟨.bool true,.bool true,[],rfl,fun _=>rfl,.bool true,C1 l _,fun _=>⟨List.Pairwise.nil,fun _ hm=>(nomatch hm)⟩⟩,h2,h3,h4⟩
theorem aq4 {l:OpenLaw}{n:Nat}{q:Program}{loose:List Str}{XP:(Str->Option Value)->Heap->Prop}{YP:World->Heap->Prop}{d:DefRec}
  (hn:l.most=some n) (hdf:d.params.defaults = [])
  (call:∀ (w:World) (s₀ s₁:Shared) (mg mb:Str->Option Value) (fa:Addr) (o:Obj) (pm cd doc:Value) (a:Addr) (vs:List Value) (ns:List Int),
   Ground q loose [] XP w s₀ mg mb s₁.heap->YP w s₁.heap->
   s₁.heap.get? fa=some o->o.data = .func (docDef d.name d.params d.body d.scope pm cd doc)->s₁.heap.CodeRec cd d.name->mg d.name=some (.ref fa)->
   s₁.heap.get? a=some { cls:=.type "list",data:=.seq vs.toArray }->IntsAre vs ns->ns.length<=n->s₁.gens = #[]->
   codeAny (model l.prog w) callerA (.call (.ref fa) ⟨[.ref a],[]⟩) (fun r s'=>r = .ok (.ret (.bool true))/\OldK s₁.heap s'.heap/\s'.os=s₁.os/\AllBare s'.gens) s₁) :
  WalkO q loose XP YP l.row.toRowW d [] (fun f vs=>PySem.call f vs):=by
 intro w s₀ s₁ mg mb G Y fa o pm cd doc dV kV ho hd hcd hD hmg hg args vals as hpre hlay hrd hwl hlo
 obtain rfl:dV = .none:=Dflts.none hD hdf
 obtain rfl:kV = .none:=Dflts.noKw hD
 obtain ⟨a,vs,ns,rfl,rfl,hobj,hints,hlen⟩:=C0 hn hpre hwl
 refine enter_call (codeAny_mono (call w s₀ s₁ mg mb fa o pm cd doc a vs ns G Y ho (fd_plain hd) hcd hmg hobj hints hlen hg) fun r s' hq=>?_)
 obtain ⟨rfl,h2,h3,h4⟩:=hq
 exact⟨.inl ⟨.bool true,.bool true,[],rfl,fun _=>rfl,.bool true,C1 l _,fun _=>⟨List.Pairwise.nil,fun _ hm=>(nomatch hm)⟩⟩,h2,h3,h4⟩
end Att
namespace L2
open PySem PySem.Spec PyProof.Rows
theorem nT:∀ {vs:List Value}{ns:List Int},IntsAre vs ns->aQ (ns.map V.int) vs
 | _,_,.nil=>.nil
 | _,_,.cons n t h=>.cons ⟨t,rfl⟩ (nT h)
def pP (H:Hp):Prop:=∀ b,H b=none ∨ ∃ o xs,H b=some (.frz o (.lst xs))
theorem aq5 {P:Program}{w:World}{K:PySem.W.Frag}{mg mb:Str->Option Value}{CX:gN}{k:Nat}{fa a:Addr}{fd:FuncData}{x:Str}{sp:Sp}{s₁:Shared}{vs:List Value}{ns:List Int}
  (KX:K.In s₁.heap) (hns:s₁.heap.Ns mainGlobals mg) (hb:s₁.heap.Ns builtinsNs mb) (hbb:∀ x:Str,x ≠ "__name__"->mb x=bootBuiltins x) (hlim:s₁.heap.NoLimit) (hg:s₁.gens = #[])
  (ha:s₁.heap.get? a=some { cls:=.type "list",data:=.seq vs.toArray }) (hi:IntsAre vs ns) (hl:ns.length<=sizeLine) (hr:c9 k callerA)
  (F:∀ base:Heap,K.In base->base.Ns mainGlobals mg->cV P w K mg base CX k fa fd [x] sp) (hbind:∀ (s:Shared) (u:Value),BindsTo s fd ⟨[u],[]⟩ [(x,u)])
  (hsp:∀ H:Hp,pP H->aU K H a (ns.map V.int)->sp [.ref a] H (fun v _=>v = .bl true) fun _ _ _=>False)
  (hCX:∀ H e s',CX [] H s₁ (fun _ _ _=>False) e s'->False) :
  codeAny (model P w) callerA (.call (.ref fa) ⟨[.ref a],[]⟩) (fun r s'=>r = .ok (.ret (.bool true))/\OldK s₁.heap s'.heap/\s'.os=s₁.os/\AllBare s'.gens) s₁:=by
 have rv:=nT hi
 have lenV:=hi.length
 have core:∀ H:Hp,pP H->aU K H a (ns.map V.int)->bW P w H s₁.heap->(∀ b,H b ≠ none->b=a)->(H a ≠ none->K.lookup a=none)->
   codeAny (model P w) callerA (.call (.ref fa) ⟨[.ref a],[]⟩) (fun r s'=>r = .ok (.ret (.bool true))/\OldK s₁.heap s'.heap/\s'.os=s₁.os/\AllBare s'.gens) s₁:=by
  intro H hO hS hok hA hK
  have base_of:∀ {b:Addr}{o:Obj},s₁.heap.get? b=some o->H b=none->(iZ s₁.heap H).get? b=some o:=fun e n=>ag5 e n
  have noA:∀ {b:Addr}{o:Obj}{es:Array DictEntry}{ep:Nat},s₁.heap.get? b=some o->o.data = .dict es ep->H b=none:=fun {b o es ep} e d=>by
   cases q:H b with
   | none=>rfl
   | some u=>
    have e':b=a:=hA b (by rw [q]; simp)
    subst e'
    rw [ha] at e; cases e
    have d':Data.seq vs.toArray _=Data.dict es ep:=d
    cases d'
  have nsK:∀ {b:Addr}{m:Str->Option Value},s₁.heap.Ns b m->(iZ s₁.heap H).Ns b m:=fun {b m} ⟨o,es,ep,e,d,r⟩=>⟨o,es,ep,base_of e (noA e d),d,r⟩
  have hKb:K.In (iZ s₁.heap H):=fun b o e=>base_of (KX b o e) (by
   cases q:H b with
   | none=>rfl
   | some u=>
    have e':b=a:=hA b (by rw [q]; simp)
    subst e'
    rw [hK (by rw [q]; simp)] at e; cases e)
  have hM:Mod K mg (iZ s₁.heap H):=⟨hKb,nsK hns,⟨mb,nsK hb,hbb⟩,let ⟨mc,h1,h2⟩:=hlim; ⟨mc,nsK h1,h2⟩⟩
  have e0:pI P w K mg (iZ s₁.heap H) callerA [] s₁ H:=⟨rfl,hM,fun b o e=>ag6 e,Nat.le_of_eq (ag4 _ _),trivial,fun b hb=>absurd (show b ∈ ([]:List Addr) from hb) (by simp),hok,.of_eq hg⟩
  refine codeAny_mono ((F _ hKb (nsK hns)).run callerA [] s₁ H ⟨[.ref a],[]⟩ [.ref a] [.ref a] _ _ hr e0 (hbind s₁ (.ref a)) (.cons rfl .nil) (hsp H hO hS)) fun r s' h=>?_
  cases r with
  | error e=>exact (hCX H e s' h).elim
  | ok fl=>
   cases fl with
   | next=>exact False.elim h
   | brk=>exact False.elim h
   | cont=>exact False.elim h
   | ret u=>
    obtain ⟨v,H',os,bare,un,hok',r',q⟩:=h
    have q':v = .bl true:=q
    subst q'
    obtain rfl:u=Value.bool true:=r'
    refine⟨rfl,OldK.of_keep fun b o e=>?_,os,bare⟩
    cases q:H b with
    | none=>exact un.keep b o e q (by intro z; exact absurd (show b ∈ ([]:List Addr) from z) (by simp)) (by simp)
    | some u=>
     rcases hO b with z | ⟨ob,xs,z⟩
     ·rw [q] at z; cases z
     ·have z2:=un.frzs b ob _ z
      obtain ⟨e1,_⟩:=hok b _ z
      obtain ⟨e2,_⟩:=hok' b _ z2
      rw [e] at e1; cases e1
      exact e2
 cases hk:K.lookup a with
 | some o=>
  have e:=KX a o hk
  rw [ha] at e
  cases e
  refine core (fun _=>none) (fun _=>.inl rfl) (.inr ⟨_,vs.toArray,_,hk,rfl,rfl,rfl,by rw [be0,lenV]; exact hl,by simpa using rv⟩) (fun b u z=>by have z':(none:Option HO)=some u:=z; cases z') (fun b z=>absurd rfl z) fun z=>absurd rfl z
 | none=>
  refine core (fun b=>if b=a then some (.frz { cls:=.type "list",data:=.seq vs.toArray } (.lst (ns.map V.int))) else none) (fun b=>?_) (.inl (.inr ⟨{ cls:=.type "list",data:=.seq vs.toArray },if_pos rfl⟩)) (fun b u z=>?_) (fun b z=>?_) fun _=>hk
  ·by_cases hb:b=a
   ·exact .inr ⟨_,_,if_pos hb⟩
   ·exact .inl (if_neg hb)
  ·by_cases hb:b=a
   ·have z':=(if_pos hb).symm.trans z
    cases z'
    subst hb
    exact⟨ha,by rw [be5]; exact hl,vs,_,rv,ha⟩
   ·have z':=(if_neg hb).symm.trans z
    cases z'
  ·by_cases hb:b=a
   ·exact hb
   ·exact absurd (if_neg hb) z
theorem aq6 {l:PySem.W.OpenLaw}{n k:Nat}{q:Program}{loose:List Str}{XP:(Str->Option Value)->Heap->Prop}{YP:World->Heap->Prop}{d:DefRec}{K:Params->PySem.W.Frag}{CX:World->gN}{sp:World->Sp}{x:Str}
  (hn:l.most=some n) (hn2:n<=sizeLine) (hdf:d.params.defaults = []) (hr:c9 k callerA)
  (hY:∀ (w:World) (h:Heap),YP w h->(K w.params).In h)
  (F:∀ (w:World) (mg:Str->Option Value) (fa:Addr) (h:Heap),(K w.params).In h->h.Ns mainGlobals mg->mg d.name=some (.ref fa)->
   ∃ fd:FuncData,(∀ (s:Shared) (u:Value),BindsTo s fd ⟨[u],[]⟩ [(x,u)])/\
    ∀ base:Heap,(K w.params).In base->base.Ns mainGlobals mg->cV l.prog w (K w.params) mg base (CX w) k fa fd [x] (sp w))
  (hsp:∀ (w:World) (H:Hp) (a:Addr) (ns:List Int),ns.length<=n->pP H->aU (K w.params) H a (ns.map V.int)->sp w [.ref a] H (fun v _=>v = .bl true) fun _ _ _=>False)
  (hCX:∀ (w:World) (H:Hp) (s:Shared) (e:Value) (s':Shared),CX w [] H s (fun _ _ _=>False) e s'->False) :
  PySem.W.WalkO q loose XP YP l.row.toRowW d [] (fun f vs=>PySem.call f vs):=by
 refine Att.aq4 hn hdf fun w s₀ s₁ mg mb fa o pm cd doc a vs ns G Y ho hd hcd hmg hobj hints hlen hg=>?_
 have KX:=hY w _ Y
 obtain ⟨fd,hb,hF⟩:=F w mg fa _ KX G.T.g hmg
 exact aq5 KX G.T.g G.T.b G.T.builtins G.T.nolimit hg hobj hints (bh6 hlen hn2) hr hF hb (fun H hO hS=>hsp w H a ns hlen hO hS) fun H e s'=>hCX w H s₁ e s'
def iK (s:Stmt):Arguments:=match s with
 | .FunctionDef _ a _ _ _ _ _ _ _ _=>a
 | _=>{ posonlyargs:=[],args:=[],vararg:=none,kwonlyargs:=[],kw_defaults:=[],kwarg:=none,defaults:=[] }
def dZ (s:Stmt):List Stmt:=match s with
 | .FunctionDef _ _ b _ _ _ _ _ _ _=>b
 | _=>[]
def aX (s:Stmt):Scope:=match s with
 | .FunctionDef _ _ _ _ _ _ sc _ _ _=>sc
 | _=>{ kind:=.function,names:=[],isGenerator:=false,isCoroutine:=false }
abbrev dL:gN:=fun _ _ _ _ _ _=>False
abbrev E0:XK:=fun _ _ _=>False
theorem C2 {X:Cx}:nJ dL X E0:=fun _ _ _ _ _ _ _ h=>h.elim
structure eR (K:PySem.W.Frag) (x qual:Str) (st:Stmt) (f:Addr) (fd:FuncData):Prop where
 ex:∃ (oc:Value) (od:Option Addr) (kV doc pm:Value) (an:Option Addr) (cdv ct:Value) (osl:Array (Option Value)),
  fd=PySem.W.fnOf x qual (iK st) (dZ st) (aX st) .none kV doc pm an cdv ct/\K.lookup f=some ⟨oc,od,.func fd,osl⟩/\PySem.W.codeIn K cdv qual=true
 kp:PySem.W.keepIn K (.ref f)=true
section
variable {P : Program} {w : World} {K : PySem.W.Frag} {mg : Str → Option Value} {base : Heap}
theorem eR.ok {x qual:Str}{st:Stmt}{f:Addr}{fd:FuncData}{N ps:List Str}{k:Nat}{sp:Sp} (F:eR K x qual st f fd) (S:FnScope N ps (aX st)) (len:∀ vs H Q E,sp vs H Q E->vs.length=ps.length)
  (hbody:∀ (cdv:Value) (A:Around) (outer:List Env) (s:Shared) (H:Hp) (vs:List V) (Q:VK) (E:XK),c9 k (A.deeper (envOfC qual (aX st) s.heap.objs.size f cdv))->sp vs H Q E->
   ∃ t,dA (dB dL P w K mg base N qual (aX st) f cdv A outer s H E).nox (dZ st) t/\t { nx:=fun _ H'=>Q .non H',rt:=Q } (start N vs) H):cV P w K mg base dL (k+1) f fd ps sp:=by
 obtain ⟨oc,od,kV,doc,pm,an,cdv,ct,osl,rfl,lk,hcd⟩:=F.ex
 refine zL lk hcd S len fun A outer s H vs Q E hr hsp=>?_
 obtain ⟨t,h,q⟩:=hbody cdv A outer s H vs Q E hr hsp
 exact⟨t,h.nox,q⟩
theorem eR.binds {x qual:Str}{st:Stmt}{f:Addr}{fd:FuncData}{ps:List Str} (F:eR K x qual st f fd)
  (h:∀ (kV doc pm:Value) (an:Option Addr) (cdv ct:Value) (us:List Value),us.length=ps.length->bindArgs (PySem.W.fnOf x qual (iK st) (dZ st) (aX st) .none kV doc pm an cdv ct) ⟨us,[]⟩=pure (ps.zip us)):i3 K fd ps []:=by
 obtain ⟨oc,od,kV,doc,pm,an,cdv,ct,osl,rfl,lk,hcd⟩:=F.ex
 exact .all (h kV doc pm an cdv ct)
theorem aq7 {x qual:Str}{st:Stmt}{f:Addr}{oc:Value}{od an:Option Addr}{osl:Array (Option Value)}{kV doc pm cdv ct:Value} (l:K.lookup f=some ⟨oc,od,.func (PySem.W.fnOf x qual (iK st) (dZ st) (aX st) .none kV doc pm an cdv ct),osl⟩)
  (c:PySem.W.codeIn K cdv qual=true) (k:PySem.W.keepIn K (.ref f)=true):eR K x qual st f (PySem.W.fnOf x qual (iK st) (dZ st) (aX st) .none kV doc pm an cdv ct):=⟨⟨oc,od,kV,doc,pm,an,cdv,ct,osl,rfl,l,c⟩,k⟩
end
theorem j8 {A:Around}{k:Nat} (hr:c9 k A):A.units+1 < cLine:=Nat.lt_of_le_of_lt (Nat.add_le_add_left (by decide:1<=64) _) hr.units
theorem nU {n:Nat} (h:n<=1000):n < sizeLine:=Nat.lt_of_le_of_lt h (by decide)
section
variable {X : Cx}
theorem pv (i:Nat) {x:Str}{pos:Pos} (hN:X.N[i]? = some x:=by rfl) (hv:eN X.env.scope x:=by first | exact Or.inl rfl | exact Or.inr (Or.inl rfl) | exact Or.inr (Or.inr rfl)) (hd:(x == ("__debug__" : Str))=false:=by decide)
  (hcd:(x == ("__classdict__" : Str))=false:=by decide):PE X (.Name x pos) (eO i):=fW hN hv hd hcd
theorem aq8:cU X (.builtin "len") (fun xs H Q=>∃ a kvs,xs = [V.ref a]/\H a=some (.dK kvs)/\Q (.int kvs.length) H):=by
 intro pins s σ H xs us Q I r h
 obtain ⟨a,kvs,rfl,ha,q⟩:=h
 obtain ⟨u,rfl,ru⟩:=fX r
 cases ru
 exact ap7 I (.inl ha) fun t s' I'=>⟨.int kvs.length,H,I',⟨t,rfl⟩,q⟩
end
theorem aP {A B:Prop} (h:B):if false=true then A else B:=by
 rw [if_neg bg6]
 exact h
theorem aZ {A B:Prop} (h:A):if true=true then A else B:=by
 rw [if_pos rfl]
 exact h
def aD (H H':Hp):Prop:=∀ b o,H b=some o->H' b=some o
theorem aD.refl (H:Hp):aD H H:=fun _ _ h=>h
theorem aD.trans {H H1 H2:Hp} (a:aD H H1) (b:aD H1 H2):aD H H2:=fun c o h=>b c o (a c o h)
theorem aD.free {H H':Hp} (e:aD H H') {l:Addr} (h:H' l=Option.none):H l=Option.none:=by
 cases q:H l with
 | none=>rfl
 | some o=>
  rw [e l o q] at h
  cases h
theorem aD.seq {K:PySem.W.Frag}{H H':Hp}{a:Addr}{xs:List V} (e:aD H H') (h:aU K H a xs):aU K H' a xs:=by
 rcases h with (h | ⟨o,h⟩) | h
 ·exact .inl (.inl (e _ _ h))
 ·exact .inl (.inr ⟨o,e _ _ h⟩)
 ·exact .inr h
def eF (cells:List (Str × Addr)):List (Str × NameKind)->List (Str × Addr)->List (Str × Addr)
 | [],cs=>cs
 | (n,k) :: r,cs=>eF cells r (if k == .free then (n,(cells.lookup n).getD 0) :: cs else cs)
theorem uE {env:Env}:∀ (ns:List (Str × NameKind)) (cs:List (Str × Addr)),(∀ x ∈ ns,x.2 = .free->∃ c,env.cells.lookup x.1=some c)->
  (forIn ns cs (fun (x:Str × NameKind) r=>(match x with
   | (name,kind)=>if (kind == .free)=true then (do let y <- cellOf env name; pure (ForInStep.yield ((name,y) :: r))) else pure (ForInStep.yield r)):_->_->Sem _))=(pure (eF env.cells ns cs):Sem (List (Str × Addr)))
 | [],cs,_=>by rw [List.forIn_nil]; rfl
 | (n,k) :: r,cs,h=>by
  rw [List.forIn_cons]
  have hr:∀ x ∈ r,x.2 = .free->∃ c,env.cells.lookup x.1=some c:=fun x hx=>h x (bg0 _ hx)
  cases hk:(k == NameKind.free) with
  | true=>
   have e:k = .free:=by simpa using hk
   obtain ⟨c,hc⟩:=h (n,k) bf5 e
   simp only [hk,if_true]
   have e1:cellOf env n=pure c:=by unfold cellOf; rw [hc]
   rw [e1]
   show ((pure c >>= fun y=>pure (ForInStep.yield ((n,y) :: cs))) >>= _:Sem _)=_
   rw [pure_bind,pure_bind]
   have:=uE (env:=env) r ((n,c) :: cs) hr
   refine this.trans ?_
   unfold eF
   simp only [hk,if_true,hc,Option.getD_some]
   cases r <;> rfl
  | false=>
   simp only [hk,bg7,bk8]
   rw [pure_bind]
   have:=uE (env:=env) r cs hr
   refine this.trans ?_
   conv=>rhs; unfold eF
   simp only [hk,bg7,bk8]
theorem pQ {scope:Scope}{env:Env} (h:∀ x ∈ scope.names,x.2 = .free->∃ c,env.cells.lookup x.1=some c):closureFor scope env=pure (eF env.cells scope.names []):=by
 have e:=uE (env:=env) scope.names [] h
 unfold closureFor
 rw [show (pure (eF env.cells scope.names []):Sem (List (Str × Addr)))=(pure (eF env.cells scope.names []) >>= pure) by rw [pure_bind]]
 rw [<- e]
theorem pR {cells:List (Str × Addr)}:∀ (ns:List (Str × NameKind)) (cs:List (Str × Addr)) {x:Str}{c:Addr},(∀ y ∈ ns,y.2 = .free->∃ c,cells.lookup y.1=some c)->
  (∀ x c,cs.lookup x=some c->cells.lookup x=some c)->(eF cells ns cs).lookup x=some c->cells.lookup x=some c
 | [],cs,x,c,_,hc,h=>hc x c h
 | (n,k) :: r,cs,x,c,hn,hc,h=>by
  unfold eF at h
  have hr:∀ y ∈ r,y.2 = .free->∃ c,cells.lookup y.1=some c:=fun y hy=>hn y (bg0 _ hy)
  cases hk:(k == NameKind.free) with
  | false=>
   simp only [hk,bg7,bk8] at h
   exact pR r cs hr hc h
  | true=>
   simp only [hk,if_true] at h
   refine pR r _ hr (fun y d e=>?_) h
   obtain ⟨c0,h0⟩:=hn (n,k) bf5 (by simpa using hk)
   have h0:cells.lookup n=some c0:=h0
   rw [h0] at e
   rw [bk6] at e
   by_cases hyn:y=n
   ·subst hyn
    simp only [bl3,Option.getD_some] at e
    rw [h0]; exact e
   ·have:(y == n)=false:=bq5.mpr hyn
    simp only [this] at e
    exact hc y d e
theorem uF {cells:List (Str × Addr)}:∀ (ns:List (Str × NameKind)) (cs:List (Str × Addr)) {x:Str},((x,NameKind.free) ∈ ns ∨ ∃ c,cs.lookup x=some c)->∃ c,(eF cells ns cs).lookup x=some c
 | [],cs,x,h=>by
  rcases h with h | h
  ·simp at h
  ·exact h
 | (n,k) :: r,cs,x,h=>by
  unfold eF
  refine uF r _ ?_
  rcases h with h | ⟨c,h⟩
  ·rcases be9.mp h with e | e
   ·cases e
    exact .inr ⟨_,by simp [bk6]; rfl⟩
   ·exact .inl e
  ·right
   cases hk:(k == NameKind.free) with
   | false=>exact⟨c,by simpa [hk] using h⟩
   | true=>
    simp only [if_true]
    rw [bk6]
    by_cases hxn:(x == n)=true
    ·simp only [hxn]; exact⟨_,rfl⟩
    ·simp only [bo3.mpr hxn]; exact⟨c,h⟩
theorem pS {env:Env}:∀ {names:List (Str × NameKind)}{x:Str}{k:NameKind},(names.map fun (n,k)=>if (k == NameKind.free && env.scope.kind == .function && env.kindOf n == some .cell) then (n,NameKind.cell) else (n,k)).lookup x=some k->
  names.lookup x=some k ∨ (names.lookup x=some .free/\k = .cell)
 | [],_,_,h=>by simp at h
 | (n,q) :: r,x,k,h=>by
  have ih:=@pS env r x k
  rw [bj4] at h
  by_cases hx:(x == n)=true
  ·have e:x=n:=by simpa using hx
   subst e
   by_cases hc:(q == NameKind.free && env.scope.kind == .function && env.kindOf x == some .cell)=true
   ·simp only [hc,if_true,bk6,bl3] at h
    have hq:q = .free:=by simp at hc; exact hc.1.1
    exact .inr ⟨by simp [bk6,hq],(bg9 h).symm⟩
   ·simp only [hc,bg7,bk8,bk6,bl3] at h
    exact .inl (by simp [bk6]; exact bg9 h)
  ·have hx':(x == n)=false:=bo3.mpr hx
   have h':(r.map fun (n,k)=>if (k == NameKind.free && env.scope.kind == .function && env.kindOf n == some .cell) then (n,NameKind.cell) else (n,k)).lookup x=some k:=by
    by_cases hc:(q == NameKind.free && env.scope.kind == .function && env.kindOf n == some .cell)=true
    ·simp only [hc,if_true,bk6,hx'] at h; exact h
    ·simp only [hc,bg7,bk8,bk6,hx'] at h; exact h
   simp only [bk6,hx']
   exact ih h'
def e8 (fr:List (Option Nat)) (σ:St):St:=fr.map fun o=>o.bind fun j=>(σ[j]?).join
def Wk (σ₁ σ₂:St):Prop:=σ₁.length=σ₂.length/\∀ (i:Nat) v,σ₁[i]? = some (some v)->σ₂[i]? = some (some v)
theorem Wk.refl (σ:St):Wk σ σ:=⟨rfl,fun _ _ h=>h⟩
theorem Wk.set {σ τ:St}{i:Nat}{v:V} (h:Wk σ τ) (hi:σ[i]? = some none):Wk σ (τ.set i (some v)):=by
 refine⟨by rw [bi5]; exact h.1,fun j w e=>?_⟩
 by_cases hj:j=i
 ·subst hj; rw [hi] at e; cases e
 ·rw [bg3 (Ne.symm hj)]; exact h.2 j w e
theorem j9:∀ (ns:List (Str × NameKind)) (n:Nat) (cs:List (Str × Addr)),cellsFrom n ns cs=cellsFrom n ns [] ++ cs
 | [],_,_=>rfl
 | (x,k) :: r,n,cs=>by
  unfold cellsFrom
  split
  ·rw [j9 r (n+1) ((x,n) :: cs),j9 r (n+1) [(x,n)]]; simp
  ·exact j9 r n cs
theorem uG:∀ (ns:List (Str × NameKind)) (n:Nat) {x:Str}{c:Addr},(x,c) ∈ cellsFrom n ns []->(x,NameKind.cell) ∈ ns
 | [],_,_,_,h=>by simp [cellsFrom] at h
 | (y,k) :: r,n,x,c,h=>by
  unfold cellsFrom at h
  split at h
  ·rename_i hk
   rw [j9] at h
   rcases bg2.mp h with z | z
   ·exact bg0 _ (uG r _ z)
   ·rw [bf3] at z
    cases z
    have:k = .cell:=by simpa using hk
    rw [this]; exact bf5
  ·exact bg0 _ (uG r _ h)
theorem pT:∀ (ns:List (Str × NameKind)) (n:Nat) {x:Str},(x,NameKind.cell) ∈ ns->∃ c,(x,c) ∈ cellsFrom n ns []
 | (y,k) :: r,n,x,h=>by
  unfold cellsFrom
  rcases be9.mp h with z | z
  ·cases z
   rw [if_pos (by rfl),j9]
   exact⟨n,bh2 _ (by simp)⟩
  ·split
   ·obtain ⟨c,hc⟩:=pT r (n+1) z
    rw [j9]
    exact⟨c,bi4 _ hc⟩
   ·exact pT r n z
theorem uH {α:Type}:∀ {l:List (Str × α)}{x:Str}{c:α},(x,c) ∈ l->∃ d,l.lookup x=some d
 | (y,v) :: r,x,c,h=>by
  rw [bk6]
  cases hb:x == y with
  | true=>exact⟨v,rfl⟩
  | false=>
   rcases be9.mp h with z | z
   ·cases z; simp at hb
   ·exact uH z
theorem pU {α:Type}{x:Str}:∀ (l r:List (Str × α)),(l ++ r).lookup x=(match l.lookup x with | some v=>some v | none=>r.lookup x)
 | [],_=>rfl
 | (y,v) :: l,r=>by
  rw [List.cons_append,bk6,bk6]
  cases hb:x == y with
  | true=>rfl
  | false=>exact pU l r
def gP (X:Cx) (scope:Scope) (C:Addr):List (Str × Addr):=cellsFrom (C+1) scope.names (eF X.env.cells scope.names [])
theorem kL {X:Cx}{scope:Scope}{C:Addr}{x:Str}{c:Addr} (h:(gP X scope C).lookup x=some c) :
  (x,c) ∈ cellsFrom (C+1) scope.names [] ∨ ((∀ d,(x,d) ∉ cellsFrom (C+1) scope.names [])/\(eF X.env.cells scope.names []).lookup x=some c):=by
 unfold gP at h
 rw [j9,pU] at h
 cases e:(cellsFrom (C+1) scope.names []).lookup x with
 | some v=>rw [e] at h; cases h; exact .inl (bj5 e)
 | none=>
  rw [e] at h
  refine .inr ⟨fun d hd=>?_,h⟩
  obtain ⟨d',z⟩:=uH hd
  rw [e] at z; cases z
theorem aq9 {X:Cx}{scope:Scope}{C:Addr}{x:Str}{c:Addr} (hn:(x,NameKind.cell) ∉ scope.names) (h:(eF X.env.cells scope.names []).lookup x=some c):(gP X scope C).lookup x=some c:=by
 unfold gP
 rw [j9,pU]
 cases e:(cellsFrom (C+1) scope.names []).lookup x with
 | some v=>exact absurd (uG _ _ (bj5 e)) hn
 | none=>exact h
theorem C3 {X:Cx}{scope:Scope}{C:Addr}{x:Str} (h:(x,NameKind.cell) ∈ scope.names ∨ ∃ c,(eF X.env.cells scope.names []).lookup x=some c):∃ c,(gP X scope C).lookup x=some c:=by
 unfold gP
 rw [j9,pU]
 cases e:(cellsFrom (C+1) scope.names []).lookup x with
 | some v=>exact⟨v,rfl⟩
 | none=>
  rcases h with h | h
  ·obtain ⟨c,hc⟩:=pT scope.names (C+1) h
   obtain ⟨d,hd⟩:=uH hc
   rw [e] at hd; cases hd
  ·exact h
def bL (X:Cx) (scope:Scope) (N:List Str) (s:Shared) (H:Hp) (C:Addr) (fp:List Addr) (E:Value->Shared->Prop):Cx:=
 { X with N:=N,s₀:=s,H₀:=H,env:=compEnvC scope (gP X scope C) C X.env,outer:=X.stack,ex:=fp,fn:=fun x=>scope.names.lookup x == some .cell,pn:=[],xe:=E }
structure cK (X:Cx) (scope:Scope) (N:List Str) (fr:List (Option Nat)):Prop where
 kind:scope.kind = .function
 own:∀ y ∈ scope.names,y.2 = .cell->scope.names.lookup y.1=some .cell
 names:∀ y ∈ scope.names,y.2 = .local->scope.names.lookup y.1=some .local
 free:∀ y ∈ scope.names,y.2 = .free->X.env.scope.names.lookup y.1=some .cell ∨ X.env.scope.names.lookup y.1=some .free
 len:fr.length=N.length
 from_:∀ (i j:Nat),fr[i]? = some (some j)->∃ x,N[i]? = some x/\X.N[j]? = some x/\scope.names.lookup x=some .free
section
variable {X : Cx} {pins : List (Addr × Obj)} {σ : St} {H : Hp} {s : Shared} {scope : Scope} {N : List Str} {fr : List (Option Nat)}
theorem cK.cells (S:cK X scope N fr) (I:a8 X pins σ H s):∀ y ∈ scope.names,y.2 = .free->∃ c,X.env.cells.lookup y.1=some c:=fun y hy hk=>I.ok.has y.1 (S.free y hy hk)
theorem ar0 {C D:Addr}{fp:List Addr}{E:Value->Shared->Prop}{h1:Heap}{tk:Nat}{m:Str->Option Value} (S:cK X scope N fr) (I:a8 X pins σ H s)
  (hf:∀ b ∈ fp,gL X pins H b) (hfl:∀ b ∈ fp,b < s.heap.objs.size) (hD:s.heap.objs.size<=D) (hC:s.heap.objs.size<=C) (hDC:D < C)
  (old:∀ b o,s.heap.get? b=some o->h1.get? b=some o) (hns:h1.Ns C m) (hacc:h1.get? D=some { cls:=.type "list",data:=.seq #[] 0 }) (hco:CellsOk h1 (C+1) (cellsFrom (C+1) scope.names [])) :
  a8 (bL X scope N s H C fp E) [] (e8 fr σ) (upd H D (.lst [])) { s with heap:=h1,toks:=tk }:=by
 have hHD:H D=none:=I.hok.fresh hD
 have cl:=S.cells I
 have cs:∀ {x:Str}{c:Addr},(eF X.env.cells scope.names []).lookup x=some c->X.env.cells.lookup x=some c:=fun {x c} h=>pR scope.names [] cl (fun _ _ z=>by simp at z) h
 have clt:∀ {x:Str}{c:Addr},X.env.cells.lookup x=some c->c < s.heap.objs.size:=fun {x c} h=>by obtain ⟨v,z⟩:=I.cell x c h; exact z.lt
 have nge:∀ {x:Str}{c:Addr},(x,c) ∈ cellsFrom (C+1) scope.names []->C < c:=fun {x c} h=>(hco.empty x c h).2
 refine⟨⟨I.ok.mod,?_,I.ok.glob,I.ok.blt,hC,?_,?_,?_,I.ok.hd,I.ok.frames,.inl rfl,?_,I.bs,bh6 I.ok.bsz I.sz,?_,?_,I.stack,I.stkFree⟩,rfl,I.bare,Un.laid old hD hHD,⟨m,hns,?_⟩,?_,?_,?_,fun p hp=>absurd (show p ∈ ([]:List (Addr × Obj)) from hp) (by simp),?_,?_⟩
 ·exact S.kind
 ·intro x y c h1 h2
  rcases kL h1 with a | ⟨_,a⟩ <;> rcases kL h2 with b | ⟨_,b⟩
  ·exact name_of_addr hco.apart a b
  ·exact absurd (bf2 (Nat.lt_trans (nge a) (clt (cs b))) hC) (bj7 _)
  ·exact absurd (bf2 (Nat.lt_trans (nge b) (clt (cs a))) hC) (bj7 _)
  ·exact I.ok.inj x y c (cs a) (cs b)
 ·intro x hx
  have hx:(relabel scope X.env).names.lookup x=some .cell ∨ (relabel scope X.env).names.lookup x=some .free:=hx
  have fin:(x,NameKind.free) ∈ scope.names->∃ c,(gP X scope C).lookup x=some c:=fun z=>C3 (.inr (uF scope.names [] (.inl z)))
  rcases hx with hx | hx
  ·rcases pS hx with z | z
   ·exact C3 (.inl (bj5 z))
   ·exact fin (bj5 z.1)
  ·rcases pS hx with z | z
   ·exact fin (bj5 z)
   ·exact absurd z.2 (by decide)
 ·intro x c hx h
  have hx:(scope.names.lookup x == some NameKind.cell)=true:=hx
  have hx:scope.names.lookup x=some .cell:=by simpa using hx
  rcases kL h with a | ⟨a,_⟩
  ·exact bh6 hC (bj6 (nge a))
  ·obtain ⟨d,hd⟩:=pT scope.names (C+1) (bj5 hx)
   exact absurd hd (a d)
 ·intro b hb
  refine⟨bh5 (bf2 (hfl b hb) hC),fun x c e=>?_⟩
  rcases kL e with a | ⟨_,a⟩
  ·exact bl7 (Nat.lt_trans (bf2 (hfl b hb) hC) (nge a))
  ·exact (hf b hb).2.2.2.2.1 x c (cs a)
 ·intro b o e hb
  rcases (hf b hb).2.2.2.1 with z | z
  ·exact I.ok.noex b o e z
  ·exact absurd (bf2 (bf8 e) (bh6 I.ok.bsz z)) (bj7 _)
 ·intro b hb z
  rcases be9.mp (I.stkSub b z) with e | e
  ·exact (hf b hb).2.1 e
  ·exact (hf b hb).2.2.1 e
 ·intro i x v e1 e2 e3
  have e2:(fr.map fun o=>o.bind fun j=>(σ[j]?).join)[i]? = some (some v):=e2
  rw [bf4] at e2
  cases ef:fr[i]? with
  | none=>rw [ef] at e2; cases e2
  | some o=>
   rw [ef] at e2
   cases o with
   | none=>cases e2
   | some j=>
    have e2:some ((σ[j]?).join)=some (some v):=e2
    have ej:σ[j]? = some (some v):=by
     cases q:σ[j]? with
     | none=>rw [q] at e2; cases e2
     | some w=>rw [q] at e2; cases w with
      | none=>cases e2
      | some w=>cases e2; rfl
    obtain ⟨y,a1,a2,a4⟩:=S.from_ i j ef
    have e1:N[i]? = some x:=e1
    rw [e1] at a1
    cases a1
    have a3:(x,NameKind.free) ∈ scope.names:=bj5 a4
    have vis:eN X.env.scope x:=(S.free _ a3 rfl).elim (fun z=>.inr (.inl z)) fun z=>.inr (.inr z)
    obtain ⟨m0,hn0,hl0⟩:=I.loc
    obtain ⟨u,r,l⟩:=hl0 j x v a2 ej vis
    refine⟨u,r,.inr ⟨?_,?_⟩⟩
    ·have e3:(relabel scope X.env).names.lookup x=some .local ∨ (relabel scope X.env).names.lookup x=some .cell ∨ (relabel scope X.env).names.lookup x=some .free:=e3
     rcases e3 with z | z | z
     ·rcases pS z with y | y
      ·rw [a4] at y; cases y
      ·exact absurd y.2 (by decide)
     ·exact .inl z
     ·exact .inr z
    ·obtain ⟨c,hc⟩:=uF (cells:=X.env.cells) scope.names [] (x:=x) (.inl a3)
     refine⟨c,aq9 (fun z=>by have:=S.own _ z rfl; rw [a4] at this; cases this) hc,?_⟩
     have hc':=cs hc
     have S1:=S.free (x,.free) a3 rfl
     rcases l with ⟨k,_⟩ | ⟨_,c2,hc2,z⟩
     ·have k:X.env.scope.names.lookup x=some .local:=k
      rcases S1 with q | q <;> (have q:X.env.scope.names.lookup x=_:=q; rw [k] at q; cases q)
     ·rw [hc'] at hc2; cases hc2
      obtain ⟨oc,ho,hd⟩:=z
      exact⟨oc,old c oc ho,hd⟩
 ·intro x c e
  rcases kL e with a | ⟨_,a⟩
  ·exact⟨_,(hco.empty x c a).1⟩
  ·obtain ⟨v,oc,ho,hd⟩:=I.cell x c (cs a)
   exact⟨v,oc,old c oc ho,hd⟩
 ·show upd H D (.lst []) C=none
  rw [aI (bl7 hDC)]; exact I.hok.fresh hC
 ·intro x c e
  show upd H D (.lst []) c=none
  rcases kL e with a | ⟨_,a⟩
  ·rw [aI (bl7 (Nat.lt_trans hDC (nge a)))]; exact I.hok.fresh (bh6 hC (bj6 (nge a)))
  ·have q:=cs a
   rw [aI (bh5 (bf2 (clt q) hD))]
   exact I.freeC x c q
 ·exact I.hok.laid old hD ⟨bh8 _,[],0,.nil,hacc⟩
 ·show (e8 fr σ).length=N.length
  unfold e8; rw [be5]; exact S.len
end
def jA (X:Cx) (ifs:List Expr) (t:TT):Prop:=
 ∀ (pins:List (Addr × Obj)) (s:Shared) (σ:St) (H:Hp) (Q:Bool->Hp->Prop),a8 X pins σ H s->t σ H Q->
  wpAny (model X.prog X.w) X.A (forIn ifs true fun c r=>if r=true then do let ok <- isTrue c X.env (eval c X.env); pure (ForInStep.yield ok) else pure (ForInStep.yield r)) (TP X pins σ Q) X.xe s
def uI:TT:=fun _ H Q=>Q true H
theorem pV {X:Cx}:jA X [] uI:=fun _ _ _ H _ I h=>wpAny_tests_nil ⟨H,I,h⟩
theorem pW {X:Cx}{c:Expr}{t:TT} (h:PT X c t):jA X [c] t:=fun pins s σ H Q I hq=>wpAny_tests_one (h pins s σ H Q I hq)
section
variable {prog : Program} {w : World} {A : Around}
def uJ (prog:Program) (w:World) (A:Around) (elt tg:Expr) (ifs:List Expr) (it acc:Value) (env:Env) (lost:Value->Shared->Prop) (stop next:Shared->Prop) (s:Shared):Prop:=
 let M:=model prog w
 let tests:Sem Bool:=forIn ifs true fun c r=>if r=true then do let ok <- isTrue c env (eval c env); pure (ForInStep.yield ok) else pure (ForInStep.yield r)
 let put:Shared->Prop:=wpAny M A (eval elt env) (fun x=>wpAny M A (call (.builtin "list.append") [acc,x]) (fun _=>next) lost) lost
 let taken:Value->Shared->Prop:=fun v=>wpAny M A (letOwnedTupleGo tg it v) (fun _=>wpAny M A (assign tg env v) (fun _=>wpAny M A tests (fun ok s'=>if ok=true then put s' else next s') lost) lost) lost
 wpAny M A (pyNext it) (fun r s'=>match r with
  | none=>stop s'
  | some v=>taken v s') lost s
theorem ar1 {R:Result->Shared->Prop}{s:Shared}{elt tg iter:Expr}{ifs:List Expr}{scope:Scope}{pos:Pos}{it acc:Value}{env:Env} (I:Nat->Shared->Prop)
  (turn:∀ n s,I n s->uJ prog w A elt tg ifs it acc env (notedBy (model prog w) A env fun e=>R (.error e)) (R (.ok .next)) (fun s'=>∃ m,m < n/\I m s') s) (n:Nat) (h:I n s) :
  codeAny (model prog w) A (.compLoop (.ListComp elt [⟨tg,iter,ifs,0⟩] scope pos) 0 it acc env) R s:=by
 apply codeAny_loop rfl I _ n h
 intro k s1 h1
 change wpAny _ A ((compTurn _ 0 it acc env).onRaise (fun x=>do noteFrame x env; theTreesLotGoes x)) _ _ s1
 apply wpAny_noted
 rw [compTurn_list]
 have t:=turn k s1 h1
 unfold uJ at t
 apply bd9
 apply wpAny_standAt
 apply bd9
 refine bm2 t (fun r s2 h2=>?_) fun _ _ z=>z
 cases r with
 | none=>exact be4 h2
 | some v=>
  apply bd9
  refine bm2 h2 (fun _ s3 h3=>?_) fun _ _ z=>z
  apply bd9
  refine bm2 h3 (fun _ s4 h4=>?_) fun _ _ z=>z
  apply bd9
  refine bm2 h4 (fun ok s5 h5=>?_) fun _ _ z=>z
  cases ok with
  | false=>exact be4 ⟨rfl,h5⟩
  | true=>
   apply bd9
   apply bd9
   refine bm2 h5 (fun x s6 h6=>?_) fun _ _ z=>z
   apply bd9
   exact bm2 h6 (fun _ s7 h7=>be4 (be4 ⟨rfl,h7⟩)) fun _ _ z=>z
end
def nV (g:TG) (tc:TT) (te:TE) (σ0:St) (J:It) (D:Addr) (Q:VK) (W:Nat->Nat->List V->Hp->Prop):Prop:=
 ∀ i m acc H',W i m acc H'->H' D=some (.lst acc)/\((J.stop i H'/\Q (.ref D) H') ∨ (J.go i H'/\∀ x H2,J.yld i H' x H2->g x σ0 H2 fun σ2 H3=>Wk σ0 σ2/\tc σ2 H3 fun b H4=>
  if b=true then te σ2 H4 fun v H5=>H5 D=some (.lst acc)/\acc.length < sizeLine/\∃ m',m' < m/\W (i+1) m' (acc ++ [v]) (upd H5 D (.lst (acc ++ [v]))) else ∃ m',m' < m/\W (i+1) m' acc H4))
def C4 (wi:TI) (fr:List (Option Nat)) (g:TG) (tc:TT) (te:TE):TE:=fun σ H Q=>wi σ H fun J H1=>∀ D,H1 D=none->
 ∃ W:Nat->Nat->List V->Hp->Prop,(∃ m,W 0 m [] (upd H1 D (.lst [])))/\nV g tc te (e8 fr σ) J D Q W
section
variable {M : Model} {A : Around} {E : Value → Shared → Prop} {s : Shared}
theorem ar2 {scope:Scope}{globals:Addr}{cl:List (Str × Addr)}{qual:Str}{func:Option Addr}{code:Value}{builtins:Addr}{outer:Env}{Q:Env->Shared->Prop}
  (hQ:∀ h',h'.Ns s.heap.objs.size (fun _=>none)->(∀ b o,s.heap.get? b=some o->h'.get? b=some o)->CellsOk h' (s.heap.objs.size+1) (cellsFrom (s.heap.objs.size+1) scope.names [])->
   Q (newEnv scope s.heap.objs.size globals (cellsFrom (s.heap.objs.size+1) scope.names cl) qual func code (some outer) builtins) { s with heap:=h' }) :
  wpAny M A (newFunctionEnv scope globals cl [] qual func code (some outer) builtins) Q E s:=by
 simp only [newFunctionEnv,Option.isSome_some,if_true]
 refine bd9 (wpAny_alloc ?_)
 refine bd9 (wpAny_layCells _ (fun name kind cells=>by cases hkc:kind == NameKind.cell <;> simp [hkc]) _ _ _ _ ?_)
 have ok:=cellsFrom_ok scope.names (s.heap.push { cls:=.type "dict",data:=.dict #[] }) (s.heap.objs.size+1) [] ⟨fun _ _ hm=>(nomatch hm),List.Pairwise.nil⟩ (by rw [bo4]; exact be6 _)
 rw [bo4] at ok
 rw [show ({ s with heap:=s.heap.push { cls:=.type "dict",data:=.dict #[] } }:Shared).heap.objs.size=s.heap.objs.size+1 from bo4 ..]
 rw [List.forIn_nil]
 refine bd9 (be4 (be4 (hQ _ ((Heap.Ns.new s.heap (.type "dict")).keeps (pushCells_keeps _ _)) (fun b o e=>pushCells_keeps _ _ b o (be1 _ e)) ok)))
end
section
variable {X : Cx} {pins : List (Addr × Obj)} {σ : St} {H : Hp} {s : Shared} {scope : Scope} {N : List Str} {fr : List (Option Nat)} {tg iter elt : Expr} {ifs : List Expr} {pos : Pos} {wi : TI} {g : TG} {tc : TT} {te : TE}
structure kM (X:Cx) (scope:Scope) (N:List Str) (tg:Expr) (ifs:List Expr) (elt:Expr) (s:Shared) (H:Hp) (g:TG) (tc:TT) (te:TE):Prop where
 tg:∀ (C:Addr) (fp:List Addr),PG (bL X scope N s H C fp fun _ _=>False) tg g
 ifs:∀ (C:Addr) (fp:List Addr),jA (bL X scope N s H C fp fun _ _=>False) ifs tc
 elt:∀ (C:Addr) (fp:List Addr),PE (bL X scope N s H C fp fun _ _=>False) elt te
structure pX (X:Cx) (scope:Scope) (N:List Str) (tg:Expr) (ifs:List Expr) (elt:Expr) (g:TG) (tc:TT) (te:TE):Prop where
 tg:∀ (s:Shared) (H:Hp) (C:Addr) (fp:List Addr),PG (bL X scope N s H C fp fun _ _=>False) tg g
 ifs:∀ (s:Shared) (H:Hp) (C:Addr) (fp:List Addr),jA (bL X scope N s H C fp fun _ _=>False) ifs tc
 elt:∀ (s:Shared) (H:Hp) (C:Addr) (fp:List Addr),PE (bL X scope N s H C fp fun _ _=>False) elt te
theorem pX.at (B:pX X scope N tg ifs elt g tc te) (s:Shared) (H:Hp):kM X scope N tg ifs elt s H g tc te:=⟨B.tg s H,B.ifs s H,B.elt s H⟩
theorem ar3 {C:Addr}{fp:List Addr}{E:Value->Shared->Prop}{pins':List (Addr × Obj)}{σ':St}{H':Hp}{s':Shared} (I:a8 X pins σ H s) (hf:∀ b ∈ fp,gL X pins H b) (I':a8 (bL X scope N s H C fp E) pins' σ' H' s'):a8 X pins σ H' s':=
 I.call' (ch:=fp) I'.os I'.base I'.hok I'.bare fun b hb=>⟨(hf b hb).2.2.2.1,(hf b hb).2.1,(hf b hb).2.2.2.2.1,(hf b hb).2.2.2.2.2⟩
theorem pY {Rr:Value->Addr->Result->Shared->Prop}{J:It}{fp:List Addr}{it:Addr}{tn:Nat->Heap->Prop}{Q:VK}
  (hc:X.calm=true) (S:cK X scope N fr) (B:kM X scope N tg ifs elt s H g tc te) (I:a8 X pins σ H s) (T:hZ X.prog X.w X.K tg J fp it tn) (hst:tn 0 s.heap) (hf:∀ b ∈ fp,gL X pins H b)
  (h:∀ D,H D=none->∃ W:Nat->Nat->List V->Hp->Prop,(∃ m,W 0 m [] (upd H D (.lst [])))/\nV g tc te (e8 fr σ) J D Q W)
  (hend:∀ (D C:Addr) (s':Shared) (H':Hp) (m:Str->Option Value),s.heap.objs.size<=C->s.heap.objs.size<=D->a8 X pins σ H' s'->s'.heap.Ns C m->H' C=none->Q (.ref D) H'->Rr (.ref D) C (.ok .next) s') :
  wpAny (model X.prog X.w) X.A (newList []) (fun acc s₃=>wpAny (model X.prog X.w) X.A (newFunctionEnv scope X.env.globals (eF X.env.cells scope.names []) [] X.env.qual none .none (some X.env)) (fun cenv s₄=>
   codeAny (model X.prog X.w) X.A (.compStart (.ListComp elt [⟨tg,iter,ifs,0⟩] scope pos) 0 (.ref it) acc { cenv with scope:=relabel scope X.env }) (Rr acc cenv.locals) s₄) X.xe s₃) X.xe s:=by
 refine bl5 (ar2 (fun h₁ hns₁ keep₁ hco₁=>?_))
 dsimp only at hns₁ keep₁ hco₁ ⊢
 generalize hH2:s.heap.push { cls:=.type "list",dict:=none,data:=.seq ([]:List Value).toArray }=H2 at hns₁ keep₁ hco₁ ⊢
 have hC:H2.objs.size=s.heap.objs.size+1:=by rw [<- hH2,bo4]
 have hDC:s.heap.objs.size < H2.objs.size:=by rw [hC]; exact Nat.lt_succ_self _
 have hCle:s.heap.objs.size<=H2.objs.size:=by rw [hC]; exact Nat.le_succ _
 have old:∀ b o,s.heap.get? b=some o->h₁.get? b=some o:=fun b o e=>keep₁ b o (hH2 ▸ be1 _ e)
 have hacc:h₁.get? s.heap.objs.size=some { cls:=.type "list",data:=.seq #[] 0 }:=keep₁ _ _ (hH2 ▸ bf6 _ rfl)
 have hfl:∀ b ∈ fp,b < s.heap.objs.size:=fun b hb=>by obtain ⟨o,e,_⟩:=T.obj _ _ hst b hb; exact bf8 e
 obtain ⟨W,⟨m0,w0⟩,turn⟩:=h s.heap.objs.size (I.hok.fresh (be6 _))
 have st1:tn 0 h₁:=T.keep _ _ _ hst fun b _ o e=>old b o e
 have fr0:∀ b ∈ fp,upd H s.heap.objs.size (.lst []) b=none:=fun b hb=>by rw [aI (bh5 (hfl b hb))]; exact (hf b hb).1
 have stat:∀ {H':Hp},(∀ b ∈ fp,H' b=none)->∀ b ∈ fp,gL (bL X scope N s H H2.objs.size fp fun _ _=>False) [] H' b:=fun {H'} hn b hb=>by
  have f:=hf b hb
  refine⟨hn b hb,bh5 (bf2 (hfl b hb) hCle),fun z=>?_,.inl hb,fun x c e=>(kL e).elim (fun z=>bl7 (Nat.lt_trans (bf2 (hfl b hb) hCle) (hco₁.empty x c z).2)) fun z=>f.2.2.2.2.1 x c (pR scope.names [] (S.cells I) (fun _ _ z=>by simp at z) z.2),fun p hp=>absurd (show p ∈ ([]:List (Addr × Obj)) from hp) (by simp)⟩
  rcases be9.mp (I.stkSub b z) with e | e
  ·exact f.2.1 e
  ·exact f.2.2.1 e
 generalize hX:bL X scope N s H H2.objs.size fp (fun _ _=>False)=Y at stat
 have I0:a8 Y [] (e8 fr σ) (upd H s.heap.objs.size (.lst [])) { s with heap:=h₁ }:=hX ▸ ar0 S I hf hfl (be6 _) hCle hDC old hns₁ hacc hco₁
 have bt:PG Y tg g:=hX ▸ B.tg H2.objs.size fp
 have bi:jA Y ifs tc:=hX ▸ B.ifs H2.objs.size fp
 have be:PE Y elt te:=hX ▸ B.elt H2.objs.size fp
 have eP:Y.prog=X.prog:=by rw [<- hX]; rfl
 have ew:Y.w=X.w:=by rw [<- hX]; rfl
 have eK:Y.K=X.K:=by rw [<- hX]; rfl
 have eA:Y.A=X.A:=by rw [<- hX]; rfl
 have eE:Y.env=compEnvC scope (gP X scope H2.objs.size) H2.objs.size X.env:=by rw [<- hX]; rfl
 have eX:Y.xe=fun _ _=>False:=by rw [<- hX]; rfl
 have ec:Y.calm=true:=by rw [<- hX]; exact hc
 have never:∀ {E:Value->Shared->Prop} (e:Value) (s':Shared),Y.xe e s'->E e s':=fun {E} e s' z=>by rw [eX] at z; exact z.elim
 have out:∀ {pins' σ' H' s'},a8 Y pins' σ' H' s'->a8 X pins σ H' s':=fun {_ _ _ _} I'=>ar3 (C:=H2.objs.size) (E:=fun _ _=>False) (scope:=scope) (N:=N) I hf (hX ▸ I')
 have loop:codeAny (model X.prog X.w) X.A (.compLoop (.ListComp elt [⟨tg,iter,ifs,0⟩] scope pos) 0 (.ref it) (.ref s.heap.objs.size) (compEnvC scope (gP X scope H2.objs.size) H2.objs.size X.env))
   (Rr (.ref s.heap.objs.size) H2.objs.size) { s with heap:=h₁ }:=by
  refine ar1 (fun n s'=>∃ i acc H',a8 Y [] (e8 fr σ) H' s'/\tn i s'.heap/\(∀ b ∈ fp,H' b=none)/\W i n acc H') ?_ m0 ⟨0,[],_,I0,st1,fr0,w0⟩
  rintro n s3 ⟨i,acc,H3,I3,st3,fr3,w3⟩
  unfold uJ
  dsimp only
  obtain ⟨hD3,step⟩:=turn i n acc H3 w3
  rcases step with ⟨stop,qn⟩ | ⟨go,step⟩
  ·have z:=T.done Y eP ew eK ec i [] s3 _ H3 (notedBy (model X.prog X.w) X.A (compEnvC scope (gP X scope H2.objs.size) H2.objs.size X.env) fun e s'=>Rr (.ref s.heap.objs.size) H2.objs.size (.error e) s') I3 (stat fr3) st3 stop
   rw [eA] at z
   refine aS z fun r s4 ⟨hr,I4⟩=>?_
   subst hr
   obtain ⟨m4,hn4,_⟩:=I4.loc
   rw [eE] at hn4
   have f4:=I4.free
   rw [eE] at f4
   exact hend _ _ s4 H3 m4 hCle (be6 _) (out I4) hn4 f4 qn
  ·have z:=T.item Y eP ew eK ec i [] s3 _ H3 (notedBy (model X.prog X.w) X.A (compEnvC scope (gP X scope H2.objs.size) H2.objs.size X.env) fun e s'=>Rr (.ref s.heap.objs.size) H2.objs.size (.error e) s') I3 (stat fr3) st3 go
   rw [eA] at z
   refine aS z fun r s4 ⟨u,hr,h4⟩=>?_
   subst hr
   refine aS h4 fun _ s5 ⟨x,H5,I5,r5,y5,st5,fr5⟩=>?_
   have I5':=I5.pinned (stat fr5) (T.obj _ _ st5)
   have q1:=bt _ s5 _ H5 x u _ I5' r5 (step x H5 y5)
   rw [eP,ew,eA,eE] at q1
   refine bm2 q1 (fun _ s6 ⟨σ6,H6,I6,wk,q6⟩=>?_) never
   have q2:=bi _ s6 σ6 H6 _ I6 q6
   rw [eP,ew,eA,eE] at q2
   refine bm2 q2 (fun b s7 ⟨H7,I7,q7⟩=>?_) never
   have again:∀ {H8:Hp}{s8:Shared}{acc':List V},a8 Y ([] ++ nE fp s5.heap) σ6 H8 s8->(∃ m',m' < n/\W (i+1) m' acc' H8)->∃ m,m < n/\∃ i acc H',a8 Y [] (e8 fr σ) H' s8/\tn i s8.heap/\(∀ b ∈ fp,H' b=none)/\W i m acc H':=fun {H8 s8 acc'} I8 n8=>by
    obtain ⟨m',hm,w8⟩:=n8
    refine⟨m',hm,i+1,acc',H8,(I8.unpinned).weak wk.1 wk.2,T.keep _ _ _ st5 fun b hb o e=>(I8.pin (b,o) (bh2 _ (bh2 _ (pG hb e)))).1,fun b hb=>?_,w8⟩
    obtain ⟨o,e,d⟩:=T.obj _ _ st5 b hb
    exact (I8.pin (b,o) (bh2 _ (bh2 _ (pG hb e)))).2.1
   cases b with
   | false=>
    rw [if_neg bg6] at q7 ⊢
    exact again I7 q7
   | true=>
    rw [if_pos rfl] at q7 ⊢
    have q3:=be _ s7 σ6 H7 _ I7 q7
    rw [eP,ew,eA,eE] at q3
    refine bm2 q3 (fun v s8 ⟨y,H8,I8,r8,hD8,hz8,q8⟩=>?_) never
    have q4:=pL _ s8 σ6 H8 (.ref s.heap.objs.size) [y] (.ref s.heap.objs.size) [v] (fun _ H9=>∃ m',m' < n/\W (i+1) m' (acc ++ [y]) H9) I8 rfl (.cons r8 .nil) ⟨_,_,_,rfl,rfl,hD8,hz8,q8⟩
    rw [eP,ew,eA] at q4
    exact bm2 q4 (fun _ s9 ⟨_,H9,I9,_,q9⟩=>again I9 q9) never
 exact codeAny_compStart_list loop (T.self _ 0 _ _ _ st1 loop)
end
section
variable {X : Cx} {scope : Scope} {N : List Str} {fr : List (Option Nat)} {tg iter elt : Expr} {ifs : List Expr} {pos : Pos} {wi : TI} {g : TG} {tc : TT} {te : TE}
theorem a8.drop {pins:List (Addr × Obj)}{σ:St}{H H':Hp}{s s':Shared}{C:Addr}{h':Heap} (I0:a8 X pins σ H s) (hC:s.heap.objs.size<=C) {σ':St} (I:a8 X pins σ' H' s') (hn:H' C=none) (sb:Heap.SameBut C s'.heap h'):a8 X pins σ' H' { s' with heap:=h' }:=by
 refine I.turned (t':=s'.toks) (it:=C) (fun b o hb e=>(sb.2 b hb).trans e) hn (bl7 (bf2 I0.lt hC)) (.inr (bh6 I0.sz hC)) (fun x c e z=>?_) fun p hp z=>?_
 ·obtain ⟨v,q⟩:=I0.cell x c e
  exact absurd (bf2 q.lt (by rw [z]; exact hC)) (bj7 _)
 ·exact absurd (bf2 (bf8 (I0.pin p hp).1) (by rw [z]; exact hC)) (bj7 _)
theorem C5 (hc:X.calm=true) (S:cK X scope N fr) (hi:PI X tg iter wi) (B:pX X scope N tg ifs elt g tc te)
  (hs:∀ x,foldedSetIterable iter X.env x=pure x:=by intro _; rfl):PE X (.ListComp elt [⟨tg,iter,ifs,0⟩] scope pos) (C4 wi fr g tc te):=by
 intro pins s σ H Q I h
 rw [eval_ListComp]
 refine wpAny_comprehension_free (use:=none) rfl hs (pQ (S.cells I)) S.kind S.names (aS (hi pins s σ H _ I h) fun v s1 h1=>aS h1 fun itv s2 h2=>?_)
 obtain ⟨it,fp,tn,J,H2,e,I2,T,st2,f2,hW⟩:=h2
 subst e
 refine pY (Rr:=fun acc C=>compPost (model X.prog X.w) X.A X.xe none (EP X pins σ Q) acc C) hc S (B.at _ _) I2 T st2 f2 hW ?_
 intro D C s' H' m hC hD I' hns hHC q
 exact⟨m,hns,fun h' sb=>⟨.ref D,H',I2.drop hC I' hHC sb,rfl,q⟩⟩
theorem ar4 {i:Nat}{x:Str}{px spos:Pos} (hc:X.calm=true) (S:cK X scope N fr) (hi:PI X tg iter wi) (B:pX X scope N tg ifs elt g tc te) (hN:X.N.Nodup) (hix:X.N[i]? = some x) (hx:X.env.scope.names.lookup x=some .local)
  (hsw:swapsWith (.ListComp elt [⟨tg,iter,ifs,0⟩] scope pos) (some (.Name x px)) spos.line X.env=pure true) (hs:∀ x,foldedSetIterable iter X.env x=pure x:=by intro _; rfl) :
  PS X (.Assign [.Name x px] (.ListComp elt [⟨tg,iter,ifs,0⟩] scope pos) spos) (jT (C4 wi fr g tc te) (cG i)):=by
 intro pins s σ H D I h
 rw [exec_Assign_Name_used _ _ _ _ hsw]
 refine bd9 (wpAny_standAt (bd9 ?_))
 show wpAny _ _ (do let _ <- comprehension (.ListComp elt [⟨tg,iter,ifs,0⟩] scope pos) scope X.env _ (newList []) false (eval iter X.env) (some (assign (.Name x px) X.env))) _ _ s
 refine bd9 (bm2 (wpAny_comprehension_free (Q:=fun _ s'=>SP X pins D .next s') (use:=some (assign (.Name x px) X.env)) rfl hs (pQ (S.cells I)) S.kind S.names (aS (hi pins s σ H _ I h) fun v s1 h1=>aS h1 fun itv s2 h2=>?_))
  (fun _ s' hq=>be4 (be4 hq)) fun _ _ e=>e)
 obtain ⟨it,fp,tn,J,H2,e,I2,T,st2,f2,hW⟩:=h2
 subst e
 refine pY (Rr:=fun acc C=>compPost (model X.prog X.w) X.A X.xe (some (assign (.Name x px) X.env)) (fun _ s'=>SP X pins D .next s') acc C) hc S (B.at _ _) I2 T st2 f2 hW ?_
 intro D' C s' H' m hC hD I' hns hHC q
 refine wpAny_assign_Name (tE I' hN hix (.inl hx) (v:=.ref D') rfl (fun s'' I'' sb=>?_) (.inr hx))
 obtain ⟨a,sb,ha⟩:=sb
 have hCa:C ≠ a:=by
  rcases ha with z | z
  ·rw [z]; exact bl7 (bf2 I2.lt hC)
  ·intro e; subst e
   obtain ⟨v,q⟩:=I2.cell x _ z
   exact absurd (bf2 q.lt hC) (bj7 _)
 exact⟨m,hns.sameBut sb hCa,fun h' sb'=>⟨_,H',I2.drop hC I'' hHC sb',q⟩⟩
variable {gh : Hp → TG} {tch : Hp → TT} {teh : Hp → TE}
def pZ (wi:TI) (fr:List (Option Nat)) (gh:Hp->TG) (tch:Hp->TT) (teh:Hp->TE):TE:=fun σ H Q=>wi σ H fun J H1=>∀ D,H1 D=none->
 ∃ W:Nat->Nat->List V->Hp->Prop,(∃ m,W 0 m [] (upd H1 D (.lst [])))/\nV (gh H1) (tch H1) (teh H1) (e8 fr σ) J D Q W
theorem qA (hc:X.calm=true) (S:cK X scope N fr) (hi:PI X tg iter wi) (B:∀ (s:Shared) (H:Hp),kM X scope N tg ifs elt s H (gh H) (tch H) (teh H))
  (hs:∀ x,foldedSetIterable iter X.env x=pure x:=by intro _; rfl):PE X (.ListComp elt [⟨tg,iter,ifs,0⟩] scope pos) (pZ wi fr gh tch teh):=by
 intro pins s σ H Q I h
 rw [eval_ListComp]
 refine wpAny_comprehension_free (use:=none) rfl hs (pQ (S.cells I)) S.kind S.names (aS (hi pins s σ H _ I h) fun v s1 h1=>aS h1 fun itv s2 h2=>?_)
 obtain ⟨it,fp,tn,J,H2,e,I2,T,st2,f2,hW⟩:=h2
 subst e
 refine pY (Rr:=fun acc C=>compPost (model X.prog X.w) X.A X.xe none (EP X pins σ Q) acc C) hc S (B _ _) I2 T st2 f2 hW ?_
 intro D C s' H' m hC hD I' hns hHC q
 exact⟨m,hns,fun h' sb=>⟨.ref D,H',I2.drop hC I' hHC sb,rfl,q⟩⟩
theorem uK {i:Nat}{x:Str}{px spos:Pos} (hc:X.calm=true) (S:cK X scope N fr) (hi:PI X tg iter wi) (B:∀ (s:Shared) (H:Hp),kM X scope N tg ifs elt s H (gh H) (tch H) (teh H)) (hN:X.N.Nodup) (hix:X.N[i]? = some x) (hx:X.env.scope.names.lookup x=some .local)
  (hsw:swapsWith (.ListComp elt [⟨tg,iter,ifs,0⟩] scope pos) (some (.Name x px)) spos.line X.env=pure true) (hs:∀ x,foldedSetIterable iter X.env x=pure x:=by intro _; rfl) :
  PS X (.Assign [.Name x px] (.ListComp elt [⟨tg,iter,ifs,0⟩] scope pos) spos) (jT (pZ wi fr gh tch teh) (cG i)):=by
 intro pins s σ H D I h
 rw [exec_Assign_Name_used _ _ _ _ hsw]
 refine bd9 (wpAny_standAt (bd9 ?_))
 show wpAny _ _ (do let _ <- comprehension (.ListComp elt [⟨tg,iter,ifs,0⟩] scope pos) scope X.env _ (newList []) false (eval iter X.env) (some (assign (.Name x px) X.env))) _ _ s
 refine bd9 (bm2 (wpAny_comprehension_free (Q:=fun _ s'=>SP X pins D .next s') (use:=some (assign (.Name x px) X.env)) rfl hs (pQ (S.cells I)) S.kind S.names (aS (hi pins s σ H _ I h) fun v s1 h1=>aS h1 fun itv s2 h2=>?_))
  (fun _ s' hq=>be4 (be4 hq)) fun _ _ e=>e)
 obtain ⟨it,fp,tn,J,H2,e,I2,T,st2,f2,hW⟩:=h2
 subst e
 refine pY (Rr:=fun acc C=>compPost (model X.prog X.w) X.A X.xe (some (assign (.Name x px) X.env)) (fun _ s'=>SP X pins D .next s') acc C) hc S (B _ _) I2 T st2 f2 hW ?_
 intro D' C s' H' m hC hD I' hns hHC q
 refine wpAny_assign_Name (tE I' hN hix (.inl hx) (v:=.ref D') rfl (fun s'' I'' sb=>?_) (.inr hx))
 obtain ⟨a,sb,ha⟩:=sb
 have hCa:C ≠ a:=by
  rcases ha with z | z
  ·rw [z]; exact bl7 (bf2 I2.lt hC)
  ·intro e; subst e
   obtain ⟨v,q⟩:=I2.cell x _ z
   exact absurd (bf2 q.lt hC) (bj7 _)
 exact⟨m,hns.sameBut sb hCa,fun h' sb'=>⟨_,H',I2.drop hC I'' hHC sb',q⟩⟩
end
theorem bM {H:Hp}{p:Addr} (h:H p=none) (o:HO):aD H (upd H p o):=fun b u q=>by rw [aI (cF q h)]; exact q
theorem aD.tup {K:PySem.W.Frag}{H H':Hp}{a:Addr}{xs:List V} (e:aD H H') (h:aO K H a xs):aO K H' a xs:=by
 rcases h with (h | ⟨o,h⟩) | h
 ·exact .inl (.inl (e _ _ h))
 ·exact .inl (.inr ⟨o,e _ _ h⟩)
 ·exact .inr h
structure C6 (H:Hp) (J:It) (xs:List V):Prop where
 go:∀ i H',aD H H'->i < xs.length->J.go i H'
 yld:∀ i H' x H2,aD H H'->J.yld i H' x H2->i < xs.length->xs[i]? = some x/\H2=H'
 stop:∀ H',aD H H'->J.stop xs.length H'
theorem ar5 {K:PySem.W.Frag}{H:Hp}{a:Addr}{xs:List V} (h:aO K H a xs):C6 H (jU K a) xs:=
 ⟨fun i H' e hi=>⟨xs,xs[i],e.tup h,by simp [hi]⟩,fun i H' x H2 e y hi=>⟨y.2 xs (e.tup h),y.1⟩,fun H' e=>⟨xs,e.tup h,be6 _⟩⟩
def jB (lo:Int) (n:Nat):List V:=(List.range n).map fun (i:Nat)=>V.int (lo+(i:Int))
theorem uL (lo:Int) (n:Nat):(jB lo n).length=n:=by unfold jB; rw [be5,bo5]
def CW (H1:Hp) (D:Addr) (n:Nat) (Pv:Nat->List V->Hp->Prop):Nat->Nat->List V->Hp->Prop:=fun i m acc H'=>m=n - i/\i<=n/\acc.length<=i/\aD H1 H'/\H' D=some (.lst acc)/\Pv i acc H'
def uM (H1:Hp) (D:Addr) (n:Nat) (Pv:Nat->List V->Hp->Prop) (i:Nat) (acc:List V) (v:V) (H5:Hp):Prop:=H5 D=some (.lst acc)/\acc.length < sizeLine/\∃ m',m' < n - i/\CW H1 D n Pv (i+1) m' (acc ++ [v]) (upd H5 D (.lst (acc ++ [v])))
def C7 (H1:Hp) (D:Addr) (n:Nat) (Pv:Nat->List V->Hp->Prop) (i:Nat) (acc:List V) (H4:Hp):Prop:=∃ m',m' < n - i/\CW H1 D n Pv (i+1) m' acc H4
structure qB (H1:Hp) (D:Addr) (n i:Nat) (acc:List V) (H':Hp):Prop where
 lt:i < n
 few:acc.length<=i
 sz:n<=sizeLine
 same:aD H1 H'
 new:H1 D=none
 acc:H' D=some (.lst acc)
theorem qB.yes {H1:Hp}{D:Addr}{n i:Nat}{acc:List V}{H' H5:Hp}{Pv:Nat->List V->Hp->Prop}{v:V} (c:qB H1 D n i acc H') (s:aD H' H5) (p:Pv (i+1) (acc ++ [v]) (upd H5 D (.lst (acc ++ [v])))):uM H1 D n Pv i acc v H5:=by
 refine⟨s _ _ c.acc,Nat.lt_of_le_of_lt c.few (bf2 c.lt c.sz),_,?_,rfl,c.lt,?_,fun b o e=>?_,bD,p⟩
 ·have:=c.lt; omega
 ·rw [be2,bi8]; exact Nat.succ_le_succ c.few
 ·rw [aI (cF e c.new)]; exact s _ _ (c.same _ _ e)
theorem ar6 {H1:Hp}{J:It}{xs:List V}{g:TG}{tc:TT}{te:TE}{σ0:St}{Q:VK} (O:C6 H1 J xs) (Pv:Nat->List V->Hp->Prop) (hn:xs.length<=sizeLine)
  (h0:∀ D,H1 D=none->Pv 0 [] (upd H1 D (.lst [])))
  (hs:∀ i x acc D H',xs[i]? = some x->qB H1 D xs.length i acc H'->Pv i acc H'->g x σ0 H' fun σ2 H3=>Wk σ0 σ2/\tc σ2 H3 fun b H4=>
   if b=true then te σ2 H4 fun v H5=>uM H1 D xs.length Pv i acc v H5 else C7 H1 D xs.length Pv i acc H4)
  (hd:∀ D acc H',H1 D=none->aD H1 H'->H' D=some (.lst acc)->acc.length<=xs.length->Pv xs.length acc H'->Q (.ref D) H') :
  ∀ D,H1 D=none->∃ W:Nat->Nat->List V->Hp->Prop,(∃ m,W 0 m [] (upd H1 D (.lst [])))/\nV g tc te σ0 J D Q W:=by
 intro D hD
 refine⟨CW H1 D xs.length Pv,⟨xs.length,rfl,bh8 _,be6 _,bM hD _,bD,h0 D hD⟩,?_⟩
 rintro i m acc H' ⟨rfl,hi,ha,sm,hDa,p⟩
 refine⟨hDa,?_⟩
 by_cases hlt:i < xs.length
 ·refine .inr ⟨O.go i H' sm hlt,fun x H2 y=>?_⟩
  obtain ⟨hx,e⟩:=O.yld i H' x H2 sm y hlt
  subst e
  exact hs i x acc D H2 hx ⟨hlt,ha,hn,sm,hD,hDa⟩ p
 ·have e:i=xs.length:=by omega
  subst e
  exact .inl ⟨O.stop H' sm,hd D acc H' hD sm hDa ha p⟩
end L2
namespace Srt
open PySem PySem.W PyProof.Rows
abbrev G (p:Array Nat) (i:Nat):Nat:=p.getD i 0
theorem nW {p q:Array Nat}{i j:Nat} (h:p[i]? = q[j]?):G p i=G q j:=by
 unfold G; rw [bn8,bn8,h]
theorem uN {p:Array Nat}{i j:Nat} (hj:j<=p.size) (k:Nat):G (kas_rev p i j) k=if i<=k/\k < j then G p (i+j - 1 - k) else G p k:=by
 have e:=getElem?_mirror_all (i:=i) hj k
 unfold kas_rev
 by_cases h1:i<=k/\k < j
 ·rw [if_pos h1] at e ⊢; exact nW e
 ·rw [if_neg h1] at e ⊢; exact nW e
theorem ar7 {p:Array Nat}{src d:Nat} (hs:src < p.size) (hd:d<=src) (k:Nat):G (bubble p src d) k=if k=src - d then G p src else if src - d < k/\k<=src then G p (k - 1) else G p k:=by
 have e:=getElem?_bubble hs d hd k
 by_cases h1:k=src - d
 ·rw [if_pos h1] at e ⊢; exact nW e
 ·rw [if_neg h1] at e ⊢
  by_cases h2:src - d < k/\k<=src
  ·rw [if_pos h2] at e ⊢; exact nW e
  ·rw [if_neg h2] at e ⊢; exact nW e
def PP (n:Nat) (p:Array Nat):Prop:=p.toList.Perm (List.range n)
theorem PP.size {n:Nat}{p:Array Nat} (h:PP n p):p.size=n:=by
 have:=h.length_eq
 rw [bo5] at this
 simpa using this
theorem PP.lt {n:Nat}{p:Array Nat} (h:PP n p) {k:Nat} (hk:k < n):G p k < n:=by
 have hs:=h.size
 have hk':k < p.toList.length:=by simpa [hs] using hk
 have e:G p k=p.toList[k]:=by
  unfold G; rw [bn8]; simp [hs,hk]
 have m:p.toList[k] ∈ p.toList:=bp2 hk'
 rw [e]
 exact br2.mp (h.mem_iff.mp m)
theorem PP.of {n:Nat}{p q:Array Nat} (h:PP n p) (e:q.Perm p):PP n q:=(Array.perm_iff_toList_perm.mp e).trans h
theorem PP.rev {n:Nat}{p:Array Nat} (h:PP n p) (i j:Nat):PP n (kas_rev p i j):=h.of (mirror_perm _ _ _ _)
theorem PP.bub {n:Nat}{p:Array Nat} (h:PP n p) (i j:Nat):PP n (bubble p i j):=h.of (bubble_perm _ _ _)
structure uO (c:Nat->Nat->Bool):Prop where
 asym:∀ {i j},c i j=true->c j i=false
 ntr:∀ {i j k},c i j=false->c j k=false->c i k=false
section
variable {c : Nat → Nat → Bool} (O : uO c)
def Le (c:Nat->Nat->Bool) (i j:Nat):Prop:=c j i=false
include O
theorem le_refl (i:Nat):Le c i i:=by
 unfold Le
 cases h:c i i with
 | false=>rfl
 | true=>have:=O.asym h; rw [h] at this; exact this
theorem le_trans {i j k:Nat} (h1:Le c i j) (h2:Le c j k):Le c i k:=O.ntr h2 h1
theorem qD {i j:Nat} (h:c i j=true):Le c i j:=O.asym h
omit O
def fO (c:Nat->Nat->Bool) (p:Array Nat) (n:Nat):Prop:=∀ a b,a<=b->b < n->Le c (G p a) (G p b)
def jX (c:Nat->Nat->Bool) (p:Array Nat) (n:Nat):Prop:=∀ a b,a<=b->b < n->Le c (G p b) (G p a)
include O
theorem ar8 {p:Array Nat}{n:Nat} (h:fO c p n) (h1:1<=n) (hl:Le c (G p (n - 1)) (G p n)):fO c p (n+1):=fun a b hab hb=>by
 by_cases hbn:b < n
 ·exact h a b hab hbn
 ·have e:b=n:=by omega
  subst e
  by_cases han:a=b
  ·subst han; exact le_refl O _
  ·exact le_trans O (h a (b - 1) (by omega) (by omega)) hl
theorem qE {p:Array Nat}{n:Nat} (h:jX c p n) (h1:1<=n) (hl:Le c (G p n) (G p (n - 1))):jX c p (n+1):=fun a b hab hb=>by
 by_cases hbn:b < n
 ·exact h a b hab hbn
 ·have e:b=n:=by omega
  subst e
  by_cases han:a=b
  ·subst han; exact le_refl O _
  ·exact le_trans O hl (h a (b - 1) (by omega) (by omega))
omit O
def cD {α:Type} (n:Nat) (c:Nat->Nat->Bool) (R:α->Prop):KasT α->Prop
 | .ret a=>R a
 | .ask i j k=>i < n/\j < n/\cD n c R (k (c i j))
theorem cD.mono {α:Type}{n:Nat}{R R':α->Prop} (h:∀ a,R a->R' a):∀ (t:KasT α),cD n c R t->cD n c R' t
 | .ret a,q=>h a q
 | .ask i j k,q=>⟨q.1,q.2.1,cD.mono h (k (c i j)) q.2.2⟩
theorem cD.bind {α β:Type}{n:Nat}{R:α->Prop}{R':β->Prop}{f:α->KasT β} (h:∀ a,R a->cD n c R' (f a)):∀ (t:KasT α),cD n c R t->cD n c R' (t.bind f)
 | .ret a,q=>h a q
 | .ask i j k,q=>⟨q.1,q.2.1,cD.bind h (k (c i j)) q.2.2⟩
theorem cD.run {α:Type}{n:Nat}{R:α->Prop}{I:Shared->Prop}{cmp:Nat->Nat->(Bool->Shared->Prop)->Shared->Prop}{Q:α->Shared->Prop}
  (hc:∀ i j C s,i < n->j < n->I s->(∀ s',I s'->C (c i j) s')->cmp i j C s) (hQ:∀ a s,R a->I s->Q a s):∀ (t:KasT α) (s:Shared),I s->cD n c R t->t.kasWp cmp Q s
 | .ret a,s,hI,q=>hQ a s q hI
 | .ask i j k,s,hI,q=>hc i j _ s q.1 q.2.1 hI fun s' hI'=>cD.run hc hQ (k (c i j)) s' hI' q.2.2
include O
theorem uP {n:Nat}{p:Array Nat} (hp:PP n p):∀ (f m:Nat),1<=m->m+f<=n->fO c p m->cD n c (fun r=>m<=r/\r<=m+f/\fO c p r/\(r < m+f->c (G p r) (G p (r - 1))=true)) (kas_asc p f m)
 | 0,m,_,_,h=>⟨be6 _,be6 _,h,fun z=>absurd z (bj7 _)⟩
 | f+1,m,h1,h2,h=>by
  refine⟨hp.lt (by omega),hp.lt (by omega),?_⟩
  by_cases hc:c (p.getD m 0) (p.getD (m - 1) 0)=true
  ·simp only [hc,if_true]
   exact⟨be6 _,by omega,h,fun _=>hc⟩
  ·have hc':c (p.getD m 0) (p.getD (m - 1) 0)=false:=bo3.mpr hc
   simp only [hc',bg7,bk8]
   refine cD.mono (fun r q=>⟨by omega,by omega,q.2.2.1,fun z=>q.2.2.2 (by omega)⟩) _ (uP hp f (m+1) (by omega) (by omega) (ar8 O h h1 hc'))
omit O
def kN (c:Nat->Nat->Bool) (i j:Nat):Prop:=Le c i j/\Le c j i
include O
theorem uQ {p q:Array Nat}{n:Nat} (h:jX c p n) (e:∀ k,k < n->kN c (G q k) (G p k)):jX c q n:=fun a b hab hb=>
 le_trans O (e b hb).1 (le_trans O (h a b hab hb) (e a (by omega)).2)
theorem C8 {n m i:Nat}{p:Array Nat} (hp:PP n p) (hm:m<=n) (h:∀ a,i<=a->a < m->kN c (G p a) (G p (m - 1))):∀ k,kN c (G (kas_rev p i m) k) (G p k):=fun k=>by
 rw [uN (by rw [hp.size]; exact hm)]
 by_cases hk:i<=k/\k < m
 ·rw [if_pos hk]
  have h1:=h (i+m - 1 - k) (by omega) (by omega)
  have h2:=h k hk.1 hk.2
  exact⟨le_trans O h1.1 h2.2,le_trans O h2.1 h1.2⟩
 ·rw [if_neg hk]; exact⟨le_refl O _,le_refl O _⟩
omit O
def DI (c:Nat->Nat->Bool) (n:Nat) (p:Array Nat) (m q:Nat):Prop:=PP n p/\1<=m/\m<=n/\jX c p m/\q+1<=m/\∀ a,m - (q+1)<=a->a < m->kN c (G p a) (G p (m - 1))
include O
theorem C9 {n m q:Nat}{p:Array Nat} (h:DI c n p m q):PP n (kas_rev p (m - (q+1)) m)/\∀ k,kN c (G (kas_rev p (m - (q+1)) m) k) (G p k):=
 ⟨h.1.rev _ _,C8 O h.1 h.2.2.1 h.2.2.2.2.2⟩
theorem qF {n:Nat}:∀ (f:Nat) (p:Array Nat) (m q:Nat),m+f<=n->DI c n p m q->cD n c (fun r=>DI c n r.1 r.2.1 r.2.2) (kas_desc f p m q)
 | 0,p,m,q,_,h=>h
 | f+1,p,m,q,hf,h=>by
  have hp:=h.1
  have h1:=h.2.1
  refine⟨hp.lt (by omega),hp.lt (by omega),?_⟩
  by_cases hc:c (p.getD m 0) (p.getD (m - 1) 0)=true
  ·simp only [hc,if_true]
   have dn:jX c p (m+1):=qE O h.2.2.2.1 h1 (qD O hc)
   by_cases hq:q > 0
   ·simp only [hq,if_true]
    obtain ⟨pr,er⟩:=C9 O h
    refine qF f _ (m+1) 0 (by omega) ⟨pr,by omega,by omega,uQ O dn fun k _=>er k,by omega,fun a h1 h2=>?_⟩
    have e:a=m+1 - 1:=by omega
    rw [e]; exact⟨le_refl O _,le_refl O _⟩
   ·simp only [hq,bk8]
    refine qF f p (m+1) 0 (by omega) ⟨hp,by omega,by omega,dn,by omega,fun a h1 h2=>?_⟩
    have e:a=m+1 - 1:=by omega
    rw [e]; exact⟨le_refl O _,le_refl O _⟩
  ·have hc':c (p.getD m 0) (p.getD (m - 1) 0)=false:=bo3.mpr hc
   simp only [hc',bg7,bk8]
   refine⟨hp.lt (by omega),hp.lt (by omega),?_⟩
   by_cases hd:c (p.getD (m - 1) 0) (p.getD m 0)=true
   ·simp only [hd,if_true]
    exact h
   ·have hd':c (p.getD (m - 1) 0) (p.getD m 0)=false:=bo3.mpr hd
    simp only [hd',bg7,bk8]
    have ee:kN c (G p (m - 1)) (G p m):=⟨hc',hd'⟩
    refine qF f p (m+1) (q+1) (by omega) ⟨hp,by omega,by omega,qE O h.2.2.2.1 h1 ee.2,by have:=h.2.2.2.2.1; omega,fun a h1 h2=>?_⟩
    rw [Nat.add_sub_cancel]
    by_cases ha:a=m
    ·rw [ha]; exact⟨le_refl O _,le_refl O _⟩
    ·have z:=h.2.2.2.2.2 a (by omega) (by omega)
     exact⟨le_trans O z.1 ee.1,le_trans O ee.2 z.2⟩
omit O
def CI (c:Nat->Nat->Bool) (n:Nat) (r:Nat × Array Nat):Prop:=PP n r.2/\1<=r.1/\r.1<=n/\fO c r.2 r.1
include O
theorem E1 {n m:Nat}{p:Array Nat} (hp:PP n p) (h1:1<=m) (hm:m<=n) (h:jX c p m):cD n c (CI c n) (kas_tail3 m n p):=by
 have ha:fO c (kas_rev p 0 m) m:=fun a b hab hb=>by
  rw [uN (by rw [hp.size]; exact hm),uN (by rw [hp.size]; exact hm),if_pos ⟨bh8 _,by omega⟩,if_pos ⟨bh8 _,hb⟩]
  exact h _ _ (by omega) (by omega)
 refine cD.bind (R:=fun r=>m<=r/\r<=m+(n - m)/\fO c (kas_rev p 0 m) r/\_) (fun r q=>?_) _ (uP O (hp.rev 0 m) (n - m) m h1 (by omega) ha)
 exact⟨hp.rev _ _,by have:=q.1; omega,by have:=q.2.1; omega,q.2.2.1⟩
theorem E2 {n m:Nat}{p:Array Nat} (hp:PP n p) (h1:1<=m) (hm:m+1<=n) (h:jX c p (m+1)):cD n c (CI c n) (kas_descPart m n p):=by
 refine cD.bind (R:=fun r=>DI c n r.1 r.2.1 r.2.2) (fun r q=>?_) _ (qF O (n - (m+1)) p (m+1) 0 (by omega) ⟨hp,by omega,hm,h,by omega,fun a h1 h2=>?_⟩)
 ·by_cases hq:r.2.2 > 0
  ·rw [if_pos hq]
   obtain ⟨pr,er⟩:=C9 O q
   exact E1 O pr q.2.1 q.2.2.1 (uQ O q.2.2.2.1 fun k _=>er k)
  ·rw [if_neg hq]
   exact E1 O q.1 q.2.1 q.2.2.1 q.2.2.2.1
 ·have e:a=m+1 - 1:=by omega
  rw [e]; exact⟨le_refl O _,le_refl O _⟩
theorem ar9 {n:Nat}{p:Array Nat} (hp:PP n p) (hn:1<=n):cD n c (CI c n) (kas_count n p):=by
 have a1:fO c p 1:=fun a b hab hb=>by
  have e1:a=0:=by omega
  have e2:b=0:=by omega
  rw [e1,e2]; exact le_refl O _
 refine cD.bind (R:=fun r=>1<=r/\r<=1+(n - 1)/\fO c p r/\(r < 1+(n - 1)->c (G p r) (G p (r - 1))=true)) (fun m q=>?_) _ (uP O hp (n - 1) 1 (be6 _) (by omega) a1)
 obtain ⟨q1,q2,q3,q4⟩:=q
 by_cases hm:(m == n)=true
 ·rw [if_pos hm]
  exact⟨hp,q1,by omega,q3⟩
 ·rw [if_neg hm]
  have hne:m ≠ n:=by simpa using hm
  have hc:=q4 (by omega)
  by_cases h1:m > 1
  ·rw [if_pos h1]
   refine⟨hp.lt (by omega),hp.lt (by omega),?_⟩
   by_cases hd:c (p.getD 0 0) (p.getD (m - 1) 0)=true
   ·simp only [hd,if_true]
    exact⟨hp,q1,by omega,q3⟩
   ·have hd':c (p.getD 0 0) (p.getD (m - 1) 0)=false:=bo3.mpr hd
    simp only [hd',bg7,bk8]
    have eq:∀ a,0<=a->a < m->kN c (G p a) (G p (m - 1)):=fun a _ ha=>⟨q3 a (m - 1) (by omega) (by omega),le_trans O hd' (q3 0 a (bh8 _) ha)⟩
    have er:=C8 O hp (by omega:m<=n) eq
    refine E2 O (hp.rev 0 m) q1 (by omega) (uQ O (p:=p) ?_ fun k _=>er k)
    refine qE O (fun a b hab hb=>?_) q1 (qD O hc)
    exact le_trans O (eq b (bh8 _) hb).1 (eq a (bh8 _) (by omega)).2
  ·rw [if_neg h1]
   have e:m=1:=by omega
   subst e
   refine E2 O hp (be6 _) (by omega) (qE O (fun a b hab hb=>?_) (be6 _) (qD O hc))
   have e1:a=0:=by omega
   have e2:b=0:=by omega
   rw [e1,e2]; exact le_refl O _
theorem uR {n k:Nat}{p:Array Nat} (hp:PP n p) (hk:k < n) (ha:fO c p k):∀ (f l r:Nat),l<=r->r<=k->r - l<=f->(∀ a,a < l->Le c (G p a) (G p k))->(∀ a,r<=a->a < k->Le c (G p k) (G p a))->
  cD n c (fun l=>l<=k/\(∀ a,a < l->Le c (G p a) (G p k))/\∀ a,l<=a->a < k->Le c (G p k) (G p a)) (kas_place p k f l r)
 | 0,l,r,h1,h2,h3,hl,hr=>⟨by omega,hl,fun a h4 h5=>hr a (by omega) h5⟩
 | f+1,l,r,h1,h2,h3,hl,hr=>by
  unfold kas_place
  by_cases hlr:l >= r
  ·rw [if_pos hlr]
   exact⟨by omega,hl,fun a h4 h5=>hr a (by omega) h5⟩
  ·rw [if_neg hlr]
   refine⟨hp.lt hk,hp.lt (by omega),?_⟩
   by_cases hc:c (p.getD k 0) (p.getD ((l+r) / 2) 0)=true
   ·simp only [hc,if_true]
    exact uR hp hk ha f l ((l+r) / 2) (by omega) (by omega) (by omega) hl fun a h4 h5=>le_trans O (qD O hc) (ha _ _ h4 h5)
   ·have hc':c (p.getD k 0) (p.getD ((l+r) / 2) 0)=false:=bo3.mpr hc
    simp only [hc',bg7,bk8]
    exact uR hp hk ha f ((l+r) / 2+1) r (by omega) h2 (by omega) (fun a h4=>le_trans O (ha a ((l+r) / 2) (by omega) (by omega)) hc') hr
theorem E3 {n:Nat}:∀ (f:Nat) (p:Array Nat) (k:Nat),PP n p->k+f<=n->fO c p k->cD n c (fun q=>PP n q/\fO c q (k+f)) (kas_bin f p k)
 | 0,p,k,hp,_,h=>⟨hp,h⟩
 | f+1,p,k,hp,hk,h=>by
  refine cD.bind (R:=fun l=>l<=k/\(∀ a,a < l->Le c (G p a) (G p k))/\∀ a,l<=a->a < k->Le c (G p k) (G p a)) (fun l q=>?_) _ (uR O hp (by omega) h k 0 k (bh8 _) (be6 _) (by omega) (fun a z=>absurd z (Nat.not_lt_zero _)) fun a h1 h2=>absurd h2 (by omega))
  obtain ⟨q1,q2,q3⟩:=q
  have e:∀ a,G (bubble p k (k - l)) a=if a=l then G p k else if l < a/\a<=k then G p (a - 1) else G p a:=fun a=>by
   rw [ar7 (by rw [hp.size]; omega) (by omega),show k - (k - l)=l by omega]
  refine cD.mono (fun r z=>⟨z.1,by rw [show k+(f+1)=k+1+f by omega]; exact z.2⟩) _ (E3 f _ (k+1) (hp.bub _ _) (by omega) fun a b hab hb=>?_)
  rw [e,e]
  by_cases ha:a=l
  ·rw [if_pos ha]
   by_cases hb':b=l
   ·rw [if_pos hb']; exact le_refl O _
   ·rw [if_neg hb',if_pos (by omega)]; exact q3 _ (by omega) (by omega)
  ·rw [if_neg ha]
   by_cases ha2:l < a/\a<=k
   ·rw [if_pos ha2,if_neg (by omega),if_pos (by omega)]
    exact h _ _ (by omega) (by omega)
   ·rw [if_neg ha2]
    by_cases hb':b=l
    ·rw [if_pos hb']; exact q2 a (by omega)
    ·rw [if_neg hb']
     by_cases hb2:l < b/\b<=k
     ·rw [if_pos hb2]; exact h _ _ (by omega) (by omega)
     ·rw [if_neg hb2]; exact h _ _ hab (by omega)
theorem as0 {n:Nat} (hn:1<=n):cD n c (fun q=>PP n q/\fO c q n) (kas_sort n):=by
 have hp:PP n (List.toArray (List.range n)):=by unfold PP; simp
 refine cD.bind (R:=CI c n) (fun r q=>?_) _ (ar9 O hp hn)
 obtain ⟨q1,q2,q3,q4⟩:=q
 by_cases h:r.1 < n
 ·rw [if_pos h]
  have e:max r.1 1=r.1:=by omega
  rw [e]
  exact cD.mono (fun p z=>⟨z.1,by rw [show r.1+(n - r.1)=n by omega] at z; exact z.2⟩) _ (E3 O (n - r.1) r.2 r.1 q1 (by omega) q4)
 ·rw [if_neg h]
  have e:r.1=n:=by omega
  exact⟨q1,by rw [e] at q4; exact q4⟩
end
end Srt
namespace L2
open PySem PySem.Spec PyProof.Rows
theorem bR.there {P:Program}{w:World}{H:Hp}{h:Heap}{a:Addr}{o:HO} (x:bR P w H h a o):∃ u,h.get? a=some u:=by
 cases o with
 | lst xs=>obtain ⟨_,_,_,_,e⟩:=x; exact⟨_,e⟩
 | tup xs=>obtain ⟨_,_,_,⟨o,e,_⟩,_⟩:=x; exact⟨_,e⟩
 | dK kvs=>obtain ⟨_,_,_,_,o,_,_,e,_⟩:=x; exact⟨_,e⟩
 | dT kvs=>obtain ⟨_,_,_,_,o,_,_,e,_⟩:=x; exact⟨_,e⟩
 | set S n=>obtain ⟨o,_,_,_,e,_⟩:=x; exact⟨_,e⟩
 | ins C dx fs=>obtain ⟨_,_,_,e,_⟩:=x; exact⟨_,e⟩
 | own y=>exact x
 | xd fs=>obtain ⟨_,⟨_,_,_,e,_⟩,_⟩:=x; exact⟨_,e⟩
 | rng lo hi=>obtain ⟨_,_,_,e⟩:=x; exact⟨_,e⟩
 | frz ob u=>obtain ⟨e,_⟩:=x; exact⟨_,e⟩
 | tbl ps=>exact⟨_,(show h.get? a=some _ from x)⟩
 | met f y=>exact⟨_,(show h.get? a=some _ from x)⟩
 | ext φ=>obtain ⟨_,z,_⟩:=x; exact z
section
variable {X : Cx} {pins : List (Addr × Obj)} {σ : St} {H : Hp} {s : Shared} {h' : Heap} {a : Addr} {o : HO} {t' : Nat}
theorem a8.laidF (I:a8 X pins σ H s) (hn:s.heap.get? a=none) (k:∀ b u,b ≠ X.env.locals->s.heap.get? b=some u->h'.get? b=some u) (ns:∀ m,s.heap.Ns X.env.locals m->h'.Ns X.env.locals m)
  (new:bR X.prog X.w (upd H a o) h' a o):H a=none/\a8 X pins σ (upd H a o) { s with heap:=h',toks:=t' }:=by
 have hHn:H a=none:=by
  cases q:H a with
  | none=>rfl
  | some u=>obtain ⟨z,e⟩:=(I.hok a u q).there; rw [hn] at e; cases e
 have ne:∀ b u,s.heap.get? b=some u->b ≠ a:=fun b u e z=>by rw [z,hn] at e; cases e
 have hL:=I.free
 refine⟨hHn,I.step (g':=s.gens) (d':=s.drawn) (ch:=[]) (fun _ z=>nomatch z) (fun b o' h1 _ _ e _=>k b o' h1 e) (fun b o' h1 _ _ e _=>⟨o'.slots,k b o' h1 e⟩) (fun b o' _ e n=>by rw [aI (ne b o' e)]; exact n) (fun b o' _ e=>?_)
  (fun b xs q=>by rw [aI (cF q hHn)]; exact q) (fun b u xs q=>by rw [aI (cF q hHn)]; exact q) (fun b ps q=>⟨#[],by rw [aI (cF q hHn),q]; simp⟩) ns (fun b u q=>?_) I.bare⟩
 ·by_cases hb:b=X.env.locals
  ·obtain ⟨m,hm,_⟩:=I.loc
   obtain ⟨o2,_,_,e2,_⟩:=ns m hm
   exact⟨o2,by rw [hb]; exact e2⟩
  ·exact⟨o',k b o' hb e⟩
 ·by_cases hb:b=a
  ·subst hb; rw [bD] at q; cases q; exact new
  ·rw [aI hb] at q
   refine (I.hok b u q).stay (fun c v hc e=>k c v ?_ e) (fun c e=>by rw [aI (cF e hHn)]; exact e) fun c xs e=>by rw [aI (cF e hHn)]; exact e
   rcases hc with z | z
   ·rw [z]; intro y; rw [y,hL] at q; cases q
   ·intro y; rw [y,hL] at z; cases z
theorem a8.newsAll (I:a8 X pins σ H s) {news:List (Addr × Obj)}{m:Str->Option Value} (hs:∀ p ∈ mZ X.base s.heap X.env.locals,p ∈ news) (F:Fr X.base X.env.locals h' m) (N:News X.base X.env.locals h' news) :
  ∀ b o,b ≠ X.env.locals->s.heap.get? b=some o->h'.get? b=some o:=fun b o h1 e=>by
 cases q:X.base.get? b with
 | some u=>
  have:=I.bk b u q
  rw [e] at this; cases this
  exact F.keep b _ q
 | none=>exact (N (b,o) (hs _ (y3 h1 q e))).1
end
theorem as1 {α:Type}{d:α} (l:List α) {p:List Nat} (h:p.Perm (List.range l.length)):(p.map fun i=>l.getD i d).Perm l:=by
 have e:(List.range l.length).map (fun i=>l.getD i d)=l:=by
  apply List.ext_getElem
  ·simp
  ·intro i h1 h2
   simp at h1
   simp [h1]
 have:=h.map fun i=>l.getD i d
 rw [e] at this
 exact this
theorem uS:∀ {xs:List V}{us:List Value} (i:Nat),i < xs.length->aQ xs us->b4 (xs.getD i .non) (us.getD i Value.none)
 | _,_,_,h,.nil=>by simp at h
 | _,_,0,_,.cons r _=>by simpa using r
 | _,_,i+1,h,.cons _ t=>by
  have:=uS i (by simpa using h) t
  simpa using this
theorem E4 {xs:List V}{us:List Value} (r:aQ xs us):∀ {p:List Nat},(∀ i ∈ p,i < xs.length)->aQ (p.map fun i=>xs.getD i .non) (p.map fun i=>us.getD i Value.none)
 | [],_=>.nil
 | i :: p,h=>.cons (uS i (h i bf5) r) (E4 r fun j hj=>h j (bg0 _ hj))
theorem uT {α:Type}:∀ l:List α,(l.zip l).map (·.2)=l
 | []=>rfl
 | a :: l=>by
  show a :: ((l.zip l).map (·.2))=a :: l
  rw [uT l]
theorem as2 {prog:Program}{w:World}{A:Around}{E:Value->Shared->Prop}{s:Shared}{a:Addr}{vs:List Value}{n:Nat}{P:PySem.Fin->Shared->Prop} (e:s.heap.get? a=some (seqObj "list" vs.toArray n)) (few:vs.length < 2)
  (q:P (.done (.ret .none)) { s with heap:=sortedHeap s.heap a vs vs.toArray }):wpAny (model prog w) A (Builtin.«list.sort» ⟨[.ref a],[]⟩) P E s:=by
 have big:vs.length<=sizeLine:=bh6 (bj6 few) (by decide)
 have la:=bf8 e
 have c:vs.toArray.size < 2:=by simpa using few
 have same:(arrOf (SortSt.mk' general' (vs.toArray.zip vs.toArray) #[] 7 none)).map (·.2)=vs.toArray:=by
  change (vs.toArray.zip vs.toArray).map (·.2)=vs.toArray
  apply Array.ext'
  simpa using uT vs
 obtain ⟨k,ek⟩:∃ k,(s.heap.update a (Obj.mapSeq fun _=>#[])).get? a=some (seqObj "list" #[] k):=⟨_,get?_update_seq e fun _=>#[]⟩
 have there:(((s.heap.update a (Obj.mapSeq fun _=>#[])).push (seqObj "tuple" vs.toArray 0)).push (seqObj "list" #[] 0)).get? a=some (seqObj "list" #[] k):=
  be1 _ (be1 _ ek)
 rw [list_sort_plain]
 apply bd9
 apply listItems_at e rfl
 apply bd9
 refine listUpdate_at e rfl ?_ (by simpa using big) (bh8 _)
 apply bd9
 apply seqEpoch_at ek rfl
 apply bd9
 refine wpAny_newTuple ?_ big
 apply bd9
 refine wpAny_newList ?_ (bh8 _)
 apply bm0
 simp only [c,if_true,StateT.run_pure]
 apply bd9
 apply be4
 apply bd9
 apply be4
 apply bd9
 apply seqEpoch_at there rfl
 apply bd9
 refine listUpdate_at there rfl ?_ (bh8 _) (by rw [same,be0]; exact Nat.le_succ_of_le big)
 rw [same]
 simp only [bne_self_eq_false,bg7,bk8]
 exact be4 q
theorem as3 {prog:Program}{w:World}{A:Around}{E:Value->Shared->Prop}{s:Shared}{l:Addr}{vs:List Value}{Q:Value->Shared->Prop} (hl:s.heap.IsList l vs.toArray) (few:vs.length < 2)
  (q:Q (.ref (s.heap.objs.size+1)) { s with heap:=sortedAll s.heap vs vs.toArray }):wpAny (model prog w) A (call (.builtin "sorted") [.ref l]) Q E s:=by
 have big:vs.length<=sizeLine:=bh6 (bj6 few) (by decide)
 apply Calls.call_function_entry kind_sorted plain_sorted entry_sorted (args_sorted1 _)
 simp only [Builtin.«sorted»]
 apply bd9 (m:=checkCount "sorted" 1 1 _)
 apply be4
 apply bd9
 refine collect_list hl ?_ big
 apply bd9
 refine wpAny_newList ?_ big
 have one:((s.heap.push (seqObj "list" #[] 0)).update s.heap.objs.size (Obj.mapSeq (· ++ vs.toArray))).objs.size=s.heap.objs.size+1:=(Heap.size_update _ _ _).trans (size_push' _ _)
 have at1:(((s.heap.push (seqObj "list" #[] 0)).update s.heap.objs.size (Obj.mapSeq (· ++ vs.toArray))).push (seqObj "list" vs.toArray 0)).get? (s.heap.objs.size+1)=some (seqObj "list" vs.toArray 0):=one ▸ bf6 _ rfl
 change wpAny _ _ _ _ _ { s with heap:=((s.heap.push (seqObj "list" #[] 0)).update s.heap.objs.size (Obj.mapSeq (· ++ vs.toArray))).push (seqObj "list" vs.toArray 0) }
 rw [one]
 apply bd9
 apply bm0
 refine bk5 slot_list_sort ⟨_,at1,rfl⟩ entry_list_sort ?_ (args_list_sort _)
 refine as2 at1 few ⟨_,rfl,?_⟩
 exact be4 ⟨_,rfl,q⟩
def E5 (K:PySem.W.Frag):List V->Hp->VK->Prop:=fun xs H Q=>∃ a ns,xs = [.ref a]/\aU K H a (ns.map V.int)/\ns.length < 64/\∀ l (ms:List Int),H l=none->ms.Perm ns->ms.Pairwise (· <= ·)->Q (.ref l) (upd H l (.lst (ms.map V.int)))
theorem E6 {X:Cx}:cU X (.builtin "sorted") (E5 X.K):=by
 intro pins s σ H xs us Q I r h
 obtain ⟨a,ns,rfl,hs,h64,q⟩:=h
 obtain ⟨u,rfl,ru⟩:=fX r
 cases ru
 obtain ⟨its,rv,p,hz⟩:=I.list hs
 have hl:=rv.length
 rw [be5] at hl
 refine sorted_ints p.isList (kJ rv) (by omega) fun out ns' a1 a2 a3=>?_
 obtain ⟨e,he⟩:=sortedAll_at s.heap its out
 have hn:s.heap.objs.size<=s.heap.objs.size+1:=Nat.le_succ _
 have hlen:ns'.length=ns.length:=a2.length_eq
 refine⟨.ref (s.heap.objs.size+1),upd H (s.heap.objs.size+1) (.lst (ns'.map V.int)),I.laid (t':=s.toks) (fun _ _=>sortedAll_old) hn ⟨?_,out.toList,e,nT a1,by simpa using he⟩,rfl,q _ ns' (I.hok.fresh hn) a2 a3⟩
 rw [be5,hlen]
 exact bj6 (nU (by omega))
theorem E7:∀ {a b:List Int},HT.fN a b=true->HT.fN b a=false
 | [],[],h=>by cases h
 | [],_ :: _,_=>rfl
 | _ :: _,[],h=>by cases h
 | x :: xs,y :: ys,h=>by
  rw [HT.nL] at h ⊢
  by_cases e:x=y
  ·rw [if_pos e] at h; rw [if_pos e.symm]; exact E7 h
  ·rw [if_neg e] at h; rw [if_neg (Ne.symm e)]
   have:=bq3 h
   exact be8 (by omega)
theorem E8:∀ {a b c:List Int},HT.fN a b=false->HT.fN b c=false->HT.fN a c=false
 | [],[],c,_,h=>h
 | [],_ :: _,_,h,_=>by cases h
 | _ :: _,[],[],_,_=>rfl
 | _ :: _,[],_ :: _,_,h=>by cases h
 | _ :: _,_ :: _,[],_,_=>rfl
 | x :: xs,y :: ys,z :: zs,h1,h2=>by
  rw [HT.nL] at h1 h2 ⊢
  by_cases e1:x=y
  ·rw [if_pos e1] at h1
   by_cases e2:y=z
   ·rw [if_pos e2] at h2; rw [if_pos (e1.trans e2)]; exact E8 h1 h2
   ·rw [if_neg e2] at h2; rw [if_neg (by rw [e1]; exact e2)]; rw [e1]; exact h2
  ·rw [if_neg e1] at h1
   have k1:=bp3 h1
   by_cases e2:y=z
   ·rw [<- e2,if_neg e1]; exact h1
   ·rw [if_neg e2] at h2
    have k2:=bp3 h2
    rw [if_neg (by omega)]
    exact be8 (by omega)
def E9 (H:Hp):V->List Int
 | .ref b=>match H b with
  | some (.tup xs)=>xs.map fun x=>match x with
   | .int i=>i
   | _=>0
  | _=>[]
 | _=>[]
section
variable {prog : Program} {w : World} {A : Around} {s : Shared} {Q : Bool → Shared → Prop}
theorem F0:∀ {us ws:List Value}{xs ys:List Int} (i:Nat),IntsAre us xs->IntsAre ws ys->Q (HT.fN xs ys) s->PySem.W.KatLex prog w A true (decide (us.length < ws.length)) Q (us.zip ws) i s
 | _,_,_,_,_,.nil,.nil,h=>h
 | _,_,_,_,_,.nil,.cons _ _ _,h=>h
 | _,_,_,_,_,.cons _ _ _,.nil,h=>h
 | _,_,_,_,i,.cons (vs:=us) x t hx,.cons (vs:=ws) y u hy,h=>by
  refine PySem.W.kat_cons (wpAny_eqBool_int ?_)
  rw [HT.nL] at h
  by_cases e:x=y
  ·rw [if_pos e] at h
   have eb:(x == y)=true:=by simpa using e
   rw [eb]
   refine PySem.W.kat_yes ?_
   have e2:decide ((Value.int x t :: us).length < (Value.int y u :: ws).length)=decide (us.length < ws.length):=by simp
   rw [e2]
   exact F0 (i+1) hx hy h
  ·rw [if_neg e] at h
   have eb:(x == y)=false:=by simpa using e
   rw [eb]
   refine PySem.W.kat_no ?_
   cases hi:(true && i == 0) with
   | true=>exact PySem.W.kat_lt_int h
   | false=>exact PySem.W.kat_one _ _ (lt_int h)
end
def F1 (K:PySem.W.Frag):List V->Hp->VK->Prop:=fun xs H Q=>∃ (a:Addr) (ys:List V) (key:V->List Int),xs = [.ref a]/\aU K H a ys/\ys.length < 64/\(∀ y ∈ ys,∃ b,y = .ref b/\aO K H b ((key y).map V.int)/\key y ≠ [])/\
 ∀ l (zs:List V),H l=none->zs.Perm ys->zs.Pairwise (fun u v=>HT.fN (key v) (key u)=false)->Q (.ref l) (upd H l (.lst zs))
theorem as4 {c:Nat->Nat->Bool}{R:V->V->Prop}{ys:List V}{p:Array Nat}{n:Nat} (hp:Srt.PP n p) (ha:Srt.fO c p n) (hR:∀ i j,Srt.Le c i j->R (ys.getD i .non) (ys.getD j .non)) :
  (p.toList.map fun i=>ys.getD i .non).Pairwise R:=by
 rw [bn0,List.pairwise_iff_getElem]
 intro i j hi hj hij
 have hs:=hp.size
 have h1:i < n:=by rw [<- hs]; simpa using hi
 have h2:j < n:=by rw [<- hs]; simpa using hj
 have q:=ha i j (bj6 hij) h2
 have e:∀ k (hk:k < p.toList.length),Srt.G p k=p.toList[k]:=fun k hk=>by
  have hk':k < p.size:=by simpa using hk
  unfold Srt.G; rw [bn8]; simp [hk']
 rw [e i hi,e j hj] at q
 exact hR _ _ q
theorem as5 {X:Cx}:cU X (.builtin "sorted") (F1 X.K):=by
 intro pins s σ H xs us Q I r h
 obtain ⟨a,ys,key,rfl,hs,h64,hk,q⟩:=h
 obtain ⟨u,rfl,ru⟩:=fX r
 cases ru
 obtain ⟨its,rv,p,hz⟩:=I.list hs
 have hl:=rv.length
 by_cases h2:its.length < 2
 ·
  refine as3 p.isList h2 ?_
  obtain ⟨e,he⟩:=sortedAll_at s.heap its its.toArray
  have hn:s.heap.objs.size<=s.heap.objs.size+1:=Nat.le_succ _
  refine⟨.ref (s.heap.objs.size+1),upd H (s.heap.objs.size+1) (.lst ys),I.laid (t':=s.toks) (fun _ _=>sortedAll_old) hn ⟨hz,its,e,rv,he⟩,rfl,q _ ys (I.hok.fresh hn) (br6 _) ?_⟩
  match ys,hl with
  | [],_=>exact List.Pairwise.nil
  | [_],_=>exact bh7 _ _
  | _ :: _ :: _,hl=>simp at hl; omega
 ·obtain ⟨m,F⟩:=I.fr
  have hL:∀ {b:Addr}{k:List Int},aO X.K H b (k.map V.int)->b ≠ X.env.locals:=fun {b k} z e=>by
   obtain ⟨its',_,⟨ob,e1,c1,_⟩,_⟩:=I.tuple z
   obtain ⟨m',⟨o',es',ep',e2,d2,_⟩,_⟩:=I.loc
   rcases z with (z | ⟨_,z⟩) | ⟨o3,its3,n3,z3,zc,zd,_⟩
   ·rw [e,I.free] at z; cases z
   ·rw [e,I.free] at z; cases z
   ·have:=I.kIn b o3 z3
    rw [e,e2] at this
    cases this
    rw [d2] at zd; cases zd
  refine PySem.W.kat_sorted F (ag8 (g:=X.base) (h:=s.heap) (L:=X.env.locals)) p.isList (by omega) (by omega) fun D e1 h' F' N' hD=>?_
  have keep:=I.newsAll (fun p hp=>bg0 _ hp) F' N'
  have look:∀ i,i < ys.length->∃ (b:Addr) (ob:Obj) (us:List Value) (n:Nat),its.getD i Value.none = .ref b/\h'.get? b=some ob/\ob.cls = .type "tuple"/\ob.data = .seq us.toArray n/\IntsAre us (key (ys.getD i .non))/\key (ys.getD i .non) ≠ []:=fun i hi=>by
   have hy:ys.getD i .non ∈ ys:=by
    rw [bf7,be3 hi]; exact bp2 hi
   obtain ⟨b,eb,sq,ne⟩:=hk _ hy
   have rr:=uS i hi rv
   rw [eb] at rr
   have rr:its.getD i Value.none = .ref b:=rr
   obtain ⟨us,ru,⟨ob,e1,c1,n1,d1⟩,_⟩:=I.tuple sq
   exact⟨b,ob,us,n1,rr,keep b ob (hL sq) e1,c1,d1,kJ ru,ne⟩
  have firsts:∀ {xs:List V}{vs:List Value},aQ xs vs->(∀ y ∈ xs,∃ b,y = .ref b/\aO X.K H b ((key y).map V.int)/\key y ≠ [])->∃ fs:List Value,PySem.W.KatTups h' vs fs/\fs.length=vs.length/\∀ v ∈ fs,∃ i t,v=Value.int i t:=by
   intro xs vs r
   induction r with
   | nil=>intro _; exact⟨[],PySem.W.KatTups.nil,rfl,fun _ z=>nomatch z⟩
   | @cons x v xs vs rx rt ih=>
    intro hh
    obtain ⟨fs,t1,t2,t3⟩:=ih fun y hy=>hh y (bg0 _ hy)
    obtain ⟨b,eb,sq,ne⟩:=hh x bf5
    subst eb
    cases rx
    obtain ⟨us,ru,⟨ob,e1,c1,n1,d1⟩,_⟩:=I.tuple sq
    have ia:=kJ ru
    generalize key (V.ref b)=kk at ia ne
    cases ia with
    | nil=>exact absurd rfl ne
    | @cons n t vs0 ns0 ht=>
     exact⟨Value.int n t :: fs,PySem.W.KatTups.cons (keep b ob (hL sq) e1) c1 d1 (by simp) t1,by simp [t2],fun v hv=>(be9.mp hv).elim (fun z=>⟨n,t,z⟩) (t3 v)⟩
  obtain ⟨fs,t1,t2,t3⟩:=firsts rv hk
  refine PySem.W.kat_kind (T:=.type "int") t1 (by omega) (fun v hv=>?_) (by decide) ?_
  ·obtain ⟨i,t,rfl⟩:=t3 v hv
   exact PySem.W.Looks.now
  let c:Nat->Nat->Bool:=fun i j=>HT.fN (key (ys.getD i .non)) (key (ys.getD j .non))
  have O:Srt.uO c:=⟨fun h=>E7 h,fun h1 h2=>E8 h1 h2⟩
  have ok:=Srt.as0 (n:=its.length) O (by omega)
  refine Srt.cD.run (I:=fun s'=>s'={ s with heap:=h' }) (fun i j C s' hi hj hI hC=>?_) (fun pa s' hR hI=>?_) _ _ rfl ok
  ·subst hI
   obtain ⟨b1,o1,u1,n1,g1,g2,_,g4,g5,_⟩:=look i (by omega)
   obtain ⟨b2,o2,u2,n2,k1,k2,_,k4,k5,_⟩:=look j (by omega)
   show wpAny _ _ (keyLt' (tuples' (Value.type "int" != Value.type "tuple")) (its.getD i Value.none) (its.getD j Value.none)) _ _ _
   rw [g1,k1]
   have eT:(Value.type "int" != Value.type "tuple")=true:=by decide
   rw [eT]
   refine PySem.W.kat_lt g2 g4 k2 k4 ?_
   have:=F0 (prog:=X.prog) (w:=X.w) (A:=X.A.in1.in1) (s:={ s with heap:=h' }) (Q:=C) 0 g5 k5 (hC _ rfl)
   simpa using this
  ·subst hI
   obtain ⟨hp,hasc⟩:=hR
   refine PySem.W.KasFin.intro F' N' (PySem.W.UpdF.head fun p hp=>bh5 (hD p hp)) fun h2 cc F2 N2=>?_
   have keep2:=I.newsAll (fun p hp=>bg0 _ hp) F2 N2
   have hDn:s.heap.get? D=none:=by
    cases z:s.heap.get? D with
    | none=>rfl
    | some o=>
     obtain ⟨_,n1,n2⟩:=N2 (D,_) bf5
     exact absurd (hD _ (y3 n1 n2 z)) (bj7 _)
   have hpl:∀ i ∈ pa.toList,i < ys.length:=fun i hi=>by
    have:=br2.mp (hp.mem_iff.mp hi); omega
   have hp':pa.toList.Perm (List.range ys.length):=by rw [hl]; exact hp
   have pm:=as1 (d:=V.non) ys hp'
   obtain ⟨hDo,hDL,hDb⟩:=N2 (D,_) bf5
   obtain ⟨hHD,I2⟩:=I.laidF (t':=s.toks) (a:=D) (o:=.lst (pa.toList.map fun i=>ys.getD i .non)) hDn keep2 (fun m' hm'=>by
     have e:m'=m:=funext fun nm=>Heap.Ns.agree hm' F.ns nm
     rw [e]; exact F2.ns) ⟨by rw [pm.length_eq]; exact hz,_,cc,E4 rv hpl,hDo⟩
   exact⟨.ref D,_,I2,rfl,q D _ hHD pm (as4 hp hasc fun i j hle=>hle)⟩
end L2
namespace Raw
open PySem PySem.W PySem.Calls PyProof.Rows
def fY (h:Heap) (d:Addr) (es:Array DictEntry) (ep:Nat):Prop:=∃ o,h.get? d=some o/\o.ExactDict/\o.data = .dict es ep
theorem fY.ty {s:Shared}{d:Addr}{es:Array DictEntry}{ep:Nat} (x:fY s.heap d es ep):s.TypeIs (.ref d) "dict":=x.elim fun o y=>⟨o,y.1,y.2.1.1⟩
theorem fY.lt {h:Heap}{d:Addr}{es:Array DictEntry}{ep:Nat} (x:fY h d es ep):d < h.objs.size:=x.elim fun _ y=>bf8 y.1
theorem fY.keep {h h':Heap}{d:Addr}{es:Array DictEntry}{ep:Nat} (x:fY h d es ep) (k:∀ o,h.get? d=some o->h'.get? d=some o):fY h' d es ep:=x.elim fun o y=>⟨o,k o y.1,y.2⟩
section
variable {prog : Program} {w : World} {A : Around} {E : Value → Shared → Prop} {s : Shared} {d it : Addr} {es : Array DictEntry} {ep i : Nat}
theorem made (far:(d == sysModules)=false) (x:fY s.heap d es ep) {Q:Value->Shared->Prop}
  (q:Q (.ref s.heap.objs.size) { s with heap:=s.heap.push { cls:=.type "dict_keyiterator",data:=.fields #[.ref d,.int 0 0,.int es.size 0,.int ep 0] } }):wpAny (model prog w) A (pyIter (.ref d)) Q E s:=by
 have T:=x.ty
 obtain ⟨o,e1,e2,e3⟩:=x
 apply wpAny_pyIter_slot T PySem.F.slot_dict_iter
 apply bk5 PySem.F.slot_dict_iter T PySem.F.entry_dict_iter _ (PySem.F.args_dict_iter_1 _)
 simp only [Builtin.«dict.__iter__»,Builtin.Dict.dictSlotNone]
 apply bd9
 apply bd9
 apply wpAny_notOrdered_dict T
 apply be4
 change wpAny _ _ (Builtin.Dict.showsAll d >>= _) _ _ s
 have far':Builtin.Dict.showsAll d=pure ():=by
  unfold Builtin.Dict.showsAll
  simp only [far,bg7,bk8]
 rw [far',pure_bind]
 apply bd9
 apply wpAny_dictEntries e1 e3
 apply bd9
 apply wpAny_dictEpoch e1 e3
 apply bd9
 refine bl5 (be4 ?_)
 refine⟨.ref s.heap.objs.size,rfl,"dict_keyiterator",_,⟨_,bf6 _ rfl,rfl⟩,PySem.F.slot_dict_keyiterator_next.lookup,?_⟩
 simpa only [rawInt] using q
theorem turn (hh:A.handled=none) (hi:s.heap.IsKeyIter it d i es.size ep) (x:fY s.heap d es ep) {Q:Option Value->Shared->Prop}
  (yes:∀ (lt:i < es.size) h',h'.IsKeyIter it d (i+1) es.size ep->Heap.SameBut it s.heap h'->Q (some es[i].key) { s with heap:=h' })
  (no:es.size<=i->∀ h',Heap.ExtBut it s.heap h'->Q none { s with heap:=h' }):wpAny (model prog w) A (pyNext (.ref it)) Q E s:=by
 have T:=hi.typeIs
 obtain ⟨oi,f1,f2,f3⟩:=hi
 obtain ⟨o,e1,e2,e3⟩:=x
 have slot:=PySem.F.slot_dict_keyiterator_next
 have plain:Builtin.Dict_items.ownsTuple "dict_keyiterator" = false:=by decide
 have isref:(Value.ref d == Value.none)=false:=rfl
 have nn : ¬ (i:Int) < 0:=by omega
 unfold pyNext
 apply bd9
 apply wpAny_attempt
 apply bk1 (name:=Str.ofString "__next__") T slot
 apply bk5 slot T PySem.F.entry_dict_keyiterator_next _ (PySem.F.args_dict_keyiterator_next_1 _)
 apply bd9
 apply be4
 apply bd9
 apply bd9
 apply bd9
 first
  | apply wpAny_typeNameOfWhole_keyiter T
  | apply wpAny_typeNameOf_keyiter T
 apply be4
 apply bd9
 apply wpAny_fieldsOf f1 f3
 simp only [plain,bg7,bk8]
 change wpAny _ _ (if (Value.ref d == Value.none)=true then _ else _) _ _ s
 have adr:Builtin.Dict_items.addrOf (Value.ref d)=pure d:=rfl
 simp only [isref,bg7,bk8,adr,pure_bind]
 apply bd9
 apply wpAny_dictEntries e1 e3
 simp only [bne_self_eq_false,bg7,bk8]
 apply bd9
 apply wpAny_dictEpoch e1 e3
 simp only [bne_self_eq_false,bg7,bk8]
 apply be4
 simp only [nn,bk8,bl4]
 by_cases lt:i < es.size
 ·simp only [bo9 lt]
  apply bd9
  apply bd9
  first
   | apply wpAny_typeNameOfWhole_keyiter T
   | apply wpAny_typeNameOf_keyiter T
  apply be4
  apply bd9
  apply wpAny_isOneOf_keyiter T
  change wpAny _ _ (setField (.ref it) 1 (rawInt ((i:Int)+1)) >>= _) _ _ s
  apply bd9
  refine wpAny_setField f1 f3 (by simp) ?_
  have again:(s.heap.update it (Obj.mapFields (·.setIfInBounds 1 (rawInt ((i:Int)+1))))).IsKeyIter it d (i+1) es.size ep:=by
   refine⟨_,bs0 _ f1 (Obj.isFreed_of_fields (Obj.data_mapFields f3 _)),?_,?_⟩
   ·rw [Obj.cls_mapFields]; exact f2
   ·rw [Obj.data_mapFields f3]; simp [rawInt]
  apply bd9
  apply bm0
  apply bd9
  refine wpAny_isOneOf_keyiter (s:={ s with heap:=s.heap.update it (Obj.mapFields (·.setIfInBounds 1 (rawInt ((i:Int)+1)))) }) again.typeIs ?_
  change wpAny _ _ (pure es[i].key) _ _ _
  apply be4
  apply be4
  exact⟨es[i].key,rfl,be4 (yes lt _ again (bo6 ..))⟩
 ·have ge:es.size<=i:=bp1 lt
  simp only [Array.getElem?_eq_none ge]
  apply bd9
  apply bd9
  first
   | apply wpAny_typeNameOfWhole_keyiter T
   | apply wpAny_typeNameOf_keyiter T
  apply be4
  change wpAny _ _ (setField (.ref it) 0 .none >>= _) _ _ s
  apply bd9
  refine wpAny_setField f1 f3 (by simp) ?_
  apply bd9
  simp only [newExc,newTuple]
  apply bd9
  refine bl5 ?_ (by size_fits)
  apply bd9
  refine wpAny_of_eq (a:=Value.none) (by first | rfl | (simp only [firstArgMember]; rfl)) ?_
  refine bl5 ?_ (by size_fits)
  unfold raiseNew
  apply bd9
  apply wpAny_handled
  have quiet:A.in1.handled=none:=hh
  rw [quiet]
  refine wpAny_throw ?_
  apply bd9
  refine wpAny_isInstance (T:="StopIteration") (b:=true) ⟨_,bf6 _ rfl,rfl⟩ isSubtype_stop ?_
  exact be4 (no ge _ (((bo6 ..).extBut.push _).push _))
theorem as6 (hh:A.handled=none) (ne:d ≠ it):Walks prog w A it [it,d] [it] es.size (fun i v=>∃ lt:i < es.size,es[i].key=v) (fun i h=>h.IsKeyIter it d i es.size ep/\fY h d es ep) where
 sub:=by intro b hb; rw [bf3.mp hb]; exact bf5
 frame:=by
  intro i h h' st hk
  exact⟨st.1.at (hk it bf5),st.2.keep (hk d (bg0 _ bf5))⟩
 item:=by
  intro i s Q E lt st hQ
  refine turn hh st.1 st.2 (fun lt' h' again sb=>?_) fun ge=>absurd lt (Nat.not_lt.mpr ge)
  exact hQ _ h' s.toks ⟨lt',rfl⟩ ⟨again,st.2.keep fun o e=>sb.extBut d o ne e⟩ fun b o hb e=>sb.extBut b o (fun z=>hb (bf3.mpr z)) e
 done:=by
  intro s Q E st hQ
  refine turn hh st.1 st.2 (fun lt=>absurd lt (bj7 _)) fun _ h' eb=>?_
  exact hQ h' s.toks fun b o hb e=>eb b o (fun z=>hb (bf3.mpr z)) e
 self:=by intro i s Q E st hQ; exact wpAny_pyIter_keyiter st.1 hQ
theorem F3 (far:(d == sysModules)=false):KdlSrc prog w "dict" d d es.size (fun i v=>∃ lt:i < es.size,es[i].key=v) (fun h=>fY h d es ep) where
 type:=fun _ x=>x.ty
 there:=fun _ x=>⟨x.lt,x.lt⟩
 keep:=fun _ _ x k=>x.keep (k d (.inl rfl))
 notList:=by decide
 notTuple:=by decide
 hint:=fun _ _ _ _ x q=>kdl_hint_dict x.ty q
 iter:=fun _ _ hh x=>⟨_,_,fun _ _ q=>made far x q,as6 hh (bh5 x.lt),⟨_,bf6 _ rfl,rfl,rfl⟩,x.keep fun o e=>be1 _ e⟩
end
end Raw
namespace L2
open PySem PySem.Spec PyProof.Rows
section
variable {X : Cx} {pins : List (Addr × Obj)} {σ : St} {H : Hp} {s : Shared} {a : Addr}
def nX (H:Hp) (y:V) (k:List aC):Prop:=∃ q,y = .ref q/\H q=some (.tup (k.map kV))
theorem as7 {kvs:List (aC × V)} (I:a8 X pins σ H s) (h:H a=some (.dK kvs)):∃ es ep,Raw.fY s.heap a es ep/\(a == sysModules)=false/\aQ (kvs.map fun p=>kV p.1) (es.toList.map (·.key))/\kvs.length<=sizeLine:=by
 obtain ⟨z,far,vs,rel,o,es,ep,e1,e2,e3,kk,pr,nd⟩:=(show bR X.prog X.w H s.heap a (.dK kvs) from I.hok a _ h)
 refine⟨es,ep,⟨o,e1,e2,e3⟩,far,?_,z⟩
 clear z far e1 e2 e3 kk nd h
 generalize es.toList=l at pr
 induction pr generalizing kvs with
 | nil=>cases rel; exact .nil
 | @cons e k es' kvs' h1 h2 _ ih=>
  cases rel with
  | @cons p q ps qs r rs=>
   refine .cons ?_ (ih rs)
   obtain ⟨r1,_⟩:=r
   show b4 (kV p.1) e.key
   rw [r1]
   rcases iH h1 with ⟨n,t,e4,e5⟩ | ⟨x,t,e4,e5⟩
   ·rw [e4,e5]; exact⟨t,rfl⟩
   ·rw [e4,e5]; exact⟨t,rfl⟩
theorem F4 {kvs:List (List aC × V)} (I:a8 X pins σ H s) (h:H a=some (.dT kvs)):∃ es ep ys,Raw.fY s.heap a es ep/\(a == sysModules)=false/\Paired (nX H) ys (kvs.map (·.1))/\aQ ys (es.toList.map (·.key))/\kvs.length<=sizeLine:=by
 obtain ⟨z,far,xs,rel,o,es,ep,e1,e2,e3,e4,nd⟩:=(show bR X.prog X.w H s.heap a (.dT kvs) from I.hok a _ h)
 refine⟨es,ep,xs.map fun q=>V.ref q.2.1,⟨o,e1,e2,e3⟩,far,?_,?_,z⟩
 ·clear e4 nd h z
  induction rel with
  | nil=>exact .nil
  | cons r rs ih=>exact .cons ⟨_,rfl,r.2.1⟩ ih
 ·rw [e4]
  clear rel e4 nd
  induction xs with
  | nil=>exact .nil
  | cons q qs ih=>exact .cons rfl ih
theorem F5 {es:Array DictEntry}{acc:Array Value} (h:ItemsOf (fun i v=>∃ lt:i < es.size,es[i].key=v) acc es.size):acc.toList=es.toList.map (·.key):=by
 apply List.ext_getElem?
 intro j
 have h1:=h.1
 by_cases hj:j < es.size
 ·have hj':j < acc.size:=by rw [h1]; exact hj
  obtain ⟨_,e⟩:=h.2 j acc[j] (by simp [hj'])
  rw [bf4]
  simp [hj,hj',e]
 ·have hj' : ¬ j < acc.size:=by rw [h1]; exact hj
  rw [bf4]
  simp [bp1 hj,bp1 hj']
theorem as8 (hc:X.calm=true):cU X (.type "list") (fun xs H Q=>∃ a kvs,xs = [.ref a]/\H a=some (.dT kvs)/\∀ l ys,H l=none->Paired (nX H) ys (kvs.map (·.1))->Q (.ref l) (upd H l (.lst ys))):=by
 intro pins s σ H xs us Q I r h
 obtain ⟨a,kvs,rfl,ha,q⟩:=h
 obtain ⟨u,rfl,ru⟩:=fX r
 cases ru
 obtain ⟨es,ep,ys,rd,far,pk,vk,z⟩:=F4 I ha
 have hl:=vk.length
 have hl2:=pk.length
 rw [be5] at hl hl2
 have hsz:es.toList.length=es.size:=bi0
 refine PySem.W.kdl_call (Raw.F3 far) (I.ok.hd hc) rd (by omega) fun h' tk acc c kp e it=>?_
 refine⟨.ref s.heap.objs.size,_,I.laid (t':=tk) kp (be6 _) (show bR X.prog X.w _ h' _ (.lst ys) from ⟨by omega,acc.toList,c,by rw [F5 it]; exact vk,by simpa using e⟩),rfl,q _ ys (I.hok.fresh (be6 _)) pk⟩
end
section
variable {X : Cx}
theorem as9:cU X (.builtin "isinstance") (fun xs H Q=>∃ x t n b,xs = [x,.ty n]/\fM X.K H x t/\PySem.W.kitOne X.K t (.type n)=some b/\Q (.bl b) H):=by
 intro pins s σ H xs us Q I r h
 obtain ⟨x,t,n,b,rfl,ty,e,q⟩:=h
 obtain ⟨u,u',rfl,ru,ru'⟩:=nI r
 cases ru'
 exact am0 I ru ty e fun tk=>⟨.bl b,H,I.tok tk,rfl,q⟩
end
def F6 (outer:List (Str × NameKind)) (XN:List Str) (names:List (Str × NameKind)) (N:List Str) (fr:List (Option Nat)):Bool:=
 names.all (fun y=>!(y.2 == .cell) || names.lookup y.1 == some .cell) && names.all (fun y=>!(y.2 == .local) || names.lookup y.1 == some .local) &&
 names.all (fun y=>!(y.2 == .free) || (outer.lookup y.1 == some .cell || outer.lookup y.1 == some .free)) && fr.length == N.length &&
 (fr.zip N).all (fun p=>match p.1 with
  | none=>true
  | some j=>XN[j]? == some p.2 && names.lookup p.2 == some .free)
theorem cK.of {X:Cx}{scope:Scope}{N:List Str}{fr:List (Option Nat)} (hk:scope.kind = .function) (h:F6 X.env.scope.names X.N scope.names N fr=true):cK X scope N fr:=by
 unfold F6 at h
 simp only [bg1] at h
 obtain ⟨⟨⟨⟨h1,h2⟩,h3⟩,h4⟩,h5⟩:=h
 refine⟨hk,fun y hy e=>?_,fun y hy e=>?_,fun y hy e=>?_,by simpa using h4,fun i j e=>?_⟩
 ·have:=bm8.mp h1 y hy
  rw [e] at this; simpa using this
 ·have:=bm8.mp h2 y hy
  rw [e] at this; simpa using this
 ·have:=bm8.mp h3 y hy
  rw [e] at this; simpa using this
 ·have hl:fr.length=N.length:=by simpa using h4
  have hi:i < fr.length:=(bf0.mp e).1
  have m:(some j,N[i]'(by omega)) ∈ fr.zip N:=by
   have:(fr.zip N)[i]? = some (some j,N[i]'(by omega)):=by
    rw [List.getElem?_zip_eq_some]
    exact⟨e,by simp⟩
   exact bh1 this
  have:=bm8.mp h5 _ m
  simp only [bg1,beq_iff_eq] at this
  exact⟨N[i]'(by omega),by simp,this.1,this.2⟩
theorem wk0 {n:Option V}{r:St}{v:V}:Wk (none :: r) (some v :: r):=(Wk.refl (none :: r)).set (i:=0) rfl
def lQ (H:Hp) (ys:List V) (ls:List (Int × Int)):Prop:=Paired (fun y l=>∃ b,y = .ref b/\H b=some (.tup [.int l.1,.int l.2])) ys ls
structure F7 (H:Hp) (v:V) (ws:List Int) (ls:List (Int × Int)):Prop where
 at_:∃ a p q ys,v = .ref a/\H a=some (.tup [.ref p,.ref q])/\H p=some (.tup (ws.map V.int))/\H q=some (.tup ys)/\lQ H ys ls
theorem lQ.get {H:Hp}:∀ {ys:List V}{ls:List (Int × Int)}{i:Nat}{y:V},lQ H ys ls->ys[i]? = some y->∃ l b,ls[i]? = some l/\y = .ref b/\H b=some (.tup [.int l.1,.int l.2])
 | _,_,_,_,.nil,e=>by simp at e
 | _,_,0,_,.cons (b:=l) ⟨b,h1,h2⟩ _,e=>by simp at e; subst e; exact⟨l,b,rfl,h1,h2⟩
 | _,_,i+1,_,.cons _ t,e=>by
  obtain ⟨l,b,h1,h2⟩:=lQ.get (i:=i) t (by simpa using e)
  exact⟨l,b,by simpa using h1,h2⟩
def bE (ls:List (Int × Int)) (k:Int):List Int:=ls.flatMap fun l=>(if l.1=k then [l.2] else []) ++ (if l.2=k then [l.1] else [])
theorem at0 (ls:List (Int × Int)) (l:Int × Int) (k:Int):bE (ls ++ [l]) k=bE ls k ++ ((if l.1=k then [l.2] else []) ++ (if l.2=k then [l.1] else [])):=by
 unfold bE; rw [List.flatMap_append]; simp
theorem F8 {ls:List (Int × Int)}{i:Nat}{l:Int × Int} (h:ls[i]? = some l) (k:Int):bE (ls.take (i+1)) k=bE (ls.take i) k ++ ((if l.1=k then [l.2] else []) ++ (if l.2=k then [l.1] else [])):=by
 rw [bm3,h]; exact at0 _ _ _
structure jC (H H':Hp) (r:Addr) (bs:List Addr) (f:Nat->List Int):Prop where
 new:H r=none
 news:∀ b ∈ bs,H b=none/\b ≠ r
 nd:bs.Nodup
 row:H' r=some (.lst (bs.map V.ref))
 rows:∀ (k:Nat) (b:Addr),bs[k]? = some b->H' b=some (.lst ((f k).map V.int))
 same:aD H H'
theorem jC.congr {H H':Hp}{r:Addr}{bs:List Addr}{f g:Nat->List Int} (h:jC H H' r bs f) (e:∀ k,k < bs.length->f k=g k):jC H H' r bs g:=
 ⟨h.new,h.news,h.nd,h.row,fun k b hb=>by rw [<- e k (bf0.mp hb).1]; exact h.rows k b hb,h.same⟩
theorem jC.app {H H':Hp}{r:Addr}{bs:List Addr}{f:Nat->List Int} (h:jC H H' r bs f) {k:Nat}{b:Addr} (hb:bs[k]? = some b) (x:Int) :
  jC H (upd H' b (.lst ((f k).map V.int ++ [V.int x]))) r bs (fun j=>if j=k then f j ++ [x] else f j):=by
 have hm:b ∈ bs:=bh1 hb
 refine⟨h.new,h.news,h.nd,by rw [aI (Ne.symm (h.news b hm).2)]; exact h.row,fun j c hc=>?_,fun c o e=>by rw [aI (cF e (h.news b hm).1)]; exact h.same c o e⟩
 by_cases hj:j=k
 ·subst hj
  rw [hb] at hc; cases hc
  rw [bD,if_pos rfl]; simp
 ·rw [if_neg hj]
  have ne:c ≠ b:=fun z=>by
   subst z
   obtain ⟨i1,e1⟩:=bf0.mp hb
   obtain ⟨i2,e2⟩:=bf0.mp hc
   refine hj (Nat.le_antisymm (bp1 fun z=>?_) (bp1 fun z=>?_))
   ·exact List.pairwise_iff_getElem.mp h.nd _ _ i1 i2 z (e1.trans e2.symm)
   ·exact List.pairwise_iff_getElem.mp h.nd _ _ i2 i1 z (e2.trans e1.symm)
  rw [aI ne]; exact h.rows j c hc
theorem qG (ls:List (Int × Int)) (k:Int):(bE ls k).length<=2 * ls.length:=by
 induction ls with
 | nil=>exact be6 _
 | cons l r ih=>
  have e:bE (l :: r) k=((if l.1=k then [l.2] else []) ++ (if l.2=k then [l.1] else [])) ++ bE r k:=rfl
  rw [e,be2,be2,bi2]
  have h1:(if l.1=k then [l.2] else []).length<=1:=by split <;> simp
  have h2:(if l.2=k then [l.1] else []).length<=1:=by split <;> simp
  omega
theorem qH {α:Type}{xs:List α}{i:Int}{v:α} (h0:0<=i) (h:xs[i.toNat]? = some v):atI xs i=some v:=by
 have:=pK h
 rwa [show ((i.toNat:Nat):Int)=i by omega] at this
theorem i7 {n:Nat} (h:n<=16000000):n < sizeLine:=by rw [sizeLine_eq]; omega
theorem qI {σ:St}{H:Hp}{A B:Hp->Prop} (h:A H):uI σ H fun b H4=>if b=true then A H4 else B H4:=by
 show if true=true then A H else B H
 rw [if_pos rfl]; exact h
theorem kO {K:PySem.W.Frag}{H:Hp}{p:Addr}{xs:List V} (h:aU K H p xs):gO K "list" (.ref p) H:=.inl ⟨rfl,xs,h⟩
def nY (H:Hp) (y:V):Int × Int:=match E9 H y with
 | [a,b]=>(a,b)
 | _=>(0,0)
theorem qJ {H:Hp}:∀ {zs:List V},(∀ y ∈ zs,∃ b,y = .ref b/\H b=some (.tup [.int (nY H y).1,.int (nY H y).2])/\E9 H y = [(nY H y).1,(nY H y).2])->lQ H zs (zs.map (nY H))
 | [],_=>.nil
 | y :: zs,h=>by
  obtain ⟨b,e,hb,_⟩:=h y bf5
  exact .cons ⟨b,e,hb⟩ (qJ fun z hz=>h z (bg0 _ hz))
theorem uU {l:Int × Int}{k x:Int}:x ∈ (if l.1=k then [l.2] else []) ++ (if l.2=k then [l.1] else []) ↔ (l.1=k/\x=l.2) ∨ (l.2=k/\x=l.1):=by
 rw [bg2]
 by_cases h1:l.1=k <;> by_cases h2:l.2=k <;> simp [h1,h2]
theorem uV {ls:List (Int × Int)}{k x:Int}:x ∈ bE ls k ↔ (k,x) ∈ ls ∨ (x,k) ∈ ls:=by
 unfold bE
 rw [List.mem_flatMap]
 constructor
 ·rintro ⟨l,hl,hx⟩
  rcases uU.mp hx with ⟨h1,h2⟩ | ⟨h1,h2⟩
  ·left; rw [<- h1,h2]; exact hl
  ·right; rw [<- h1,h2]; exact hl
 ·rintro (h | h)
  ·exact⟨_,h,uU.mpr (.inl ⟨rfl,rfl⟩)⟩
  ·exact⟨_,h,uU.mpr (.inr ⟨rfl,rfl⟩)⟩
end L2
namespace Zp
open PySem PyProof.Rows
section
variable {prog : Program} {w : World} {A : Around} {E : Value → Shared → Prop} {s : Shared}
theorem F9 {it t:Addr}{i:Nat}{items:Array Value}{x:Value}{Q:Value->Shared->Prop} (hi:s.heap.IsTupleIter it t i) (ht:s.heap.IsTuple t items) (hx:items[i]? = some x)
  (q:∀ h',h'.IsTupleIter it t (i+1)->Heap.SameBut it s.heap h'->Q x { s with heap:=h' }):wpAny (model prog w) A (Builtin.SmallTypes.nextOf (.ref it)) Q E s:=by
 have T:=hi.typeIs
 obtain ⟨o,e1,e2,e3⟩:=hi
 obtain ⟨u,f1,_,k,f3⟩:=ht
 have slot:=PySem.F.slot_tuple_iterator_next
 have isref:(Value.ref t == Value.none)=false:=rfl
 unfold Builtin.SmallTypes.nextOf
 apply bd9
 apply bk1 (name:=Str.ofString "__next__") T slot
 apply bk5 slot T PySem.F.entry_tuple_iterator_next _ (PySem.F.args_tuple_iterator_next_1 _)
 change wpAny _ _ (field (.ref it) 0 >>= _) _ _ s
 apply bd9
 refine bk0 e1 e3 (x:=.ref t) rfl ?_
 change wpAny _ _ (if (Value.ref t == Value.none)=true then _ else _) _ _ s
 simp only [isref,bg7,bk8]
 change wpAny _ _ (field (.ref it) 1 >>= _) _ _ s
 apply bd9
 refine bk0 e1 e3 (x:=.int i 0) rfl ?_
 change wpAny _ _ (seqItems? (.ref t) >>= _) _ _ s
 apply bd9
 apply br7 f1 f3
 simp only [bl4,hx]
 apply bd9
 refine wpAny_setField e1 e3 (by simp) ?_
 apply be4
 refine⟨x,rfl,be4 (q _ ⟨_,bs0 _ e1 (Obj.isFreed_of_fields (Obj.data_mapFields e3 _)),?_,?_⟩ (bo6 ..))⟩
 ·rw [Obj.cls_mapFields]; exact e2
 ·rw [Obj.data_mapFields e3]; simp [rawInt]
theorem G0 {it t:Addr}{i:Nat}{items:Array Value}{Q:Value->Shared->Prop} (hh:A.handled=none) (hi:s.heap.IsTupleIter it t i) (ht:s.heap.IsTuple t items) (hx:items[i]? = none)
  (q:∀ h' e,Heap.ExtBut it s.heap h'->(∃ o,h'.get? e=some o/\o.cls = .type "StopIteration")->E (.ref e) { s with heap:=h' }):wpAny (model prog w) A (Builtin.SmallTypes.nextOf (.ref it)) Q E s:=by
 have T:=hi.typeIs
 obtain ⟨o,e1,e2,e3⟩:=hi
 obtain ⟨u,f1,_,k,f3⟩:=ht
 have slot:=PySem.F.slot_tuple_iterator_next
 have isref:(Value.ref t == Value.none)=false:=rfl
 unfold Builtin.SmallTypes.nextOf
 apply bd9
 apply bk1 (name:=Str.ofString "__next__") T slot
 apply bk5 slot T PySem.F.entry_tuple_iterator_next _ (PySem.F.args_tuple_iterator_next_1 _)
 change wpAny _ _ (field (.ref it) 0 >>= _) _ _ s
 apply bd9
 refine bk0 e1 e3 (x:=.ref t) rfl ?_
 change wpAny _ _ (if (Value.ref t == Value.none)=true then _ else _) _ _ s
 simp only [isref,bg7,bk8]
 change wpAny _ _ (field (.ref it) 1 >>= _) _ _ s
 apply bd9
 refine bk0 e1 e3 (x:=.int i 0) rfl ?_
 change wpAny _ _ (seqItems? (.ref t) >>= _) _ _ s
 apply bd9
 apply br7 f1 f3
 simp only [bl4,hx]
 apply bd9
 apply wpAny_rule
 apply bd9
 refine wpAny_setField e1 e3 (by simp) ?_
 apply bd9
 simp only [newExc,newTuple]
 apply bd9
 refine bl5 ?_ (by size_fits)
 apply bd9
 refine wpAny_of_eq (a:=Value.none) (by first | rfl | (simp only [firstArgMember]; rfl)) ?_
 refine bl5 ?_ (by size_fits)
 unfold raiseNew
 apply bd9
 apply wpAny_handled
 have quiet:A.in1.handled=none:=hh
 rw [quiet]
 refine wpAny_throw ?_
 exact q _ _ (((bo6 ..).extBut.push _).push _) ⟨_,bf6 _ rfl,rfl⟩
theorem at2 (hh:A.handled=none) (it t:Addr) (ne:t ≠ it) (items:Array Value):Draws prog w A it [it,t] items.size (fun i v=>items[i]? = some v) (fun i h=>h.IsTupleIter it t i/\h.IsTuple t items) where
 live:=fun _ _ st=>st.1.elim fun o y=>⟨o,y.1⟩
 frame:=fun _ _ _ st k=>⟨st.1.at fun o e=>k it bf5 o e,st.2.elim fun o y=>⟨o,k t (bg0 _ bf5) o y.1,y.2⟩⟩
 item:=fun i s Q E lt st q=>F9 st.1 st.2 (bo9 lt) fun h' again sb=>q _ h' s.toks (bo9 lt) ⟨again,st.2.elim fun o y=>⟨o,sb.extBut t o ne y.1,y.2⟩⟩ sb
 done:=fun s Q E st q=>G0 hh st.1 st.2 (Array.getElem?_eq_none (be6 _)) q
end
structure Ap (z TI TO i1 i2:Addr) (fp1 fp2:List Addr):Prop where
 TIz:TI ≠ z
 TOz:TO ≠ z
 TITO:TI ≠ TO
 z1:z ∉ fp1
 z2:z ∉ fp2
 o1:TO ∉ fp1
 o2:TO ∉ fp2
 t1:TI ∉ fp1
 t2:TI ∉ fp2
 m1:i1 ∈ fp1
 m2:i2 ∈ fp2
 n1:i1 ∉ fp2
 n2:i2 ∉ fp1
structure uW (z TI TO i1 i2:Addr) (St1 St2:Nat->Heap->Prop) (f0:Value) (i j:Nat) (h:Heap):Prop where
 zz:IsZip h z TI TO f0
 ti:IsPair h TI (.ref i1) (.ref i2)
 to_:∃ a b,IsPair h TO a b
 s1:St1 i h
 s2:St2 j h
section
variable {prog : Program} {w : World} {A : Around} {E : Value → Shared → Prop} {s : Shared} {z TI TO i1 i2 : Addr} {fp1 fp2 : List Addr} {n1 n2 : Nat} {P1 P2 : Nat → Value → Prop} {St1 St2 : Nat → Heap → Prop}
theorem lR (ap:Ap z TI TO i1 i2 fp1 fp2) {b:Addr} (h:b ∉ fp1):b ≠ i1:=fun e=>h (e ▸ ap.m1)
theorem qK (ap:Ap z TI TO i1 i2 fp1 fp2) {b:Addr} (h:b ∉ fp2):b ≠ i2:=fun e=>h (e ▸ ap.m2)
theorem item (D1:Draws prog w A.in1 i1 fp1 n1 P1 St1) (D2:Draws prog w A.in1 i2 fp2 n2 P2 St2) (ap:Ap z TI TO i1 i2 fp1 fp2) {i:Nat} (l1:i < n1) (l2:i < n2) (st:uW z TI TO i1 i2 St1 St2 .none i i s.heap) {Q:Option Value->Shared->Prop}
  (q:∀ x y h' tk,P1 i x->P2 i y->uW z TI TO i1 i2 St1 St2 (rawInt s.heap.objs.size) (i+1) (i+1) h'->IsPair h' s.heap.objs.size x y->(∀ c o,c ≠ z->c ≠ TO->c ≠ i1->c ≠ i2->s.heap.get? c=some o->h'.get? c=some o)->
   h'.objs.size=s.heap.objs.size+1->Q (some (.ref s.heap.objs.size)) { s with heap:=h',toks:=tk }):wpAny (model prog w) A (pyNext (.ref z)) Q E s:=by
 obtain ⟨hz,hti,⟨a,b,hto⟩,h1,h2⟩:=st
 have T:s.TypeIs (.ref z) "zip":=⟨_,hz,rfl⟩
 have slot:=PySem.F.slot_zip_next
 unfold pyNext
 apply bd9
 apply wpAny_attempt
 apply bk1 (name:=Str.ofString "__next__") T slot
 apply bk5 slot T PySem.F.entry_zip_next _ (PySem.F.args_zip_next_1 _)
 change wpAny _ _ (field (.ref z) 2 >>= _) _ _ _
 apply bd9
 refine bk0 hz rfl (x:=.bool false) rfl ?_
 change wpAny _ _ (field (.ref z) 3 >>= _) _ _ _
 apply bd9
 refine bk0 hz rfl (x:=.ref TI) rfl ?_
 apply bd9
 apply br7 hti rfl
 change wpAny _ _ (Builtin.SmallTypes.ownedTupleIsFree (.ref z) >>= _) _ _ _
 apply bd9
 unfold Builtin.SmallTypes.ownedTupleIsFree
 apply bd9
 refine bk0 hz rfl (x:=.none) rfl (be4 ?_)
 simp only [if_true]
 apply bd9
 apply wpAny_rule
 apply bd9
 refine bk0 hz rfl (x:=.ref TO) rfl ?_
 apply bd9
 refine bk9 hz (by simp) fun g1 hz1 sb1=>?_
 have k1:∀ c o,c ≠ z->s.heap.get? c=some o->g1.get? c=some o:=fun c o c1 e=>sb1.extBut c o c1 e
 apply bd9
 simp only [List.zipIdx_cons,List.zipIdx_nil,List.forIn_cons,List.forIn_nil]
 apply bd9
 apply bd9
 apply wpAny_onRaise
 change wpAny _ _ (Builtin.SmallTypes.nextOf (.ref i1) >>= _) _ _ _
 apply bd9
 refine D1.item i { s with heap:=g1 } _ _ l1 (D1.frame _ _ _ h1 fun c hc o e=>k1 c o (fun y=>ap.z1 (y ▸ hc)) e) fun x g2 tk2 px st1 sb2=>be4 ?_
 have k2:∀ c o,c ≠ z->c ≠ i1->s.heap.get? c=some o->g2.get? c=some o:=fun c o c1 c2 e=>sb2.extBut c o c2 (k1 c o c1 e)
 have to2:IsPair g2 TO a b:=k2 _ _ ap.TOz (lR ap ap.o1) hto
 apply bd9
 apply br7 to2 rfl
 apply bd9
 refine wpAny_updateSeq_pair to2 fun g3 to3 sb3=>?_
 have to3:IsPair g3 TO x b:=to3
 apply bd9
 apply wpAny_letGo
 apply be4
 apply bd9
 apply bd9
 apply wpAny_onRaise
 change wpAny _ _ (Builtin.SmallTypes.nextOf (.ref i2) >>= _) _ _ _
 apply bd9
 have k3:∀ c o,c ≠ z->c ≠ i1->c ≠ TO->s.heap.get? c=some o->g3.get? c=some o:=fun c o c1 c2 c3 e=>sb3.extBut c o c3 (k2 c o c1 c2 e)
 refine D2.item i { s with heap:=g3,toks:=tk2 } _ _ l2 (D2.frame _ _ _ h2 fun c hc o e=>k3 c o (fun y=>ap.z2 (y ▸ hc)) (fun y=>ap.n1 (y ▸ hc)) (fun y=>ap.o2 (y ▸ hc)) e) fun y g4 tk4 py st2 sb4=>be4 ?_
 have to4:IsPair g4 TO x b:=sb4.extBut _ _ (qK ap ap.o2) to3
 apply bd9
 apply br7 to4 rfl
 apply bd9
 refine wpAny_updateSeq_pair to4 fun g5 to5 sb5=>?_
 have to5:IsPair g5 TO x y:=to5
 apply bd9
 apply wpAny_letGo
 apply be4
 apply be4
 apply bd9
 apply br7 to5 rfl
 apply bd9
 refine wpAny_newTuple ?_ (by show 2<=sizeLine; decide)
 have size:g5.objs.size=s.heap.objs.size:=by rw [sb5.1,sb4.1,sb3.1,sb2.1,sb1.1]
 have k5:∀ c o,c ≠ z->c ≠ TO->c ≠ i1->c ≠ i2->s.heap.get? c=some o->g5.get? c=some o:=fun c o c1 c2 c3 c4 e=>sb5.extBut c o c2 (sb4.extBut c o c4 (k3 c o c1 c3 c2 e))
 have z5:IsZip g5 z TI TO .ellipsis:=sb5.extBut _ _ (Ne.symm ap.TOz) (sb4.extBut _ _ (qK ap ap.z2) (sb3.extBut _ _ (Ne.symm ap.TOz) (sb2.extBut _ _ (lR ap ap.z1) hz1)))
 change wpAny _ _ (Builtin.SmallTypes.ownedTupleHandOut (.ref z) (.ref g5.objs.size) >>= _) _ _ _
 apply bd9
 unfold Builtin.SmallTypes.ownedTupleHandOut
 apply bd9
 have z6:IsZip (g5.push { cls:=.type "tuple",data:=.seq #[x,y] }) z TI TO .ellipsis:=be1 _ z5
 refine bk9 z6 (by simp) fun g7 z7 sb7=>?_
 have z7:IsZip g7 z TI TO (rawInt g5.objs.size):=z7
 refine bk9 z7 (by simp) fun g8 z8 sb8=>?_
 have z8:IsZip g8 z TI TO (rawInt g5.objs.size):=z8
 have zlt:z < g5.objs.size:=bf8 z5
 have up:∀ c o,c ≠ z->g5.get? c=some o->g8.get? c=some o:=fun c o c1 e=>sb8.extBut c o c1 (sb7.extBut c o c1 (be1 _ e))
 have p8:IsPair g8 g5.objs.size x y:=sb8.extBut _ _ (bl7 zlt) (sb7.extBut _ _ (bl7 zlt) (bf6 _ rfl))
 have s8:g8.objs.size=g5.objs.size+1:=by rw [sb8.1,sb7.1,bo4]
 have f1:St1 (i+1) g8:=D1.frame _ _ _ st1 fun c hc o e=>up c o (fun y=>ap.z1 (y ▸ hc)) (sb5.extBut c o (fun y=>ap.o1 (y ▸ hc)) (sb4.extBut c o (fun y=>ap.n2 (y ▸ hc)) (sb3.extBut c o (fun y=>ap.o1 (y ▸ hc)) e)))
 have f2:St2 (i+1) g8:=D2.frame _ _ _ st2 fun c hc o e=>up c o (fun y=>ap.z2 (y ▸ hc)) (sb5.extBut c o (fun y=>ap.o2 (y ▸ hc)) e)
 have ti8:IsPair g8 TI (.ref i1) (.ref i2):=up _ _ ap.TIz (k5 _ _ ap.TIz ap.TITO (lR ap ap.t1) (qK ap ap.t2) hti)
 rw [size] at z8 p8 s8
 apply be4
 refine⟨_,rfl,be4 ?_⟩
 change Q (some (.ref g5.objs.size)) _
 rw [size]
 exact q x y g8 tk4 px py ⟨z8,ti8,⟨x,y,up _ _ ap.TOz to5⟩,f1,f2⟩ p8 (fun c o c1 c2 c3 c4 e=>up c o c1 (k5 c o c1 c2 c3 c4 e)) s8
theorem fin (D1:Draws prog w A.in1 i1 fp1 n1 P1 St1) (D2:Draws prog w A.in1 i2 fp2 n2 P2 St2) (ap:Ap z TI TO i1 i2 fp1 fp2) {i:Nat} (le:i=n1 ∨ (i < n1/\i=n2)) (st:uW z TI TO i1 i2 St1 St2 .none i i s.heap) {Q:Option Value->Shared->Prop}
  (q:∀ h' tk,(∀ c o,c ≠ z->c ≠ TO->c ≠ i1->c ≠ i2->s.heap.get? c=some o->h'.get? c=some o)->Q none { s with heap:=h',toks:=tk }):wpAny (model prog w) A (pyNext (.ref z)) Q E s:=by
 obtain ⟨hz,hti,⟨a,b,hto⟩,h1,h2⟩:=st
 have T:s.TypeIs (.ref z) "zip":=⟨_,hz,rfl⟩
 have slot:=PySem.F.slot_zip_next
 unfold pyNext
 apply bd9
 apply wpAny_attempt
 apply bk1 (name:=Str.ofString "__next__") T slot
 apply bk5 slot T PySem.F.entry_zip_next _ (PySem.F.args_zip_next_1 _)
 change wpAny _ _ (field (.ref z) 2 >>= _) _ _ _
 apply bd9
 refine bk0 hz rfl (x:=.bool false) rfl ?_
 change wpAny _ _ (field (.ref z) 3 >>= _) _ _ _
 apply bd9
 refine bk0 hz rfl (x:=.ref TI) rfl ?_
 apply bd9
 apply br7 hti rfl
 change wpAny _ _ (Builtin.SmallTypes.ownedTupleIsFree (.ref z) >>= _) _ _ _
 apply bd9
 unfold Builtin.SmallTypes.ownedTupleIsFree
 apply bd9
 refine bk0 hz rfl (x:=.none) rfl (be4 ?_)
 simp only [if_true]
 apply bd9
 apply wpAny_rule
 apply bd9
 refine bk0 hz rfl (x:=.ref TO) rfl ?_
 apply bd9
 refine bk9 hz (by simp) fun g1 hz1 sb1=>?_
 have k1:∀ c o,c ≠ z->s.heap.get? c=some o->g1.get? c=some o:=fun c o c1 e=>sb1.extBut c o c1 e
 apply bd9
 simp only [List.zipIdx_cons,List.zipIdx_nil,List.forIn_cons,List.forIn_nil]
 apply bd9
 apply bd9
 apply wpAny_onRaise
 change wpAny _ _ (Builtin.SmallTypes.nextOf (.ref i1) >>= _) _ _ _
 apply bd9
 have z1:IsZip g1 z TI TO .ellipsis:=hz1
 rcases le with rfl | ⟨lt,rfl⟩
 ·refine D1.done { s with heap:=g1 } _ _ (D1.frame _ _ _ h1 fun c hc o e=>k1 c o (fun y=>ap.z1 (y ▸ hc)) e) fun g2 e eb ex=>?_
  have z2:IsZip g2 z TI TO .ellipsis:=eb _ _ (lR ap ap.z1) z1
  refine bk9 z2 (by simp) fun g3 z3 sb3=>?_
  obtain ⟨oe,eo,co⟩:=ex
  have ne:e ≠ z:=fun y=>by
   rw [y,z2] at eo
   have:=bg9 eo
   rw [<- this] at co; exact absurd (show Value.type "zip" = Value.type "StopIteration" from co) (by decide)
  apply bd9
  refine wpAny_isInstance (T:="StopIteration") (b:=true) ⟨oe,sb3.extBut _ _ ne eo,co⟩ isSubtype_stop ?_
  exact be4 (q g3 s.toks fun c o c1 _ c3 _ e=>sb3.extBut c o c1 (eb c o c3 (k1 c o c1 e)))
 ·refine D1.item i { s with heap:=g1 } _ _ lt (D1.frame _ _ _ h1 fun c hc o e=>k1 c o (fun y=>ap.z1 (y ▸ hc)) e) fun x g2 tk2 px st1 sb2=>be4 ?_
  have k2:∀ c o,c ≠ z->c ≠ i1->s.heap.get? c=some o->g2.get? c=some o:=fun c o c1 c2 e=>sb2.extBut c o c2 (k1 c o c1 e)
  have to2:IsPair g2 TO a b:=k2 _ _ ap.TOz (lR ap ap.o1) hto
  apply bd9
  apply br7 to2 rfl
  apply bd9
  refine wpAny_updateSeq_pair to2 fun g3 to3 sb3=>?_
  apply bd9
  apply wpAny_letGo
  apply be4
  apply bd9
  apply bd9
  apply wpAny_onRaise
  change wpAny _ _ (Builtin.SmallTypes.nextOf (.ref i2) >>= _) _ _ _
  apply bd9
  have k3:∀ c o,c ≠ z->c ≠ i1->c ≠ TO->s.heap.get? c=some o->g3.get? c=some o:=fun c o c1 c2 c3 e=>sb3.extBut c o c3 (k2 c o c1 c2 e)
  refine D2.done { s with heap:=g3,toks:=tk2 } _ _ (D2.frame _ _ _ h2 fun c hc o e=>k3 c o (fun y=>ap.z2 (y ▸ hc)) (fun y=>ap.n1 (y ▸ hc)) (fun y=>ap.o2 (y ▸ hc)) e) fun g4 e eb ex=>?_
  have z4:IsZip g4 z TI TO .ellipsis:=eb _ _ (qK ap ap.z2) (sb3.extBut _ _ (Ne.symm ap.TOz) (sb2.extBut _ _ (lR ap ap.z1) z1))
  refine bk9 z4 (by simp) fun g5 z5 sb5=>?_
  obtain ⟨oe,eo,co⟩:=ex
  have ne:e ≠ z:=fun y=>by
   rw [y,z4] at eo
   have:=bg9 eo
   rw [<- this] at co; exact absurd (show Value.type "zip" = Value.type "StopIteration" from co) (by decide)
  apply bd9
  refine wpAny_isInstance (T:="StopIteration") (b:=true) ⟨oe,sb5.extBut _ _ ne eo,co⟩ isSubtype_stop ?_
  exact be4 (q g5 tk2 fun c o c1 c2 c3 c4 e=>sb5.extBut c o c1 (eb c o c4 (k3 c o c1 c3 c2 e)))
end
def fZ (h:Heap) (t u:Addr):Heap:=
 ((((h.push { cls:=.type "tuple_iterator",data:=.fields #[.ref t,.int 0 0] }).push { cls:=.type "tuple_iterator",data:=.fields #[.ref u,.int 0 0] }).push { cls:=.type "tuple",data:=.seq #[.ref h.objs.size,.ref (h.objs.size+1)] }).push
  { cls:=.type "tuple",data:=.seq #[.none,.none] }).push { cls:=.type "zip",data:=.fields #[.none,.bool false,.bool false,.ref (h.objs.size+2),.ref (h.objs.size+3)] }
theorem at3 (t u:Addr) (xs ys:Array Value):Meets (Builtin.«zip.__new__» ⟨[.type "zip",.ref t,.ref u],[]⟩) (fun _ R s=>s.heap.IsTuple t xs/\s.heap.IsTuple u ys/\R (.ok (.ret (.ref (s.heap.objs.size+4)))) { s with heap:=fZ s.heap t u }):=
 .of_wp fun prog w A R s h=>by
  obtain ⟨hp,g,d,tk,os⟩:=s
  obtain ⟨ht,hu,h⟩:=h
  have sub:=sub_zip
  have a1:Heap.IsTuple (Shared.heap ⟨hp,g,d,tk,os⟩) t xs:=ht
  have a2:Heap.IsTuple (Shared.heap ⟨hp.push { cls:=.type "tuple_iterator",data:=.fields #[.ref t,.int 0 0] },g,d,tk,os⟩) u ys:=hu.elim fun o y=>⟨o,be1 _ y.1,y.2⟩
  wp_walk using br4 a1,br4 a2
  have e:∀ (o:Obj) (k:Heap),(k.push o).objs.size=k.objs.size+1:=fun o k=>bo4 ..
  refine⟨_,rfl,?_⟩
  simp only [fZ,e] at h ⊢
  exact h
section
variable {prog : Program} {w : World} {A : Around} {E : Value → Shared → Prop} {s : Shared}
theorem at5 {t u:Addr}{xs ys:Array Value}{Q:Value->Shared->Prop} (ht:s.heap.IsTuple t xs) (hu:s.heap.IsTuple u ys)
  (q:∀ h',IsZip h' (s.heap.objs.size+4) (s.heap.objs.size+2) (s.heap.objs.size+3) .none->IsPair h' (s.heap.objs.size+2) (.ref s.heap.objs.size) (.ref (s.heap.objs.size+1))->
   IsPair h' (s.heap.objs.size+3) .none .none->h'.IsTupleIter s.heap.objs.size t 0->h'.IsTupleIter (s.heap.objs.size+1) u 0->(∀ c o,s.heap.get? c=some o->h'.get? c=some o)->Q (.ref (s.heap.objs.size+4)) { s with heap:=h' }) :
  wpAny (model prog w) A (call (.type "zip") [.ref t,.ref u]) Q E s:=by
 refine callType_new PySem.F.called_zip (by decide) (PySem.F.typeCall_zip_2 _ _) (PySem.F.newCall_zip_2 _ _) (fun obj=>PySem.F.args_object_init_3 obj _ _) PySem.F.entry_zip_new (at3 t u xs ys) ⟨ht,hu,?_⟩
 have e:∀ (o:Obj) (k:Heap),(k.push o).objs.size=k.objs.size+1:=fun o k=>bo4 ..
 have p0:∀ (k:Heap) (o:Obj) (m:Nat),o.isFreed=false->m=k.objs.size->(k.push o).get? m=some o:=fun k o m f z=>by rw [z]; exact bf6 _ f
 have g0:(fZ s.heap t u).get? s.heap.objs.size=some { cls:=.type "tuple_iterator",data:=.fields #[.ref t,.int 0 0] }:=by
  unfold fZ
  exact be1 _ (be1 _ (be1 _ (be1 _ (p0 _ _ _ rfl rfl))))
 have g1:(fZ s.heap t u).get? (s.heap.objs.size+1)=some { cls:=.type "tuple_iterator",data:=.fields #[.ref u,.int 0 0] }:=by
  unfold fZ
  exact be1 _ (be1 _ (be1 _ (p0 _ _ _ rfl (by simp only [e]))))
 have g2:(fZ s.heap t u).get? (s.heap.objs.size+2)=some { cls:=.type "tuple",data:=.seq #[.ref s.heap.objs.size,.ref (s.heap.objs.size+1)] }:=by
  unfold fZ
  exact be1 _ (be1 _ (p0 _ _ _ rfl (by simp only [e])))
 have g3:(fZ s.heap t u).get? (s.heap.objs.size+3)=some { cls:=.type "tuple",data:=.seq #[.none,.none] }:=by
  unfold fZ
  exact be1 _ (p0 _ _ _ rfl (by simp only [e]))
 have g4:(fZ s.heap t u).get? (s.heap.objs.size+4)=some { cls:=.type "zip",data:=.fields #[.none,.bool false,.bool false,.ref (s.heap.objs.size+2),.ref (s.heap.objs.size+3)] }:=by
  unfold fZ
  exact p0 _ _ _ rfl (by simp only [e])
 refine⟨⟨_,g4,rfl⟩,q _ g4 g2 g3 ⟨_,g0,rfl,rfl⟩ ⟨_,g1,rfl,rfl⟩ fun c o z=>?_⟩
 unfold fZ
 exact be1 _ (be1 _ (be1 _ (be1 _ (be1 _ z))))
end
end Zp
namespace L2
open PySem PySem.Spec PyProof.Rows
def uX (K:PySem.W.Frag) (a b:Addr):It:=
  ⟨fun i H=>∃ xs ys x y,aO K H a xs/\aO K H b ys/\xs[i]? = some x/\ys[i]? = some y,
   fun i H v H'=>∃ T x y,H T=none/\v = .ref T/\H'=upd H T (.tup [x,y])/\∀ xs ys,aO K H a xs->aO K H b ys->xs[i]? = some x/\ys[i]? = some y,
   fun i H=>∃ xs ys,aO K H a xs/\aO K H b ys/\(i=xs.length ∨ (i < xs.length/\i=ys.length))⟩
def Sq (t:Bool) (K:PySem.W.Frag) (H:Hp) (a:Addr) (xs:List V):Prop:=match t with
 | true=>aO K H a xs
 | false=>aU K H a xs
def g9 (t:Bool) (h:Heap) (i a:Addr) (n:Nat):Prop:=match t with
 | true=>h.IsTupleIter i a n
 | false=>h.IsListIter i a n
def G1 (t:Bool) (h:Heap) (a:Addr) (xs:Array Value):Prop:=match t with
 | true=>h.IsTuple a xs
 | false=>h.IsList a xs
theorem g9.at {h h':Heap}{i a:Addr}{n:Nat}:∀ {t:Bool},g9 t h i a n->(∀ o,h.get? i=some o->h'.get? i=some o)->g9 t h' i a n
 | true,x,k=>Heap.IsTupleIter.at x k
 | false,x,k=>Heap.IsListIter.at x k
theorem g9.ob {h:Heap}{i a:Addr}{n:Nat}:∀ {t:Bool},g9 t h i a n->∃ o,h.get? i=some o/\∀ v,o.data ≠ .cell v
 | true,⟨o,f,_,d⟩=>⟨o,f,fun v q=>by rw [d] at q; cases q⟩
 | false,⟨o,f,_,d⟩=>⟨o,f,fun v q=>by rw [d] at q; cases q⟩
theorem g9.draws {prog:Program}{w:World}{A:Around}:∀ (t:Bool) (hh:A.handled=none) (it a:Addr) (ne:a ≠ it) (items:Array Value),Draws prog w A it [it,a] items.size (fun i v=>items[i]? = some v) (fun i h=>g9 t h it a i/\G1 t h a items)
 | true,hh,it,a,ne,items=>Zp.at2 hh it a ne items
 | false,hh,it,a,ne,items=>Draws.list hh it a ne items
section
variable {X : Cx} {pins : List (Addr × Obj)} {σ : St} {H : Hp} {s : Shared} {a : Addr} {xs ys : List V}
theorem Sq.get (I:a8 X pins σ H s):∀ {t:Bool},Sq t X.K H a xs->∃ us,aQ xs us/\G1 t s.heap a us.toArray
 | true,h=>by obtain ⟨us,r,p,_⟩:=I.tuple h; exact⟨us,r,p⟩
 | false,h=>by obtain ⟨us,r,p,_⟩:=I.list h; exact⟨us,r,p.isList⟩
theorem Sq.inj (I:a8 X pins σ H s):∀ {t:Bool},Sq t X.K H a xs->Sq t X.K H a ys->xs=ys
 | true,h,g=>I.tuple_inj h g
 | false,h,g=>I.list_inj h g
theorem Sq.off (I:a8 X pins σ H s) (he:H a=none) (hb:X.base.get? a=none):∀ {t:Bool},Sq t X.K H a xs->False
 | true,h=>by
  rcases h with (h | ⟨_,h⟩) | ⟨o,_,_,h,_⟩
  ·rw [he] at h; cases h
  ·rw [he] at h; cases h
  ·have:=I.ok.mod.kin a o h
   rw [hb] at this; cases this
 | false,h=>by
  rcases h with (h | ⟨_,h⟩) | ⟨o,_,_,h,_⟩
  ·rw [he] at h; cases h
  ·rw [he] at h; cases h
  ·have:=I.ok.mod.kin a o h
   rw [hb] at this; cases this
end
def at6 (t1 t2:Bool) (K:PySem.W.Frag) (a b:Addr):It:=
  ⟨fun i H=>∃ xs ys x y,Sq t1 K H a xs/\Sq t2 K H b ys/\xs[i]? = some x/\ys[i]? = some y,
   fun i H v H'=>∃ T x y,H T=none/\v = .ref T/\H'=upd H T (.tup [x,y])/\∀ xs ys,Sq t1 K H a xs->Sq t2 K H b ys->xs[i]? = some x/\ys[i]? = some y,
   fun i H=>∃ xs ys,Sq t1 K H a xs/\Sq t2 K H b ys/\(i=xs.length ∨ (i < xs.length/\i=ys.length))⟩
structure uY (t1 t2:Bool) (z TI TO i1 i2 a b:Addr) (i:Nat) (h:Heap):Prop where
 zz:IsZip h z TI TO .none
 ti:IsPair h TI (.ref i1) (.ref i2)
 to_:∃ x y,IsPair h TO x y
 s1:g9 t1 h i1 a i
 s2:g9 t2 h i2 b i
theorem G2 (t1 t2:Bool) {P:Program}{w:World}{K:PySem.W.Frag}{elts:List Expr}{k:Nat}{pos:Pos} (a b z TI TO i1 i2:Addr) (d : [z,TI,TO,i1,i2].Nodup) :
  hZ P w K (.Tuple elts k pos) (at6 t1 t2 K a b) [z,TI,TO,i1,i2] z (uY t1 t2 z TI TO i1 i2 a b):=by
 have nd:z ≠ TI/\z ≠ TO/\z ≠ i1/\z ≠ i2/\TI ≠ TO/\TI ≠ i1/\TI ≠ i2/\TO ≠ i1/\TO ≠ i2/\i1 ≠ i2:=by
  simp only [List.nodup_cons,be9,bf1,bi6,not_or] at d
  obtain ⟨⟨a1,a2,a3,a4⟩,⟨b1,b2,b3⟩,⟨c1,c2⟩,e1,_⟩:=d
  exact⟨a1,a2,a3,a4,b1,b2,b3,c1,c2,e1⟩
 obtain ⟨n1,n2,n3,n4,n5,n6,n7,n8,n9,n10⟩:=nd
 have offBase:∀ {X:Cx}{pins:List (Addr × Obj)}{σ:St}{H:Hp}{s:Shared},a8 X pins σ H s->(∀ c ∈ [z,TI,TO,i1,i2],gL X pins H c)->∀ c ∈ [z,TI,TO,i1,i2],X.base.get? c=none:=by
  intro X pins σ H s I hf c hc
  cases q:X.base.get? c with
  | none=>rfl
  | some o=>
   rcases (hf c hc).2.2.2.1 with h | h
   ·exact absurd h (I.ok.noex c o q)
   ·exact absurd (bf2 (bf8 q) (bh6 I.ok.bsz h)) (bj7 _)
 have off:∀ {t:Bool}{X:Cx}{pins:List (Addr × Obj)}{σ:St}{H:Hp}{s:Shared}{c:Addr}{zs:List V},a8 X pins σ H s->(∀ c ∈ [z,TI,TO,i1,i2],gL X pins H c)->Sq t X.K H c zs->c ∉ [z,TI,TO,i1,i2]:=by
  intro t X pins σ H s c zs I hf hc hm
  exact Sq.off I (hf c hm).1 (offBase I hf c hm) hc
 have ap:∀ {c e:Addr},c ∉ [z,TI,TO,i1,i2]->e ∉ [z,TI,TO,i1,i2]->Zp.Ap z TI TO i1 i2 [i1,c] [i2,e]:=fun {c e} hc he=>by
  simp only [be9,bf1,bi6,not_or] at hc he
  obtain ⟨c1,c2,c3,c4,c5⟩:=hc
  obtain ⟨e1,e2,e3,e4,e5⟩:=he
  have two:∀ {q u v:Addr},q ≠ u->q ≠ v->q ∉ [u,v]:=fun {q u v} h1 h2 hm=>by
   simp only [be9,bf1,bi6] at hm
   exact hm.elim h1 h2
  exact⟨n1.symm,n2.symm,n5,two n3 (Ne.symm c1),two n4 (Ne.symm e1),two n8 (Ne.symm c3),two n9 (Ne.symm e3),two n6 (Ne.symm c2),two n7 (Ne.symm e2),bf5,bf5,two n10 (Ne.symm e4),two n10.symm (Ne.symm c5)⟩
 refine⟨by simp,fun i h st c hc=>?_,fun i h h' st kp=>?_,?_,?_,fun A i s Q E st q=>wpAny_pyIter_zip st.zz q⟩
 ·simp only [be9,bf1,bi6] at hc
  obtain ⟨x,y,to⟩:=st.to_
  rcases hc with rfl | rfl | rfl | rfl | rfl
  ·exact⟨_,st.zz,fun v q=>by cases q⟩
  ·exact⟨_,st.ti,fun v q=>by cases q⟩
  ·exact⟨_,to,fun v q=>by cases q⟩
  ·exact st.s1.ob
  ·exact st.s2.ob
 ·obtain ⟨x,y,to⟩:=st.to_
  exact⟨kp z (by simp) _ st.zz,kp TI (by simp) _ st.ti,⟨x,y,kp TO (by simp) _ to⟩,st.s1.at fun o e=>kp i1 (by simp) o e,st.s2.at fun o e=>kp i2 (by simp) o e⟩
 ·
  intro X hP hw hK hc i pins s σ H E I hf st hg
  subst hP hw hK
  obtain ⟨xs,ys,x,y,ha,hb,hx,hy⟩:=hg
  obtain ⟨us,ru,pu⟩:=Sq.get I ha
  obtain ⟨vs,rv,pv'⟩:=Sq.get I hb
  obtain ⟨ux,eux,rux⟩:=ru.get hx
  obtain ⟨vy,evy,rvy⟩:=rv.get hy
  have fa:=off I hf ha
  have fb:=off I hf hb
  have hh:X.A.in1.handled=none:=I.ok.hd hc
  have l1:i < us.toArray.size:=by simpa using (bf0.mp eux).1
  have l2:i < vs.toArray.size:=by simpa using (bf0.mp evy).1
  have fa':a ≠ i1:=fun q=>fa (by rw [q]; simp)
  have fb':b ≠ i2:=fun q=>fb (by rw [q]; simp)
  have D1:=g9.draws t1 (prog:=X.prog) (w:=X.w) hh i1 a fa' us.toArray
  have D2:=g9.draws t2 (prog:=X.prog) (w:=X.w) hh i2 b fb' vs.toArray
  refine Zp.item D1 D2 (ap fa fb) l1 l2 ⟨st.zz,st.ti,st.to_,⟨st.s1,pu⟩,⟨st.s2,pv'⟩⟩ fun p q h' tk hp hq st' pr kp sz=>⟨_,rfl,?_⟩
  obtain rfl:p=ux:=by
   have:us.toArray[i]? = some ux:=by simpa using eux
   rw [this] at hp; exact (bg9 hp).symm
  obtain rfl:q=vy:=by
   have:vs.toArray[i]? = some vy:=by simpa using evy
   rw [this] at hq; exact (bg9 hq).symm
  refine wpAny_letOwnedTupleGo_zip (s:={ s with heap:=h',toks:=tk }) st'.zz fun g zz sb=>?_
  have hzl:z < s.heap.objs.size:=bf8 st.zz
  have up:∀ c o,c ≠ z->c ≠ TO->c ≠ i1->c ≠ i2->s.heap.get? c=some o->g.get? c=some o:=fun c o c1 c2 c3 c4 e=>sb.extBut c o c1 (kp c o c1 c2 c3 c4 e)
  have hT:H s.heap.objs.size=none:=I.hok.fresh (be6 _)
  have prG:IsPair g s.heap.objs.size p q:=sb.extBut _ _ (bl7 hzl) pr
  have fpn:∀ c u,H c=some u->c ∉ [z,TI,TO,i1,i2]:=fun c u e hm=>by rw [(hf c hm).1] at e; cases e
  have upH:∀ c o u,H c=some u->s.heap.get? c=some o->g.get? c=some o:=fun c o u e z=>by
   have:=fpn c u e
   simp only [be9,bf1,bi6,not_or] at this
   exact up c o this.1 this.2.2.1 this.2.2.2.1 this.2.2.2.2 z
  have ns:∀ m,s.heap.Ns X.env.locals m->g.Ns X.env.locals m:=fun m hm=>by
   obtain ⟨o,es,ep,e1,e2⟩:=hm
   exact⟨o,es,ep,up _ o (Ne.symm (hf z (by simp)).2.1) (Ne.symm (hf TO (by simp)).2.1) (Ne.symm (hf i1 (by simp)).2.1) (Ne.symm (hf i2 (by simp)).2.1) e1,e2⟩
  have I2:a8 X pins σ (upd H s.heap.objs.size (.tup [x,y])) { s with heap:=g,toks:=tk }:=by
   refine I.step (g':=s.gens) (d':=s.drawn) (ch:=[z,TO,i1,i2]) (fun c hc'=>?_) (fun c o _ _ hc' e _=>?_) (fun c o _ _ hc' e _=>⟨o.slots,?_⟩) (fun c o _ e n=>?_) (fun c o hc' e=>⟨o,?_⟩)
    (fun c zs e=>by rw [aI (cF e hT)]; exact e) (fun c u zs e=>by rw [aI (cF e hT)]; exact e) (fun c ps e=>⟨#[],by rw [aI (cF e hT),e]; simp⟩) ns (fun c u e=>?_) I.bare
   ·have hm:c ∈ [z,TI,TO,i1,i2]:=by
     simp only [be9,bf1,bi6] at hc' ⊢
     rcases hc' with h | h | h | h <;> simp [h]
    exact⟨(hf c hm).2.2.2.1,(hf c hm).2.1,(hf c hm).2.2.2.2.1,(hf c hm).2.2.2.2.2⟩
   ·simp only [be9,bf1,bi6,not_or] at hc'
    exact up c o hc'.1 hc'.2.1 hc'.2.2.1 hc'.2.2.2 e
   ·simp only [be9,bf1,bi6,not_or] at hc'
    exact up c o hc'.1 hc'.2.1 hc'.2.2.1 hc'.2.2.2 e
   ·rw [aI (bh5 (bf8 e))]; exact n
   ·simp only [be9,bf1,bi6,not_or] at hc'
    exact up c o hc'.1 hc'.2.1 hc'.2.2.1 hc'.2.2.2 e
   ·by_cases hcT:c=s.heap.objs.size
    ·subst hcT
     rw [bD] at e; cases e
     exact⟨by show 2<=sizeLine; decide,[p,q],.cons rux (.cons rvy .nil),⟨_,prG,rfl,_,rfl⟩,fun u e=>by rw [prG] at e; cases e; rfl⟩
    ·rw [aI hcT] at e
     refine (I.hok c u e).stay (fun c' o' hc2 q'=>?_) (fun c' q'=>by rw [aI (cF q' hT)]; exact q') fun c' zs q'=>by rw [aI (cF q' hT)]; exact q'
     rcases hc2 with rfl | hc2
     ·exact upH _ _ _ e q'
     ·exact upH _ _ _ hc2 q'
  obtain ⟨x',y',to'⟩:=st'.to_
  refine⟨.ref s.heap.objs.size,_,I2,rfl,⟨_,x,y,hT,rfl,rfl,fun xs' ys' ha' hb'=>?_⟩,⟨zz,sb.extBut _ _ n1.symm st'.ti,⟨x',y',sb.extBut _ _ n2.symm to'⟩,st'.s1.1.at fun o e=>sb.extBut _ o n3.symm e,st'.s2.1.at fun o e=>sb.extBut _ o n4.symm e⟩,fun c hc'=>?_⟩
  ·rw [Sq.inj I ha' ha,Sq.inj I hb' hb]; exact⟨hx,hy⟩
  ·obtain ⟨o,e,_⟩:∃ o,s.heap.get? c=some o/\True:=by
    simp only [be9,bf1,bi6] at hc'
    obtain ⟨x2,y2,to2⟩:=st.to_
    obtain ⟨o1,f1,_⟩:=st.s1.ob
    obtain ⟨o2,f2,_⟩:=st.s2.ob
    rcases hc' with rfl | rfl | rfl | rfl | rfl
    ·exact⟨_,st.zz,trivial⟩
    ·exact⟨_,st.ti,trivial⟩
    ·exact⟨_,to2,trivial⟩
    ·exact⟨_,f1,trivial⟩
    ·exact⟨_,f2,trivial⟩
   rw [aI (bh5 (bf8 e))]; exact (hf c hc').1
 ·
  intro X hP hw hK hc i pins s σ H E I hf st hg
  subst hP hw hK
  obtain ⟨xs,ys,ha,hb,hi⟩:=hg
  obtain ⟨us,ru,pu⟩:=Sq.get I ha
  obtain ⟨vs,rv,pv'⟩:=Sq.get I hb
  have fa:=off I hf ha
  have fb:=off I hf hb
  have hh:X.A.in1.handled=none:=I.ok.hd hc
  have fa':a ≠ i1:=fun q=>fa (by rw [q]; simp)
  have fb':b ≠ i2:=fun q=>fb (by rw [q]; simp)
  have D1:=g9.draws t1 (prog:=X.prog) (w:=X.w) hh i1 a fa' us.toArray
  have D2:=g9.draws t2 (prog:=X.prog) (w:=X.w) hh i2 b fb' vs.toArray
  have e1:=ru.length
  have e2:=rv.length
  refine Zp.fin D1 D2 (ap fa fb) (by simp only [be0]; omega) ⟨st.zz,st.ti,st.to_,⟨st.s1,pu⟩,⟨st.s2,pv'⟩⟩ fun g tk kp=>⟨rfl,?_⟩
  have fpn:∀ c u,H c=some u->c ∉ [z,TI,TO,i1,i2]:=fun c u e hm=>by rw [(hf c hm).1] at e; cases e
  have upH:∀ c o u,H c=some u->s.heap.get? c=some o->g.get? c=some o:=fun c o u e z=>by
   have:=fpn c u e
   simp only [be9,bf1,bi6,not_or] at this
   exact kp c o this.1 this.2.2.1 this.2.2.2.1 this.2.2.2.2 z
  have ns:∀ m,s.heap.Ns X.env.locals m->g.Ns X.env.locals m:=fun m hm=>by
   obtain ⟨o,es,ep,e1,e2⟩:=hm
   exact⟨o,es,ep,kp _ o (Ne.symm (hf z (by simp)).2.1) (Ne.symm (hf TO (by simp)).2.1) (Ne.symm (hf i1 (by simp)).2.1) (Ne.symm (hf i2 (by simp)).2.1) e1,e2⟩
  refine I.step (g':=s.gens) (d':=s.drawn) (ch:=[z,TO,i1,i2]) (fun c hc'=>?_) (fun c o _ _ hc' e _=>?_) (fun c o _ _ hc' e _=>⟨o.slots,?_⟩) (fun c o _ e n=>n) (fun c o hc' e=>⟨o,?_⟩)
   (fun c zs e=>e) (fun c u zs e=>e) (fun c ps e=>⟨#[],by rw [e]; simp⟩) ns (fun c u e=>?_) I.bare
  ·have hm:c ∈ [z,TI,TO,i1,i2]:=by
    simp only [be9,bf1,bi6] at hc' ⊢
    rcases hc' with h | h | h | h <;> simp [h]
   exact⟨(hf c hm).2.2.2.1,(hf c hm).2.1,(hf c hm).2.2.2.2.1,(hf c hm).2.2.2.2.2⟩
  ·simp only [be9,bf1,bi6,not_or] at hc'
   exact kp c o hc'.1 hc'.2.1 hc'.2.2.1 hc'.2.2.2 e
  ·simp only [be9,bf1,bi6,not_or] at hc'
   exact kp c o hc'.1 hc'.2.1 hc'.2.2.1 hc'.2.2.2 e
  ·simp only [be9,bf1,bi6,not_or] at hc'
   exact kp c o hc'.1 hc'.2.1 hc'.2.2.1 hc'.2.2.2 e
  ·refine (I.hok c u e).stay (fun c' o' hc2 q'=>?_) (fun _ q'=>q') fun _ _ q'=>q'
   rcases hc2 with rfl | hc2
   ·exact upH _ _ _ e q'
   ·exact upH _ _ _ hc2 q'
abbrev at7:=uY true true
theorem at8 {P:Program}{w:World}{K:PySem.W.Frag}{elts:List Expr}{k:Nat}{pos:Pos} (a b z TI TO i1 i2:Addr) (d : [z,TI,TO,i1,i2].Nodup) :
  hZ P w K (.Tuple elts k pos) (uX K a b) [z,TI,TO,i1,i2] z (at7 z TI TO i1 i2 a b):=G2 true true a b z TI TO i1 i2 d
section
variable {X : Cx}
def at9 (K:PySem.W.Frag) (ta:TA):TI:=fun σ H R=>ta σ H fun vs H1=>∃ a b xs ys,vs = [.ref a,.ref b]/\aO K H1 a xs/\aO K H1 b ys/\R (uX K a b) H1
theorem au0 {elts:List Expr}{kt:Nat}{pt:Pos}{a b:Expr}{ta:TA}{p pos:Pos} (hg:Gl X "zip") (hm:X.mg "zip" = none) (ha:PA X [a,b] ta) (hs:starEach [a,b] X.env = [(false,eval a X.env),(false,eval b X.env)]:=by rfl) (hs2:starEach [b] X.env = [(false,eval b X.env)]:=by rfl) :
  PI X (.Tuple elts kt pt) (.Call (.Name "zip" p) [a,b] [] pos) (at9 X.K ta):=by
 intro pins s σ H R I h
 refine Call_ (j3 I hg hm PyProof.Rows.boot_zip (bl0 (aS (ha pos pins s σ H _ I h) fun us s1 ⟨vs,H1,I1,r1,q1⟩=>?_) (by rw [hs,hs2]) (by rw [hs2]; rfl)))
 obtain ⟨a',b',xs,ys,e,h1,h2,q⟩:=q1
 subst e
 cases r1 with
 | cons r rr=>
  cases rr with
  | cons r' rr=>
   cases rr
   cases r
   cases r'
   obtain ⟨us,_,p1,_⟩:=I1.tuple h1
   obtain ⟨ws,_,p2,_⟩:=I1.tuple h2
   refine Zp.at5 p1 p2 fun h' z ti to s1' s2' kp=>wpAny_pyIter_zip z ?_
   have fresh:∀ k,H1 (s1.heap.objs.size+k)=none:=fun k=>I1.hok.fresh (bk7 _ _)
   refine⟨s1.heap.objs.size+4,[s1.heap.objs.size+4,s1.heap.objs.size+2,s1.heap.objs.size+3,s1.heap.objs.size,s1.heap.objs.size+1],_,_,H1,rfl,I1.kept (t':=s1.toks) kp,
    at8 a' b' _ _ _ _ _ (by simp),⟨z,ti,⟨_,_,to⟩,s1',s2'⟩,fun c hc=>?_,q⟩
   simp only [be9,bf1,bi6] at hc
   rcases hc with rfl | rfl | rfl | rfl | rfl
   ·exact I1.fpOk (bk7 _ _) (fresh 4)
   ·exact I1.fpOk (bk7 _ _) (fresh 2)
   ·exact I1.fpOk (bk7 _ _) (fresh 3)
   ·exact I1.fpOk (be6 _) (fresh 0)
   ·exact I1.fpOk (bk7 _ _) (fresh 1)
theorem uZ (hc:X.calm=true):cU X (.builtin "all") (fun xs H Q=>∃ (a:Addr) (bs:List Bool),xs = [.ref a]/\aU X.K H a (bs.map V.bl)/\Q (.bl (bs.all id)) H):=by
 intro pins s σ H xs us Q I r h
 obtain ⟨a,bs,rfl,hq,q⟩:=h
 obtain ⟨u,rfl,ru⟩:=fX r
 cases ru
 obtain ⟨its,rv,p,hz⟩:=I.list hq
 have hl:=rv.length
 rw [be5] at hl
 have hlt:a < s.heap.objs.size:=by obtain ⟨o,e,_⟩:=p.isList; exact bf8 e
 refine call_all_walk (wpAny_pyIter_list p.isList ?_)
 have hh:X.A.in1.handled=none:=I.ok.hd hc
 refine⟨s.heap.objs.size,_,_,_,_,_,fun i=>bs.getD i false,rfl,Walks.list hh s.heap.objs.size a (bh5 hlt) its.toArray,⟨⟨_,bf6 _ rfl,rfl,rfl⟩,p.isList.push _⟩,?_,fun h' tk kp=>?_⟩
 ·intro i v s' Q' E' hP hQ'
  have hi:its[i]? = some v:=by simpa using hP
  have hil:i < bs.length:=by rw [hl]; exact (bf0.mp hi).1
  obtain ⟨u,e1,e2⟩:=rv.get (i:=i) (x:=.bl bs[i]) (by simp [hil])
  rw [hi] at e1; cases e1
  cases e2
  have:bs.getD i false=bs[i]:=by rw [bf7,be3 hil]; rfl
  have hQ2:Q' (bs.getD i false) s':=hQ'
  rw [this] at hQ2
  exact bq2 hQ2
 ·have all_eq:(List.range its.toArray.size).all (fun i=>bs.getD i false)=bs.all id:=by
   rw [be0,<- hl]
   clear q rv hz hl hq hlt p hh kp
   induction bs with
   | nil=>rfl
   | cons b r ih=>
    rw [bi2,List.range_succ_eq_map,bn9,List.all_map,bn9,<- ih]
    rfl
  rw [all_eq]
  refine⟨.bl (bs.all id),H,I.kept (t':=tk) (h':=h') fun b o e=>kp b o (fun z=>?_) (be1 _ e),rfl,q⟩
  rw [bf3.mp z] at e
  exact absurd (bf8 e) (bj7 _)
end
structure v0 (H:Hp) (J:It) (n:Nat) (R:Nat->V->Hp->Prop):Prop where
 go:∀ i H',aD H H'->i < n->J.go i H'
 yld:∀ i H' x H2,aD H H'->J.yld i H' x H2->i < n->aD H' H2/\R i x H2
 stop:∀ H',aD H H'->J.stop n H'
theorem v3 {H1:Hp}{J:It}{n:Nat}{R:Nat->V->Hp->Prop}{g:TG}{tc:TT}{te:TE}{σ0:St}{Q:VK} (O:v0 H1 J n R) (Pv:Nat->List V->Hp->Prop) (hn:n<=sizeLine)
  (h0:∀ D,H1 D=none->Pv 0 [] (upd H1 D (.lst [])))
  (mono:∀ i acc H' H2,aD H' H2->Pv i acc H'->Pv i acc H2)
  (hs:∀ i x acc D H',i < n->R i x H'->qB H1 D n i acc H'->Pv i acc H'->g x σ0 H' fun σ2 H3=>Wk σ0 σ2/\tc σ2 H3 fun b H4=>
   if b=true then te σ2 H4 fun v H5=>uM H1 D n Pv i acc v H5 else C7 H1 D n Pv i acc H4)
  (hd:∀ D acc H',H1 D=none->aD H1 H'->H' D=some (.lst acc)->acc.length<=n->Pv n acc H'->Q (.ref D) H') :
  ∀ D,H1 D=none->∃ W:Nat->Nat->List V->Hp->Prop,(∃ m,W 0 m [] (upd H1 D (.lst [])))/\nV g tc te σ0 J D Q W:=by
 intro D hD
 refine⟨CW H1 D n Pv,⟨n,rfl,bh8 _,be6 _,bM hD _,bD,h0 D hD⟩,?_⟩
 rintro i m acc H' ⟨rfl,hi,ha,sm,hDa,p⟩
 refine⟨hDa,?_⟩
 by_cases hlt:i < n
 ·refine .inr ⟨O.go i H' sm hlt,fun x H2 y=>?_⟩
  obtain ⟨s2,r2⟩:=O.yld i H' x H2 sm y hlt
  exact hs i x acc D H2 hlt r2 ⟨hlt,ha,hn,sm.trans s2,hD,s2 _ _ hDa⟩ (mono i acc H' H2 s2 p)
 ·have e:i=n:=by omega
  subst e
  exact .inl ⟨O.stop H' sm,hd D acc H' hD sm hDa ha p⟩
theorem G3 {K:PySem.W.Frag}{H:Hp}{a b:Addr}{xs ys:List V} (ha:aO K H a xs) (hb:aO K H b ys) (hl:ys.length<=xs.length) :
  v0 H (uX K a b) ys.length (fun i v H2=>∃ T x y,v = .ref T/\H2 T=some (.tup [x,y])/\xs[i]? = some x/\ys[i]? = some y):=by
 refine⟨fun i H' sm hi=>⟨xs,ys,xs[i]'(by omega),ys[i],sm.tup ha,sm.tup hb,by simp,by simp⟩,fun i H' v H2 sm y hi=>?_,fun H' sm=>⟨xs,ys,sm.tup ha,sm.tup hb,by omega⟩⟩
 obtain ⟨T,x,y',hT,hv,e,hxy⟩:=y
 subst e
 obtain ⟨h1,h2⟩:=hxy xs ys (sm.tup ha) (sm.tup hb)
 exact⟨bM hT _,T,x,y',hv,bD,h1,h2⟩
end L2
namespace HT
open PySem PyProof.Rows
section
variable {prog : Program} {w : World} {A : Around} {E : Value → Shared → Prop} {s : Shared}
theorem au1 {t sl:Addr}{items:Array Value}{vl vu:Value}{lo hi:Option Int}{Q:Value->Shared->Prop} (ht:IsTup s.heap t items) (hs:s.heap.IsSliceOf sl vl vu .none) (pl:IsPart vl lo) (pu:IsPart vu hi)
  (h1:b7 items.size 0 lo=0) (h2:b7 items.size items.size hi=items.size) (h:Q (.ref t) s):wpAny (model prog w) A (getItem (.ref t) (.ref sl)) Q E s:=by
 obtain ⟨o,e1,e2,e3⟩:=id hs
 have T:s.TypeIs (.ref sl) "slice":=⟨o,e1,e2⟩
 unfold getItem
 try with_reducible refine bm0 ?_
 first | refine bd9 (be4 ?_) | skip
 apply bd9
 apply wpAny_sequenceKey ht.typeIs (by decide)
 apply bd9
 apply bk1 (name:=Str.ofString "__getitem__") ht.typeIs bo8
 apply bk5 bo8 ht.typeIs entry_tuple_getitem _ (args_tuple_getitem _ _)
 change wpAny _ _ (Builtin.Tuple.tupleItemsOf (.ref t) >>= _) _ _ s
 apply bd9
 apply tupleItemsOf_ ht
 apply bd9
 apply wpAny_typeOf T
 rw [if_pos (by decide)]
 apply bd9
 apply zQ hs pl pu
 rw [h1,h2]
 have yes:((((0:Nat):Int) == 0 && (1:Int) == 1 && (items.size - 0) == items.size)=true):=by simp
 change wpAny _ _ (if ((((0:Nat):Int) == 0 && (1:Int) == 1 && (items.size - 0) == items.size)=true) then _ else _) _ _ s
 rw [if_pos yes]
 apply bd9
 unfold Builtin.Tuple.tupleIsExact
 apply bd9
 apply wpAny_typeOf ht.typeIs
 apply be4
 change wpAny _ _ (rule "tuple.getitem.whole" >>= fun _=>ret (Value.ref t)) _ _ s
 apply bd9
 apply wpAny_rule
 exact be4 ⟨_,rfl,be4 h⟩
end
end HT
namespace L2
open PySem PySem.Spec PyProof.Rows
section
variable {X : Cx}
def au2 (K:PySem.W.Frag):V->Option Int->Option Int->Hp->VK->Prop:=fun x lo hi H Q=>∃ a xs,x = .ref a/\aO K H a xs/\(∀ p,H p=none->Q (.ref p) (upd H p (.tup (eD xs lo hi))))/\(eD xs lo hi=xs->Q (.ref a) H)
theorem G4:jV X (au2 X.K):=by
 intro pins s σ H x v vl vu lo hi sl Q I rx hs pl pu h
 obtain ⟨a,xs,ex,hx,q1,q2⟩:=h
 by_cases hw:HT.b7 xs.length 0 lo=0/\HT.b7 xs.length xs.length hi=xs.length
 ·subst ex
  cases rx
  obtain ⟨its,r,ht,hz⟩:=I.tuple hx
  have hlen:its.toArray.size=xs.length:=by rw [be0]; exact r.length.symm
  refine⟨"tuple",_,PyProof.Rows.slot_tuple_getitem.lookup,ht.typeIs,?_⟩
  refine HT.au1 ht hs pl pu (by rw [hlen]; exact hw.1) (by rw [hlen]; exact hw.2) ⟨.ref a,H,I,rfl,q2 ?_⟩
  unfold eD
  rw [hw.1,hw.2]
  simp
 ·exact an2 pins s σ H x v vl vu lo hi sl Q I rx hs pl pu ⟨a,xs,ex,hx,hw,q1⟩
end
theorem v4 (xs:List V):eD xs (some 1) none=xs.drop 1:=by
 unfold eD
 have e1:HT.b7 xs.length 0 (some 1)=min 1 xs.length:=HT.zN xs.length 0 1
 have e2:HT.b7 xs.length xs.length none=xs.length:=rfl
 rw [e1,e2]
 cases xs with
 | nil=>rfl
 | cons x r=>
  have:min 1 (x :: r).length=1:=by simp
  rw [this]
  simp
def v7 (K:PySem.W.Frag) (a b:Addr):It:=
  ⟨fun i H=>∃ xs ys x y,aU K H a xs/\aU K H b ys/\xs[i]? = some x/\ys[i]? = some y,
   fun i H v H'=>∃ T x y,H T=none/\v = .ref T/\H'=upd H T (.tup [x,y])/\∀ xs ys,aU K H a xs->aU K H b ys->xs[i]? = some x/\ys[i]? = some y,
   fun i H=>∃ xs ys,aU K H a xs/\aU K H b ys/\(i=xs.length ∨ (i < xs.length/\i=ys.length))⟩
abbrev au3:=uY false false
theorem au4 {P:Program}{w:World}{K:PySem.W.Frag}{elts:List Expr}{k:Nat}{pos:Pos} (a b z TI TO i1 i2:Addr) (d : [z,TI,TO,i1,i2].Nodup) :
  hZ P w K (.Tuple elts k pos) (v7 K a b) [z,TI,TO,i1,i2] z (au3 z TI TO i1 i2 a b):=G2 false false a b z TI TO i1 i2 d
section
variable {X : Cx}
def au5 (K:PySem.W.Frag) (ta:TA):TI:=fun σ H R=>ta σ H fun vs H1=>∃ a b xs ys,vs = [.ref a,.ref b]/\aU K H1 a xs/\aU K H1 b ys/\R (v7 K a b) H1
theorem au6 {elts:List Expr}{kt:Nat}{pt:Pos}{a b:Expr}{ta:TA}{p pos:Pos} (hg:Gl X "zip") (hm:X.mg "zip" = none) (ha:PA X [a,b] ta) (hs:starEach [a,b] X.env = [(false,eval a X.env),(false,eval b X.env)]:=by rfl) (hs2:starEach [b] X.env = [(false,eval b X.env)]:=by rfl) :
  PI X (.Tuple elts kt pt) (.Call (.Name "zip" p) [a,b] [] pos) (au5 X.K ta):=by
 intro pins s σ H R I h
 refine Call_ (j3 I hg hm PyProof.Rows.boot_zip (bl0 (aS (ha pos pins s σ H _ I h) fun us s1 ⟨vs,H1,I1,r1,q1⟩=>?_) (by rw [hs,hs2]) (by rw [hs2]; rfl)))
 obtain ⟨a',b',xs,ys,e,h1,h2,q⟩:=q1
 subst e
 cases r1 with
 | cons r rr=>
  cases rr with
  | cons r' rr=>
   cases rr
   cases r
   cases r'
   obtain ⟨us,_,p1,_⟩:=I1.list h1
   obtain ⟨ws,_,p2,_⟩:=I1.list h2
   refine call_zip_2 p1.isList p2.isList fun h' z ti to s1' s2' _ kp=>wpAny_pyIter_zip z ?_
   have fresh:∀ k,H1 (s1.heap.objs.size+k)=none:=fun k=>I1.hok.fresh (bk7 _ _)
   refine⟨s1.heap.objs.size+4,[s1.heap.objs.size+4,s1.heap.objs.size+2,s1.heap.objs.size+3,s1.heap.objs.size,s1.heap.objs.size+1],_,_,H1,rfl,I1.kept (t':=s1.toks) kp,
    au4 a' b' _ _ _ _ _ (by simp),⟨z,ti,⟨_,_,to⟩,s1',s2'⟩,fun c hc=>?_,q⟩
   simp only [be9,bf1,bi6] at hc
   rcases hc with rfl | rfl | rfl | rfl | rfl
   ·exact I1.fpOk (bk7 _ _) (fresh 4)
   ·exact I1.fpOk (bk7 _ _) (fresh 2)
   ·exact I1.fpOk (bk7 _ _) (fresh 3)
   ·exact I1.fpOk (be6 _) (fresh 0)
   ·exact I1.fpOk (bk7 _ _) (fresh 1)
end
theorem au7 {K:PySem.W.Frag}{H:Hp}{a b:Addr}{xs ys:List V} (ha:aU K H a xs) (hb:aU K H b ys) (hl:ys.length<=xs.length) :
  v0 H (v7 K a b) ys.length (fun i v H2=>∃ T x y,v = .ref T/\H2 T=some (.tup [x,y])/\xs[i]? = some x/\ys[i]? = some y):=by
 refine⟨fun i H' sm hi=>⟨xs,ys,xs[i]'(by omega),ys[i],sm.seq ha,sm.seq hb,by simp,by simp⟩,fun i H' v H2 sm y hi=>?_,fun H' sm=>⟨xs,ys,sm.seq ha,sm.seq hb,by omega⟩⟩
 obtain ⟨T,x,y',hT,hv,e,hxy⟩:=y
 subst e
 obtain ⟨h1,h2⟩:=hxy xs ys (sm.seq ha) (sm.seq hb)
 exact⟨bM hT _,T,x,y',hv,bD,h1,h2⟩
section
variable {X : Cx} {pins : List (Addr × Obj)} {σ : St} {H : Hp} {s : Shared} {a b : Addr} {A : Around} {E : Value → Shared → Prop}
theorem au8 {kvs more:List (aC × V)}{Q:Value->Shared->Prop} (I:a8 X pins σ H s) (ea:H a=some (.dK kvs)) (eb:H b=some (.dK more)) (hne:a ≠ b) (hl:kvs.length+more.length<=sizeLine)
  (h:∀ s',a8 X pins σ (upd H a (.dK (kK kvs more))) s'->Q .none s'):wpAny (model X.prog X.w) A (call (.builtin "dict.update") [.ref a,.ref b]) Q E s:=by
 obtain ⟨z,hd,vs,rel,dd⟩:=uB I.hok ea
 obtain ⟨z2,hd2,rs,rel2,dd2⟩:=uB I.hok eb
 have l1:=rel.length
 have l2:=rel2.length
 refine call_meetsIn PySem.F.slot_dict_update dd.typeIs PySem.F.entry_dict_update (PySem.F.args_dict_update_2 _ _) (meets_dict_update (eM X.prog X.w) a b hne hd2) ⟨vs,rs,dd,dd2,by omega,fun h' dd' _ hs=>h _ ?_⟩
 have he:∃ q,h'.get? a=some q:=let ⟨q,_,_,hq,_⟩:=dd'; ⟨q,hq⟩
 refine pO I (by rw [ea]; exact bt2) hs he (B1 ?_ hd (rel2.merge rel) dd')
 have:=B8 more kvs
 omega
end
def G5 (td ty:TE):TE:=fun σ H Q=>td σ H fun x H1=>∃ a,x = .ref a/\uD H1 a/\ty σ H1 fun y H2=>∃ (b:Addr) (kvs more:List (aC × V)),y = .ref b/\a ≠ b/\H2 a=some (.dK kvs)/\H2 b=some (.dK more)/\kvs.length+more.length<=sizeLine/\Q .non (upd H2 a (.dK (kK kvs more)))
section
variable {X : Cx} {o e : Expr} {apos cpos : Pos} {td ty : TE}
theorem au9 (ho:PE X o td) (he:PE X e ty) (m:M1 X o "update" apos e cpos):PE X (.Call (.Attribute o "update" apos) [e] [] cpos) (G5 td ty):=by
 intro pins s σ H Q I h
 refine wpAny_Call_method m.base m.few m.line PySem.F.plainAttrs_dict PySem.F.slot_dict_update PySem.F.type_dict_update (aS (ho pins s σ H _ I h) fun u s1 ⟨x,H1,I1,rx,a,ex,d,q1⟩=>?_)
 subst ex
 obtain rfl:u=Value.ref a:=rx
 obtain ⟨t1,t2,_⟩:=B9 I1 d
 refine⟨t1,t2,?_⟩
 rw [m.trees]
 refine bq6 rfl (bs8 (Calls.spliced_cons (aS (he pins s1 σ H1 _ I1 q1) fun iv s2 ⟨y,H2,I2,ry,b,kvs,more,ey,ne,ea,eb,l,q2⟩=>Calls.spliced_nil ?_)))
 subst ey
 obtain rfl:iv=Value.ref b:=ry
 exact au8 I2 ea eb ne l fun s3 I3=>⟨.non,_,I3,rfl,q2⟩
end
theorem av0 (l:Addr) (items:Array Value) (n:Nat) (b:Addr) (items2:Array Value) (n2:Nat) (dd:Option Addr) (ss:Array (Option Value)) (h0 : ¬(!items.isEmpty && Builtin.List.listTooLong (items.size+items2.size))=true) (h1:items.size<=sizeLine) (h2:items.size+items2.size<=sizeLine+1) :
  Meets (Builtin.«list.extend» ⟨[.ref l,.ref b],[]⟩) (fun _ R s=>s.heap.get? l=some { cls:=.type "list",dict:=none,data:=.seq items n,slots:=#[] }/\s.heap.get? b=some { cls:=.type "tuple",dict:=dd,data:=.seq items2 n2,slots:=ss }/\R (.ok (.ret Value.none)) { s with heap:=s.heap.update l (Obj.mapSeq fun x=>x ++ items2),toks:=s.toks }):=
 .of_wp fun prog w A R s h=>by
  obtain ⟨hp,g,d,tk,os⟩:=s; obtain ⟨hl,hb,h⟩:=h; have f2:=AutoSeq1.sub_tuple_tuple; have f3:=AutoSeq1.sub_list_list; have f4:=AutoSeq1.sub_tuple_list; have f5:=AutoSeq1.sub_list_tuple
  have hz':(items ++ items2).size<=sizeLine+1:=by rw [Array.size_append]; exact h2
  wp_walk using (wpAny_updateSeq hl rfl (hz:=h1) (_hz':=hz')),AutoSeq1.wpAny_loadPart' hl,AutoSeq1.wpAny_loadPart' hb
  exact⟨_,rfl,h⟩
def G6 (K:PySem.W.Frag):V->List V->Hp->VK->Prop:=fun x vs H Q=>∃ (l b:Addr) (xs zs:List V),x = .ref l/\vs = [.ref b]/\H l=some (.lst xs)/\aO K H b zs/\xs.length+zs.length<=sizeLine/\Q .non (upd H l (.lst (xs ++ zs)))
theorem av1 {X:Cx}:j7 X "list.extend" (G6 X.K):=by
 intro pins s σ H x vs v us Q I rx rv h
 obtain ⟨l,b,xs,zs,rfl,rfl,hH,hB,hz,q⟩:=h
 cases rx
 obtain ⟨u,rfl,ru⟩:=rv.one
 cases ru
 obtain ⟨z,its,n,r,hl,e⟩:=I.lstM hH
 obtain ⟨its2,r2,⟨⟨cls,dd,data,ss⟩,e2,hc,n2,hd⟩,z2⟩:=I.tuple hB
 cases hc
 cases hd
 have hl2:=r2.length
 have hsz:its.toArray.size+its2.toArray.size<=sizeLine:=by rw [be0,be0]; omega
 have hlong : ¬ (!its.toArray.isEmpty && Builtin.List.listTooLong (its.toArray.size+its2.toArray.size))=true:=by
  rw [A2 hsz,bo2]
  exact bg6
 refine call_meets F.slot_list_extend ⟨_,e,rfl⟩ F.entry_list_extend (F.args_list_extend_2 _ _)
  (av0 l its.toArray n b its2.toArray n2 dd ss hlong (by rw [be0]; omega) (by omega)) ⟨e,e2,?_⟩
 refine⟨.non,_,I.lset (its':=its ++ its2) hH e (by simp) (r.append r2) ?_,rfl,q⟩
 rw [be2]
 omega
end L2
namespace PP
open PySem L2
inductive PV where
 | non | bl (b:Bool) | int (i:Int) | str (x:Str) | tup (xs:List PV) | lst (xs:List PV)
 | dK (kvs:List (aC × PV)) | dT (kvs:List (List aC × PV)) | scr (ns:List Int) | kt (xs:List PV) | exc (c:Str)
mutual
def flat:PV->Bool
 | .tup xs=>flats xs
 | .lst _=>false
 | .dK _=>false
 | .dT _=>false
 | .non=>true
 | .bl _=>true
 | .int _=>true
 | .str _=>true
 | .scr _=>true
 | .kt xs=>flats xs
 | .exc _=>true
def flats:List PV->Bool
 | []=>true
 | x :: r=>flat x && flats r
end
def jD (K:PySem.W.Frag) (H:Hp) (a:Addr) (ns:List Int):Prop:=(∃ o,H a=some (.frz o (.lst (ns.map V.int)))) ∨
  ∃ (o:Obj) (its:Array Value) (n:Nat),K.lookup a=some o/\o.cls = .type "list"/\o.dict=none/\o.data = .seq its n/\its.size<=sizeLine/\aQ (ns.map V.int) its.toList
def lS (K:PySem.W.Frag) (a:Addr) (us:List V):Prop:=∃ (o:Obj) (its:Array Value) (n:Nat),K.lookup a=some o/\o.cls = .type "tuple"/\o.data = .seq its n/\its.size<=sizeLine/\aQ us its.toList
mutual
inductive aG (K:PySem.W.Frag) (M:Addr->Prop) (H:Hp):V->PV->Prop
 | non:aG K M H .non .non
 | bl (b:Bool):aG K M H (.bl b) (.bl b)
 | int (i:Int):aG K M H (.int i) (.int i)
 | str (x:Str):aG K M H (.str x) (.str x)
 | tup {a:Addr}{us:List V}{xs:List PV}:H a=some (.tup us)->Reps K M H us xs->aG K M H (.ref a) (.tup xs)
 | lst {a:Addr}{us:List V}{xs:List PV}:M a->H a=some (.lst us)->Reps K M H us xs->aG K M H (.ref a) (.lst xs)
 | dK {a:Addr}{kvs:List (aC × V)}{ps:List (aC × PV)}:M a->H a=some (.dK kvs)->kvs.map (·.1)=ps.map (·.1)->Reps K M H (kvs.map (·.2)) (ps.map (·.2))->aG K M H (.ref a) (.dK ps)
 | dT {a:Addr}{kvs:List (List aC × V)}{ps:List (List aC × PV)}:M a->H a=some (.dT kvs)->kvs.map (·.1)=ps.map (·.1)->Reps K M H (kvs.map (·.2)) (ps.map (·.2))->aG K M H (.ref a) (.dT ps)
 | scr {a:Addr}{ns:List Int}:jD K H a ns->aG K M H (.ref a) (.scr ns)
 | kt {a:Addr}{us:List V}{xs:List PV}:lS K a us->Reps K M H us xs->aG K M H (.ref a) (.kt xs)
 | exc {a C:Addr}{o:Obj}{c:Str}:H a=some (.frz o (.own a))->PySem.W.nsIn K mainGlobals c=some (some (.ref C))->o.cls = .ref C->aG K M H (.ref a) (.exc c)
inductive Reps (K:PySem.W.Frag) (M:Addr->Prop) (H:Hp):List V->List PV->Prop
 | nil:Reps K M H [] []
 | cons {v:V}{x:PV}{vs:List V}{xs:List PV}:aG K M H v x->Reps K M H vs xs->Reps K M H (v :: vs) (x :: xs)
end
structure i8 (M M':Addr->Prop) (H H':Hp):Prop where
 lst:∀ a us,M a->H a=some (.lst us)->M' a/\H' a=some (.lst us)
 dK:∀ a kvs,M a->H a=some (.dK kvs)->M' a/\H' a=some (.dK kvs)
 dT:∀ a kvs,M a->H a=some (.dT kvs)->M' a/\H' a=some (.dT kvs)
 tup:∀ a us,H a=some (.tup us)->H' a=some (.tup us)
 frz:∀ a o u,H a=some (.frz o u)->H' a=some (.frz o u)
theorem jD.keep {K:PySem.W.Frag}{H H':Hp}{a:Addr}{ns:List Int} (k:∀ a o u,H a=some (.frz o u)->H' a=some (.frz o u)) (h:jD K H a ns):jD K H' a ns:=
 h.elim (fun ⟨o,e⟩=>.inl ⟨o,k _ _ _ e⟩) .inr
mutual
theorem aG.keep {K:PySem.W.Frag}{M M':Addr->Prop}{H H':Hp} (k:i8 M M' H H'):∀ {v:V}{x:PV},aG K M H v x->aG K M' H' v x
 | _,_,.non=>.non
 | _,_,.bl b=>.bl b
 | _,_,.int i=>.int i
 | _,_,.str x=>.str x
 | _,_,.tup h r=>.tup (k.tup _ _ h) (Reps.keep k r)
 | _,_,.lst m h r=>.lst (k.lst _ _ m h).1 (k.lst _ _ m h).2 (Reps.keep k r)
 | _,_,.dK m h e r=>.dK (k.dK _ _ m h).1 (k.dK _ _ m h).2 e (Reps.keep k r)
 | _,_,.dT m h e r=>.dT (k.dT _ _ m h).1 (k.dT _ _ m h).2 e (Reps.keep k r)
 | _,_,.scr h=>.scr (h.keep k.frz)
 | _,_,.kt h r=>.kt h (Reps.keep k r)
 | _,_,.exc h e c=>.exc (k.frz _ _ _ h) e c
theorem Reps.keep {K:PySem.W.Frag}{M M':Addr->Prop}{H H':Hp} (k:i8 M M' H H'):∀ {vs:List V}{xs:List PV},Reps K M H vs xs->Reps K M' H' vs xs
 | _,_,.nil=>.nil
 | _,_,.cons r t=>.cons (aG.keep k r) (Reps.keep k t)
end
mutual
theorem aG.flat {K:PySem.W.Frag}{M M':Addr->Prop}{H:Hp}{v:V}{x:PV} (f:flat x=true) (r:aG K M H v x):aG K M' H v x:=by
 cases r with
 | non=>exact .non
 | bl b=>exact .bl b
 | int i=>exact .int i
 | str x=>exact .str x
 | tup h r=>exact .tup h (Reps.flat (by unfold PP.flat at f; exact f) r)
 | lst m h r=>unfold PP.flat at f; cases f
 | dK m h e r=>unfold PP.flat at f; cases f
 | dT m h e r=>unfold PP.flat at f; cases f
 | scr h=>exact .scr h
 | kt h r=>exact .kt h (Reps.flat (by unfold PP.flat at f; exact f) r)
 | exc h e c=>exact .exc h e c
theorem Reps.flat {K:PySem.W.Frag}{M M':Addr->Prop}{H:Hp}{vs:List V}{xs:List PV} (f:flats xs=true) (r:Reps K M H vs xs):Reps K M' H vs xs:=by
 cases r with
 | nil=>exact .nil
 | cons r t=>
  unfold PP.flats at f
  rw [bg1] at f
  exact .cons (aG.flat f.1 r) (Reps.flat f.2 t)
end
theorem i8.same {M M':Addr->Prop}{H H':Hp} (s:aD H H') (m:∀ a,M a->M' a):i8 M M' H H':=
 ⟨fun a _ h e=>⟨m a h,s _ _ e⟩,fun a _ h e=>⟨m a h,s _ _ e⟩,fun a _ h e=>⟨m a h,s _ _ e⟩,fun _ _ e=>s _ _ e,fun _ _ _ e=>s _ _ e⟩
theorem aG.same {K:PySem.W.Frag}{M M':Addr->Prop}{H H':Hp}{v:V}{x:PV} (r:aG K M H v x) (s:aD H H') (m:∀ a,M a->M' a):aG K M' H' v x:=r.keep (.same s m)
theorem Reps.same {K:PySem.W.Frag}{M M':Addr->Prop}{H H':Hp}{v:List V}{x:List PV} (r:Reps K M H v x) (s:aD H H') (m:∀ a,M a->M' a):Reps K M' H' v x:=r.keep (.same s m)
def gQ:HO->Bool
 | .lst _=>true
 | .dK _=>true
 | .dT _=>true
 | _=>false
theorem i8.upd {M M':Addr->Prop}{H:Hp}{a:Addr}{o o':HO} (h:H a=some o') (mu:gQ o'=true) (m:∀ b,M b->b ≠ a/\M' b):i8 M M' H (upd H a o):=
 ⟨fun b _ hb e=>⟨(m b hb).2,by rw [aI (m b hb).1]; exact e⟩,fun b _ hb e=>⟨(m b hb).2,by rw [aI (m b hb).1]; exact e⟩,fun b _ hb e=>⟨(m b hb).2,by rw [aI (m b hb).1]; exact e⟩,
  fun b _ e=>by rw [aI (fun z=>by rw [z,h] at e; cases e; cases mu)]; exact e,
  fun b _ _ e=>by rw [aI (fun z=>by rw [z,h] at e; cases e; cases mu)]; exact e⟩
theorem Reps.length {K:PySem.W.Frag}{M:Addr->Prop}{H:Hp}:∀ {vs:List V}{xs:List PV},Reps K M H vs xs->vs.length=xs.length
 | _,_,.nil=>rfl
 | _,_,.cons _ t=>congrArg (· + 1) t.length
theorem Reps.get {K:PySem.W.Frag}{M:Addr->Prop}{H:Hp}:∀ {vs:List V}{xs:List PV}{i:Nat}{v:V},Reps K M H vs xs->vs[i]? = some v->∃ x,xs[i]? = some x/\aG K M H v x
 | _,_,_,_,.nil,e=>by simp at e
 | _,_,0,_,.cons r _,e=>by simp at e; subst e; exact⟨_,rfl,r⟩
 | _,_,i+1,v,.cons _ t,e=>by
  rw [bh4] at e
  obtain ⟨x,h1,h2⟩:=t.get e
  exact⟨x,by rw [bh4]; exact h1,h2⟩
theorem Reps.at {K:PySem.W.Frag}{M:Addr->Prop}{H:Hp}:∀ {vs:List V}{xs:List PV}{i:Nat}{x:PV},Reps K M H vs xs->xs[i]? = some x->∃ v,vs[i]? = some v/\aG K M H v x
 | _,_,_,_,.nil,e=>by simp at e
 | _,_,0,_,.cons r _,e=>by simp at e; subst e; exact⟨_,rfl,r⟩
 | _,_,i+1,v,.cons _ t,e=>by
  rw [bh4] at e
  obtain ⟨x,h1,h2⟩:=t.at e
  exact⟨x,by rw [bh4]; exact h1,h2⟩
theorem Reps.append {K:PySem.W.Frag}{M:Addr->Prop}{H:Hp}:∀ {vs:List V}{xs:List PV}{us:List V}{ys:List PV},Reps K M H vs xs->Reps K M H us ys->Reps K M H (vs ++ us) (xs ++ ys)
 | _,_,_,_,.nil,s=>s
 | _,_,_,_,.cons r t,s=>.cons r (t.append s)
theorem Reps.set {K:PySem.W.Frag}{M:Addr->Prop}{H:Hp}{v:V}{x:PV} (q:aG K M H v x):∀ (i:Nat) {vs:List V}{xs:List PV},Reps K M H vs xs->Reps K M H (vs.set i v) (xs.set i x)
 | _,_,_,.nil=>.nil
 | 0,_,_,.cons r t=>.cons q t
 | i+1,_,_,.cons r t=>.cons r (Reps.set q i t)
theorem Reps.take {K:PySem.W.Frag}{M:Addr->Prop}{H:Hp}:∀ (n:Nat) {vs:List V}{xs:List PV},Reps K M H vs xs->Reps K M H (vs.take n) (xs.take n)
 | 0,_,_,_=>by simp; exact .nil
 | _+1,_,_,.nil=>.nil
 | n+1,_,_,.cons r t=>.cons r (Reps.take n t)
theorem Reps.drop {K:PySem.W.Frag}{M:Addr->Prop}{H:Hp}:∀ (n:Nat) {vs:List V}{xs:List PV},Reps K M H vs xs->Reps K M H (vs.drop n) (xs.drop n)
 | 0,_,_,r=>r
 | _+1,_,_,.nil=>.nil
 | n+1,_,_,.cons _ t=>Reps.drop n t
theorem Reps.eraseIdx {K:PySem.W.Frag}{M:Addr->Prop}{H:Hp}:∀ (n:Nat) {vs:List V}{xs:List PV},Reps K M H vs xs->Reps K M H (vs.eraseIdx n) (xs.eraseIdx n)
 | _,_,_,.nil=>.nil
 | 0,_,_,.cons _ t=>t
 | n+1,_,_,.cons r t=>.cons r (Reps.eraseIdx n t)
abbrev intz (ns:List Int):List PV:=ns.map PV.int
theorem Reps.intz {K:PySem.W.Frag}{M:Addr->Prop}{H:Hp}:∀ (ns:List Int),Reps K M H (ns.map V.int) (intz ns)
 | []=>.nil
 | n :: r=>.cons (.int n) (Reps.intz r)
theorem Reps.ofInts {K:PySem.W.Frag}{M:Addr->Prop}{H:Hp}:∀ {ns:List Int}{us:List V},Reps K M H us (PP.intz ns)->us=ns.map V.int
 | [],_,.nil=>rfl
 | n :: r,_,.cons q t=>by
  cases q
  rw [Reps.ofInts t]; rfl
theorem bJ:∀ (ns:List Int),flats (intz ns)=true
 | []=>rfl
 | n :: r=>by show (flat (.int n) && flats (intz r))=true; rw [bJ r]; rfl
inductive Tg | rd | sh | nw | fr
inductive Slot | sh (g:Bool) (x:PV) | own (x:PV)
def Slot.val:Slot->PV
 | .sh _ x=>x
 | .own x=>x
def Slot.tag:Slot->Tg
 | .sh true _=>.nw
 | .sh false _=>.sh
 | .own _=>.rd
abbrev bP:=List (Option Slot)
def Ms (H0:Hp) (W:Addr->Prop):Bool->Addr->Prop
 | false,a=>¬ W a
 | true,a=>¬ W a/\H0 a=none
def Mg (H0:Hp) (W:Addr->Prop) (Hs:Hp):Tg->Addr->Prop
 | .rd,_=>True
 | .sh,a=>¬ W a
 | .nw,a=>¬ W a/\H0 a=none
 | .fr,a=>Hs a=none
def gR (K:PySem.W.Frag) (M:Addr->Prop) (H:Hp) (a:Addr):PV->Prop
 | .lst xs=>∃ us,H a=some (.lst us)/\Reps K M H us xs
 | .dK ps=>∃ kvs,H a=some (.dK kvs)/\kvs.map (·.1)=ps.map (·.1)/\Reps K M H (kvs.map (·.2)) (ps.map (·.2))
 | .dT ps=>∃ kvs,H a=some (.dT kvs)/\kvs.map (·.1)=ps.map (·.1)/\Reps K M H (kvs.map (·.2)) (ps.map (·.2))
 | _=>False
def G7 (K:PySem.W.Frag) (H0:Hp) (W:Addr->Prop) (H:Hp) (v:V):Slot->Prop
 | .sh g x=>aG K (Ms H0 W g) H v x
 | .own x=>∃ a,v = .ref a/\W a/\gR K (Ms H0 W true) H a x
structure PX (K:PySem.W.Frag) (H0:Hp) (W:Addr->Prop) (σ:St) (ρ:bP) (H:Hp):Prop where
 len:ρ.length=σ.length
 same:aD H0 H
 wm:∀ a,W a->H0 a=none/\∃ o,H a=some o/\gQ o=true
 sl:∀ (i:Nat) (m:Slot),ρ[i]? = some (some m)->∃ v,σ[i]? = some (some v)/\G7 K H0 W H v m
 dis:∀ (i j:Nat) (x y:PV) (a:Addr),ρ[i]? = some (some (.own x))->ρ[j]? = some (some (.own y))->σ[i]? = some (some (.ref a))->σ[j]? = some (some (.ref a))->i=j
theorem gR.keep {K:PySem.W.Frag}{M M':Addr->Prop}{H H':Hp}{a:Addr} (k:i8 M M' H H') (ha:∀ o,H a=some o->H' a=some o):∀ {x:PV},gR K M H a x->gR K M' H' a x
 | .lst _,⟨us,e,r⟩=>⟨us,ha _ e,r.keep k⟩
 | .dK _,⟨us,e,q,r⟩=>⟨us,ha _ e,q,r.keep k⟩
 | .dT _,⟨us,e,q,r⟩=>⟨us,ha _ e,q,r.keep k⟩
theorem gR.at {K:PySem.W.Frag}{M:Addr->Prop}{H:Hp}{a:Addr}:∀ {x:PV},gR K M H a x->∃ o,H a=some o/\gQ o=true
 | .lst _,⟨us,e,r⟩=>⟨_,e,rfl⟩
 | .dK _,⟨us,e,q,r⟩=>⟨_,e,rfl⟩
 | .dT _,⟨us,e,q,r⟩=>⟨_,e,rfl⟩
theorem gR.rep {K:PySem.W.Frag}{M M':Addr->Prop}{H:Hp}{a:Addr} (m:∀ b,M b->M' b) (ha:M' a):∀ {x:PV},gR K M H a x->aG K M' H (.ref a) x
 | .lst _,⟨us,e,r⟩=>.lst ha e (r.same (aD.refl _) m)
 | .dK _,⟨us,e,q,r⟩=>.dK ha e q (r.same (aD.refl _) m)
 | .dT _,⟨us,e,q,r⟩=>.dT ha e q (r.same (aD.refl _) m)
section
variable {K : PySem.W.Frag} {H0 : Hp} {W W' : Addr → Prop} {σ : St} {ρ : bP} {H H' : Hp}
theorem PX.mono (p:PX K H0 W σ ρ H) (s:aD H H'):PX K H0 W σ ρ H':=by
 refine⟨p.len,p.same.trans s,fun a h=>⟨(p.wm a h).1,let ⟨o,e,m⟩:=(p.wm a h).2; ⟨o,s _ _ e,m⟩⟩,fun i m h=>?_,p.dis⟩
 obtain ⟨v,e,r⟩:=p.sl i m h
 refine⟨v,e,?_⟩
 cases m with
 | sh g x=>exact aG.same r s fun _ z=>z
 | own x=>
  obtain ⟨a,e1,e2,r⟩:=r
  exact⟨a,e1,e2,r.keep (.same s fun _ z=>z) fun _ z=>s _ _ z⟩
theorem PX.new (p:PX K H0 W σ ρ H) {a:Addr} (h:H a=none) : ¬ W a/\H0 a=none:=
 ⟨fun z=>(by obtain ⟨_,o,e,_⟩:=p.wm a z; rw [h] at e; cases e),p.same.free h⟩
theorem Mg.back {g:Tg}{H1:Hp} (s:aD H H1) {a:Addr} (h:Mg H0 W H1 g a):Mg H0 W H g a:=by
 cases g with
 | fr=>exact s.free h
 | rd=>exact h
 | sh=>exact h
 | nw=>exact h
end
abbrev PK:=PV->Tg->Prop
abbrev aE:=bP->PK->Prop
abbrev bY:=bP->(Bool->Prop)->Prop
abbrev cN:=bP->(List (PV × Tg)->Prop)->Prop
inductive gS (K:PySem.W.Frag) (H0:Hp) (W:Addr->Prop) (Hs H:Hp):List V->List (PV × Tg)->Prop
 | nil:gS K H0 W Hs H [] []
 | cons {v:V}{x:PV}{g:Tg}{vs:List V}{xs:List (PV × Tg)}:aG K (Mg H0 W Hs g) H v x->gS K H0 W Hs H vs xs->gS K H0 W Hs H (v :: vs) ((x,g) :: xs)
def qL (K:PySem.W.Frag) (H0:Hp) (W:Addr->Prop) (H:Hp) (Q:PK) (Q':VK):Prop:=∀ v H' x g,aD H H'->aG K (Mg H0 W H g) H' v x->Q x g->Q' v H'
def LE (X:Cx) (t:aE):TE:=fun σ H Q'=>∃ (W:Addr->Prop) (ρ:bP) (Q:PK),PX X.K X.H₀ W σ ρ H/\t ρ Q/\qL X.K X.H₀ W H Q Q'
def LT (X:Cx) (t:bY):TT:=fun σ H Q'=>∃ (W:Addr->Prop) (ρ:bP) (Q:Bool->Prop),PX X.K X.H₀ W σ ρ H/\t ρ Q/\∀ b H',aD H H'->Q b->Q' b H'
def LA (X:Cx) (t:cN):TA:=fun σ H Q'=>∃ (W:Addr->Prop) (ρ:bP) (Q:List (PV × Tg)->Prop),PX X.K X.H₀ W σ ρ H/\t ρ Q/\∀ vs H' xs,aD H H'->gS X.K X.H₀ W H H' vs xs->Q xs->Q' vs H'
theorem gS.same {K:PySem.W.Frag}{H0:Hp}{W:Addr->Prop}{Hs Hs' H H':Hp} (s:aD H H') (b:aD Hs' Hs):∀ {vs:List V}{xs:List (PV × Tg)},gS K H0 W Hs H vs xs->gS K H0 W Hs' H' vs xs
 | _,_,.nil=>.nil
 | _,_,.cons r t=>.cons (r.same s fun _ z=>Mg.back b z) (t.same s b)
theorem gS.any {K:PySem.W.Frag}{H0:Hp}{W:Addr->Prop}{Hs H:Hp}:∀ {vs:List V}{xs:List (PV × Tg)},gS K H0 W Hs H vs xs->Reps K (fun _=>True) H vs (xs.map (·.1))
 | _,_,.nil=>.nil
 | _,_,.cons r t=>.cons (r.same (aD.refl _) fun _ _=>trivial) t.any
def Nw:Tg->PV->Prop
 | .fr,_=>True
 | .nw,_=>True
 | _,x=>flat x=true
def nZ (xs:List (PV × Tg)):Prop:=∀ p ∈ xs,Nw p.2 p.1
section
variable {K : PySem.W.Frag} {H0 Hs H : Hp} {W : Addr → Prop} {σ : St} {ρ : bP}
theorem Nw.rep {g:Tg}{x:PV}{v:V} (px:PX K H0 W σ ρ Hs) (n:Nw g x) (r:aG K (Mg H0 W Hs g) H v x):aG K (Ms H0 W true) H v x:=by
 cases g with
 | fr=>exact r.same (aD.refl _) fun a z=>px.new z
 | nw=>exact r.same (aD.refl _) fun a z=>z
 | sh=>exact r.flat n
 | rd=>exact r.flat n
theorem nZ.reps {vs:List V}:∀ {xs:List (PV × Tg)}{vs:List V},PX K H0 W σ ρ Hs->nZ xs->gS K H0 W Hs H vs xs->Reps K (Ms H0 W true) H vs (xs.map (·.1))
 | _,_,px,n,.nil=>.nil
 | _,_,px,n,.cons r t=>.cons (Nw.rep px (n _ bf5) r) (nZ.reps (vs:=vs) px (fun p hp=>n p (bg0 _ hp)) t)
theorem qM {v:V}{m:Slot} (r:G7 K H0 W H v m):aG K (Mg H0 W Hs m.tag) H v m.val:=by
 cases m with
 | sh g x=>
  cases g with
  | true=>exact aG.same r (aD.refl _) fun _ z=>z
  | false=>exact aG.same r (aD.refl _) fun _ z=>z
 | own x=>
  obtain ⟨a,rfl,_,r⟩:=r
  exact r.rep (fun _ _=>trivial) trivial
end
section
variable {X : Cx} {σ : St} {H : Hp} {Q' : VK} {ta tb : aE}
def a5 (i:Nat):aE:=fun ρ Q=>∃ m,ρ[i]? = some (some m)/\Q m.val m.tag
def qC (x:PV):aE:=fun _ Q=>Q x .fr
theorem av2 {i:Nat} (h:LE X (a5 i) σ H Q'):eO i σ H Q':=by
 obtain ⟨W,ρ,Q,px,⟨m,e,q⟩,k⟩:=h
 obtain ⟨v,ev,r⟩:=px.sl i m e
 exact⟨v,ev,k v H _ _ (aD.refl _) (qM r) q⟩
theorem qN {x:PV}{v:V} (hr:∀ M,aG X.K M H v x) (h:LE X (qC x) σ H Q'):tC v σ H Q':=by
 obtain ⟨W,ρ,Q,px,q,k⟩:=h
 exact k v H _ _ (aD.refl _) (hr _) q
def e9 (X:Cx) (R:PV->Tg->PV->Tg->PK->Prop) (r:R2):Prop:=∀ (W:Addr->Prop) (Hs H:Hp) (u v:V) (x y:PV) (g g':Tg) (Q:PK) (Q':VK),aD Hs H->
 (∀ a,Hs a=none->¬ W a/\X.H₀ a=none)->aG X.K (Mg X.H₀ W Hs g) H u x->aG X.K (Mg X.H₀ W Hs g') H v y->R x g y g' Q->(∀ w H' z gz,aD H H'->aG X.K (Mg X.H₀ W Hs gz) H' w z->Q z gz->Q' w H')->r u v H Q'
def q2 (R:PV->Tg->PV->Tg->PK->Prop) (ta tb:aE):aE:=fun ρ Q=>ta ρ fun x g=>tb ρ fun y g'=>R x g y g' Q
theorem qO {R:PV->Tg->PV->Tg->PK->Prop}{r:R2} (c:e9 X R r) (h:LE X (q2 R ta tb) σ H Q'):nF r (LE X ta) (LE X tb) σ H Q':=by
 obtain ⟨W,ρ,Q,px,q,k⟩:=h
 refine⟨W,ρ,_,px,q,fun u H1 x g s1 r1 q1=>⟨W,ρ,_,px.mono s1,q1,fun v H2 y g' s2 r2 q2=>?_⟩⟩
 exact c W H H2 u v x y g g' Q Q' (s1.trans s2) (fun a z=>px.new z) (r1.same s2 fun _ z=>z) (r2.same (aD.refl _) fun _ z=>Mg.back s1 z) q2 fun w H' z gz s3 r3 q3=>k w H' z gz ((s1.trans s2).trans s3) r3 q3
def RI (C:Int->Int->Prop) (f:Int->Int->PV):PV->Tg->PV->Tg->PK->Prop:=fun x _ y _ Q=>∃ i j,x = .int i/\y = .int j/\C i j/\Q (f i j) .fr
def gA (f:Int->Int->PV):PV->Tg->PV->Tg->PK->Prop:=fun x _ y _ Q=>∃ i j,x = .int i/\y = .int j/\Q (f i j) .fr
theorem o0 {C:Int->Int->Prop}{f:Int->Int->Int}:e9 X (RI C fun i j=>.int (f i j)) (rI C fun i j=>.int (f i j)):=by
 rintro W Hs H u v x y g g' Q Q' s n r1 r2 ⟨i,j,rfl,rfl,c,q⟩ k
 cases r1; cases r2
 exact⟨i,j,rfl,rfl,c,k _ _ _ _ (aD.refl _) (.int _) q⟩
theorem G8 {f:Int->Int->Int}:e9 X (gA fun i j=>.int (f i j)) (j4 fun i j=>.int (f i j)):=by
 rintro W Hs H u v x y g g' Q Q' s n r1 r2 ⟨i,j,rfl,rfl,q⟩ k
 cases r1; cases r2
 exact⟨i,j,rfl,rfl,k _ _ _ _ (aD.refl _) (.int _) q⟩
theorem qP {f:Int->Int->Bool}:e9 X (gA fun i j=>.bl (f i j)) (j4 fun i j=>.bl (f i j)):=by
 rintro W Hs H u v x y g g' Q Q' s n r1 r2 ⟨i,j,rfl,rfl,q⟩ k
 cases r1; cases r2
 exact⟨i,j,rfl,rfl,k _ _ _ _ (aD.refl _) (.bl _) q⟩
def kQ (neg:Bool):PV->Tg->PV->Tg->PK->Prop:=fun x _ y _ Q=>(∃ i j,x = .int i/\y = .int j/\Q (.bl (if neg=true then !decide (i=j) else decide (i=j))) .fr) ∨ (∃ i j,x = .bl i/\y = .bl j/\Q (.bl (if neg=true then !decide (i=j) else decide (i=j))) .fr)
theorem G9 (i j:Int):decide (V.int i=V.int j)=decide (i=j):=by
 rw [bm7,bj2,bj2]; exact⟨fun z=>V.int.inj z,fun z=>congrArg V.int z⟩
theorem J0 (i j:Bool):decide (V.bl i=V.bl j)=decide (i=j):=by
 rw [bm7,bj2,bj2]; exact⟨fun z=>V.bl.inj z,fun z=>congrArg V.bl z⟩
theorem J1:e9 X (kQ false) yV:=by
 rintro W Hs H u v x y g g' Q Q' s n r1 r2 (⟨i,j,rfl,rfl,q⟩ | ⟨i,j,rfl,rfl,q⟩) k
 ·cases r1; cases r2
  exact⟨rfl,by rw [G9]; exact k _ _ _ _ (aD.refl _) (.bl _) q⟩
 ·cases r1; cases r2
  exact⟨rfl,by rw [J0]; exact k _ _ _ _ (aD.refl _) (.bl _) q⟩
theorem av3:e9 X (kQ true) tO:=by
 rintro W Hs H u v x y g g' Q Q' s n r1 r2 (⟨i,j,rfl,rfl,q⟩ | ⟨i,j,rfl,rfl,q⟩) k
 ·cases r1; cases r2
  exact⟨rfl,by rw [G9]; exact k _ _ _ _ (aD.refl _) (.bl _) q⟩
 ·cases r1; cases r2
  exact⟨rfl,by rw [J0]; exact k _ _ _ _ (aD.refl _) (.bl _) q⟩
def aR (t:aE):bY:=fun ρ Q=>t ρ fun x _=>∃ b,x = .bl b/\Q b
theorem qQ {t:aE}{Q':Bool->Hp->Prop} (h:LT X (aR t) σ H Q'):LE X t σ H fun x H'=>∃ k,x = .bl k/\Q' k H':=by
 obtain ⟨W,ρ,Q,px,q,k⟩:=h
 refine⟨W,ρ,_,px,q,?_⟩
 rintro v H1 x g s r ⟨b,rfl,q⟩
 cases r
 exact⟨b,rfl,k _ _ s q⟩
def gB (t u:bY):bY:=fun ρ Q=>t ρ fun c=>if c=true then u ρ Q else Q false
def i9 (t u:bY):bY:=fun ρ Q=>t ρ fun c=>if c=true then Q true else u ρ Q
def eB (t:bY):bY:=fun ρ Q=>t ρ fun c=>Q (!c)
variable {t u : bY} {Qb : Bool → Hp → Prop}
theorem av4 (h:LT X (gB t u) σ H Qb):yA (LT X t) (LT X u) σ H Qb:=by
 obtain ⟨W,ρ,Q,px,q,k⟩:=h
 refine⟨W,ρ,_,px,q,fun b H1 s1 q1=>?_⟩
 cases b with
 | true=>exact aZ ⟨W,ρ,Q,px.mono s1,by simpa using q1,fun b H2 s2 q2=>k _ _ (s1.trans s2) q2⟩
 | false=>exact aP (k _ _ s1 (by simpa using q1))
theorem av5 (h:LT X (i9 t u) σ H Qb):yB (LT X t) (LT X u) σ H Qb:=by
 obtain ⟨W,ρ,Q,px,q,k⟩:=h
 refine⟨W,ρ,_,px,q,fun b H1 s1 q1=>?_⟩
 cases b with
 | false=>exact aP ⟨W,ρ,Q,px.mono s1,by simpa using q1,fun b H2 s2 q2=>k _ _ (s1.trans s2) q2⟩
 | true=>exact aZ (k _ _ s1 (by simpa using q1))
theorem av6 (h:LT X (eB t) σ H Qb):yC (LT X t) σ H Qb:=by
 obtain ⟨W,ρ,Q,px,q,k⟩:=h
 exact⟨W,ρ,_,px,q,fun b H1 s1 q1=>k _ _ s1 q1⟩
def lT (ta tb:aE):aE:=fun ρ Q=>ta ρ fun x _=>∃ c,x = .bl c/\if c=true then tb ρ Q else Q (.bl false) .fr
def v8 (ta:aE):aE:=fun ρ Q=>ta ρ fun x _=>∃ c,x = .bl c/\Q (.bl (!c)) .fr
theorem qL.back {K:PySem.W.Frag}{H0:Hp}{W:Addr->Prop}{H H1:Hp}{Q:PK} (k:qL K H0 W H Q Q') (s:aD H H1):qL K H0 W H1 Q Q':=fun v H' x g s' r q=>k v H' x g (s.trans s') (r.same (aD.refl _) fun _ z=>Mg.back s z) q
theorem av7 (h:LE X (lT ta tb) σ H Q'):yD (LE X ta) (LE X tb) σ H Q':=by
 obtain ⟨W,ρ,Q,px,q,k⟩:=h
 refine⟨W,ρ,_,px,q,?_⟩
 rintro v H1 x g s1 r ⟨c,rfl,q⟩
 cases r
 refine⟨c,rfl,?_⟩
 cases c with
 | true=>exact aZ ⟨W,ρ,Q,px.mono s1,by simpa using q,k.back s1⟩
 | false=>exact aP (k _ _ _ _ s1 (.bl _) (by simpa using q))
theorem av8 (h:LE X (v8 ta) σ H Q'):yE (LE X ta) σ H Q':=by
 obtain ⟨W,ρ,Q,px,q,k⟩:=h
 refine⟨W,ρ,_,px,q,?_⟩
 rintro v H1 x g s1 r ⟨c,rfl,q⟩
 cases r
 exact⟨c,rfl,k _ _ _ _ s1 (.bl _) q⟩
def a9:cN:=fun _ Q=>Q []
def a6 (te:aE) (tr:cN):cN:=fun ρ Q=>te ρ fun x g=>tr ρ fun xs=>Q ((x,g) :: xs)
variable {Qa : List V → Hp → Prop} {tr : cN}
theorem av9 (h:LA X a9 σ H Qa):iJ σ H Qa:=by
 obtain ⟨W,ρ,Q,px,q,k⟩:=h
 exact k _ _ _ (aD.refl _) .nil q
theorem aw0 (h:LA X (a6 ta tr) σ H Qa):gM (LE X ta) (LA X tr) σ H Qa:=by
 obtain ⟨W,ρ,Q,px,q,k⟩:=h
 refine⟨W,ρ,_,px,q,fun v H1 x g s1 r1 q1=>⟨W,ρ,_,px.mono s1,q1,fun vs H2 xs s2 r2 q2=>?_⟩⟩
 exact k _ _ _ (s1.trans s2) (.cons (r1.same s2 fun _ z=>z) (r2.same (aD.refl _) s1)) q2
def v9 (t:cN):aE:=fun ρ Q=>t ρ fun xs=>xs.length<=1000/\nZ xs/\Q (.tup (xs.map (·.1))) .nw
def eS (t:cN):aE:=fun ρ Q=>t ρ fun xs=>xs.length<=1000/\flats (xs.map (·.1))=true/\Q (.tup (xs.map (·.1))) .fr
def eG (t:cN):aE:=fun ρ Q=>t ρ fun xs=>xs.length<=1000/\flats (xs.map (·.1))=true/\Q (.lst (xs.map (·.1))) .fr
theorem gS.length {K:PySem.W.Frag}{H0:Hp}{W:Addr->Prop}{Hs H:Hp}:∀ {vs:List V}{xs:List (PV × Tg)},gS K H0 W Hs H vs xs->vs.length=xs.length
 | _,_,.nil=>rfl
 | _,_,.cons _ t=>congrArg (· + 1) t.length
theorem qR {n:Nat} (h:n<=1000):n<=sizeLine:=bj6 (nU h)
theorem aw1 (h:LE X (v9 tr) σ H Q'):tT (LA X tr) σ H Q':=by
 obtain ⟨W,ρ,Q,px,q,k⟩:=h
 refine⟨W,ρ,_,px,q,?_⟩
 rintro vs H1 xs s1 r ⟨hl,n,q⟩
 refine⟨by rw [r.length]; exact qR hl,fun p hp=>k _ _ _ .nw (s1.trans (bM hp _)) (.tup bD ?_) q⟩
 exact (nZ.reps (vs:=vs) px n r).same (bM hp _) fun _ z=>z
theorem aw2 (h:LE X (eS tr) σ H Q'):tT (LA X tr) σ H Q':=by
 obtain ⟨W,ρ,Q,px,q,k⟩:=h
 refine⟨W,ρ,_,px,q,?_⟩
 rintro vs H1 xs s1 r ⟨hl,n,q⟩
 refine⟨by rw [r.length]; exact qR hl,fun p hp=>k _ _ _ .fr (s1.trans (bM hp _)) (.tup bD ?_) q⟩
 exact (r.any.flat n).same (bM hp _) fun _ z=>z
theorem aw3 (h:LE X (eG tr) σ H Q'):zD (LA X tr) σ H Q':=by
 obtain ⟨W,ρ,Q,px,q,k⟩:=h
 refine⟨W,ρ,_,px,q,?_⟩
 rintro vs H1 xs s1 r ⟨hl,n,q⟩
 refine⟨by rw [r.length]; exact qR hl,fun p hp=>k _ _ _ .fr (s1.trans (bM hp _)) (.lst (s1.free hp) bD ?_) q⟩
 exact (r.any.flat n).same (bM hp _) fun _ z=>z
def fP (X:Cx) (R:List PV->(PV->Prop)->Prop) (r:List V->Hp->VK->Prop):Prop:=∀ (H:Hp) (vs:List V) (xs:List PV) (Q:PV->Prop) (Q':VK),Reps X.K (fun _=>True) H vs xs->R xs Q->
 (∀ w H' z,aD H H'->aG X.K (fun a=>H a=none) H' w z->Q z->Q' w H')->r vs H Q'
def aB (R:List PV->(PV->Prop)->Prop) (t:cN):aE:=fun ρ Q=>t ρ fun xs=>R (xs.map (·.1)) fun z=>Q z .fr
theorem J2 {R:List PV->(PV->Prop)->Prop}{r:List V->Hp->VK->Prop} (c:fP X R r) (h:LE X (aB R tr) σ H Q'):tV r (LA X tr) σ H Q':=by
 obtain ⟨W,ρ,Q,px,q,k⟩:=h
 refine⟨W,ρ,_,px,q,fun vs H1 xs s1 r1 q1=>c H1 vs _ _ Q' r1.any q1 fun w H' z s2 r2 q2=>k w H' z .fr (s1.trans s2) (r2.same (aD.refl _) fun _ z=>s1.free z) q2⟩
end
structure jE where
 nx:bP->Prop
 rt:PV->Prop
 bk:bP->Prop:=fun _=>False
 ct:bP->Prop:=fun _=>False
abbrev aK:=jE->bP->Prop
def Ev (W:Addr->Prop) (H:Hp) (W':Addr->Prop) (H':Hp):Prop:=∀ b o,H b=some o->¬ W b->H' b=some o/\¬ W' b
theorem Ev.trans {W W1 W2:Addr->Prop}{H H1 H2:Hp} (a:Ev W H W1 H1) (b:Ev W1 H1 W2 H2):Ev W H W2 H2:=fun c o h n=>let ⟨h1,n1⟩:=a c o h n; b c o h1 n1
theorem Ev.same {W:Addr->Prop}{H H':Hp} (s:aD H H'):Ev W H W H':=fun c o h n=>⟨s _ _ h,n⟩
theorem Ev.refl (W:Addr->Prop) (H:Hp):Ev W H W H:=Ev.same (aD.refl _)
structure lU (X:Cx) (W:Addr->Prop) (H:Hp) (D':jE) (D:bS):Prop where
 nx:∀ W' σ' H' ρ',Ev W H W' H'->PX X.K X.H₀ W' σ' ρ' H'->D'.nx ρ'->D.nx σ' H'
 rt:∀ v H' x,aD X.H₀ H'->aG X.K (fun a=>X.H₀ a=none) H' v x->D'.rt x->D.rt v H'
 bk:∀ W' σ' H' ρ',Ev W H W' H'->PX X.K X.H₀ W' σ' ρ' H'->D'.bk ρ'->D.bk σ' H'
 ct:∀ W' σ' H' ρ',Ev W H W' H'->PX X.K X.H₀ W' σ' ρ' H'->D'.ct ρ'->D.ct σ' H'
theorem lU.step {X:Cx}{W W1:Addr->Prop}{H H1:Hp}{D':jE}{D:bS} (k:lU X W H D' D) (e:Ev W H W1 H1):lU X W1 H1 D' D:=
 ⟨fun W' σ' H' ρ' e'=>k.nx W' σ' H' ρ' (e.trans e'),k.rt,fun W' σ' H' ρ' e'=>k.bk W' σ' H' ρ' (e.trans e'),fun W' σ' H' ρ' e'=>k.ct W' σ' H' ρ' (e.trans e')⟩
def LS (X:Cx) (t:aK):TS:=fun D σ H=>∃ (W:Addr->Prop) (ρ:bP) (D':jE),PX X.K X.H₀ W σ ρ H/\t D' ρ/\lU X W H D' D
theorem dM {α:Type}{l:List α}{i j:Nat}{a b:α} (h:(l.set i a)[j]? = some b):(j=i/\i < l.length/\b=a) ∨ (j ≠ i/\l[j]? = some b):=by
 by_cases e:j=i
 ·subst e
  have hl:j < (l.set j a).length:=(bf0.mp h).1
  rw [bi5] at hl
  rw [bh9 hl] at h
  exact .inl ⟨rfl,hl,(bg9 h).symm⟩
 ·rw [bg3 (Ne.symm e)] at h
  exact .inr ⟨e,h⟩
section
variable {K : PySem.W.Frag} {H0 : Hp} {W W' : Addr → Prop} {σ : St} {ρ : bP} {H H' Hs : Hp}
theorem PX.setSh {i:Nat}{v:V}{g:Bool}{x:PV} (p:PX K H0 W σ ρ H) (r:aG K (Ms H0 W g) H v x):PX K H0 W (σ.set i (some v)) (ρ.set i (some (.sh g x))) H:=by
 refine⟨by rw [bi5,bi5]; exact p.len,p.same,p.wm,fun j m h=>?_,fun j k y z a h1 h2 h3 h4=>?_⟩
 ·rcases dM h with ⟨rfl,hl,e⟩ | ⟨hne,h⟩
  ·cases e
   rw [p.len] at hl
   exact⟨v,bh9 hl,r⟩
  ·obtain ⟨u,e,q⟩:=p.sl j m h
   exact⟨u,by rw [bg3 (Ne.symm hne)]; exact e,q⟩
 ·rcases dM h1 with ⟨_,_,e⟩ | ⟨n1,h1⟩
  ·cases e
  ·rcases dM h2 with ⟨_,_,e⟩ | ⟨n2,h2⟩
   ·cases e
   ·rw [bg3 (Ne.symm n1)] at h3
    rw [bg3 (Ne.symm n2)] at h4
    exact p.dis j k y z a h1 h2 h3 h4
theorem PX.setNone {i:Nat}{o:Option V} (p:PX K H0 W σ ρ H):PX K H0 W (σ.set i o) (ρ.set i none) H:=by
 refine⟨by rw [bi5,bi5]; exact p.len,p.same,p.wm,fun j m h=>?_,fun j k y z a h1 h2 h3 h4=>?_⟩
 ·rcases dM h with ⟨rfl,hl,e⟩ | ⟨hne,h⟩
  ·cases e
  ·obtain ⟨u,e,q⟩:=p.sl j m h
   exact⟨u,by rw [bg3 (Ne.symm hne)]; exact e,q⟩
 ·rcases dM h1 with ⟨_,_,e⟩ | ⟨n1,h1⟩
  ·cases e
  ·rcases dM h2 with ⟨_,_,e⟩ | ⟨n2,h2⟩
   ·cases e
   ·rw [bg3 (Ne.symm n1)] at h3
    rw [bg3 (Ne.symm n2)] at h4
    exact p.dis j k y z a h1 h2 h3 h4
def lV (W:Addr->Prop) (a:Addr):Addr->Prop:=fun b=>W b ∨ b=a
theorem vA {g:Bool}{a b:Addr} (n:b ≠ a) (h:Ms H0 W g b):Ms H0 (lV W a) g b:=by
 cases g with
 | true=>exact⟨fun z=>z.elim h.1 n,h.2⟩
 | false=>exact fun z=>z.elim h n
theorem PX.setOwn {i:Nat}{a:Addr}{x:PV} (p:PX K H0 W σ ρ Hs) (s:aD Hs H) (ha:Hs a=none) (r:gR K (Ms H0 (lV W a) true) H a x):PX K H0 (lV W a) (σ.set i (some (.ref a))) (ρ.set i (some (.own x))) H:=by
 have old:∀ b o,Hs b=some o->b ≠ a:=fun b o e z=>by rw [z,ha] at e; cases e
 have kp:∀ g,i8 (Ms H0 W g) (Ms H0 (lV W a) g) Hs H:=fun g=>⟨fun b _ m e=>⟨vA (old _ _ e) m,s _ _ e⟩,fun b _ m e=>⟨vA (old _ _ e) m,s _ _ e⟩,fun b _ m e=>⟨vA (old _ _ e) m,s _ _ e⟩,fun _ _ e=>s _ _ e,fun _ _ _ e=>s _ _ e⟩
 have wa : ¬ W a:=(p.new ha).1
 refine⟨by rw [bi5,bi5]; exact p.len,p.same.trans s,fun b z=>?_,fun j m h=>?_,fun j k y z b h1 h2 h3 h4=>?_⟩
 ·rcases z with z | rfl
  ·obtain ⟨h1,o,h2,h3⟩:=p.wm b z
   exact⟨h1,o,s _ _ h2,h3⟩
  ·exact⟨(p.new ha).2,r.at⟩
 ·rcases dM h with ⟨rfl,hl,e⟩ | ⟨hne,h⟩
  ·cases e
   rw [p.len] at hl
   exact⟨_,bh9 hl,a,rfl,.inr rfl,r⟩
  ·obtain ⟨u,e,q⟩:=p.sl j m h
   refine⟨u,by rw [bg3 (Ne.symm hne)]; exact e,?_⟩
   cases m with
   | sh g y=>exact aG.keep (kp g) q
   | own y=>
    obtain ⟨b,e1,e2,q⟩:=q
    exact⟨b,e1,.inl e2,q.keep (kp true) fun o z=>s _ _ z⟩
 ·have ne:∀ {j:Nat}{y:PV},ρ[j]? = some (some (.own y))->σ[j]? ≠ some (some (.ref a)):=fun {j y} h1 h2=>by
   obtain ⟨u,e,c,e1,e2,_⟩:=p.sl j _ h1
   rw [h2] at e
   cases e
   cases e1
   exact wa e2
  rcases dM h1 with ⟨e1,l1,_⟩ | ⟨n1,h1⟩
  ·rcases dM h2 with ⟨e2,_,_⟩ | ⟨n2,h2⟩
   ·rw [e1,e2]
   ·rw [e1,bh9 (by rw [<- p.len]; exact l1)] at h3
    rw [bg3 (Ne.symm n2)] at h4
    cases h3
    exact absurd h4 (ne h2)
  ·rw [bg3 (Ne.symm n1)] at h3
   rcases dM h2 with ⟨e2,l2,_⟩ | ⟨n2,h2⟩
   ·rw [e2,bh9 (by rw [<- p.len]; exact l2)] at h4
    cases h4
    exact absurd h3 (ne h1)
   ·rw [bg3 (Ne.symm n2)] at h4
    exact p.dis j k y z b h1 h2 h3 h4
theorem Ev.own {a:Addr} (s:aD Hs H) (ha:Hs a=none):Ev W Hs (lV W a) H:=fun b o e n=>⟨s _ _ e,fun z=>z.elim n fun z=>by rw [z,ha] at e; cases e⟩
theorem iL {g:Bool}{a b:Addr} (wa:W a) (h:Ms H0 W g b):b ≠ a:=by
 cases g with
 | true=>exact fun z=>h.1 (by rw [z]; exact wa)
 | false=>exact fun z=>h (by rw [z]; exact wa)
theorem PX.updOwn {i:Nat}{a:Addr}{x y:PV}{o:HO} (p:PX K H0 W σ ρ H) (hi:ρ[i]? = some (some (.own x))) (ha:σ[i]? = some (some (.ref a))) (wa:W a) (mu:gQ o=true) (r:gR K (Ms H0 W true) (upd H a o) a y) :
  PX K H0 W σ (ρ.set i (some (.own y))) (upd H a o):=by
 obtain ⟨w0,o',e',mu'⟩:=p.wm a wa
 have kp:∀ g,i8 (Ms H0 W g) (Ms H0 W g) H (upd H a o):=fun g=>.upd e' mu' fun b m=>⟨iL wa m,m⟩
 refine⟨by rw [bi5]; exact p.len,fun b u e=>by rw [aI (fun z=>by rw [z,w0] at e; cases e)]; exact p.same _ _ e,fun b z=>?_,fun j m h=>?_,fun j k y' z b h1 h2 h3 h4=>?_⟩
 ·by_cases e:b=a
  ·subst e; exact⟨w0,o,bD,mu⟩
  ·obtain ⟨h1,o2,h2,h3⟩:=p.wm b z
   exact⟨h1,o2,by rw [aI e]; exact h2,h3⟩
 ·rcases dM h with ⟨rfl,hl,e⟩ | ⟨hne,h⟩
  ·cases e
   exact⟨_,ha,a,rfl,wa,r⟩
  ·obtain ⟨u,e,q⟩:=p.sl j m h
   refine⟨u,e,?_⟩
   cases m with
   | sh g y=>exact aG.keep (kp g) q
   | own y=>
    obtain ⟨b,e1,e2,q⟩:=q
    have hb:b ≠ a:=fun z=>by
     subst e1
     rw [z] at e
     exact hne (p.dis j i _ _ a h hi e ha)
    exact⟨b,e1,e2,q.keep (kp true) fun o z=>by rw [aI hb]; exact z⟩
 ·have g1:∃ y,ρ[j]? = some (some (.own y)):=by
   rcases dM h1 with ⟨e,_,_⟩ | ⟨_,h⟩
   ·exact⟨x,by rw [e]; exact hi⟩
   ·exact⟨_,h⟩
  have g2:∃ y,ρ[k]? = some (some (.own y)):=by
   rcases dM h2 with ⟨e,_,_⟩ | ⟨_,h⟩
   ·exact⟨x,by rw [e]; exact hi⟩
   ·exact⟨_,h⟩
  obtain ⟨y1,g1⟩:=g1
  obtain ⟨y2,g2⟩:=g2
  exact p.dis j k y1 y2 b g1 g2 h3 h4
theorem Ev.upd {a:Addr}{o:HO} (wa:W a):Ev W H W (upd H a o):=fun b u e n=>⟨by rw [aI (fun z=>n (by rw [z]; exact wa))]; exact e,n⟩
def o4 (W:Addr->Prop) (a:Addr):Addr->Prop:=fun b=>W b/\b ≠ a
theorem vB {g:Bool}{a b:Addr} (h:Ms H0 W g b):Ms H0 (o4 W a) g b:=by
 cases g with
 | true=>exact⟨fun z=>h.1 z.1,h.2⟩
 | false=>exact fun z=>h z.1
theorem PX.freeze {i:Nat}{a:Addr}{x:PV} (p:PX K H0 W σ ρ H) (hi:ρ[i]? = some (some (.own x))) (ha:σ[i]? = some (some (.ref a))):PX K H0 (o4 W a) σ (ρ.set i (some (.sh true x))) H:=by
 obtain ⟨v,ev,a',e1,wa,r⟩:=p.sl i _ hi
 rw [ha] at ev
 cases ev
 cases e1
 refine⟨by rw [bi5]; exact p.len,p.same,fun b z=>p.wm b z.1,fun j m h=>?_,fun j k y' z b h1 h2 h3 h4=>?_⟩
 ·rcases dM h with ⟨rfl,hl,e⟩ | ⟨hne,h⟩
  ·cases e
   exact⟨_,ha,r.rep (M':=Ms H0 (o4 W a) true) (fun b m=>vB (g:=true) m) (show Ms H0 (o4 W a) true a from ⟨fun z=>z.2 rfl,(p.wm a wa).1⟩)⟩
  ·obtain ⟨u,e,q⟩:=p.sl j m h
   refine⟨u,e,?_⟩
   cases m with
   | sh g y=>exact aG.same q (aD.refl _) fun _ m=>vB m
   | own y=>
    obtain ⟨b,e1,e2,q⟩:=q
    have hb:b ≠ a:=fun z=>by
     subst e1
     rw [z] at e
     exact hne (p.dis j i _ _ a h hi e ha)
    exact⟨b,e1,⟨e2,hb⟩,q.keep (.same (aD.refl _) fun _ m=>vB m) fun _ z=>z⟩
 ·rcases dM h1 with ⟨_,_,e⟩ | ⟨_,h1⟩
  ·cases e
  ·rcases dM h2 with ⟨_,_,e⟩ | ⟨_,h2⟩
   ·cases e
   ·exact p.dis j k _ _ b h1 h2 h3 h4
theorem Ev.off {a:Addr}:Ev W H (o4 W a) H:=fun b u e n=>⟨e,fun z=>n z.1⟩
end
section
variable {X : Cx} {σ : St} {H : Hp} {D : bS} {te : aE} {t u : aK}
def bX:aK:=fun D ρ=>D.nx ρ
def aH (t u:aK):aK:=fun D ρ=>t { D with nx:=u D } ρ
theorem aw4 (h:LS X bX D σ H):yF D σ H:=by
 obtain ⟨W,ρ,D',px,q,k⟩:=h
 exact k.nx W σ H ρ (Ev.refl _ _) px q
theorem aw5 (h:LS X (aH t u) D σ H):tG (LS X t) (LS X u) D σ H:=by
 obtain ⟨W,ρ,D',px,q,k⟩:=h
 exact⟨W,ρ,_,px,q,fun W' σ' H' ρ' e px' q'=>⟨W',ρ',D',px',q',k.step e⟩,k.rt,k.bk,k.ct⟩
def J3:Tg->PV->Bool
 | .fr,_=>true
 | .nw,_=>true
 | _,x=>flat x
def J4:Tg->PV->Prop
 | .rd,x=>flat x=true
 | _,_=>True
theorem aw6 {K:PySem.W.Frag}{H0 Hs H:Hp}{W:Addr->Prop}{σ:St}{ρ:bP}{g:Tg}{x:PV}{v:V} (px:PX K H0 W σ ρ Hs) (n:J4 g x) (r:aG K (Mg H0 W Hs g) H v x):aG K (Ms H0 W (J3 g x)) H v x:=by
 cases g with
 | fr=>exact Nw.rep (g:=.fr) px trivial r
 | nw=>exact Nw.rep (g:=.nw) px trivial r
 | sh=>
  show aG K (Ms H0 W (flat x)) H v x
  cases e:flat x with
  | true=>exact r.flat e
  | false=>exact r.same (aD.refl _) fun _ z=>z
 | rd=>exact r.flat n
def bG (i:Nat) (te:aE):aK:=fun D ρ=>te ρ fun x g=>J4 g x/\D.nx (ρ.set i (some (.sh (J3 g x) x)))
theorem vC {i:Nat} (h:LS X (bG i te) D σ H):jT (LE X te) (cG i) D σ H:=by
 obtain ⟨W,ρ,D',px,q,k⟩:=h
 refine⟨W,ρ,_,px,q,?_⟩
 rintro v H1 x g s r ⟨n,q⟩
 exact k.nx W _ H1 _ (Ev.same s) ((px.mono s).setSh (aw6 px n r)) q
def J5:PV->Bool
 | .lst xs=>flats xs
 | .dK ps=>flats (ps.map (·.2))
 | .dT ps=>flats (ps.map (·.2))
 | _=>false
theorem aw7 {K:PySem.W.Frag}{M:Addr->Prop}{H:Hp}{v:V}{x:PV} (r:aG K M H v x) (o:J5 x=true):∃ a,v = .ref a/\M a/\∀ M',gR K M' H a x:=by
 cases r with
 | lst m e r=>exact⟨_,rfl,m,fun _=>⟨_,e,r.flat o⟩⟩
 | dK m e q r=>exact⟨_,rfl,m,fun _=>⟨_,e,q,r.flat o⟩⟩
 | dT m e q r=>exact⟨_,rfl,m,fun _=>⟨_,e,q,r.flat o⟩⟩
 | _=>cases o
def dQ (i:Nat) (te:aE):aK:=fun D ρ=>te ρ fun x g=>g = .fr/\J5 x=true/\D.nx (ρ.set i (some (.own x)))
theorem J6 {i:Nat} (h:LS X (dQ i te) D σ H):jT (LE X te) (cG i) D σ H:=by
 obtain ⟨W,ρ,D',px,q,k⟩:=h
 refine⟨W,ρ,_,px,q,?_⟩
 rintro v H1 x g s r ⟨rfl,o,q⟩
 obtain ⟨a,rfl,m,w⟩:=aw7 r o
 exact k.nx _ _ H1 _ (Ev.own s m) (px.setOwn s m (w _)) q
def qS (i:Nat) (t:aK):aK:=fun D ρ=>∃ x,ρ[i]? = some (some (.own x))/\t D (ρ.set i (some (.sh true x)))
theorem aw8 {i:Nat} (h:LS X (qS i t) D σ H):LS X t D σ H:=by
 obtain ⟨W,ρ,D',px,⟨x,hi,q⟩,k⟩:=h
 obtain ⟨v,ev,a,rfl,wa,r⟩:=px.sl i _ hi
 exact⟨_,_,D',px.freeze hi ev,q,k.step Ev.off⟩
def b9 (te:aE):aK:=fun D ρ=>te ρ fun x g=>Nw g x/\D.rt x
theorem aw9 (h:LS X (b9 te) D σ H):lI (LE X te) D σ H:=by
 obtain ⟨W,ρ,D',px,q,k⟩:=h
 refine⟨W,ρ,_,px,q,?_⟩
 rintro v H1 x g s r ⟨n,q⟩
 exact k.rt v H1 x (px.same.trans s) ((Nw.rep px n r).same (aD.refl _) fun _ z=>z.2) q
def Slot.nw:Slot->Prop
 | .own _=>True
 | .sh true _=>True
 | .sh false x=>flat x=true
def gT (i:Nat):aK:=fun D ρ=>∃ m,ρ[i]? = some (some m)/\m.nw/\D.rt m.val
theorem ax0 {i:Nat} (h:LS X (gT i) D σ H):lI (eO i) D σ H:=by
 obtain ⟨W,ρ,D',px,⟨m,hi,n,q⟩,k⟩:=h
 obtain ⟨v,ev,r⟩:=px.sl i _ hi
 refine⟨v,ev,k.rt v H _ px.same ?_ q⟩
 cases m with
 | own x=>
  obtain ⟨a,rfl,wa,r⟩:=r
  exact r.rep (fun _ z=>z.2) (px.wm a wa).1
 | sh g x=>
  cases g with
  | true=>exact aG.same r (aD.refl _) fun _ z=>z.2
  | false=>exact aG.flat n r
def bQ (c:bY) (t u:aK):aK:=fun D ρ=>c ρ fun b=>if b=true then t D ρ else u D ρ
theorem ax1 {c:bY} (h:LS X (bQ c t u) D σ H):yG (LT X c) (LS X t) (LS X u) D σ H:=by
 obtain ⟨W,ρ,D',px,q,k⟩:=h
 refine⟨W,ρ,_,px,q,fun b H1 s q1=>?_⟩
 cases b with
 | true=>exact aZ ⟨W,ρ,D',px.mono s,by simpa using q1,k.step (Ev.same s)⟩
 | false=>exact aP ⟨W,ρ,D',px.mono s,by simpa using q1,k.step (Ev.same s)⟩
def lW (c:bY) (tb:aK):aK:=fun D ρ=>∃ I:Nat->bP->Prop,(∃ m,I m ρ)/\∀ m ρ',I m ρ'->c ρ' fun b=>if b=true then tb { D with nx:=fun ρ2=>∃ m',m' < m/\I m' ρ2,ct:=fun ρ2=>∃ m',m' < m/\I m' ρ2,bk:=D.nx } ρ' else D.nx ρ'
theorem ax2 {c:bY}{tb:aK} (h:LS X (lW c tb) D σ H):yK (LT X c) (LS X tb) D σ H:=by
 obtain ⟨W,ρ,D',px,⟨I,⟨m0,i0⟩,turn⟩,k⟩:=h
 refine⟨fun m σ2 H2=>∃ W2 ρ2,PX X.K X.H₀ W2 σ2 ρ2 H2/\Ev W H W2 H2/\I m ρ2,⟨m0,W,ρ,px,Ev.refl _ _,i0⟩,?_⟩
 rintro m σ2 H2 ⟨W2,ρ2,px2,e2,i2⟩
 refine⟨W2,ρ2,_,px2,turn m ρ2 i2,fun b H3 s3 q3=>?_⟩
 cases b with
 | true=>
  refine aZ ⟨fun σ4 H4=>∃ W4 ρ4,PX X.K X.H₀ W4 σ4 ρ4 H4/\Ev W H W4 H4/\∃ m',m' < m/\I m' ρ4,fun σ4 H4 ⟨W4,ρ4,a,b,m',c,d⟩=>⟨m',c,W4,ρ4,a,b,d⟩,W2,ρ2,_,px2.mono s3,by simpa using q3,?_⟩
  have e3:Ev W H W2 H3:=e2.trans (Ev.same s3)
  exact⟨fun W' σ' H' ρ' e p q=>⟨W',ρ',p,e3.trans e,q⟩,k.rt,fun W' σ' H' ρ' e p q=>k.nx W' σ' H' ρ' (e3.trans e) p q,fun W' σ' H' ρ' e p q=>⟨W',ρ',p,e3.trans e,q⟩⟩
 | false=>exact aP (k.nx W2 σ2 H3 ρ2 (e2.trans (Ev.same s3)) (px2.mono s3) (by simpa using q3))
end
theorem lim {n:Nat} (h:n<=16000000):n<=sizeLine:=bj6 (i7 h)
theorem aG.sqT {K:PySem.W.Frag}{M:Addr->Prop}{H:Hp}{v:V}{xs:List PV} (r:aG K M H v (.tup xs)):∃ a us,v = .ref a/\H a=some (.tup us)/\Reps K M H us xs:=by
 cases r with
 | tup e r=>exact⟨_,_,rfl,e,r⟩
theorem aG.sqL {K:PySem.W.Frag}{M:Addr->Prop}{H:Hp}{v:V}{xs:List PV} (r:aG K M H v (.lst xs)):∃ a us,v = .ref a/\M a/\H a=some (.lst us)/\Reps K M H us xs:=by
 cases r with
 | lst m e r=>exact⟨_,_,rfl,m,e,r⟩
theorem jD.sqL {K:PySem.W.Frag}{H:Hp}{a:Addr}{ns:List Int} (h:jD K H a ns):aU K H a (ns.map V.int):=h.elim (fun z=>.inl (.inr z)) .inr
def jF:PV->Option (List PV)
 | .tup xs=>some xs
 | .lst xs=>some xs
 | .scr ns=>some (intz ns)
 | .kt xs=>some xs
 | _=>none
theorem aG.seq {K:PySem.W.Frag}{M:Addr->Prop}{H:Hp}{v:V}{x:PV}{xs:List PV} (r:aG K M H v x) (e:jF x=some xs):∃ a us,v = .ref a/\(aU K H a us ∨ aO K H a us)/\Reps K M H us xs:=by
 cases r with
 | tup h r=>cases e; exact⟨_,_,rfl,.inr (aO.of h),r⟩
 | lst m h r=>cases e; exact⟨_,_,rfl,.inl (aU.of h),r⟩
 | scr h=>cases e; exact⟨_,_,rfl,.inl h.sqL,Reps.intz _⟩
 | kt h r=>cases e; exact⟨_,_,rfl,.inr (.inr h),r⟩
 | _=>cases e
section
variable {X : Cx} {σ : St} {H : Hp} {D : bS} {te ti to : aE} {t u : aK} {Q' : VK}
theorem _root_.PP.PX.updL {K:PySem.W.Frag}{H0:Hp}{W:Addr->Prop}{σ:St}{ρ:bP}{H:Hp}{i:Nat}{a:Addr}{x:PV}{us:List V}{ys:List PV} (p:PX K H0 W σ ρ H) (hi:ρ[i]? = some (some (.own x))) (ha:σ[i]? = some (some (.ref a))) (wa:W a) (r:Reps K (Ms H0 W true) (upd H a (.lst us)) us ys) :
  PX K H0 W σ (ρ.set i (some (.own (.lst ys)))) (upd H a (.lst us)):=p.updOwn hi ha wa rfl (y:=.lst ys) ⟨us,bD,r⟩
def jY (i:Nat) (te:aE):aK:=fun D ρ=>∃ xs,ρ[i]? = some (some (.own (.lst xs)))/\te ρ fun x g=>Nw g x/\xs.length < 16000000/\D.nx (ρ.set i (some (.own (.lst (xs ++ [x])))))
theorem ax3 {i:Nat} (h:LS X (jY i te) D σ H):kH (nQ X.K "list" A3 (eO i) (gM (LE X te) iJ)) D σ H:=by
 obtain ⟨W,ρ,D',px,⟨xs,hi,q⟩,k⟩:=h
 obtain ⟨v,ev,a,rfl,wa,us,ea,r⟩:=px.sl i _ hi
 refine⟨_,ev,kO (aU.of ea),W,ρ,_,px,q,?_⟩
 rintro w H1 x g s rx ⟨n,hl,q⟩
 have ea1:=s _ _ ea
 refine⟨a,us,w,rfl,rfl,ea1,i7 (by rw [r.length]; omega),?_⟩
 refine k.nx W σ _ _ ((Ev.same s).trans (Ev.upd wa)) ((px.mono s).updL hi ev wa ?_) q
 exact ((r.same s fun _ z=>z).append (.cons (Nw.rep px n rx) .nil)).keep (.upd ea1 rfl fun b m=>⟨iL wa m,m⟩)
def J7 (K:PySem.W.Frag):V->List V->Hp->VK->Prop:=fun x vs H Q=>A4 x vs H Q ∨ G6 K x vs H Q
def qT (i:Nat) (te:aE):aK:=fun D ρ=>∃ xs,ρ[i]? = some (some (.own (.lst xs)))/\te ρ fun y g=>∃ ys,(y = .tup ys ∨ y = .lst ys)/\(Nw g y ∨ flats ys=true)/\xs.length+ys.length<=16000000/\D.nx (ρ.set i (some (.own (.lst (xs ++ ys)))))
theorem ax4 {i:Nat} (h:LS X (qT i te) D σ H):kH (nQ X.K "list" (J7 X.K) (eO i) (gM (LE X te) iJ)) D σ H:=by
 obtain ⟨W,ρ,D',px,⟨xs,hi,q⟩,k⟩:=h
 obtain ⟨v,ev,a,rfl,wa,us,ea,r⟩:=px.sl i _ hi
 refine⟨_,ev,kO (aU.of ea),W,ρ,_,px,q,?_⟩
 rintro w H1 y g s ry ⟨ys,hy,n,hl,q⟩
 have ea1:=s _ _ ea
 have key:∀ (zs:List V),Reps X.K (Ms X.H₀ W true) H1 zs ys->D.nx σ (upd H1 a (.lst (us ++ zs))):=fun zs rz=>by
  refine k.nx W σ _ _ ((Ev.same s).trans (Ev.upd wa)) ((px.mono s).updL hi ev wa ?_) q
  exact ((r.same s fun _ z=>z).append rz).keep (.upd ea1 rfl fun b m=>⟨iL wa m,m⟩)
 have lr:=r.length
 rcases hy with rfl | rfl
 ·obtain ⟨b,zs,rfl,eb,rz⟩:=ry.sqT
  have lz:=rz.length
  refine .inr ⟨a,b,us,zs,rfl,rfl,ea1,aO.of eb,lim (by omega),key zs ?_⟩
  rcases n with n | n
  ·obtain ⟨b',zs',e1,e2,rz'⟩:=(Nw.rep px n ry).sqT
   cases e1; rw [eb] at e2; cases e2; exact rz'
  ·exact rz.flat n
 ·obtain ⟨b,zs,rfl,_,eb,rz⟩:=ry.sqL
  have lz:=rz.length
  refine .inl ⟨a,b,us,zs,rfl,rfl,ea1,eb,lim (by omega),key zs ?_⟩
  rcases n with n | n
  ·obtain ⟨b',zs',e1,_,e2,rz'⟩:=(Nw.rep px n ry).sqL
   cases e1; rw [eb] at e2; cases e2; exact rz'
  ·exact rz.flat n
def qU (i:Nat) (tk te:aE):aK:=fun D ρ=>te ρ fun x g=>∃ xs,ρ[i]? = some (some (.own (.lst xs)))/\tk ρ fun y _=>∃ n j,y = .int n/\i4 xs.length n=some j/\Nw g x/\D.nx (ρ.set i (some (.own (.lst (xs.set j x)))))
theorem ax5 {i:Nat}{tk:aE} (h:LS X (qU i tk te) D σ H):jT (LE X te) (tI (eO i) (LE X tk) u6) D σ H:=by
 obtain ⟨W,ρ,D',px,q,k⟩:=h
 refine⟨W,ρ,_,px,q,?_⟩
 rintro w H1 x g s rx ⟨xs,hi,q1⟩
 obtain ⟨v,ev,a,rfl,wa,us,ea,r⟩:=(px.mono s).sl i _ hi
 refine⟨_,ev,W,ρ,_,px.mono s,q1,?_⟩
 rintro kv H2 y gy s2 ry ⟨n,j,rfl,hj,nw,q2⟩
 cases ry
 have ea2:=s2 _ _ ea
 refine⟨a,us,n,j,rfl,rfl,ea2,by rw [r.length]; exact hj,?_⟩
 refine k.nx W σ _ _ ((Ev.same (s.trans s2)).trans (Ev.upd wa)) ((px.mono (s.trans s2)).updL hi ev wa ?_) q2
 exact (Reps.set ((Nw.rep px nw rx).same s2 fun _ z=>z) j (r.same s2 fun _ z=>z)).keep (.upd ea2 rfl fun b m=>⟨iL wa m,m⟩)
end
theorem Reps.atI {K:PySem.W.Frag}{M:Addr->Prop}{H:Hp}{us:List V}{xs:List PV}{i:Int}{z:PV} (r:Reps K M H us xs) (h:L2.atI xs i=some z):∃ v,L2.atI us i=some v/\aG K M H v z:=by
 unfold L2.atI at h ⊢
 rw [r.length]
 cases e:i4 xs.length i with
 | none=>rw [e] at h; cases h
 | some j=>rw [e] at h; exact r.at h
section
variable {X : Cx} {σ : St} {H : Hp} {Q' : VK} {ta tb te : aE} {tr : cN}
def vD:PV->Tg->PV->Tg->PK->Prop:=fun x g y _ Q=>∃ xs i z,jF x=some xs/\y = .int i/\L2.atI xs i=some z/\Q z g
theorem ax6:e9 X vD (zX X.K):=by
 rintro W Hs H u v x y g g' Q Q' s n r1 r2 ⟨xs,i,z,e,rfl,hz,q⟩ k
 cases r2
 obtain ⟨a,us,rfl,hs,r⟩:=r1.seq e
 obtain ⟨v,hv,rv⟩:=r.atI hz
 rcases hs with hs | hs
 ·exact .inl ⟨a,us,i,v,rfl,rfl,hs,hv,k v H z g (aD.refl _) rv q⟩
 ·exact .inr (.inl ⟨a,us,i,v,rfl,rfl,hs,hv,k v H z g (aD.refl _) rv q⟩)
def vE:PV->Option Nat
 | .tup xs=>some xs.length
 | .lst xs=>some xs.length
 | .scr ns=>some ns.length
 | .dK ps=>some ps.length
 | .kt xs=>some xs.length
 | _=>none
def cW:List PV->(PV->Prop)->Prop:=fun xs Q=>∃ x n,xs = [x]/\vE x=some n/\Q (.int n)
theorem Reps.one {K:PySem.W.Frag}{M:Addr->Prop}{H:Hp}{vs:List V}{x:PV} (r:Reps K M H vs [x]):∃ v,vs = [v]/\aG K M H v x:=by
 cases r with
 | cons r t=>cases t; exact⟨_,rfl,r⟩
theorem Reps.two {K:PySem.W.Frag}{M:Addr->Prop}{H:Hp}{vs:List V}{x y:PV} (r:Reps K M H vs [x,y]):∃ v w,vs = [v,w]/\aG K M H v x/\aG K M H w y:=by
 cases r with
 | cons r t=>
  obtain ⟨w,rfl,q⟩:=t.one
  exact⟨_,_,rfl,r,q⟩
theorem ax7:fP X cW (fun xs H Q=>(∃ p ys,xs = [.ref p]/\(aU X.K H p ys ∨ aO X.K H p ys)/\Q (.int ys.length) H) ∨ ∃ a kvs,xs = [V.ref a]/\H a=some (.dK kvs)/\Q (.int kvs.length) H):=by
 rintro H vs xs Q Q' r ⟨x,n,rfl,e,q⟩ k
 obtain ⟨v,rfl,r1⟩:=r.one
 have fin:∀ {m:Nat},m=n->Q' (.int m) H:=fun {m} z=>by rw [z]; exact k _ _ _ (aD.refl _) (.int _) q
 cases r1 with
 | tup h r2=>cases e; exact .inl ⟨_,_,rfl,.inr (aO.of h),fin r2.length⟩
 | lst m h r2=>cases e; exact .inl ⟨_,_,rfl,.inl (aU.of h),fin r2.length⟩
 | scr h=>cases e; exact .inl ⟨_,_,rfl,.inl h.sqL,fin (by rw [be5])⟩
 | kt h r2=>cases e; exact .inl ⟨_,_,rfl,.inr (.inr h),fin r2.length⟩
 | dK m h e' r=>
  cases e
  refine .inr ⟨_,_,rfl,h,fin ?_⟩
  have:=congrArg List.length e'
  rw [be5,be5] at this
  exact this
 | _=>cases e
def seqT:PV->Option (List PV)
 | .kt _=>none
 | x=>jF x
def J8:List PV->(PV->Prop)->Prop:=fun xs Q=>∃ x ys,xs = [x]/\seqT x=some ys/\flats ys=true/\Q (.tup ys)
def gC:List PV->(PV->Prop)->Prop:=fun xs Q=>∃ x ys,xs = [x]/\jF x=some ys/\flats ys=true/\Q (.lst ys)
theorem ax8:fP X (fun xs Q=>J8 xs Q/\∀ ns,xs ≠ [.scr ns]) (fun xs H Q=>∃ p ys,xs = [.ref p]/\((aU X.K H p ys/\∀ l,H l=none->Q (.ref l) (upd H l (.tup ys))) ∨ (aO X.K H p ys/\Q (.ref p) H))):=by
 rintro H vs xs Q Q' r ⟨⟨x,ys,rfl,e,f,q⟩,nsc⟩ k
 obtain ⟨v,rfl,r1⟩:=r.one
 cases r1 with
 | tup h r2=>cases e; exact⟨_,_,rfl,.inr ⟨aO.of h,k _ _ _ (aD.refl _) (.tup h (r2.flat f)) q⟩⟩
 | lst m h r2=>cases e; exact⟨_,_,rfl,.inl ⟨aU.of h,fun l hl=>k _ _ _ (bM hl _) (.tup bD ((r2.flat f).same (bM hl _) fun _ z=>z)) q⟩⟩
 | scr h=>exact absurd rfl (nsc _)
 | _=>cases e
theorem ax9:fP X gC (fun xs H Q=>∃ p ys,xs = [.ref p]/\(aU X.K H p ys ∨ aO X.K H p ys)/\∀ l,H l=none->Q (.ref l) (upd H l (.lst ys))):=by
 rintro H vs xs Q Q' r ⟨x,ys,rfl,e,f,q⟩ k
 obtain ⟨v,rfl,r1⟩:=r.one
 obtain ⟨a,us,rfl,hs,r2⟩:=r1.seq e
 exact⟨_,_,rfl,hs,fun l hl=>k _ _ _ (bM hl _) (.lst hl bD ((r2.flat f).same (bM hl _) fun _ z=>z)) q⟩
def qV:List PV->(PV->Prop)->Prop:=fun xs Q=>∃ ns,xs = [.lst (intz ns)]/\ns.length < 64/\∀ ms:List Int,ms.Perm ns->ms.Pairwise (· <= ·)->Q (.lst (intz ms))
theorem ay0:fP X qV (E5 X.K):=by
 rintro H vs xs Q Q' r ⟨ns,rfl,hl,q⟩ k
 obtain ⟨v,rfl,r1⟩:=r.one
 obtain ⟨a,us,rfl,_,h,r2⟩:=r1.sqL
 obtain rfl:=r2.ofInts
 exact⟨a,ns,rfl,aU.of h,hl,fun l ms hl' p o=>k _ _ _ (bM hl' _) (.lst hl' bD (Reps.intz ms)) (q ms p o)⟩
def vF:List PV->(PV->Prop)->Prop:=fun xs Q=>∃ bs:List Bool,xs = [.lst (bs.map PV.bl)]/\Q (.bl (bs.all id))
theorem Reps.ofBls {K:PySem.W.Frag}{M:Addr->Prop}{H:Hp}:∀ {ns:List Bool}{us:List V},Reps K M H us (ns.map PV.bl)->us=ns.map V.bl
 | [],_,.nil=>rfl
 | n :: r,_,.cons q t=>by
  cases q
  rw [Reps.ofBls t]; rfl
theorem ay1:fP X vF (fun xs H Q=>∃ (a:Addr) (bs:List Bool),xs = [.ref a]/\aU X.K H a (bs.map V.bl)/\Q (.bl (bs.all id)) H):=by
 rintro H vs xs Q Q' r ⟨bs,rfl,q⟩ k
 obtain ⟨v,rfl,r1⟩:=r.one
 obtain ⟨a,us,rfl,_,h,r2⟩:=r1.sqL
 obtain rfl:=r2.ofBls
 exact⟨a,bs,rfl,aU.of h,k _ _ _ (aD.refl _) (.bl _) q⟩
def lX:List PV->(PV->Prop)->Prop:=fun xs Q=>∃ i j,xs = [.int i,.int j]/\Q (.int (if j < i then j else i))
def kR:List PV->(PV->Prop)->Prop:=fun xs Q=>∃ i j,xs = [.int i,.int j]/\Q (.int (if j > i then j else i))
theorem ay2:fP X lX (fun xs H Q=>∃ i j,xs = [.int i,.int j]/\Q (.int (if j < i then j else i)) H):=by
 rintro H vs xs Q Q' r ⟨i,j,rfl,q⟩ k
 obtain ⟨v,w,rfl,r1,r2⟩:=r.two
 cases r1; cases r2
 exact⟨i,j,rfl,k _ _ _ (aD.refl _) (.int _) q⟩
theorem ay3:fP X kR (fun xs H Q=>∃ i j,xs = [.int i,.int j]/\Q (.int (if j > i then j else i)) H):=by
 rintro H vs xs Q Q' r ⟨i,j,rfl,q⟩ k
 obtain ⟨v,w,rfl,r1,r2⟩:=r.two
 cases r1; cases r2
 exact⟨i,j,rfl,k _ _ _ (aD.refl _) (.int _) q⟩
abbrev bK:=List PV->(PV->Prop)->Prop
def o7 (K:PySem.W.Frag) (p:bK):Sp:=fun vs H Q _=>∃ xs Qp,Reps K (fun _=>True) H vs xs/\p xs Qp/\∀ v H' x,aD H H'->aG K (fun a=>H a=none) H' v x->Qp x->Q v H'
theorem ay4 {p:bK}{E:XK} (h:LE X (aB p tr) σ H Q'):tU (o7 X.K p) [] E (LA X tr) σ H Q':=by
 obtain ⟨W,ρ,Q,px,q,k⟩:=h
 refine⟨W,ρ,_,px,q,fun vs H1 xs s1 r1 q1=>⟨_,_,by rw [bf9]; exact r1.any,q1,fun v H' x s2 r2 q2=>k v H' x .fr (s1.trans s2) (r2.same (aD.refl _) fun _ z=>s1.free z) q2⟩⟩
def ay5:PV->Option Bool
 | .non=>some false
 | .bl b=>some b
 | .int i=>some (i != 0)
 | .tup xs=>some (!xs.isEmpty)
 | .lst xs=>some (!xs.isEmpty)
 | .dK ps=>some (!ps.isEmpty)
 | _=>none
def vG (t:aE):bY:=fun ρ Q=>t ρ fun x _=>∃ b,ay5 x=some b/\Q b
theorem vH {α β:Type}:∀ {l:List α}{m:List β},l.length=m.length->l.isEmpty=m.isEmpty
 | [],[],_=>rfl
 | _ :: _,_ :: _,_=>rfl
theorem ay6 {t:aE}{Qb:Bool->Hp->Prop} (h:LT X (vG t) σ H Qb):LE X t σ H fun x H'=>∃ k,tQ X.K x H' k/\Qb k H':=by
 obtain ⟨W,ρ,Q,px,q,k⟩:=h
 refine⟨W,ρ,_,px,q,?_⟩
 rintro v H1 x g s r ⟨b,e,q⟩
 refine⟨b,?_,k _ _ s q⟩
 cases r with
 | non=>cases e; rfl
 | bl b=>cases e; rfl
 | int i=>cases e; rfl
 | str x=>cases e
 | tup h r=>cases e; exact .inr (.inl ⟨_,aO.of h,by rw [vH r.length]⟩)
 | lst m h r=>cases e; exact .inl ⟨_,aU.of h,by rw [vH r.length]⟩
 | dK m h e' r=>
  cases e
  refine .inr (.inr ⟨_,h,?_⟩)
  have:=congrArg List.length e'
  rw [be5,be5] at this
  rw [vH this]
 | dT m h e' r=>cases e
 | scr h=>cases e
 | kt h r=>cases e
 | exc h e' c=>cases e
def vI:PV->Bool
 | .non=>true
 | _=>false
def kS (neg:Bool):PV->Tg->PV->Tg->PK->Prop:=fun x _ y _ Q=>y = .non/\Q (.bl (if neg=true then !vI x else vI x)) .fr
theorem K0 {K:PySem.W.Frag}{M:Addr->Prop}{H:Hp}{v:V}{x:PV} (r:aG K M H v x):decide (v = .non)=vI x:=by
 cases r <;> rfl
theorem K1:e9 X (kS false) (fun x y H Q=>y = .non/\Q (.bl (decide (x = .non))) H):=by
 rintro W Hs H u v x y g g' Q Q' s n r1 r2 ⟨rfl,q⟩ k
 cases r2
 exact⟨rfl,by rw [K0 r1]; exact k _ _ _ _ (aD.refl _) (.bl _) q⟩
theorem ay7:e9 X (kS true) (fun x y H Q=>y = .non/\Q (.bl (!decide (x = .non))) H):=by
 rintro W Hs H u v x y g g' Q Q' s n r1 r2 ⟨rfl,q⟩ k
 cases r2
 exact⟨rfl,by rw [K0 r1]; exact k _ _ _ _ (aD.refl _) (.bl _) q⟩
end
structure lY (K:PySem.W.Frag) (H0:Hp) (W:Addr->Prop) (g:Bool) (H1:Hp) (J:It) (xs:List PV):Prop where
 go:∀ W' H' i,Ev W H1 W' H'->i < xs.length->J.go i H'
 yld:∀ W' H' i v H2,Ev W H1 W' H'->J.yld i H' v H2->i < xs.length->aD H' H2/\∃ x,xs[i]? = some x/\aG K (Ms H0 W' g) H2 v x
 stop:∀ W' H',Ev W H1 W' H'->J.stop xs.length H'
abbrev eU:=bP->(List PV->Bool->Prop)->Prop
def LI (X:Cx) (t:eU):TI:=fun σ H R=>∃ (W:Addr->Prop) (ρ:bP) (Q:List PV->Bool->Prop),PX X.K X.H₀ W σ ρ H/\t ρ Q/\∀ J H1 xs g,aD H H1->lY X.K X.H₀ W g H1 J xs->Q xs g->R J H1
theorem Ev.keep {H0:Hp}{W W':Addr->Prop}{H H':Hp}{g:Bool} (e:Ev W H W' H') (tw:∀ a,W a->∃ o,H a=some o/\gQ o=true):i8 (Ms H0 W g) (Ms H0 W' g) H H':=by
 have m:∀ {a:Addr}{o:HO},Ms H0 W g a->H a=some o->Ms H0 W' g a/\H' a=some o:=fun {a o} z h=>by
  cases g with
  | true=>
   obtain ⟨h1,h2⟩:=e a _ h z.1
   exact⟨⟨h2,z.2⟩,h1⟩
  | false=>
   obtain ⟨h1,h2⟩:=e a _ h z
   exact⟨h2,h1⟩
 refine⟨fun a _ z h=>m z h,fun a _ z h=>m z h,fun a _ z h=>m z h,fun a _ h=>(e a _ h fun z=>?_).1,fun a _ _ h=>(e a _ h fun z=>?_).1⟩
 ·obtain ⟨o,h',mu⟩:=tw a z; rw [h] at h'; cases h'; cases mu
 ·obtain ⟨o,h',mu⟩:=tw a z; rw [h] at h'; cases h'; cases mu
section
variable {X : Cx} {σ : St} {H : Hp} {te : aE} {tr : cN} {R : It → Hp → Prop}
def K2 (K:PySem.W.Frag) (tl:TE):TI:=fun σ H R=>tl σ H fun x H1=>∃ a,x = .ref a/\((∃ xs,aU K H1 a xs/\R (lN K a) H1) ∨ (∃ xs,aO K H1 a xs/\R (jU K a) H1))
def qW:Tg->List PV->Bool
 | .fr,_=>true
 | .nw,_=>true
 | _,xs=>flats xs
def dN (te:aE):eU:=fun ρ Q=>te ρ fun x g=>∃ xs,jF x=some xs/\(g = .rd->flat x=true)/\Q xs (qW g xs)
theorem K3 {K:PySem.W.Frag}{H0:Hp}{W:Addr->Prop}{g:Bool}{H1:Hp}{a:Addr}{us:List V}{xs:List PV} (tw:∀ a,W a->∃ o,H1 a=some o/\gQ o=true) (ha:∀ W' H',Ev W H1 W' H'->aU K H' a us) (r:Reps K (Ms H0 W g) H1 us xs):lY K H0 W g H1 (lN K a) xs:=by
 have lr:=r.length
 refine⟨fun W' H' i e hi=>⟨us,us[i]'(by omega),ha W' H' e,by simp⟩,fun W' H' i v H2 e y hi=>?_,fun W' H' e=>⟨us,ha W' H' e,by omega⟩⟩
 obtain ⟨rfl,y⟩:=y
 obtain ⟨x,hx,rx⟩:=r.get (y us (ha W' _ e))
 exact⟨aD.refl _,x,hx,rx.keep (e.keep tw)⟩
theorem K4 {K:PySem.W.Frag}{H0:Hp}{W:Addr->Prop}{g:Bool}{H1:Hp}{a:Addr}{us:List V}{xs:List PV} (tw:∀ a,W a->∃ o,H1 a=some o/\gQ o=true) (ha:∀ W' H',Ev W H1 W' H'->aO K H' a us) (r:Reps K (Ms H0 W g) H1 us xs):lY K H0 W g H1 (jU K a) xs:=by
 have lr:=r.length
 refine⟨fun W' H' i e hi=>⟨us,us[i]'(by omega),ha W' H' e,by simp⟩,fun W' H' i v H2 e y hi=>?_,fun W' H' e=>⟨us,ha W' H' e,by omega⟩⟩
 obtain ⟨rfl,y⟩:=y
 obtain ⟨x,hx,rx⟩:=r.get (y us (ha W' _ e))
 exact⟨aD.refl _,x,hx,rx.keep (e.keep tw)⟩
theorem lZ {K:PySem.W.Frag}{H0 Hs H:Hp}{W:Addr->Prop}{σ:St}{ρ:bP}{g:Tg}{us:List V}{xs:List PV} (px:PX K H0 W σ ρ Hs) (hg:g = .rd->flats xs=true) (r:Reps K (Mg H0 W Hs g) H us xs):Reps K (Ms H0 W (qW g xs)) H us xs:=by
 cases g with
 | fr=>exact r.same (aD.refl _) fun _ z=>px.new z
 | nw=>exact r.same (aD.refl _) fun _ z=>z
 | sh=>
  show Reps K (Ms H0 W (flats xs)) H us xs
  cases e:flats xs with
  | true=>exact r.flat e
  | false=>exact r.same (aD.refl _) fun _ z=>z
 | rd=>exact r.flat (hg rfl)
theorem ay8 (h:LI X (dN te) σ H R):K2 X.K (LE X te) σ H R:=by
 obtain ⟨W,ρ,Q,px,q,k⟩:=h
 refine⟨W,ρ,_,px,q,?_⟩
 rintro v H1 x g s r ⟨xs,e,hg,q⟩
 have px1:=px.mono s
 have tw:∀ a,W a->∃ o,H1 a=some o/\gQ o=true:=fun a z=>(px1.wm a z).2
 cases r with
 | tup h r=>
  cases e
  refine⟨_,rfl,.inr ⟨_,aO.of h,k _ _ _ _ s (K4 tw (fun W' H' e=>aO.of (e _ _ h fun z=>?_).1) (lZ px (fun z=>by have:=hg z; unfold flat at this; exact this) r)) q⟩⟩
  obtain ⟨o,h',mu⟩:=tw _ z; rw [h] at h'; cases h'; cases mu
 | @lst a us xs' m h r=>
  cases e
  have wa : ¬ W a:=by
   cases g with
   | fr=>exact (px.new m).1
   | nw=>exact m.1
   | sh=>exact m
   | rd=>have:=hg rfl; unfold flat at this; cases this
  exact⟨_,rfl,.inl ⟨_,aU.of h,k _ _ _ _ s (K3 tw (fun W' H' e=>aU.of (e _ _ h wa).1) (lZ px (fun z=>by have:=hg z; unfold flat at this; cases this) r)) q⟩⟩
 | scr h=>
  cases e
  refine⟨_,rfl,.inl ⟨_,h.sqL,k _ _ _ _ s (K3 tw (fun W' H' e=>(jD.keep (fun a o u hz=>(e _ _ hz fun z=>?_).1) h).sqL) (lZ (g:=g) px (fun z=>bJ _) (Reps.intz _))) q⟩⟩
  obtain ⟨o,h',mu⟩:=tw _ z; rw [hz] at h'; cases h'; cases mu
 | kt h r=>
  cases e
  exact⟨_,rfl,.inr ⟨_,.inr h,k _ _ _ _ s (K4 tw (fun W' H' e=>.inr h) (lZ px (fun z=>by have:=hg z; unfold flat at this; exact this) r)) q⟩⟩
 | _=>cases e
def fQ (lo:Int) (n:Nat):List PV:=(List.range n).map fun (i:Nat)=>PV.int (lo+(i:Int))
theorem dO (lo:Int) (n:Nat):(fQ lo n).length=n:=by unfold fQ; rw [be5,bo5]
theorem K5 {lo:Int}{n i:Nat} (h:i < n):(fQ lo n)[i]? = some (.int (lo+i)):=by unfold fQ; rw [bf4,List.getElem?_range h]; rfl
def gD (te:aE):eU:=fun ρ Q=>te ρ fun x _=>∃ j:Int,x = .int j/\-1000000<=j/\j<=1000000/\Q (fQ 0 j.toNat) true
def qX (ta tb:aE):eU:=fun ρ Q=>ta ρ fun x _=>tb ρ fun y _=>∃ i j:Int,x = .int i/\y = .int j/\(-1000000<=i/\i<=1000000/\-1000000<=j/\j<=1000000)/\Q (fQ i (j - i).toNat) true
theorem K6 {K:PySem.W.Frag}{H0:Hp}{W:Addr->Prop}{H1:Hp} (lo:Int) (n:Nat):lY K H0 W true H1 (nD lo n) (fQ lo n):=by
 refine⟨fun W' H' i e hi=>by rw [dO] at hi; exact hi,fun W' H' i v H2 e y hi=>?_,fun W' H' e=>by show n<=(fQ lo n).length; rw [dO]; exact be6 _⟩
 rw [dO] at hi
 obtain ⟨rfl,rfl⟩:=y
 exact⟨aD.refl _,_,K5 hi,.int _⟩
theorem ay9 (h:LI X (gD te) σ H R):yP (gM (LE X te) iJ) σ H R:=by
 obtain ⟨W,ρ,Q,px,q,k⟩:=h
 refine⟨W,ρ,_,px,q,?_⟩
 rintro v H1 x g s r ⟨j,rfl,h1,h2,q⟩
 cases r
 exact⟨j,rfl,by omega,by omega,k _ _ _ _ s (K6 0 j.toNat) q⟩
theorem az0 {ta tb:aE} (h:LI X (qX ta tb) σ H R):yQ (gM (LE X ta) (gM (LE X tb) iJ)) σ H R:=by
 obtain ⟨W,ρ,Q,px,q,k⟩:=h
 refine⟨W,ρ,_,px,q,fun v H1 x g s r q=>⟨W,ρ,_,px.mono s,q,?_⟩⟩
 rintro w H2 y g' s2 r2 ⟨i,j,rfl,rfl,h,q⟩
 cases r; cases r2
 exact⟨i,j,rfl,by omega,k _ _ _ _ (s.trans s2) (K6 i (j - i).toNat) q⟩
end
abbrev iM:=PV->Bool->bP->(bP->Prop)->Prop
def m5 (K:PySem.W.Frag) (own:Nat->Prop) (p:iM) (t:TG):Prop:=∀ (H0:Hp) (W:Addr->Prop) (σ:St) (ρ:bP) (H:Hp) (v:V) (x:PV) (g:Bool) (Q:bP->Prop) (Q':St->Hp->Prop),
 PX K H0 W σ ρ H->aG K (Ms H0 W g) H v x->p x g ρ Q->(∀ σ' ρ',PX K H0 W σ' ρ' H->(∀ i,¬ own i->σ'[i]? = σ[i]?)->σ'.length=σ.length->Q ρ'->Q' σ' H)->t v σ H Q'
def bO (i:Nat):iM:=fun x g ρ Q=>Q (ρ.set i (some (.sh (g || flat x) x)))
theorem qY {K:PySem.W.Frag}{H0 H:Hp}{W:Addr->Prop}{v:V}{x:PV}{g:Bool} (r:aG K (Ms H0 W g) H v x):aG K (Ms H0 W (g || flat x)) H v x:=by
 cases g with
 | true=>exact r
 | false=>
  show aG K (Ms H0 W (flat x)) H v x
  cases e:flat x with
  | true=>exact r.flat e
  | false=>exact r
theorem kT (K:PySem.W.Frag) (i:Nat):m5 K (· = i) (bO i) (cG i):=by
 intro H0 W σ ρ H v x g Q Q' px r q k
 exact k _ _ (px.setSh (qY r)) (fun j hj=>by rw [bg3 (Ne.symm hj)]) (bi5 ..) q
def o8 (i j:Nat):iM:=fun x g ρ Q=>∃ y z,x = .tup [y,z]/\Q ((ρ.set i (some (.sh (g || flat y) y))).set j (some (.sh (g || flat z) z)))
theorem K7 (K:PySem.W.Frag) (i j:Nat):m5 K (fun k=>k=i ∨ k=j) (o8 i j) (jS K 2 (fD (cG i) (fD (cG j) jR))):=by
 intro H0 W σ ρ H v x g Q Q' px r q k
 obtain ⟨y,z,rfl,q⟩:=q
 obtain ⟨a,us,rfl,h,r⟩:=r.sqT
 obtain ⟨u1,u2,rfl,r1,r2⟩:=r.two
 refine⟨a,_,rfl,aO.of h,rfl,u1,_,rfl,u2,_,rfl,rfl,k _ _ ((px.setSh (qY r1)).setSh (qY r2)) (fun k hk=>?_) (by rw [bi5,bi5]) q⟩
 rw [bg3 (fun e=>hk (.inr e.symm)),bg3 (fun e=>hk (.inl e.symm))]
section
variable {X : Cx} {σ : St} {H : Hp} {D : bS}
def eI (ti:eU) (p:iM) (tb:aK):aK:=fun D ρ=>ti ρ fun xs g=>∃ I:Nat->bP->Prop,I 0 ρ/\(∀ i x ρ',xs[i]? = some x->I i ρ'->p x g ρ' fun ρ2=>tb { D with nx:=I (i+1),ct:=I (i+1),bk:=D.nx } ρ2)/\∀ ρ',I xs.length ρ'->D.nx ρ'
theorem az1 {ti:eU}{p:iM}{g:TG}{tb:aK}{own:Nat->Prop} (hg:m5 X.K own p g) (h:LS X (eI ti p tb) D σ H):yR (LI X ti) g (LS X tb) D σ H:=by
 obtain ⟨W,ρ,D',px,q,k⟩:=h
 refine⟨W,ρ,_,px,q,?_⟩
 rintro J H1 xs gb s it ⟨I,i0,turn,fin⟩
 refine⟨fun i m σ2 H2=>m=xs.length - i/\i<=xs.length/\∃ W2 ρ2,PX X.K X.H₀ W2 σ2 ρ2 H2/\Ev W H1 W2 H2/\I i ρ2,⟨xs.length,by omega,bh8 _,W,ρ,px.mono s,Ev.refl _ _,i0⟩,?_⟩
 rintro i m σ2 H2 ⟨rfl,hi,W2,ρ2,px2,e2,i2⟩
 have e0:Ev W H W2 H2:=(Ev.same s).trans e2
 by_cases hlt:i < xs.length
 ·refine .inr ⟨it.go W2 H2 i e2 hlt,fun σ3 H3=>∃ W3 ρ3,PX X.K X.H₀ W3 σ3 ρ3 H3/\Ev W H1 W3 H3/\I (i+1) ρ3,fun σ3 H3 ⟨W3,ρ3,a,b,c⟩=>⟨xs.length - (i+1),by omega,rfl,hlt,W3,ρ3,a,b,c⟩,fun v H3 y=>?_⟩
  obtain ⟨s3,x,hx,rx⟩:=it.yld W2 H2 i v H3 e2 y hlt
  refine hg X.H₀ W2 σ2 ρ2 H3 v x gb _ _ (px2.mono s3) rx (turn i x ρ2 hx i2) fun σ4 ρ4 px4 _ _ q4=>?_
  have e3:Ev W H1 W2 H3:=e2.trans (Ev.same s3)
  have e3':Ev W H W2 H3:=e0.trans (Ev.same s3)
  exact⟨W2,ρ4,_,px4,q4,fun W' σ' H' ρ' e p q=>⟨W',ρ',p,e3.trans e,q⟩,k.rt,fun W' σ' H' ρ' e p q=>k.nx W' σ' H' ρ' (e3'.trans e) p q,fun W' σ' H' ρ' e p q=>⟨W',ρ',p,e3.trans e,q⟩⟩
 ·have e:i=xs.length:=by omega
  subst e
  exact .inl ⟨it.stop W2 H2 e2,k.nx W2 σ2 H2 ρ2 e0 px2 (fin ρ2 i2)⟩
end
def gE (fr:List (Option Nat)) (ρ:bP):bP:=fr.map fun o=>o.bind fun j=>(ρ[j]?).join.map fun m=>Slot.sh false m.val
def gU (D:Addr):Addr->Prop:=fun a=>a=D
theorem az2 {K:PySem.W.Frag}{H0:Hp}{W:Addr->Prop}{σ:St}{ρ:bP}{H1 H':Hp}{D:Addr}{acc:List V}{fr:List (Option Nat)} (px:PX K H0 W σ ρ H1) (hD:H1 D=none) (s:aD H1 H') (ha:H' D=some (.lst acc)) :
  PX K H1 (gU D) (e8 fr σ) (gE fr ρ) H':=by
 have old:∀ {a:Addr}{o:HO},H1 a=some o->a ≠ D:=fun {a o} e z=>by rw [z,hD] at e; cases e
 refine⟨by unfold e8 gE; rw [be5,be5],s,fun a z=>by cases z; exact⟨hD,_,ha,rfl⟩,fun i m h=>?_,fun i j x y a h1=>?_⟩
 ·unfold gE at h
  rw [bf4] at h
  cases ef:fr[i]? with
  | none=>rw [ef] at h; cases h
  | some o=>
   rw [ef] at h
   cases o with
   | none=>cases h
   | some j=>
    have h:some ((ρ[j]?).join.map fun m=>Slot.sh false m.val)=some (some m):=h
    cases er:ρ[j]? with
    | none=>rw [er] at h; cases h
    | some o=>
     rw [er] at h
     cases o with
     | none=>cases h
     | some m0=>
      cases h
      obtain ⟨v,ev,r⟩:=px.sl j m0 er
      refine⟨v,?_,?_⟩
      ·unfold e8
       rw [bf4,ef]
       show some ((σ[j]?).join)=_
       rw [ev]; rfl
      ·have r':aG K (fun _=>True) H1 v m0.val:=(qM (Hs:=H1) r).same (aD.refl _) fun _ _=>trivial
       exact r'.keep ⟨fun a _ _ e=>⟨old e,s _ _ e⟩,fun a _ _ e=>⟨old e,s _ _ e⟩,fun a _ _ e=>⟨old e,s _ _ e⟩,fun _ _ e=>s _ _ e,fun _ _ _ e=>s _ _ e⟩
 ·unfold gE at h1
  rw [bf4] at h1
  cases ef:fr[i]? with
  | none=>rw [ef] at h1; cases h1
  | some o=>
   rw [ef] at h1
   cases o with
   | none=>cases h1
   | some j=>
    have h1:some ((ρ[j]?).join.map fun m=>Slot.sh false m.val)=some (some (Slot.own x)):=h1
    cases er:ρ[j]? with
    | none=>rw [er] at h1; cases h1
    | some o=>
     rw [er] at h1
     cases o with
     | none=>cases h1
     | some m0=>cases h1
section
variable {X : Cx} {σ : St} {H : Hp} {Q' : VK}
abbrev _root_.L2.Cx.frm (X:Cx) (H1:Hp):Cx:={ X with H₀:=H1 }
def cL (ti:eU) (fr:List (Option Nat)) (p:iM) (tc:bY) (te:aE):aE:=fun ρ Q=>ti ρ fun xs g=>xs.length<=16000000/\∃ I:Nat->List PV->Prop,I 0 []/\
 (∀ i x acc,xs[i]? = some x->I i acc->p x false (gE fr ρ) fun ρ2=>tc ρ2 fun b=>if b=true then te ρ2 fun y gy=>Nw gy y/\I (i+1) (acc ++ [y]) else I (i+1) acc)/\∀ acc,I xs.length acc->Q (.lst acc) .fr
theorem m6 {ti:eU}{fr:List (Option Nat)}{p:iM}{g:TG}{tc:bY}{te:aE}{own:Nat->Prop} (hg:m5 X.K own p g) (ho:∀ i,own i->fr[i]? = some none) (h:LE X (cL ti fr p tc te) σ H Q') :
  pZ (LI X ti) fr (fun _=>g) (fun H1=>LT (X.frm H1) tc) (fun H1=>LE (X.frm H1) te) σ H Q':=by
 obtain ⟨W,ρ,Q,px,q,k⟩:=h
 refine⟨W,ρ,_,px,q,?_⟩
 rintro J H1 xs gb s it ⟨hl,I,i0,turn,fin⟩ D hD
 have px1:=px.mono s
 refine⟨fun i m acc H'=>m=xs.length - i/\i<=xs.length/\aD H1 H'/\H' D=some (.lst acc)/\∃ ys,Reps X.K (Ms H1 (gU D) true) H' acc ys/\ys.length<=i/\I i ys,⟨xs.length,by omega,bh8 _,bM hD _,bD,[],.nil,be6 _,i0⟩,?_⟩
 rintro i m acc H' ⟨rfl,hi,sm,ha,ys,ry,hy,iy⟩
 refine⟨ha,?_⟩
 have ev:Ev W H1 (lV W D) H':=Ev.own sm hD
 by_cases hlt:i < xs.length
 ·refine .inr ⟨it.go _ H' i ev hlt,fun v H2 y=>?_⟩
  obtain ⟨s2,x,hx,rx⟩:=it.yld _ H' i v H2 ev y hlt
  have ha2:=s2 _ _ ha
  have pxb:PX X.K H1 (gU D) (e8 fr σ) (gE fr ρ) H2:=az2 px1 hD (sm.trans s2) ha2
  have rx':aG X.K (Ms H1 (gU D) false) H2 v x:=rx.same (aD.refl _) fun a z=>by
   cases gb with
   | true=>exact fun e=>z.1 (.inr e)
   | false=>exact fun e=>z (.inr e)
  refine hg H1 (gU D) _ _ H2 v x false _ _ pxb rx' (turn i x ys hx iy) fun σ2 ρ2 px2 hown hlen q2=>⟨⟨hlen.symm,fun j w e=>?_⟩,?_⟩
  ·by_cases oj:own j
   ·have:=ho j oj
    unfold e8 at e
    rw [bf4,this] at e
    cases e
   ·rw [hown j oj]; exact e
  ·refine⟨gU D,ρ2,_,px2,q2,fun b H4 s4 q4=>?_⟩
   have ha4:=s4 _ _ ha2
   have sm4:=(sm.trans s2).trans s4
   cases b with
   | false=>
    refine aP ⟨xs.length - (i+1),by omega,rfl,hlt,sm4,ha4,ys,ry.same (s2.trans s4) fun _ z=>z,by omega,by simpa using q4⟩
   | true=>
    refine aZ ⟨gU D,ρ2,_,px2.mono s4,by simpa using q4,?_⟩
    rintro w H5 y gy s5 ryy ⟨nw,q5⟩
    have ha5:=s5 _ _ ha4
    have lr:=ry.length
    refine⟨ha5,i7 (by omega),xs.length - (i+1),by omega,rfl,hlt,fun b o e=>?_,bD,ys ++ [y],?_,by rw [be2,bi8]; omega,q5⟩
    ·rw [aI (fun z=>by rw [z,hD] at e; cases e)]
     exact s5 _ _ (sm4 _ _ e)
    ·exact ((ry.same ((s2.trans s4).trans s5) fun _ z=>z).append (.cons (Nw.rep (px2.mono s4) nw ryy) .nil)).keep (.upd ha5 rfl fun b m=>⟨m.1,m⟩)
 ·have e:i=xs.length:=by omega
  subst e
  refine .inl ⟨it.stop _ H' ev,k _ H' _ .fr (s.trans sm) (.lst (s.free hD) ha (ry.same (aD.refl _) fun _ z=>s.free z.2)) (fin ys iy)⟩
def fH:bY:=fun _ Q=>Q true
theorem az3 {Qb:Bool->Hp->Prop} (h:LT X fH σ H Qb):uI σ H Qb:=by
 obtain ⟨W,ρ,Q,px,q,k⟩:=h
 exact k _ _ (aD.refl _) q
end
section
variable {κ : Type} [DecidableEq κ]
def cA (ps:List (κ × PV)) (k:κ):Option PV:=(ps.find? fun p=>decide (p.1=k)).map (·.2)
def cM (ps:List (κ × PV)) (k:κ) (x:PV):List (κ × PV):=if (ps.any fun p=>decide (p.1=k))=true then ps.map (fun p=>if p.1=k then (p.1,x) else p) else ps ++ [(k,x)]
variable {K : PySem.W.Frag} {M : Addr → Prop} {H : Hp}
theorem o9 (k:κ):∀ {kvs:List (κ × V)}{ps:List (κ × PV)},kvs.map (·.1)=ps.map (·.1)->Reps K M H (kvs.map (·.2)) (ps.map (·.2))->(cA ps k=none->fG kvs k=none)/\∀ x,cA ps k=some x->∃ v,fG kvs k=some v/\aG K M H v x
 | [],[],_,_=>⟨fun _=>rfl,fun x h=>by cases h⟩
 | [],_ :: _,e,_=>by cases e
 | _ :: _,[],e,_=>by cases e
 | (k1,v) :: kvs,(k2,x) :: ps,e,r=>by
  injection e with e1 e2
  have e1:k1=k2:=e1
  subst e1
  cases r with
  | cons r t=>
   obtain ⟨h1,h2⟩:=o9 k e2 t
   unfold cA fG at h1 h2 ⊢
   by_cases e:k1=k
   ·simp only [bl9,e,decide_true,Option.map_some]
    exact⟨fun z=>(by cases z),fun y z=>(by cases z; exact⟨v,rfl,r⟩)⟩
   ·simp only [bl9,e,decide_false]
    exact⟨h1,h2⟩
theorem az4 (k:κ) {kvs:List (κ × V)}{ps:List (κ × PV)} (e:kvs.map (·.1)=ps.map (·.1)):(kvs.any fun p=>decide (p.1=k))=ps.any fun p=>decide (p.1=k):=by
 have h1:(kvs.any fun p=>decide (p.1=k))=(kvs.map (·.1)).any fun z=>decide (z=k):=by rw [List.any_map]; rfl
 have h2:(ps.any fun p=>decide (p.1=k))=(ps.map (·.1)).any fun z=>decide (z=k):=by rw [List.any_map]; rfl
 rw [h1,h2,e]
theorem K8 (k:κ) {w:V}{y:PV} (q:aG K M H w y):∀ {kvs:List (κ × V)}{ps:List (κ × PV)},kvs.map (·.1)=ps.map (·.1)->Reps K M H (kvs.map (·.2)) (ps.map (·.2))->
  (kvs.map fun kv=>if kv.1=k then (kv.1,w) else kv).map (·.1)=(ps.map fun kv=>if kv.1=k then (kv.1,y) else kv).map (·.1)/\Reps K M H ((kvs.map fun kv=>if kv.1=k then (kv.1,w) else kv).map (·.2)) ((ps.map fun kv=>if kv.1=k then (kv.1,y) else kv).map (·.2))
 | [],[],_,_=>⟨rfl,.nil⟩
 | [],_ :: _,e,_=>by cases e
 | _ :: _,[],e,_=>by cases e
 | (k1,v) :: kvs,(k2,x) :: ps,e,r=>by
  injection e with e1 e2
  have e1:k1=k2:=e1
  subst e1
  cases r with
  | cons r t=>
   obtain ⟨h1,h2⟩:=K8 k q e2 t
   by_cases e:k1=k
   ·simp only [bj4,e,if_true]
    exact⟨by rw [h1],.cons q h2⟩
   ·simp only [bj4,e,bk8]
    exact⟨by rw [h1],.cons r h2⟩
theorem vJ (k:κ) {w:V}{y:PV} (q:aG K M H w y) {kvs:List (κ × V)}{ps:List (κ × PV)} (e:kvs.map (·.1)=ps.map (·.1)) (r:Reps K M H (kvs.map (·.2)) (ps.map (·.2))) :
  (dU kvs k w).map (·.1)=(cM ps k y).map (·.1)/\Reps K M H ((dU kvs k w).map (·.2)) ((cM ps k y).map (·.2)):=by
 unfold dU cM
 rw [az4 k e]
 split
 ·exact K8 k q e r
 ·rw [bh3,bh3,bh3,bh3,e]
  exact⟨rfl,r.append (.cons q .nil)⟩
end
def kP:aC->PV
 | .inl i=>.int i
 | .inr x=>.str x
theorem vK {K:PySem.W.Frag}{M:Addr->Prop}{H:Hp}{v:V}{k:aC} (r:aG K M H v (kP k)):v=kV k:=by
 cases k with
 | inl i=>cases r; rfl
 | inr x=>cases r; rfl
theorem qZ {K:PySem.W.Frag}{M:Addr->Prop}{H:Hp}:∀ {ks:List aC}{us:List V},Reps K M H us (ks.map kP)->us=ks.map kV
 | [],_,.nil=>rfl
 | k :: r,_,.cons q t=>by rw [vK q,qZ t]; rfl
def K9 (x y:PV) (o:Option PV):Prop:=(∃ ps k,x = .dK ps/\y=kP k/\o=cA ps k) ∨ (∃ ps k,x = .dT ps/\y = .tup (k.map kP)/\o=cA ps k)
theorem L4 {K:PySem.W.Frag}{M M2:Addr->Prop}{H:Hp}{v w:V}{x y:PV}{o:Option PV} (h:K9 x y o) (rx:aG K M H v x) (ry:aG K M2 H w y):∃ a o',v = .ref a/\i6 H a w o'/\(o=none->o'=none)/\∀ z,o=some z->∃ u,o'=some u/\aG K M H u z:=by
 rcases h with ⟨ps,k,rfl,rfl,rfl⟩ | ⟨ps,k,rfl,rfl,rfl⟩
 ·obtain rfl:=vK ry
  cases rx with
  | dK m h e r=>exact⟨_,_,rfl,i6.k h,(o9 k e r).1,(o9 k e r).2⟩
 ·obtain ⟨b,us,rfl,hb,rb⟩:=ry.sqT
  obtain rfl:=qZ rb
  cases rx with
  | dT m h e r=>exact⟨_,_,rfl,i6.t h hb,(o9 k e r).1,(o9 k e r).2⟩
section
variable {X : Cx} {σ : St} {H : Hp} {D : bS} {tk td te : aE} {Q' : VK}
def iN (neg:Bool) (tk td:aE):aE:=fun ρ Q=>tk ρ fun y _=>td ρ fun x _=>∃ o,K9 x y o/\Q (.bl (if neg=true then !o.isSome else o.isSome)) .fr
theorem L5 {α β:Type}{o:Option α}{o':Option β}{P:β->α->Prop} (h1:o=none->o'=none) (h2:∀ z,o=some z->∃ u,o'=some u/\P u z):o'.isSome=o.isSome:=by
 cases o with
 | none=>rw [h1 rfl]; rfl
 | some z=>obtain ⟨u,e,_⟩:=h2 z rfl; rw [e]; rfl
theorem az5 (h:LE X (iN false tk td) σ H Q'):B2 (LE X tk) (LE X td) σ H Q':=by
 obtain ⟨W,ρ,Q,px,q,k⟩:=h
 refine⟨W,ρ,_,px,q,fun w H1 y g s r q=>⟨W,ρ,_,px.mono s,q,?_⟩⟩
 rintro v H2 x g' s2 r2 ⟨o,ak,q⟩
 obtain ⟨a,o',rfl,dg,h1,h2⟩:=L4 ak r2 (r.same s2 fun _ z=>z)
 refine⟨a,o',rfl,dg,?_⟩
 rw [L5 h1 h2]
 exact k _ _ _ .fr (s.trans s2) (.bl _) q
theorem L6 (h:LE X (iN true tk td) σ H Q'):B3 (LE X tk) (LE X td) σ H Q':=by
 obtain ⟨W,ρ,Q,px,q,k⟩:=h
 refine⟨W,ρ,_,px,q,fun w H1 y g s r q=>⟨W,ρ,_,px.mono s,q,?_⟩⟩
 rintro v H2 x g' s2 r2 ⟨o,ak,q⟩
 obtain ⟨a,o',rfl,dg,h1,h2⟩:=L4 ak r2 (r.same s2 fun _ z=>z)
 refine⟨a,o',rfl,dg,?_⟩
 rw [L5 h1 h2]
 exact k _ _ _ .fr (s.trans s2) (.bl _) q
theorem PX.updD {K:PySem.W.Frag}{H0:Hp}{W:Addr->Prop}{σ:St}{ρ:bP}{H:Hp}{i:Nat}{a:Addr}{x:PV}{kvs:List (aC × V)}{ps:List (aC × PV)} (p:PX K H0 W σ ρ H) (hi:ρ[i]? = some (some (.own x))) (ha:σ[i]? = some (some (.ref a))) (wa:W a)
  (r:kvs.map (·.1)=ps.map (·.1)/\Reps K (Ms H0 W true) (upd H a (.dK kvs)) (kvs.map (·.2)) (ps.map (·.2))):PX K H0 W σ (ρ.set i (some (.own (.dK ps)))) (upd H a (.dK kvs)):=p.updOwn hi ha wa rfl (y:=.dK ps) ⟨kvs,bD,r⟩
theorem PX.updT {K:PySem.W.Frag}{H0:Hp}{W:Addr->Prop}{σ:St}{ρ:bP}{H:Hp}{i:Nat}{a:Addr}{x:PV}{kvs:List (List aC × V)}{ps:List (List aC × PV)} (p:PX K H0 W σ ρ H) (hi:ρ[i]? = some (some (.own x))) (ha:σ[i]? = some (some (.ref a))) (wa:W a)
  (r:kvs.map (·.1)=ps.map (·.1)/\Reps K (Ms H0 W true) (upd H a (.dT kvs)) (kvs.map (·.2)) (ps.map (·.2))):PX K H0 W σ (ρ.set i (some (.own (.dT ps)))) (upd H a (.dT kvs)):=p.updOwn hi ha wa rfl (y:=.dT ps) ⟨kvs,bD,r⟩
theorem oA {κ α β:Type}{l:List (κ × α)}{m:List (κ × β)} (e:l.map (·.1)=m.map (·.1)):l.length=m.length:=by
 have:=congrArg List.length e
 rw [be5,be5] at this
 exact this
def oB (i:Nat) (tk te:aE):aK:=fun D ρ=>te ρ fun z g=>∃ ps,ρ[i]? = some (some (.own (.dK ps)))/\tk ρ fun y _=>∃ k,y=kP k/\Nw g z/\ps.length < 16000000/\D.nx (ρ.set i (some (.own (.dK (cM ps k z)))))
def oC (i:Nat) (tk te:aE):aK:=fun D ρ=>te ρ fun z g=>∃ ps,ρ[i]? = some (some (.own (.dT ps)))/\tk ρ fun y _=>∃ k,y = .tup (k.map kP)/\Nw g z/\ps.length < 16000000/\D.nx (ρ.set i (some (.own (.dT (cM ps k z)))))
theorem az6 {i:Nat} (h:LS X (oB i tk te) D σ H):uC (eO i) (LE X tk) (LE X te) D σ H:=by
 obtain ⟨W,ρ,D',px,q,k⟩:=h
 refine⟨W,ρ,_,px,q,?_⟩
 rintro w H1 z g s rz ⟨ps,hi,q⟩
 obtain ⟨v,ev,a,rfl,wa,kvs,ea,e1,r⟩:=(px.mono s).sl i _ hi
 refine⟨_,ev,W,ρ,_,px.mono s,q,?_⟩
 rintro kv H2 y g' s2 ry ⟨kk,rfl,nw,hl,q⟩
 obtain rfl:=vK ry
 have ea2:=s2 _ _ ea
 refine⟨a,_,rfl,jW.k ea2 (i7 (by rw [oA e1]; omega)),?_⟩
 refine k.nx W σ _ _ ((Ev.same (s.trans s2)).trans (Ev.upd wa)) ((px.mono (s.trans s2)).updD hi ev wa ?_) q
 obtain ⟨h1,h2⟩:=vJ kk ((Nw.rep px nw rz).same s2 fun _ z=>z) e1 (r.same s2 fun _ z=>z)
 exact⟨h1,h2.keep (.upd ea2 rfl fun b m=>⟨iL wa m,m⟩)⟩
theorem az7 {i:Nat} (h:LS X (oC i tk te) D σ H):uC (eO i) (LE X tk) (LE X te) D σ H:=by
 obtain ⟨W,ρ,D',px,q,k⟩:=h
 refine⟨W,ρ,_,px,q,?_⟩
 rintro w H1 z g s rz ⟨ps,hi,q⟩
 obtain ⟨v,ev,a,rfl,wa,kvs,ea,e1,r⟩:=(px.mono s).sl i _ hi
 refine⟨_,ev,W,ρ,_,px.mono s,q,?_⟩
 rintro kv H2 y g' s2 ry ⟨kk,rfl,nw,hl,q⟩
 obtain ⟨b,us,rfl,hb,rb⟩:=ry.sqT
 obtain rfl:=qZ rb
 have ea2:=s2 _ _ ea
 refine⟨a,_,rfl,jW.t ea2 hb (i7 (by rw [oA e1]; omega)),?_⟩
 refine k.nx W σ _ _ ((Ev.same (s.trans s2)).trans (Ev.upd wa)) ((px.mono (s.trans s2)).updT hi ev wa ?_) q
 obtain ⟨h1,h2⟩:=vJ kk ((Nw.rep px nw rz).same s2 fun _ z=>z) e1 (r.same s2 fun _ z=>z)
 exact⟨h1,h2.keep (.upd ea2 rfl fun b m=>⟨iL wa m,m⟩)⟩
theorem az8 (h:LE X (qC (.dK [])) σ H Q'):B6 σ H Q':=by
 obtain ⟨W,ρ,Q,px,q,k⟩:=h
 exact fun p hp=>k _ _ _ .fr (bM hp _) (.dK hp bD rfl .nil) q
theorem az9 (h:LE X (qC (.dT [])) σ H Q'):B7 σ H Q':=by
 obtain ⟨W,ρ,Q,px,q,k⟩:=h
 exact fun p hp=>k _ _ _ .fr (bM hp _) (.dT hp bD rfl .nil) q
def iA (ps more:List (aC × PV)):List (aC × PV):=more.foldl (fun acc kv=>cM acc kv.1 kv.2) ps
theorem L7 {K:PySem.W.Frag}{M:Addr->Prop}{H:Hp}:∀ {more:List (aC × V)}{mp:List (aC × PV)}{kvs:List (aC × V)}{ps:List (aC × PV)},more.map (·.1)=mp.map (·.1)->Reps K M H (more.map (·.2)) (mp.map (·.2))->kvs.map (·.1)=ps.map (·.1)->Reps K M H (kvs.map (·.2)) (ps.map (·.2))->
  (kK kvs more).map (·.1)=(iA ps mp).map (·.1)/\Reps K M H ((kK kvs more).map (·.2)) ((iA ps mp).map (·.2))
 | [],[],_,_,_,_,e,r=>⟨e,r⟩
 | [],_ :: _,_,_,e,_,_,_=>by cases e
 | _ :: _,[],_,_,e,_,_,_=>by cases e
 | (k1,v) :: more,(k2,x) :: mp,kvs,ps,e,r,e',r'=>by
  injection e with e1 e2
  have e1:k1=k2:=e1
  subst e1
  cases r with
  | cons q t=>
   obtain ⟨h1,h2⟩:=vJ k1 q e' r'
   exact L7 (more:=more) (mp:=mp) e2 t h1 h2
def vL (i:Nat) (te:aE):aK:=fun D ρ=>∃ ps,ρ[i]? = some (some (.own (.dK ps)))/\te ρ fun y g=>∃ mp,y = .dK mp/\(g = .fr ∨ (g = .nw/\False))/\ps.length+mp.length<=16000000/\D.nx (ρ.set i (some (.own (.dK (iA ps mp)))))
theorem aA0 {i:Nat} (h:LS X (vL i te) D σ H):kH (G5 (eO i) (LE X te)) D σ H:=by
 obtain ⟨W,ρ,D',px,⟨ps,hi,q⟩,k⟩:=h
 obtain ⟨v,ev,a,rfl,wa,kvs,ea,e1,r⟩:=px.sl i _ hi
 refine⟨_,ev,a,rfl,.inl ⟨kvs,.inl ea⟩,W,ρ,_,px,q,?_⟩
 rintro w H1 y g s ry ⟨mp,rfl,hg,hl,q⟩
 rcases hg with rfl | ⟨_,z⟩
 ·cases ry with
  | @dK b more _ m hb e2 rb=>
   have hab:a ≠ b:=fun z=>by subst z; rw [show H a=none from m] at ea; cases ea
   have ea1:=s _ _ ea
   refine⟨b,kvs,more,rfl,hab,ea1,hb,lim (by rw [oA e1,oA e2]; exact hl),?_⟩
   refine k.nx W σ _ _ ((Ev.same s).trans (Ev.upd wa)) ((px.mono s).updD hi ev wa ?_) q
   obtain ⟨h1,h2⟩:=L7 e2 (rb.same (M':=Ms X.H₀ W true) (aD.refl _) fun _ z=>px.new z) e1 (r.same s fun _ z=>z)
   exact⟨h1,h2.keep (.upd ea1 rfl fun b m=>⟨iL wa m,m⟩)⟩
 ·exact z.elim
end
def bZ:Nat->PV->PV->Bool
 | _,.non,.non=>true
 | _,.bl a,.bl b=>a == b
 | _,.int a,.int b=>a == b
 | _,.str a,.str b=>a == b
 | n+1,.tup xs,.tup ys=>(xs.zip ys).all (fun p=>bZ n p.1 p.2) && xs.length == ys.length
 | n+1,.lst xs,.lst ys=>(xs.zip ys).all (fun p=>bZ n p.1 p.2) && xs.length == ys.length
 | n+1,.kt xs,.kt ys=>(xs.zip ys).all (fun p=>bZ n p.1 p.2) && xs.length == ys.length
 | _,_,_=>false
def dI:Nat->PV->PV->Bool
 | _,.non,.non=>true
 | _,.bl _,.bl _=>true
 | _,.int _,.int _=>true
 | _,.str _,.str _=>true
 | _,.non,.int _=>true
 | _,.int _,.non=>true
 | n+1,.tup xs,.tup ys=>(xs.zip ys).all (fun p=>dI n p.1 p.2)
 | n+1,.lst xs,.lst ys=>(xs.zip ys).all (fun p=>dI n p.1 p.2)
 | n+1,.kt xs,.kt ys=>(xs.zip ys).all (fun p=>dI n p.1 p.2)
 | _+1,.non,.tup _=>true
 | _+1,.tup _,.non=>true
 | _,_,_=>false
theorem aA1 (n:Nat) (a b:Int):bZ n (.int a) (.int b)=(a == b):=by cases n <;> rfl
theorem vM (n:Nat):∀ (a b:List Int),((((intz a).zip (intz b)).all fun p=>bZ n p.1 p.2) && (intz a).length == (intz b).length)=decide (a=b)
 | [],[]=>rfl
 | [],_ :: _=>by simp
 | _ :: _,[]=>by simp
 | x :: a,y :: b=>by
  have ih:=vM n a b
  simp only [bj4,br8,bn9,bi2,aA1] at ih ⊢
  by_cases e:x=y
  ·subst e
   have:((intz a).length+1 == (intz b).length+1)=((intz a).length == (intz b).length):=by simp
   rw [this,bl3,bp7,ih]
   simp
  ·have:(x == y)=false:=bq5.mpr e
   rw [this,br3,br3]
   simp [e]
theorem L8 (n:Nat) (a b:List Int):bZ (n+1) (.tup (intz a)) (.tup (intz b))=decide (a=b):=vM n a b
theorem vN (n:Nat) (a b:List Int):bZ (n+1) (.lst (intz a)) (.lst (intz b))=decide (a=b):=vM n a b
theorem vO (n:Nat):∀ (a b:List Int),(((intz a).zip (intz b)).all fun p=>dI n p.1 p.2)=true
 | [],_=>by simp
 | _ :: _,[]=>by simp
 | x :: a,y :: b=>by
  simp only [bj4,br8,bn9,vO n a b,Bool.and_true]
  cases n <;> rfl
theorem L9 (n:Nat) (a b:List Int):dI (n+1) (.tup (intz a)) (.tup (intz b))=true:=vO n a b
theorem vP (n:Nat) (a b:List Int):dI (n+1) (.lst (intz a)) (.lst (intz b))=true:=vO n a b
def jZ (ta:aE):aE:=fun ρ Q=>ta ρ fun x _=>∃ i,x = .int i/\Q (.int (-i)) .fr
def eV (neg:Bool):PV->Tg->PV->Tg->PK->Prop:=fun x _ y _ Q=>∃ i ns,x = .int i/\jF y=some (intz ns)/\Q (.bl (if neg=true then !decide (i ∈ ns) else decide (i ∈ ns))) .fr
def M0:PV->Option String
 | .non=>some "NoneType"
 | .bl _=>some "bool"
 | .int _=>some "int"
 | .str _=>some "str"
 | .tup _=>some "tuple"
 | .kt _=>some "tuple"
 | .lst _=>some "list"
 | _=>none
def iO (K:PySem.W.Frag) (n:String) (te:aE):aE:=fun ρ Q=>te ρ fun x _=>∃ T b,M0 x=some T/\PySem.W.kitOne K (.type T) (.type n)=some b/\Q (.bl b) .fr
def jG (n:Nat) (neg:Bool):PV->Tg->PV->Tg->PK->Prop:=fun x _ y _ Q=>((∃ xs ys,x = .tup xs/\y = .tup ys) ∨ (∃ xs ys,x = .lst xs/\y = .lst ys))/\dI (n+1) x y=true/\Q (.bl (if neg=true then !bZ (n+1) x y else bZ (n+1) x y)) .fr
abbrev m7:=bP->(Option Int->Prop)->Prop
def iP (xs:List PV) (lo hi:Option Int):List PV:=(xs.drop (HT.b7 xs.length 0 lo)).take (HT.b7 xs.length xs.length hi - HT.b7 xs.length 0 lo)
def vQ:PV->List PV->PV
 | .tup _,ys=>.tup ys
 | .kt _,ys=>.tup ys
 | _,ys=>.lst ys
def vR:m7:=fun _ Q=>Q none
def vS (te:aE):m7:=fun ρ Q=>te ρ fun x _=>∃ i,x = .int i/\Q (some i)
def vT (te:aE) (tl th:m7):aE:=fun ρ Q=>te ρ fun x _=>tl ρ fun lo=>th ρ fun hi=>∃ xs,seqT x=some xs/\flats xs=true/\Q (vQ x (iP xs lo hi)) .fr
def eW (N:List Str) (xs:List PV):bP:=xs.map (fun x=>some (.sh (flat x) x)) ++ List.replicate (N.length - xs.length) none
abbrev fI (ta tb:aE):aE:=q2 (gA fun i j=>.int (i+j)) ta tb
abbrev kU (ta tb:aE):aE:=q2 (gA fun i j=>.int (i - j)) ta tb
abbrev vU (ta tb:aE):aE:=q2 (RI nH fun i j=>.int (i * j)) ta tb
abbrev eY (ta tb:aE):aE:=q2 (RI tM fun i j=>.int (i / j)) ta tb
abbrev cH (ta tb:aE):aE:=q2 (RI (fun _ j=>0 < j) fun i j=>.int (i % j)) ta tb
abbrev aA2 (ta tb:aE):aE:=q2 (RI tN fun i j=>.int (i ^ j.toNat)) ta tb
abbrev aA3 (ta tb:aE):aE:=q2 (RI (fun _ j=>0<=j) fun i j=>.int (i / 2 ^ j.toNat)) ta tb
abbrev r6 (ta tb:aE):aE:=q2 (gA fun i j=>.bl (decide (i < j))) ta tb
abbrev jH (ta tb:aE):aE:=q2 (gA fun i j=>.bl (decide (j < i))) ta tb
abbrev vV (ta tb:aE):aE:=q2 (gA fun i j=>.bl (decide (j<=i))) ta tb
abbrev fR (ta tb:aE):aE:=q2 (kQ false) ta tb
abbrev m8 (ta tb:aE):aE:=q2 (kQ true) ta tb
abbrev M3 (ta tb:aE):aE:=q2 (kS false) ta tb
abbrev aA4 (ta tb:aE):aE:=q2 (kS true) ta tb
abbrev cQ (ta tb:aE):aE:=q2 vD ta tb
def dW:List PV->(PV->Prop)->Prop:=fun xs Q=>J8 xs Q/\∀ ns,xs ≠ [.scr ns]
def QE (X:Cx) (e:Expr) (t:aE):Prop:=PE X e (LE X t)
def QT (X:Cx) (e:Expr) (t:bY):Prop:=PT X e (LT X t)
def QW (X:Cx) (e:Expr) (t:bY):Prop:=PW X e (LT X t)
def QA (X:Cx) (es:List Expr) (t:cN):Prop:=PA X es (LA X t)
def QS (X:Cx) (st:Stmt) (t:aK):Prop:=PS X st (LS X t)
def eZ (X:Cx) (st:List Stmt) (t:aK):Prop:=dA X st (LS X t)
def QI (X:Cx) (tg iter:Expr) (t:eU):Prop:=PI X tg iter (LI X t)
section
variable {X : Cx}
theorem c7 {e:Expr}{t t':TE} (h:PE X e t) (m:∀ σ H Q,t' σ H Q->t σ H Q):PE X e t':=fun pins s σ H Q I q=>h pins s σ H Q I (m σ H Q q)
theorem m9 {e:Expr}{t t':TT} (h:PT X e t) (m:∀ σ H Q,t' σ H Q->t σ H Q):PT X e t':=fun pins s σ H Q I q=>h pins s σ H Q I (m σ H Q q)
theorem M4 {e:Expr}{t t':TT} (h:PW X e t) (m:∀ σ H Q,t' σ H Q->t σ H Q):PW X e t':=fun wh pins s σ H Q I q=>h wh pins s σ H Q I (m σ H Q q)
theorem M5 {e:List Expr}{t t':TA} (h:PA X e t) (m:∀ σ H Q,t' σ H Q->t σ H Q):PA X e t':=fun pos pins s σ H Q I q=>h pos pins s σ H Q I (m σ H Q q)
theorem dC {e:Stmt}{t t':TS} (h:PS X e t) (m:∀ D σ H,t' D σ H->t D σ H):PS X e t':=fun pins s σ H D I q=>h pins s σ H D I (m D σ H q)
theorem vW {e:List Stmt}{t t':TS} (h:dA X e t) (m:∀ D σ H,t' D σ H->t D σ H):dA X e t':=fun pins s σ H D I q=>h pins s σ H D I (m D σ H q)
theorem r9 {tg e:Expr}{t t':TI} (h:PI X tg e t) (m:∀ σ H R,t' σ H R->t σ H R):PI X tg e t':=fun pins s σ H R I q=>h pins s σ H R I (m σ H R q)
variable {a b c e o : Expr} {es cJ : List Expr} {ta tb te to tk : aE} {tr : cN} {tA tB' tc : bY} {pos p2 px : Pos} {st : Stmt} {sts : List Stmt} {t u : aK}
theorem qv (i:Nat) {x:Str}{pos:Pos} (hN:X.N[i]? = some x:=by rfl) (hv:eN X.env.scope x:=by first | exact Or.inl rfl | exact Or.inr (Or.inl rfl) | exact Or.inr (Or.inr rfl)) (hd:(x == ("__debug__" : Str))=false:=by decide)
  (hcd:(x == ("__classdict__" : Str))=false:=by decide):QE X (.Name x pos) (a5 i):=c7 (fW hN hv hd hcd) fun _ _ _=>av2
theorem aN {i j}:QE X (.Constant (.int i) j pos) (qC (.int i)):=c7 nA fun _ _ _=>qN fun _=>.int i
theorem cX {i j}:QE X (.Constant (.bool i) j pos) (qC (.bl i)):=c7 ah0 fun _ _ _=>qN fun _=>.bl i
theorem jI {j}:QE X (.Constant .none j pos) (qC .non):=c7 ah1 fun _ _ _=>qN fun _=>.non
theorem oD {i j}:QE X (.Constant (.str i) j pos) (qC (.str i)):=c7 ah2 fun _ _ _=>qN fun _=>.str i
theorem jJ {op:Operator}{R:PV->Tg->PV->Tg->PK->Prop}{r:R2} (ho:cB X (binaryOp op) r) (cv:e9 X R r) (ha:QE X a ta) (hb:QE X b tb):QE X (.BinOp a op b pos) (q2 R ta tb):=c7 (aj7 ho ha hb) fun _ _ _=>qO cv
theorem gF (ha:QE X a ta) (hb:QE X b tb):QE X (.BinOp a .Add b pos) (q2 (gA fun i j=>.int (i+j)) ta tb):=jJ ak0 G8 ha hb
theorem oE (ha:QE X a ta) (hb:QE X b tb):QE X (.BinOp a .Sub b pos) (q2 (gA fun i j=>.int (i - j)) ta tb):=jJ ak1 G8 ha hb
theorem vX (ha:QE X a ta) (hb:QE X b tb):QE X (.BinOp a .Mult b pos) (q2 (RI nH fun i j=>.int (i * j)) ta tb):=jJ ak2 o0 ha hb
theorem fS (ha:QE X a ta) (hb:QE X b tb):QE X (.BinOp a .FloorDiv b pos) (q2 (RI tM fun i j=>.int (i / j)) ta tb):=jJ ak3 o0 ha hb
theorem cO (ha:QE X a ta) (hb:QE X b tb):QE X (.BinOp a .Mod b pos) (q2 (RI (fun _ j=>0 < j) fun i j=>.int (i % j)) ta tb):=jJ ak4 o0 ha hb
theorem aA5 (ha:QE X a ta) (hb:QE X b tb):QE X (.BinOp a .Pow b pos) (q2 (RI tN fun i j=>.int (i ^ j.toNat)) ta tb):=jJ ak5 o0 ha hb
theorem aA6 (ha:QE X a ta) (hb:QE X b tb):QE X (.BinOp a .RShift b pos) (q2 (RI (fun _ j=>0<=j) fun i j=>.int (i / 2 ^ j.toNat)) ta tb):=jJ ak6 o0 ha hb
theorem oF {op:CmpOp}{R:PV->Tg->PV->Tg->PK->Prop}{r:R2} (ho:cB X (compareOp op) r) (cv:e9 X R r) (ha:QE X a ta) (hb:QE X b tb) (hm:behindInMarks op b=false):QE X (.Compare a [op] [b] pos) (q2 R ta tb):=c7 (tP ho ha hb hm) fun _ _ _=>qO cv
theorem iB {op:CmpOp}{R:PV->Tg->PV->Tg->PK->Prop}{r:R2} (ho:cB X (compareOp op) r) (cv:e9 X R r) (ha:QE X a ta) (hb:QE X b tb) (hm:behindInMarks op b=false):QT X (.Compare a [op] [b] pos) (aR (q2 R ta tb)):=m9 (al2 ho ha hb hm) fun _ _ _ h=>qO cv (qQ h)
theorem aA7 (ha:QE X a ta) (hb:QE X b tb):QE X (.Compare a [.Lt] [b] pos) (q2 (gA fun i j=>.bl (decide (i < j))) ta tb):=oF pH qP ha hb (fE _)
theorem vY (ha:QE X a ta) (hb:QE X b tb):QE X (.Compare a [.GtE] [b] pos) (q2 (gA fun i j=>.bl (decide (j<=i))) ta tb):=oF ak9 qP ha hb (fE _)
theorem aA8 (ha:QE X a ta) (hb:QE X b tb):QE X (.Compare a [.Eq] [b] pos) (q2 (kQ false) ta tb):=oF z9 J1 ha hb (fE _)
theorem aA9 (ha:QE X a ta) (hb:QE X b tb):QE X (.Compare a [.Is] [b] pos) (q2 (kS false) ta tb):=oF zB K1 ha hb (fE _)
theorem vZ (ha:QE X a ta) (hb:QE X b tb):QT X (.Compare a [.Lt] [b] pos) (aR (q2 (gA fun i j=>.bl (decide (i < j))) ta tb)):=iB pH qP ha hb (fE _)
theorem k6 (ha:QE X a ta) (hb:QE X b tb):QT X (.Compare a [.Gt] [b] pos) (aR (q2 (gA fun i j=>.bl (decide (j < i))) ta tb)):=iB ak8 qP ha hb (fE _)
theorem gV (ha:QE X a ta) (hb:QE X b tb):QT X (.Compare a [.Eq] [b] pos) (aR (q2 (kQ false) ta tb)):=iB z9 J1 ha hb (fE _)
theorem oG (ha:QE X a ta) (hb:QE X b tb):QT X (.Compare a [.NotEq] [b] pos) (aR (q2 (kQ true) ta tb)):=iB zA av3 ha hb (fE _)
theorem aB0 (ha:QE X a ta) (hb:QE X b tb):QT X (.Compare a [.Is] [b] pos) (aR (q2 (kS false) ta tb)):=iB zB K1 ha hb (fE _)
theorem aB1 (ha:QE X a ta) (hb:QE X b tb):QT X (.Compare a [.IsNot] [b] pos) (aR (q2 (kS true) ta tb)):=iB al0 ay7 ha hb (fE _)
theorem M6 (hu:X.A.units+1 < cLine) (hk:QE X a tk) (hd:QE X b te) (hm:behindInMarks .In b=false:=by rfl):QT X (.Compare a [.In] [b] pos) (aR (iN false tk te)):=m9 (y7 (ap8 hu hk hd) hm) fun _ _ _ h=>az5 (qQ h)
theorem M7 (hu:X.A.units+1 < cLine) (hk:QE X a tk) (hd:QE X b te) (hm:behindInMarks .NotIn b=false:=by rfl):QT X (.Compare a [.NotIn] [b] pos) (aR (iN true tk te)):=m9 (y7 (B4 hu hk hd) hm) fun _ _ _ h=>L6 (qQ h)
theorem aB2 (hu:X.A.units+1 < cLine) (hk:QE X a tk) (hd:QE X b te) (hm:behindInMarks .NotIn b=false:=by rfl):QE X (.Compare a [.NotIn] [b] pos) (iN true tk te):=c7 (ah4 (B4 hu hk hd) hm) fun _ _ _ h=>L6 h
theorem dR (h:QE X e te) (he:∀ whole,isTrue e X.env whole=(do let v <- whole; standAt e.pos; holding [v] (truthy v)):=by intro _; rfl):QT X e (aR te):=m9 (ah5 h he) fun _ _ _ h=>qQ h
theorem aB3 (h:QE X e te) (he:∀ whole,isTrue e X.env whole=(do let v <- whole; standAt e.pos; holding [v] (truthy v)):=by intro _; rfl):QT X e (vG te):=m9 (al5 h he) fun _ _ _ h=>ay6 h
theorem k7 (ha:QT X a tA):QW X (.BoolOp .And [a] pos) tA:=ah6 ha
theorem mB (ha:QT X a tA):QW X (.BoolOp .Or [a] pos) tA:=ah7 ha
theorem iQ (ha:QT X a tA) (hb:QW X (.BoolOp .And (b :: cJ) pos) tB'):QW X (.BoolOp .And (a :: b :: cJ) pos) (gB tA tB'):=M4 (ah8 ha hb) fun _ _ _=>av4
theorem jK (ha:QT X a tA) (hb:QW X (.BoolOp .Or (b :: cJ) pos) tB'):QW X (.BoolOp .Or (a :: b :: cJ) pos) (i9 tA tB'):=M4 (ah9 ha hb) fun _ _ _=>av5
theorem fT (h:QW X e tA):QT X e tA:=PW.pt h
theorem fJ (ha:QT X a tA):QT X (.UnaryOp .Not a pos) (eB tA):=m9 (ai0 ha) fun _ _ _=>av6
theorem rA {op} (h:QE X a ta):QE X (.BoolOp op [a] pos) ta:=ai1 h
theorem rB (ha:QE X a ta) (hb:QE X (.BoolOp .And (b :: cJ) pos) tb):QE X (.BoolOp .And (a :: b :: cJ) pos) (lT ta tb):=c7 (ai2 ha hb) fun _ _ _=>av7
theorem aB4 (ha:QE X a ta):QE X (.UnaryOp .Not a pos) (v8 ta):=c7 (ai3 ha) fun _ _ _=>av8
theorem aA:QA X [] a9:=M5 dP fun _ _ _=>av9
theorem a7 (ha:QE X e te) (hr:QA X es tr) (hs:starEach (e :: es) X.env=(false,eval e X.env) :: starEach es X.env:=by rfl):QA X (e :: es) (a6 te tr):=M5 (cP ha hr hs) fun _ _ _=>aw0
theorem gW {x1} (h:QA X es tr):QE X (.Tuple es x1 pos) (eS tr):=c7 (zE h) fun _ _ _=>aw2
theorem aB5 {x1} (h:QA X es tr):QE X (.Tuple es x1 pos) (v9 tr):=c7 (zE h) fun _ _ _=>aw1
theorem gG (h:QA X es tr):QE X (.List es pos) (eG tr):=c7 (zF h) fun _ _ _=>aw3
theorem dD (ha:QE X a ta) (hb:QE X b tb) (hs:zT b:=by exact fun _ _=>rfl):QE X (.Subscript a b pos) (q2 vD ta tb):=c7 (nM an6 ha hb hs) fun _ _ _=>qO ax6
theorem M8:QE X (.Dict [] [] pos) (qC (.dK [])):=c7 aq1 fun _ _ _=>az8
theorem M9:QE X (.Dict [] [] pos) (qC (.dT [])):=c7 aq2 fun _ _ _=>az9
theorem k8 {x:Str}{id:String}{R:List PV->(PV->Prop)->Prop}{r:List V->Hp->VK->Prop} (hc:cU X (.builtin id) r) (cv:fP X R r) (hg:Gl X x) (hm:X.mg x=none) (hv:bootBuiltins x=some (.builtin id)) (ha:QA X (e :: es) tr) (hn:x ≠ "__name__":=by decide) (hdb:(x == ("__debug__" : Str))=false:=by decide)
  (he:starEach (e :: es) X.env=(false,eval e X.env) :: starEach es X.env:=by rfl) (hpl:(backTo pos (starEach es X.env)).any (·.1)=false:=by rfl):QE X (.Call (.Name x p2) (e :: es) [] pos) (aB R tr):=c7 (nK hc hg hm hv ha hn hdb he hpl) fun _ _ _=>J2 cv
theorem w4 {x:Str}{T:String}{R:List PV->(PV->Prop)->Prop}{r:List V->Hp->VK->Prop} (hc:cU X (.type T) r) (cv:fP X R r) (hg:Gl X x) (hm:X.mg x=none) (hv:bootBuiltins x=some (.type T)) (ha:QA X (e :: es) tr) (hn:x ≠ "__name__":=by decide) (hdb:(x == ("__debug__" : Str))=false:=by decide)
  (he:starEach (e :: es) X.env=(false,eval e X.env) :: starEach es X.env:=by rfl) (hpl:(backTo pos (starEach es X.env)).any (·.1)=false:=by rfl):QE X (.Call (.Name x p2) (e :: es) [] pos) (aB R tr):=c7 (zM hc hg hm hv ha hn hdb he hpl) fun _ _ _=>J2 cv
theorem cE:eZ X [] bX:=vW ai5 fun _ _ _=>aw4
theorem aJ (h1:QS X st t) (h2:eZ X sts u):eZ X (st :: sts) (aH t u):=vW (nC h1 h2) fun _ _ _=>aw5
theorem aM (h1:QS X st t):eZ X [st] t:=lH h1
theorem bN {i:Nat}{x:Str} (hN:X.N.Nodup) (he:QE X e te) (hi:X.N[i]? = some x:=by rfl) (hx:hV X.env.scope x:=by first | exact Or.inl rfl | exact Or.inr rfl) (hs:swapsWith e (some (.Name x p2)) pos.line X.env=pure false:=by rfl) (hf:X.fn x=true ∨ X.env.scope.names.lookup x=some .local:=by first | exact .inl rfl | exact .inr rfl) :
  QS X (.Assign [.Name x p2] e pos) (bG i te):=dC (yJ hN hi hx he hs hf) fun _ _ _=>vC
theorem fA {i:Nat}{x:Str} (hN:X.N.Nodup) (he:QE X e te) (hi:X.N[i]? = some x:=by rfl) (hx:hV X.env.scope x:=by first | exact Or.inl rfl | exact Or.inr rfl) (hs:swapsWith e (some (.Name x p2)) pos.line X.env=pure false:=by rfl) (hf:X.fn x=true ∨ X.env.scope.names.lookup x=some .local:=by first | exact .inl rfl | exact .inr rfl) :
  QS X (.Assign [.Name x p2] e pos) (dQ i te):=dC (yJ hN hi hx he hs hf) fun _ _ _=>J6
theorem N0 (i:Nat) (h:QS X st t):QS X st (qS i t):=dC h fun _ _ _=>aw8
theorem bI (he:QE X e te):QS X (.Return (some e) pos) (b9 te):=dC (lJ he) fun _ _ _=>aw9
theorem iR (i:Nat) {x:Str} (hN:X.N[i]? = some x:=by rfl) (hv:eN X.env.scope x:=by first | exact Or.inl rfl | exact Or.inr (Or.inl rfl) | exact Or.inr (Or.inr rfl)) (hd:(x == ("__debug__" : Str))=false:=by decide) (hcd:(x == ("__classdict__" : Str))=false:=by decide) :
  QS X (.Return (some (.Name x p2)) pos) (gT i):=dC (lJ (fW hN hv hd hcd)) fun _ _ _=>ax0
theorem bU {sa sb:List Stmt} (hc:QT X c tc) (ha:eZ X sa t) (hb:eZ X sb u):QS X (.If c sa sb pos) (bQ tc t u):=dC (ai6 hc ha hb) fun _ _ _=>ax1
theorem rC {body:List Stmt} (hp:PassesOwn (model X.prog X.w) X.A X.env X.xe) (hc:QT X c tc) (hb:eZ X body t):QS X (.While c body [] pos) (lW tc t):=dC (ai8 hp hc hb) fun _ _ _=>ax2
theorem mC (i:Nat) {x:Str}{apos cpos xpos:Pos} (he:QE X e te) (hN:X.N[i]? = some x:=by rfl) (hv:eN X.env.scope x:=by first | exact Or.inl rfl | exact Or.inr (Or.inl rfl) | exact Or.inr (Or.inr rfl)) (hd:(x == ("__debug__" : Str))=false:=by decide) (hcd:(x == ("__classdict__" : Str))=false:=by decide)
  (hbase:attributeBase (.Name x xpos) "append" X.env (eval (.Name x xpos) X.env)=eval (.Name x xpos) X.env:=by rfl)
  (hfew:((backTo cpos (starEach [e] X.env)).all (fun x=>!x.1) && (backToKw cpos (keywordEach [] X.env)).all (fun x=>x.1.isSome) && decide (([e]:List Expr).length+([]:List Keyword).length+(if ([]:List Keyword).isEmpty then 0 else 1) < 30))=true:=by rfl)
  (hline:(apos.endLine == cpos.line)=true:=by rfl) (hs:starEach [e] X.env=(false,eval e X.env) :: starEach [] X.env:=by rfl) (hplain:(backTo cpos (starEach [] X.env)).any (·.1)=false:=by rfl)
  (hsw:swapsWith (.Call (.Attribute (.Name x xpos) "append" apos) [e] [] cpos) none pos.line X.env=pure false:=by rfl) :
  QS X (.Expr (.Call (.Attribute (.Name x xpos) "append" apos) [e] [] cpos) pos) (jY i te):=
 dC (jQ (lP bm4 PySem.F.slot_list_append PySem.F.type_list_append pL (fW hN hv hd hcd) (cP he dP hs) hbase hfew hline hs hplain) hsw) fun _ _ _=>ax3
theorem w5 {i:Nat}{x:Str}{xpos tpos:Pos} (hu:X.A.units+1 < cLine) (hk:QE X a tk) (he:QE X e te) (hN:X.N[i]? = some x:=by rfl) (hv:eN X.env.scope x:=by first | exact Or.inl rfl | exact Or.inr (Or.inl rfl) | exact Or.inr (Or.inr rfl)) (hd:(x == ("__debug__" : Str))=false:=by decide) (hcd:(x == ("__classdict__" : Str))=false:=by decide)
  (hs:swapsWith e (some (.Subscript (.Name x xpos) a tpos)) pos.line X.env=pure false:=by rfl):QS X (.Assign [.Subscript (.Name x xpos) a tpos] e pos) (oB i tk te):=dC (B5 hu (fW hN hv hd hcd) hk he hs) fun _ _ _=>az6
theorem N1 {i:Nat}{x:Str}{xpos tpos:Pos} (hu:X.A.units+1 < cLine) (hk:QE X a tk) (he:QE X e te) (hN:X.N[i]? = some x:=by rfl) (hv:eN X.env.scope x:=by first | exact Or.inl rfl | exact Or.inr (Or.inl rfl) | exact Or.inr (Or.inr rfl)) (hd:(x == ("__debug__" : Str))=false:=by decide) (hcd:(x == ("__classdict__" : Str))=false:=by decide)
  (hs:swapsWith e (some (.Subscript (.Name x xpos) a tpos)) pos.line X.env=pure false:=by rfl):QS X (.Assign [.Subscript (.Name x xpos) a tpos] e pos) (oC i tk te):=dC (B5 hu (fW hN hv hd hcd) hk he hs) fun _ _ _=>az7
theorem aB6 {tg l:Expr}{tl:TE} (hl:PE X l tl):PI X tg l (K2 X.K tl):=by
 intro pins s σ H R I h
 refine aS (hl pins s σ H _ I h) fun v s1 ⟨x,H1,I1,r1,q1⟩=>?_
 obtain ⟨a,e,q⟩:=q1
 subst e
 cases r1
 rcases q with ⟨xs,hq,q⟩ | ⟨xs,hq,q⟩
 ·obtain ⟨its,rv,p,hz⟩:=I1.list hq
  refine wpAny_pyIter_list p.isList ?_
  refine⟨s1.heap.objs.size,[s1.heap.objs.size],_,_,H1,rfl,I1.kept (t':=s1.toks) fun b o e=>be1 _ e,ai9 a _,⟨_,bf6 _ rfl,rfl,rfl⟩,fun b hb=>?_,q⟩
  have e:b=s1.heap.objs.size:=by simpa using hb
  subst e
  exact I1.fpOk (be6 _) (I1.hok.fresh (be6 _))
 ·obtain ⟨its,rv,p,hz⟩:=I1.tuple hq
  refine br4 (show s1.heap.IsTuple a its.toArray from p) ?_
  refine⟨s1.heap.objs.size,[s1.heap.objs.size],_,_,H1,rfl,I1.kept (t':=s1.toks) fun b o e=>be1 _ e,yM a _,⟨_,bf6 _ rfl,rfl,rfl⟩,fun b hb=>?_,q⟩
  have e:b=s1.heap.objs.size:=by simpa using hb
  subst e
  exact I1.fpOk (be6 _) (I1.hok.fresh (be6 _))
theorem dX {tg l:Expr} (hl:QE X l te):QI X tg l (dN te):=r9 (aB6 hl) fun _ _ _=>ay8
theorem iS {tg:Expr} (hg:Gl X "range") (hm:X.mg "range" = none) (ha:QE X a ta) (hs:starEach [a] X.env = [(false,eval a X.env)]:=by rfl):QI X tg (.Call (.Name "range" p2) [a] [] pos) (gD ta):=r9 (aj2 hg hm (cP ha dP hs) hs) fun _ _ _=>ay9
theorem N3 {tg:Expr} (hg:Gl X "range") (hm:X.mg "range" = none) (ha:QE X a ta) (hb:QE X b tb) (hs:starEach [a,b] X.env = [(false,eval a X.env),(false,eval b X.env)]:=by rfl) (hs2:starEach [b] X.env = [(false,eval b X.env)]:=by rfl) :
  QI X tg (.Call (.Name "range" p2) [a,b] [] pos) (qX ta tb):=r9 (aj3 hg hm (cP ha (cP hb dP hs2) (by rw [hs,hs2])) hs hs2) fun _ _ _=>az0
theorem N4 {tg:Expr}{body:List Stmt}{ti:eU}{p:iM}{g:TG}{own:Nat->Prop} (hp:PassesOwn (model X.prog X.w) X.A X.env X.xe) (hc:X.calm=true) (hi:QI X tg e ti) (hg:PG X tg g) (ht:m5 X.K own p g) (hb:eZ X body t)
  (hs:∀ x,foldedSetIterable e X.env x=pure x:=by intro _; rfl):QS X (.For tg e body [] pos) (eI ti p t):=dC (yS hp hc hi hg hb hs) fun _ _ _=>az1 ht
end
section
variable {X : Cx} {pins : List (Addr × Obj)} {σ : St} {H : Hp} {s : Shared} {K : PySem.W.Frag} {M M' : Addr → Prop}
theorem lS.inj {a:Addr}{us ws:List V} (h:lS K a us) (h':lS K a ws):us=ws:=by
 obtain ⟨o,its,n,e1,_,e2,_,v⟩:=h
 obtain ⟨o',its',n',e1',_,e2',_,v'⟩:=h'
 rw [e1] at e1'; cases e1'
 rw [e2] at e2'; cases e2'
 exact v.inj v'
theorem Reps.self_of {n:Nat} (ih:∀ {v:V}{x y:PV},aG K M H v x->aG K M' H v y->dI n x y=true->bZ n x y=true):∀ {vs:List V}{xs ys:List PV},Reps K M H vs xs->Reps K M' H vs ys->((xs.zip ys).all fun p=>dI n p.1 p.2)=true->(((xs.zip ys).all fun p=>bZ n p.1 p.2) && xs.length == ys.length)=true
 | _,_,_,.nil,.nil,_=>rfl
 | _,_,_,.cons r t,.cons r' t',o=>by
  simp only [br8,bn9,bg1] at o
  have h1:=ih r r' o.1
  have h2:=Reps.self_of ih t t' o.2
  simp only [br8,bn9,h1,bp7,bi2] at h2 ⊢
  rw [<- h2]
  congr 1
  simp
theorem aG.self:∀ (n:Nat) {v:V}{x y:PV},aG K M H v x->aG K M' H v y->dI n x y=true->bZ n x y=true:=by
 intro n
 induction n with
 | zero=>
  intro v x y r r' o
  cases r with
  | non=>cases r'; rfl
  | bl b=>cases r'; exact bl3 b
  | int i=>cases r'; exact bl3 i
  | str z=>cases r'; exact bl3 z
  | _=>cases o
 | succ n ih=>
  intro v x y r r' o
  cases r with
  | non=>cases r'; rfl
  | bl b=>cases r'; exact bl3 b
  | int i=>cases r'; exact bl3 i
  | str z=>cases r'; exact bl3 z
  | tup h rr=>
   cases r' with
   | tup h' rr'=>rw [h] at h'; cases h'; exact Reps.self_of ih rr rr' o
   | _=>cases o
  | lst _ h rr=>
   cases r' with
   | lst _ h' rr'=>rw [h] at h'; cases h'; exact Reps.self_of ih rr rr' o
   | _=>cases o
  | kt h rr=>
   cases r' with
   | kt h' rr'=>cases lS.inj h h'; exact Reps.self_of ih rr rr' o
   | _=>cases o
  | _=>cases o
theorem Reps.self (n:Nat) {vs:List V}{xs ys:List PV} (r:Reps K M H vs xs) (r':Reps K M' H vs ys) (o:((xs.zip ys).all fun p=>dI n p.1 p.2)=true):(((xs.zip ys).all fun p=>bZ n p.1 p.2) && xs.length == ys.length)=true:=Reps.self_of (aG.self n) r r' o
theorem jL (n:Nat) (xs ys:List PV):(List.range (min xs.length ys.length)).all (fun j=>bZ n (xs.getD j .non) (ys.getD j .non))=(xs.zip ys).all fun p=>bZ n p.1 p.2:=by
 rw [bm7]
 simp only [bm8,br2]
 constructor
 ·intro h p hp
  obtain ⟨j,hj,e⟩:=bo7 hp
  have hj':j < min xs.length ys.length:=by simpa using hj
  have:=h j hj'
  rw [List.getElem_zip] at e
  subst e
  have h1:j < xs.length:=by omega
  have h2:j < ys.length:=by omega
  simpa [bf7,h1,h2] using this
 ·intro h j hj
  have h1:j < xs.length:=by omega
  have h2:j < ys.length:=by omega
  have hz:j < (xs.zip ys).length:=by simp; omega
  have:=h _ (bp2 hz)
  rw [List.getElem_zip] at this
  simpa [bf7,h1,h2] using this
theorem N5 (I:a8 X pins σ H s):∀ (n:Nat) {A:Around}{v w:V}{x y:PV}{a b:Value},A.units+n < cLine->aG X.K M H v x->aG X.K M' H w y->b4 v a->b4 w b->dI n x y=true->SeqAt.EqAt A s a b (bZ n x y):=by
 intro n
 induction n with
 | zero=>
  intro A v w x y a b hu rx ry ra rb o
  cases rx with
  | non=>
   cases ra
   cases ry with
   | non=>cases rb; exact SeqAt.EqAt.same _
   | int i=>obtain ⟨t',rfl⟩:=rb; exact SeqAt.EqAt.none_int _ _
   | _=>cases o
  | bl i=>
   cases ra
   cases ry with
   | bl j=>cases rb; exact SeqAt.EqAt.bool_bool _ _
   | _=>cases o
  | int i=>
   obtain ⟨t,rfl⟩:=ra
   cases ry with
   | int j=>obtain ⟨t',rfl⟩:=rb; exact SeqAt.EqAt.int_int _ _ _ _
   | non=>cases rb; exact SeqAt.EqAt.int_none _ _
   | _=>cases o
  | str i=>
   obtain ⟨t,rfl⟩:=ra
   cases ry with
   | str j=>obtain ⟨t',rfl⟩:=rb; exact SeqAt.EqAt.str_str _ _ _ _
   | _=>cases o
  | _=>cases o
 | succ n ih=>
  intro A v w x y a b hu rx ry ra rb o
  have items:∀ {us ws:List V}{xs ys:List PV}{its its2:List Value},Reps X.K M H us xs->Reps X.K M' H ws ys->aQ us its->aQ ws its2->((xs.zip ys).all fun p=>dI n p.1 p.2)=true->
    ∀ j (h1:j < its.toArray.size) (h2:j < its2.toArray.size),SeqAt.EqAt A.in1 s its.toArray[j] its2.toArray[j] (bZ n (xs.getD j .non) (ys.getD j .non)):=fun {us ws xs ys its its2} r1 r2 v1 v2 ok j h1 h2=>by
   have l1:=v1.length
   have l2:=v2.length
   have m1:=r1.length
   have m2:=r2.length
   have k1:j < its.length:=by simpa using h1
   have k2:j < its2.length:=by simpa using h2
   have j1:j < us.length:=by omega
   have j2:j < ws.length:=by omega
   have i1:j < xs.length:=by omega
   have i2:j < ys.length:=by omega
   obtain ⟨u,hu',ru⟩:=v1.get (be3 j1)
   obtain ⟨u2,hu2',ru2⟩:=v2.get (be3 j2)
   obtain ⟨x,hx,rx⟩:=r1.get (be3 j1)
   obtain ⟨y,hy,ry⟩:=r2.get (be3 j2)
   have e1:its.toArray[j]=u:=by
    rw [be3 k1] at hu'
    simpa using hu'
   have e2:its2.toArray[j]=u2:=by
    rw [be3 k2] at hu2'
    simpa using hu2'
   have ok':dI n x y=true:=by
    rw [bm8] at ok
    have hz:j < (xs.zip ys).length:=by simp; omega
    have:=ok _ (bp2 hz)
    rw [List.getElem_zip] at this
    rw [be3 i1] at hx
    rw [be3 i2] at hy
    cases hx; cases hy
    exact this
   rw [e1,e2]
   have g1:xs.getD j .non=x:=by rw [bf7,hx]; rfl
   have g2:ys.getD j .non=y:=by rw [bf7,hy]; rfl
   rw [g1,g2]
   exact ih (by show A.units+1+n < cLine; omega) rx ry ru ru2 ok'
  have huA:A.units < cLine:=by omega
  cases rx with
  | @kt p us xs h1 r1=>
   obtain ⟨its,v1,p1,_⟩:=I.tuple (.inr h1)
   cases (show a=Value.ref p from ra)
   cases ry with
   | @kt p2 ws ys h2 r2=>
    obtain ⟨its2,v2,p2',_⟩:=I.tuple (.inr h2)
    cases (show b=Value.ref p2 from rb)
    by_cases e:p=p2
    ·subst e
     have:=aG.self (K:=X.K) (M:=M) (M':=M') (n+1) (.kt h1 r1) (.kt h2 r2) o
     rw [this]
     exact SeqAt.EqAt.same _
    ·have:=SeqAt.RcAt.tuples p1 p2' huA (items r1 r2 v1 v2 o)
     refine .of_refs e ?_
     have l1:=v1.length
     have l2:=v2.length
     have m1:=r1.length
     have m2:=r2.length
     rw [be0,be0,<- l1,<- l2,m1,m2,jL] at this
     exact this
   | _=>cases o
  | @tup p us xs h1 r1=>
   obtain ⟨its,v1,p1,_⟩:=I.tuple (aO.of (K:=X.K) h1)
   cases (show a=Value.ref p from ra)
   cases ry with
   | @tup p2 ws ys h2 r2=>
    obtain ⟨its2,v2,p2',_⟩:=I.tuple (aO.of (K:=X.K) h2)
    cases (show b=Value.ref p2 from rb)
    by_cases e:p=p2
    ·subst e
     have:=aG.self (K:=X.K) (M:=M) (M':=M') (n+1) (.tup h1 r1) (.tup h2 r2) o
     rw [this]
     exact SeqAt.EqAt.same _
    ·have:=SeqAt.RcAt.tuples p1 p2' huA (items r1 r2 v1 v2 o)
     refine .of_refs e ?_
     have l1:=v1.length
     have l2:=v2.length
     have m1:=r1.length
     have m2:=r2.length
     rw [be0,be0,<- l1,<- l2,m1,m2,jL] at this
     exact this
   | non=>cases rb; exact SeqAt.EqAt.tuple_none p1 huA
   | _=>cases o
  | @lst p us xs _ h1 r1=>
   obtain ⟨its,v1,p1,_⟩:=I.list (aU.of (K:=X.K) h1)
   cases (show a=Value.ref p from ra)
   cases ry with
   | @lst p2 ws ys _ h2 r2=>
    obtain ⟨its2,v2,p2',_⟩:=I.list (aU.of (K:=X.K) h2)
    cases (show b=Value.ref p2 from rb)
    have l1:=v1.length
    have l2:=v2.length
    have m1:=r1.length
    have m2:=r2.length
    by_cases e:p=p2
    ·subst e
     rw [h1] at h2; cases h2
     have:=Reps.self n r1 r2 o
     show SeqAt.EqAt A s _ _ ((xs.zip ys).all (fun p=>bZ n p.1 p.2) && xs.length == ys.length)
     rw [this]
     exact SeqAt.EqAt.same _
    ·refine .of_refs e ?_
     by_cases hl:xs.length=ys.length
     ·have:=SeqAt.RcAt.lists p1.isList p2'.isList (by rw [be0,be0]; omega) huA (items r1 r2 v1 v2 o)
      have hm:min xs.length ys.length=its.length:=by omega
      rw [be0,<- hm,jL] at this
      show SeqAt.RcAt A s _ _ ((xs.zip ys).all (fun p=>bZ n p.1 p.2) && xs.length == ys.length)
      rw [show (xs.length == ys.length)=true by simpa using hl,Bool.and_true]
      exact this
     ·have:=SeqAt.RcAt.lists_lengths (A:=A) p1.isList p2'.isList (by rw [be0,be0]; simp; omega) huA
      show SeqAt.RcAt A s _ _ ((xs.zip ys).all (fun p=>bZ n p.1 p.2) && xs.length == ys.length)
      rw [show (xs.length == ys.length)=false by simpa using hl,bo2]
      exact this
   | _=>cases o
  | non=>
   cases ra
   cases ry with
   | non=>cases rb; exact SeqAt.EqAt.same _
   | int i=>obtain ⟨t',rfl⟩:=rb; exact SeqAt.EqAt.none_int _ _
   | @tup p2 ws ys h2 r2=>
    obtain ⟨its2,v2,p2',_⟩:=I.tuple (aO.of (K:=X.K) h2)
    cases (show b=Value.ref p2 from rb)
    exact SeqAt.EqAt.none_tuple p2' huA
   | _=>cases o
  | bl i=>
   cases ra
   cases ry with
   | bl j=>cases rb; exact SeqAt.EqAt.bool_bool _ _
   | _=>cases o
  | int i=>
   obtain ⟨t,rfl⟩:=ra
   cases ry with
   | int j=>obtain ⟨t',rfl⟩:=rb; exact SeqAt.EqAt.int_int _ _ _ _
   | non=>cases rb; exact SeqAt.EqAt.int_none _ _
   | _=>cases o
  | str i=>
   obtain ⟨t,rfl⟩:=ra
   cases ry with
   | str j=>obtain ⟨t',rfl⟩:=rb; exact SeqAt.EqAt.str_str _ _ _ _
   | _=>cases o
  | _=>cases o
end
structure Bt (mg:Str->Option Value):Prop where
 len:mg "len" = none
 range:mg "range" = none
 tuple:mg "tuple" = none
 list:mg "list" = none
 sorted:mg "sorted" = none
 all:mg "all" = none
 any:mg "any" = none
 zip:mg "zip" = none
 min:mg "min" = none
 max:mg "max" = none
 sum:mg "sum" = none
 isinst:mg "isinstance" = none
 int:mg "int" = none
 bool:mg "bool" = none
 enum:mg "enumerate" = none
section
variable {X : Cx} {a b c e o : Expr} {es cJ : List Expr} {ta tb te to tk : aE} {tr : cN} {tA tB' tc : bY} {pos p2 px : Pos} {st : Stmt} {sts : List Stmt} {t u : aK}
theorem dS (B:Bt X.mg) (ha:QA X [e] tr) (hg:Gl X "len":=by rfl) (he:starEach [e] X.env=(false,eval e X.env) :: starEach [] X.env:=by rfl) (hpl:(backTo pos (starEach [] X.env)).any (·.1)=false:=by rfl):QE X (.Call (.Name "len" p2) [e] [] pos) (aB cW tr):=
 k8 (ao5.or aq8) ax7 hg B.len PySem.boot_len ha (he:=he) (hpl:=hpl)
theorem gX (B:Bt X.mg) (ha:QA X [e] tr) (hg:Gl X "tuple":=by rfl) (he:starEach [e] X.env=(false,eval e X.env) :: starEach [] X.env:=by rfl) (hpl:(backTo pos (starEach [] X.env)).any (·.1)=false:=by rfl):QE X (.Call (.Name "tuple" p2) [e] [] pos) (aB dW tr):=
 w4 ao7 ax8 hg B.tuple PyProof.Rows.boot_tuple ha (he:=he) (hpl:=hpl)
theorem iC (B:Bt X.mg) (ha:QA X [e] tr) (hg:Gl X "list":=by rfl) (he:starEach [e] X.env=(false,eval e X.env) :: starEach [] X.env:=by rfl) (hpl:(backTo pos (starEach [] X.env)).any (·.1)=false:=by rfl):QE X (.Call (.Name "list" p2) [e] [] pos) (aB gC tr):=
 w4 ao6 ax9 hg B.list PyProof.Rows.boot_list ha (he:=he) (hpl:=hpl)
theorem N6 (B:Bt X.mg) (ha:QA X [e] tr) (hg:Gl X "sorted":=by rfl) (he:starEach [e] X.env=(false,eval e X.env) :: starEach [] X.env:=by rfl) (hpl:(backTo pos (starEach [] X.env)).any (·.1)=false:=by rfl):QE X (.Call (.Name "sorted" p2) [e] [] pos) (aB qV tr):=
 k8 E6 ay0 hg B.sorted PyProof.Rows.boot_sorted ha (he:=he) (hpl:=hpl)
theorem aB7 (B:Bt X.mg) (hc:X.calm=true) (ha:QA X [e] tr) (hg:Gl X "all":=by rfl) (he:starEach [e] X.env=(false,eval e X.env) :: starEach [] X.env:=by rfl) (hpl:(backTo pos (starEach [] X.env)).any (·.1)=false:=by rfl):QE X (.Call (.Name "all" p2) [e] [] pos) (aB vF tr):=
 k8 (uZ hc) ay1 hg B.all PyProof.Rows.boot_all ha (he:=he) (hpl:=hpl)
theorem w6 (B:Bt X.mg) (hc:X.calm=true) (ha:QA X [a,b] tr) (hg:Gl X "min":=by rfl) (he:starEach [a,b] X.env=(false,eval a X.env) :: starEach [b] X.env:=by rfl) (hpl:(backTo pos (starEach [b] X.env)).any (·.1)=false:=by rfl):QE X (.Call (.Name "min" p2) [a,b] [] pos) (aB lX tr):=
 k8 (al7 hc) ay2 hg B.min PyProof.Rows.boot_min ha (he:=he) (hpl:=hpl)
theorem rD (B:Bt X.mg) (hc:X.calm=true) (ha:QA X [a,b] tr) (hg:Gl X "max":=by rfl) (he:starEach [a,b] X.env=(false,eval a X.env) :: starEach [b] X.env:=by rfl) (hpl:(backTo pos (starEach [b] X.env)).any (·.1)=false:=by rfl):QE X (.Call (.Name "max" p2) [a,b] [] pos) (aB kR tr):=
 k8 (al6 hc) ay3 hg B.max PyProof.Rows.boot_max ha (he:=he) (hpl:=hpl)
theorem w9 (ha:QE X a ta):QE X (.UnaryOp .USub a pos) (jZ ta):=c7 (aj8 ak7 ha) fun σ H Q' h=>by
 obtain ⟨W,ρ,Q,px,q,k⟩:=h
 refine⟨W,ρ,_,px,q,?_⟩
 rintro v H1 x g s r ⟨i,rfl,q⟩
 cases r
 exact⟨i,rfl,k _ _ _ .fr s (.int _) q⟩
theorem N7 (x:Int):∀ (xs:List Int),nP (.int x) (xs.map V.int)=decide (x ∈ xs)
 | []=>by simp [nP]
 | y :: r=>by
  have ih:=N7 x r
  unfold nP at ih ⊢
  rw [bj4,List.any_cons,ih]
  by_cases e:y=x
  ·subst e; simp [i5]
  ·have:i5 (.int y) (.int x)=false:=by simpa [i5] using e
   rw [this,Bool.false_or,bm7]
   simp [Ne.symm e]
theorem N8:∀ (xs:List Int),(xs.map V.int).all j6=true
 | []=>rfl
 | _ :: r=>by rw [bj4,bn9,N8 r]; rfl
theorem N9 (neg:Bool):e9 X (eV neg) (u7 X.K neg):=by
 rintro W Hs H u v x y g g' Q Q' s n r1 r2 ⟨i,ns,rfl,e,q⟩ k
 cases r1
 obtain ⟨a,us,rfl,hs,r⟩:=r2.seq e
 obtain rfl:=r.ofInts
 refine⟨a,_,rfl,hs,rfl,N8 ns,?_⟩
 have:=k _ _ _ .fr (aD.refl _) (.bl _) q
 rw [N7]
 cases neg <;> exact this
theorem kW (ha:QE X a ta) (hb:QE X b tb) (hm:behindInMarks .In b=false:=by rfl):QT X (.Compare a [.In] [b] pos) (aR (q2 (eV false) ta tb)):=iB ao3 (N9 false) ha hb hm
theorem oH (ha:QE X a ta) (hb:QE X b tb) (hm:behindInMarks .NotIn b=false:=by rfl):QT X (.Compare a [.NotIn] [b] pos) (aR (q2 (eV true) ta tb)):=iB ao4 (N9 true) ha hb hm
theorem aG.kt_ {K:PySem.W.Frag}{M:Addr->Prop}{H:Hp}{v:V}{xs:List PV} (r:aG K M H v (.kt xs)):∃ a us,v = .ref a/\lS K a us/\Reps K M H us xs:=by
 cases r with
 | kt h r=>exact⟨_,_,rfl,h,r⟩
def O0 (K:PySem.W.Frag) (H:Hp) (x:V) (t:Value):Prop:=fM K H x t ∨ ∃ a us,x = .ref a/\aO K H a us/\t = .type "tuple"
theorem aB8:cU X (.builtin "isinstance") (fun xs H Q=>∃ x t n b,xs = [x,.ty n]/\O0 X.K H x t/\PySem.W.kitOne X.K t (.type n)=some b/\Q (.bl b) H):=by
 intro pins s σ H xs us Q I r h
 obtain ⟨x,t,n,b,rfl,ty,e,q⟩:=h
 rcases ty with ty | ⟨a,ws,rfl,hs,rfl⟩
 ·exact as9 pins s σ H _ us Q I r ⟨x,t,n,b,rfl,ty,e,q⟩
 obtain ⟨u,u',rfl,ru,ru'⟩:=nI r
 cases ru'
 cases (show u=Value.ref a from ru)
 obtain ⟨its,_,⟨o,h1,h2,_⟩,_⟩:=I.tuple hs
 exact bk3 PySem.W.kitx_tuple I.kIn ⟨o,h1,h2⟩ e (fun z=>nomatch z) fun tk=>⟨.bl b,H,I.tok tk,rfl,q⟩
theorem aB9 {K:PySem.W.Frag}{M:Addr->Prop}{H:Hp}{v:V}{x:PV}{T:String} (r:aG K M H v x) (e:M0 x=some T):O0 K H v (.type T):=by
 cases r with
 | non=>cases e; exact .inl .non
 | bl b=>cases e; exact .inl (.bl b)
 | int i=>cases e; exact .inl (.int i)
 | str i=>cases e; exact .inl (.str i)
 | tup h _=>cases e; exact .inl (.tup h)
 | lst _ h _=>cases e; exact .inl (.lst h)
 | kt h _=>cases e; exact .inr ⟨_,_,rfl,.inr h,rfl⟩
 | _=>cases e
theorem rE {x:Str}{n:String} (B:Bt X.mg) (hn:bootBuiltins x=some (.type n)) (hm:X.mg x=none) (ha:QE X a ta) (hg:Gl X "isinstance":=by rfl) (hgx:Gl X x:=by rfl) (hx:x ≠ "__name__":=by decide) (hdx:(x == ("__debug__" : Str))=false:=by decide)
  (he:starEach [a,.Name x px] X.env=(false,eval a X.env) :: starEach [.Name x px] X.env:=by rfl) (he2:starEach [.Name x px] X.env=(false,eval (.Name x px) X.env) :: starEach [] X.env:=by rfl) (hpl:(backTo pos (starEach [.Name x px] X.env)).any (·.1)=false:=by rfl):QE X (.Call (.Name "isinstance" p2) [a,.Name x px] [] pos) (iO X.K n ta):=
 c7 (nK aB8 hg B.isinst PyProof.Rows.boot_isinstance (cP ha (cP (y6 (v:=.ty n) hgx hm hn rfl hx hdx) dP he2) he) (he:=he) (hpl:=hpl)) fun σ H Q' h=>by
  obtain ⟨W,ρ,Q,px,q,k⟩:=h
  refine⟨W,ρ,_,px,q,?_⟩
  rintro v H1 x g s r ⟨T,b,e,kt,q⟩
  exact⟨v,_,n,b,rfl,aB9 r e,kt,k _ _ _ .fr s (.bl _) q⟩
theorem aC0 (B:Bt X.mg) (ha:QE X a ta) (hg:Gl X "isinstance":=by rfl) (hgx:Gl X "int":=by rfl)
  (he:starEach [a,.Name "int" px] X.env=(false,eval a X.env) :: starEach [.Name "int" px] X.env:=by rfl) (he2:starEach [.Name "int" px] X.env=(false,eval (.Name "int" px) X.env) :: starEach [] X.env:=by rfl) (hpl:(backTo pos (starEach [.Name "int" px] X.env)).any (·.1)=false:=by rfl):QE X (.Call (.Name "isinstance" p2) [a,.Name "int" px] [] pos) (iO X.K "int" ta):=rE B PyProof.Rows.boot_int B.int ha (hg:=hg) (hgx:=hgx) (he:=he) (he2:=he2) (hpl:=hpl)
theorem aC1 (B:Bt X.mg) (ha:QE X a ta) (hg:Gl X "isinstance":=by rfl) (hgx:Gl X "bool":=by rfl)
  (he:starEach [a,.Name "bool" px] X.env=(false,eval a X.env) :: starEach [.Name "bool" px] X.env:=by rfl) (he2:starEach [.Name "bool" px] X.env=(false,eval (.Name "bool" px) X.env) :: starEach [] X.env:=by rfl) (hpl:(backTo pos (starEach [.Name "bool" px] X.env)).any (·.1)=false:=by rfl):QE X (.Call (.Name "isinstance" p2) [a,.Name "bool" px] [] pos) (iO X.K "bool" ta):=rE B PyProof.Rows.boot_bool B.bool ha (hg:=hg) (hgx:=hgx) (he:=he) (he2:=he2) (hpl:=hpl)
theorem O1 (B:Bt X.mg) (ha:QE X a ta) (hg:Gl X "isinstance":=by rfl) (hgx:Gl X "tuple":=by rfl)
  (he:starEach [a,.Name "tuple" px] X.env=(false,eval a X.env) :: starEach [.Name "tuple" px] X.env:=by rfl) (he2:starEach [.Name "tuple" px] X.env=(false,eval (.Name "tuple" px) X.env) :: starEach [] X.env:=by rfl) (hpl:(backTo pos (starEach [.Name "tuple" px] X.env)).any (·.1)=false:=by rfl):QE X (.Call (.Name "isinstance" p2) [a,.Name "tuple" px] [] pos) (iO X.K "tuple" ta):=rE B PyProof.Rows.boot_tuple B.tuple ha (hg:=hg) (hgx:=hgx) (he:=he) (he2:=he2) (hpl:=hpl)
theorem aC2 (B:Bt X.mg) (ha:QE X a ta) (hg:Gl X "isinstance":=by rfl) (hgx:Gl X "list":=by rfl)
  (he:starEach [a,.Name "list" px] X.env=(false,eval a X.env) :: starEach [.Name "list" px] X.env:=by rfl) (he2:starEach [.Name "list" px] X.env=(false,eval (.Name "list" px) X.env) :: starEach [] X.env:=by rfl) (hpl:(backTo pos (starEach [.Name "list" px] X.env)).any (·.1)=false:=by rfl):QE X (.Call (.Name "isinstance" p2) [a,.Name "list" px] [] pos) (iO X.K "list" ta):=rE B PyProof.Rows.boot_list B.list ha (hg:=hg) (hgx:=hgx) (he:=he) (he2:=he2) (hpl:=hpl)
def wA (K:PySem.W.Frag) (n:Nat) (neg:Bool):R2:=fun v w H Q=>∃ x y,aG K (fun _=>True) H v x/\aG K (fun _=>True) H w y/\((∃ xs ys,x = .tup xs/\y = .tup ys) ∨ (∃ xs ys,x = .lst xs/\y = .lst ys) ∨ (∃ xs ys,x = .kt xs/\y = .kt ys))/\dI (n+1) x y=true/\Q (.bl (if neg=true then !bZ (n+1) x y else bZ (n+1) x y)) H
theorem mD {pins:List (Addr × Obj)}{σ:St}{H:Hp}{s:Shared}{M M':Addr->Prop} (I:a8 X pins σ H s) {n:Nat}{A:Around} (hu:A.units+(n+1) < cLine) {us ws:List V}{xs ys:List PV}{its its2:List Value} (r1:Reps X.K M H us xs) (r2:Reps X.K M' H ws ys) (v1:aQ us its) (v2:aQ ws its2)
  (ok:((xs.zip ys).all fun p=>dI n p.1 p.2)=true):∀ j (h1:j < its.toArray.size) (h2:j < its2.toArray.size),SeqAt.EqAt A.in1 s its.toArray[j] its2.toArray[j] (bZ n (xs.getD j .non) (ys.getD j .non)):=by
 intro j h1 h2
 have l1:=v1.length
 have l2:=v2.length
 have m1:=r1.length
 have m2:=r2.length
 have k1:j < its.length:=by simpa using h1
 have k2:j < its2.length:=by simpa using h2
 have j1:j < us.length:=by omega
 have j2:j < ws.length:=by omega
 have i1:j < xs.length:=by omega
 have i2:j < ys.length:=by omega
 obtain ⟨u,hu',ru⟩:=v1.get (be3 j1)
 obtain ⟨u2,hu2',ru2⟩:=v2.get (be3 j2)
 obtain ⟨x,hx,rx⟩:=r1.get (be3 j1)
 obtain ⟨y,hy,ry⟩:=r2.get (be3 j2)
 have e1:its.toArray[j]=u:=by
  rw [be3 k1] at hu'
  simpa using hu'
 have e2:its2.toArray[j]=u2:=by
  rw [be3 k2] at hu2'
  simpa using hu2'
 have ok':dI n x y=true:=by
  rw [bm8] at ok
  have hz:j < (xs.zip ys).length:=by simp; omega
  have:=ok _ (bp2 hz)
  rw [List.getElem_zip] at this
  rw [be3 i1] at hx
  rw [be3 i2] at hy
  cases hx; cases hy
  exact this
 rw [e1,e2]
 have g1:xs.getD j .non=x:=by rw [bf7,hx]; rfl
 have g2:ys.getD j .non=y:=by rw [bf7,hy]; rfl
 rw [g1,g2]
 exact N5 I n (by show A.units+1+n < cLine; omega) rx ry ru ru2 ok'
theorem aC3 (n:Nat) (hu:X.A.units+(n+1) < cLine):cB X (compareOp .Eq) (wA X.K n false):=by
 intro pins s σ H v w a b Q I ra rb h
 obtain ⟨x,y,rx,ry,kd,o,q⟩:=h
 have hu0:X.A.units < cLine:=by omega
 rcases kd with ⟨xs,ys,rfl,rfl⟩ | ⟨xs,ys,rfl,rfl⟩ | ⟨xs,ys,rfl,rfl⟩
 ·obtain ⟨p,us,rfl,h1,r1⟩:=rx.sqT
  obtain ⟨p2,ws,rfl,h2,r2⟩:=ry.sqT
  cases ra; cases rb
  obtain ⟨its,v1,p1,_⟩:=I.tuple (aO.of (K:=X.K) h1)
  obtain ⟨its2,v2,p2',_⟩:=I.tuple (aO.of (K:=X.K) h2)
  have l1:=v1.length
  have l2:=v2.length
  have m1:=r1.length
  have m2:=r2.length
  have:=SeqAt.RcAt.tuples p1 p2' hu0 (mD I hu r1 r2 v1 v2 o)
  rw [be0,be0,<- l1,<- l2,m1,m2,jL] at this
  exact this _ _ _ _ ⟨.bl _,H,I,rfl,q⟩
 ·obtain ⟨p,us,rfl,_,h1,r1⟩:=rx.sqL
  obtain ⟨p2,ws,rfl,_,h2,r2⟩:=ry.sqL
  cases ra; cases rb
  obtain ⟨its,v1,p1,_⟩:=I.list (aU.of (K:=X.K) h1)
  obtain ⟨its2,v2,p2',_⟩:=I.list (aU.of (K:=X.K) h2)
  have l1:=v1.length
  have l2:=v2.length
  have m1:=r1.length
  have m2:=r2.length
  have q:Q (.bl ((xs.zip ys).all (fun p=>bZ n p.1 p.2) && xs.length == ys.length)) H:=q
  by_cases hl:xs.length=ys.length
  ·have:=SeqAt.RcAt.lists p1.isList p2'.isList (by rw [be0,be0]; omega) hu0 (mD I hu r1 r2 v1 v2 o)
   have hm:min xs.length ys.length=its.length:=by omega
   rw [be0,<- hm,jL] at this
   rw [show (xs.length == ys.length)=true by simpa using hl,Bool.and_true] at q
   exact this _ _ _ _ ⟨.bl _,H,I,rfl,q⟩
  ·have:=SeqAt.RcAt.lists_lengths (A:=X.A) p1.isList p2'.isList (by rw [be0,be0]; simp; omega) hu0
   rw [show (xs.length == ys.length)=false by simpa using hl,bo2] at q
   exact this _ _ _ _ ⟨.bl _,H,I,rfl,q⟩
 ·obtain ⟨p,us,rfl,h1,r1⟩:=rx.kt_
  obtain ⟨p2,ws,rfl,h2,r2⟩:=ry.kt_
  cases ra; cases rb
  obtain ⟨its,v1,p1,_⟩:=I.tuple (.inr h1)
  obtain ⟨its2,v2,p2',_⟩:=I.tuple (.inr h2)
  have l1:=v1.length
  have l2:=v2.length
  have m1:=r1.length
  have m2:=r2.length
  have:=SeqAt.RcAt.tuples p1 p2' hu0 (mD I hu r1 r2 v1 v2 o)
  rw [be0,be0,<- l1,<- l2,m1,m2,jL] at this
  exact this _ _ _ _ ⟨.bl _,H,I,rfl,q⟩
theorem aC4 (n:Nat) (hu:X.A.units+(n+1) < cLine):cB X (compareOp .NotEq) (wA X.K n true):=by
 intro pins s σ H v w a b Q I ra rb h
 obtain ⟨x,y,rx,ry,kd,o,q⟩:=h
 have hu0:X.A.units < cLine:=by omega
 rcases kd with ⟨xs,ys,rfl,rfl⟩ | ⟨xs,ys,rfl,rfl⟩ | ⟨xs,ys,rfl,rfl⟩
 ·obtain ⟨p,us,rfl,h1,r1⟩:=rx.sqT
  obtain ⟨p2,ws,rfl,h2,r2⟩:=ry.sqT
  cases ra; cases rb
  obtain ⟨its,v1,p1,_⟩:=I.tuple (aO.of (K:=X.K) h1)
  obtain ⟨its2,v2,p2',_⟩:=I.tuple (aO.of (K:=X.K) h2)
  have l1:=v1.length
  have l2:=v2.length
  have m1:=r1.length
  have m2:=r2.length
  have:=SeqAt.RcNeAt.tuples p1 p2' hu0 (mD I hu r1 r2 v1 v2 o)
  rw [be0,be0,<- l1,<- l2,m1,m2,jL] at this
  exact this _ _ _ _ ⟨.bl _,H,I,rfl,q⟩
 ·obtain ⟨p,us,rfl,_,h1,r1⟩:=rx.sqL
  obtain ⟨p2,ws,rfl,_,h2,r2⟩:=ry.sqL
  cases ra; cases rb
  obtain ⟨its,v1,p1,_⟩:=I.list (aU.of (K:=X.K) h1)
  obtain ⟨its2,v2,p2',_⟩:=I.list (aU.of (K:=X.K) h2)
  have l1:=v1.length
  have l2:=v2.length
  have m1:=r1.length
  have m2:=r2.length
  have q:Q (.bl (!((xs.zip ys).all (fun p=>bZ n p.1 p.2) && xs.length == ys.length))) H:=q
  by_cases hl:xs.length=ys.length
  ·have:=SeqAt.RcNeAt.lists p1.isList p2'.isList (by rw [be0,be0]; omega) hu0 (mD I hu r1 r2 v1 v2 o)
   have hm:min xs.length ys.length=its.length:=by omega
   rw [be0,<- hm,jL] at this
   rw [show (xs.length == ys.length)=true by simpa using hl,Bool.and_true] at q
   exact this _ _ _ _ ⟨.bl _,H,I,rfl,q⟩
  ·have:=SeqAt.RcNeAt.lists_lengths (A:=X.A) p1.isList p2'.isList (by rw [be0,be0]; simp; omega) hu0
   rw [show (xs.length == ys.length)=false by simpa using hl,bo2] at q
   exact this _ _ _ _ ⟨.bl _,H,I,rfl,q⟩
 ·obtain ⟨p,us,rfl,h1,r1⟩:=rx.kt_
  obtain ⟨p2,ws,rfl,h2,r2⟩:=ry.kt_
  cases ra; cases rb
  obtain ⟨its,v1,p1,_⟩:=I.tuple (.inr h1)
  obtain ⟨its2,v2,p2',_⟩:=I.tuple (.inr h2)
  have l1:=v1.length
  have l2:=v2.length
  have m1:=r1.length
  have m2:=r2.length
  have:=SeqAt.RcNeAt.tuples p1 p2' hu0 (mD I hu r1 r2 v1 v2 o)
  rw [be0,be0,<- l1,<- l2,m1,m2,jL] at this
  exact this _ _ _ _ ⟨.bl _,H,I,rfl,q⟩
theorem O2 {n:Nat}{neg:Bool}:e9 X (jG n neg) (wA X.K n neg):=by
 rintro W Hs H u v x y g g' Q Q' s n r1 r2 ⟨kd,o,q⟩ k
 exact⟨x,y,r1.same (aD.refl _) fun _ _=>trivial,r2.same (aD.refl _) fun _ _=>trivial,kd.elim .inl fun z=>.inr (.inl z),o,k _ _ _ .fr (aD.refl _) (.bl _) q⟩
theorem rF (hu:X.A.units+3 < cLine) (ha:QE X a ta) (hb:QE X b tb):QT X (.Compare a [.NotEq] [b] pos) (aR (q2 (jG 2 true) ta tb)):=iB (aC4 2 hu) O2 ha hb (fE _)
theorem O3 (hu:X.A.units+3 < cLine) (ha:QE X a ta) (hb:QE X b tb):QE X (.Compare a [.Eq] [b] pos) (q2 (jG 2 false) ta tb):=oF (aC3 2 hu) O2 ha hb (fE _)
end
end PP
namespace PP
open PySem L2 PyProof.Rows
def LO (X:Cx) (t:m7):TO:=fun σ H Q'=>∃ (W:Addr->Prop) (ρ:bP) (Q:Option Int->Prop),PX X.K X.H₀ W σ ρ H/\t ρ Q/\∀ o H',aD H H'->Q o->Q' o H'
def QO (X:Cx) (e:Option Expr) (t:m7):Prop:=PO X e (LO X t)
theorem Reps.cut {K:PySem.W.Frag}{M:Addr->Prop}{H:Hp}{us:List V}{xs:List PV} (r:Reps K M H us xs) (lo hi:Option Int):Reps K M H (eD us lo hi) (iP xs lo hi):=by
 unfold eD iP
 rw [r.length]
 exact (r.drop _).take _
section
variable {X : Cx} {a b c e o : Expr} {es cJ : List Expr} {ta tb te to tk : aE} {tr : cN} {tA tB' tc : bY} {pos p2 px : Pos} {st : Stmt} {sts : List Stmt} {t u : aK}
theorem O4:QO X none vR:=fun pins s σ H Q I h=>tW pins s σ H Q I (by
 obtain ⟨W,ρ,Q1,px,q,k⟩:=h
 exact k _ _ (aD.refl _) q)
theorem O5 (h:QE X e te):QO X (some e) (vS te):=fun pins s σ H Q I hq=>tX h pins s σ H Q I (by
 obtain ⟨W,ρ,Q1,px,q,k⟩:=hq
 refine⟨W,ρ,_,px,q,?_⟩
 rintro v H1 x g s r ⟨i,rfl,q⟩
 cases r
 exact⟨i,rfl,k _ _ s q⟩)
theorem O6 {lo hi:Option Expr}{tl th:m7}{sp:Pos} (he:QE X e te) (hl:QO X lo tl) (hh:QO X hi th):QE X (.Subscript e (.Slice lo hi none sp) pos) (vT te tl th):=c7 (tY (zY.or G4) he hl hh) fun σ H Q' h=>by
 obtain ⟨W,ρ,Q,px,q,k⟩:=h
 refine⟨W,ρ,_,px,q,fun v H1 x g s1 r1 q1=>⟨W,ρ,_,px.mono s1,q1,fun lo H2 s2 q2=>⟨W,ρ,_,px.mono (s1.trans s2),q2,?_⟩⟩⟩
 rintro hi H3 s3 ⟨xs,e,f,q3⟩
 have S:=(s1.trans s2).trans s3
 have r3:=r1.same (M':=Mg X.H₀ W H g) (s2.trans s3) fun _ z=>z
 cases r3 with
 | tup h r=>
  cases e
  refine .inr ⟨_,_,rfl,aO.of h,fun p hp=>k _ _ _ .fr (S.trans (bM hp _)) (.tup bD (((r.flat f).cut lo hi).same (bM hp _) fun _ z=>z)) q3,fun ec=>k _ _ _ .fr S (.tup h ?_) q3⟩
  have:=(r.flat (M':=Mg X.H₀ W H .fr) f).cut lo hi
  rw [ec] at this
  exact this
 | lst m h r=>
  cases e
  exact .inl ⟨_,_,rfl,aU.of h,fun p hp=>k _ _ _ .fr (S.trans (bM hp _)) (.lst (S.free hp) bD (((r.flat f).cut lo hi).same (bM hp _) fun _ z=>z)) q3⟩
 | scr h=>
  cases e
  exact .inl ⟨_,_,rfl,h.sqL,fun p hp=>k _ _ _ .fr (S.trans (bM hp _)) (.lst (S.free hp) bD (((Reps.intz _).cut lo hi).same (bM hp _) fun _ z=>z)) q3⟩
 | _=>cases e
structure Df (P:Program) (w:World) (K:PySem.W.Frag) (mg:Str->Option Value) (base:Heap) (k:Nat) (x:Str) (ps:List Str) (p:bK):Prop where
 ex:∃ f fd,cV P w K mg base dL k f fd ps (o7 K p)/\i3 K fd ps []/\PySem.W.keepIn K (.ref f)=true/\mg x=some (.ref f)
theorem bB {k j:Nat}{x:Str}{ps:List Str}{p:bK} (d:Df X.prog X.w X.K X.mg X.base k x ps p) (hr:c9 j X.A) (ha:QA X (e :: es) tr) (hkj:k<=j:=by decide) (hg:Gl X x:=by rfl) (hdb:(x == ("__debug__" : Str))=false:=by decide)
  (he:starEach (e :: es) X.env=(false,eval e X.env) :: starEach es X.env:=by rfl) (hpl:(backTo pos (starEach es X.env)).any (·.1)=false:=by rfl):QE X (.Call (.Name x p2) (e :: es) [] pos) (aB p tr):=by
 obtain ⟨f,fd,F,b,kp,m⟩:=d.ex
 exact c7 (pJ F (hr.mono hkj) hg m kp b .nil C2 ha hdb he hpl) fun _ _ _=>ay4
theorem rG {K:PySem.W.Frag}{H:Hp}{N:List Str}{vs:List V}{xs:List PV} (r:Reps K (fun _=>True) H vs xs):PX K H (fun _=>False) (L2.start N vs) (eW N xs) H:=by
 have lr:=r.length
 have own:∀ {i:Nat}{m:Slot},(eW N xs)[i]? = some (some m)->∃ x,xs[i]? = some x/\m = .sh (flat x) x:=fun {i m} h=>by
  unfold eW at h
  by_cases hi:i < xs.length
  ·rw [List.getElem?_append_left (by simpa using hi),bf4] at h
   rw [be3 hi] at h ⊢
   cases h
   exact⟨_,rfl,rfl⟩
  ·rw [List.getElem?_append_right (by simpa using hi),List.getElem?_replicate] at h
   split at h <;> cases h
 refine⟨by unfold L2.start eW; simp [lr],aD.refl _,fun a z=>z.elim,fun i m h=>?_,fun i j x y a h1=>?_⟩
 ·obtain ⟨x,hx,rfl⟩:=own h
  obtain ⟨v,hv,rx⟩:=r.at hx
  refine⟨v,?_,qY (g:=false) (rx.same (aD.refl _) fun _ _ z=>z)⟩
  have hi:i < vs.length:=(bf0.mp hv).1
  unfold L2.start
  rw [List.getElem?_append_left (by simpa using hi),bf4,hv]; rfl
 ·obtain ⟨x,_,e⟩:=own h1
  cases e
theorem Df.of {P:Program}{w:World}{K:PySem.W.Frag}{mg:Str->Option Value}{base:Heap}{k:Nat}{x:Str}{ps N:List Str}{p:bK}{st:Stmt}{f:Addr}{fd:FuncData} (F:eR K x x st f fd) (m:mg x=some (.ref f)) (S:FnScope N ps (aX st))
  (hb:∀ (kV doc pm:Value) (an:Option Addr) (cdv ct:Value) (us:List Value),us.length=ps.length->bindArgs (PySem.W.fnOf x x (iK st) (dZ st) (aX st) .none kV doc pm an cdv ct) ⟨us,[]⟩=pure (ps.zip us))
  (len:∀ xs Q,p xs Q->xs.length=ps.length)
  (body:∀ (cdv:Value) (A:Around) (outer:List Env) (s:Shared) (H:Hp) (E:XK),c9 k (A.deeper (envOfC x (aX st) s.heap.objs.size f cdv))->
   ∃ t,eZ (dB dL P w K mg base N x (aX st) f cdv A outer s H E).nox (dZ st) t/\∀ xs Q,p xs Q->t { nx:=fun _=>Q .non,rt:=Q } (eW N xs)):Df P w K mg base (k+1) x ps p:=by
 refine⟨f,fd,F.ok S (fun vs H Q E h=>?_) (fun cdv A outer s H vs Q E hr h=>?_),F.binds hb,F.kp,m⟩
 ·obtain ⟨xs,Qp,r,q,_⟩:=h
  rw [r.length]; exact len xs Qp q
 ·obtain ⟨xs,Qp,r,q,k⟩:=h
  obtain ⟨t,ht,hq⟩:=body cdv A outer s H E hr
  refine⟨_,ht,fun _=>False,eW N xs,_,rG r,hq xs Qp q,?_,?_,?_,?_⟩
  ·exact fun W' σ' H' ρ' e px q=>k _ _ _ px.same .non q
  ·exact fun v H' x s r q=>k _ _ _ s r q
  ·exact fun W' σ' H' ρ' e px q=>q
  ·exact fun W' σ' H' ρ' e px q=>q
theorem gY (i:Nat) {x:Str}{tp:Pos}{body:List Stmt}{ti:eU} (hN:X.N.Nodup) (hi:QI X (.Name x tp) e ti) (hb:eZ X body t) (hx:X.N[i]? = some x:=by rfl) (hl:hV X.env.scope x:=by first | exact Or.inl rfl | exact Or.inr rfl) (hf:X.fn x=true ∨ X.env.scope.names.lookup x=some .local:=by first | exact .inl rfl | exact .inr rfl)
  (hp:PassesOwn (model X.prog X.w) X.A X.env X.xe:=by exact PassesOwn.never) (hc:X.calm=true:=by rfl) (hs:∀ x,foldedSetIterable e X.env x=pure x:=by intro _; rfl):QS X (.For (.Name x tp) e body [] pos) (eI ti (bO i) t):=
 N4 hp hc hi (eQ hN hx hl hf) (kT _ i) hb hs
theorem aC5 (i j:Nat) {x y:Str}{tp xp yp:Pos}{kt:Nat}{body:List Stmt}{ti:eU} (hN:X.N.Nodup) (hi:QI X (.Tuple [.Name x xp,.Name y yp] kt tp) e ti) (hb:eZ X body t) (hx:X.N[i]? = some x:=by rfl) (hy:X.N[j]? = some y:=by rfl) (hlx:hV X.env.scope x:=by first | exact Or.inl rfl | exact Or.inr rfl) (hly:hV X.env.scope y:=by first | exact Or.inl rfl | exact Or.inr rfl)
  (hfx:X.fn x=true ∨ X.env.scope.names.lookup x=some .local:=by first | exact .inl rfl | exact .inr rfl) (hfy:X.fn y=true ∨ X.env.scope.names.lookup y=some .local:=by first | exact .inl rfl | exact .inr rfl)
  (hp:PassesOwn (model X.prog X.w) X.A X.env X.xe:=by exact PassesOwn.never) (hc:X.calm=true:=by rfl) (hs:∀ x,foldedSetIterable e X.env x=pure x:=by intro _; rfl):QS X (.For (.Tuple [.Name x xp,.Name y yp] kt tp) e body [] pos) (eI ti (o8 i j) t):=
 N4 hp hc hi (lM hc (gK (eQ hN hx hlx hfx) (gK (eQ hN hy hly hfy) lK))) (K7 _ i j) hb hs
abbrev bV:Value->Shared->Prop:=fun _ _=>False
section
variable {scope : Scope} {N : List Str} {fr : List (Option Nat)} {x y : Str} {tp xp yp : Pos} {kt : Nat} {iter elt : Expr} {ti : eU}
theorem oI {ifs:List Expr}{tcs:bY} (he:∀ (s:Shared) (H:Hp) (C:Addr) (fp:List Addr),QE (bL X scope N s H C fp bV) elt te) (hi:∀ (s:Shared) (H:Hp) (C:Addr) (fp:List Addr),jA (bL X scope N s H C fp bV) ifs (LT (bL X scope N s H C fp bV) tcs))
  (hN:N.Nodup) (h0:N[0]? = some x) (hl:∀ (s:Shared) (H:Hp) (C:Addr) (fp:List Addr),(bL X scope N s H C fp bV).env.scope.names.lookup x=some .local) (s:Shared) (H:Hp) :
  kM X scope N (.Name x tp) ifs elt s H (cG 0) (LT (X.frm H) tcs) (LE (X.frm H) te):=
 ⟨fun C fp=>eQ (X:=bL X scope N s H C fp bV) hN h0 (.inl (hl s H C fp)) (.inr (hl s H C fp)),fun C fp=>hi s H C fp,fun C fp=>he s H C fp⟩
theorem wB {Y:Cx}:jA Y [] (LT Y fH):=fun pins s σ H Q I h=>pV pins s σ H Q I (az3 h)
theorem rH (hi:QI X (.Name x tp) iter ti) (he:∀ (s:Shared) (H:Hp) (C:Addr) (fp:List Addr),QE (bL X scope N s H C fp bV) elt te)
  (hc:X.calm=true:=by rfl) (S:cK X scope N fr:=by exact cK.of rfl rfl) (hN:N.Nodup:=by decide +kernel) (h0:N[0]? = some x:=by rfl) (hl:∀ (s:Shared) (H:Hp) (C:Addr) (fp:List Addr),(bL X scope N s H C fp bV).env.scope.names.lookup x=some .local:=by intro _ _ _ _; rfl) (hf:fr[0]? = some none:=by rfl)
  (hs:∀ x,foldedSetIterable iter X.env x=pure x:=by intro _; rfl):QE X (.ListComp elt [⟨.Name x tp,iter,[],0⟩] scope pos) (cL ti fr (bO 0) fH te):=
 c7 (qA (gh:=fun _=>cG 0) (tch:=fun H=>LT (X.frm H) fH) (teh:=fun H=>LE (X.frm H) te) hc S hi (oI he (fun _ _ _ _=>wB) hN h0 hl) hs) fun _ _ _=>m6 (kT _ 0) (fun i e=>by subst e; exact hf)
theorem iT {c:Expr}{tcs:bY} (hi:QI X (.Name x tp) iter ti) (ht:∀ (s:Shared) (H:Hp) (C:Addr) (fp:List Addr),QT (bL X scope N s H C fp bV) c tcs) (he:∀ (s:Shared) (H:Hp) (C:Addr) (fp:List Addr),QE (bL X scope N s H C fp bV) elt te)
  (hc:X.calm=true:=by rfl) (S:cK X scope N fr:=by exact cK.of rfl rfl) (hN:N.Nodup:=by decide +kernel) (h0:N[0]? = some x:=by rfl) (hl:∀ (s:Shared) (H:Hp) (C:Addr) (fp:List Addr),(bL X scope N s H C fp bV).env.scope.names.lookup x=some .local:=by intro _ _ _ _; rfl) (hf:fr[0]? = some none:=by rfl)
  (hs:∀ x,foldedSetIterable iter X.env x=pure x:=by intro _; rfl):QE X (.ListComp elt [⟨.Name x tp,iter,[c],0⟩] scope pos) (cL ti fr (bO 0) tcs te):=
 c7 (qA (gh:=fun _=>cG 0) (tch:=fun H=>LT (X.frm H) tcs) (teh:=fun H=>LE (X.frm H) te) hc S hi (oI he (fun s H C fp=>pW (ht s H C fp)) hN h0 hl) hs) fun _ _ _=>m6 (kT _ 0) (fun i e=>by subst e; exact hf)
theorem O7 {c:Expr}{tcs:bY}{i:Nat}{z:Str}{zp:Pos} (nd:X.N.Nodup) (hi:QI X (.Name x tp) iter ti) (ht:∀ (s:Shared) (H:Hp) (C:Addr) (fp:List Addr),QT (bL X scope N s H C fp bV) c tcs) (he:∀ (s:Shared) (H:Hp) (C:Addr) (fp:List Addr),QE (bL X scope N s H C fp bV) elt te)
  (hz:X.N[i]? = some z:=by rfl) (hzl:X.env.scope.names.lookup z=some .local:=by rfl) (hsw:swapsWith (.ListComp elt [⟨.Name x tp,iter,[c],0⟩] scope p2) (some (.Name z zp)) pos.line X.env=pure true:=by rfl)
  (hc:X.calm=true:=by rfl) (S:cK X scope N fr:=by exact cK.of rfl rfl) (hN:N.Nodup:=by decide +kernel) (h0:N[0]? = some x:=by rfl) (hl:∀ (s:Shared) (H:Hp) (C:Addr) (fp:List Addr),(bL X scope N s H C fp bV).env.scope.names.lookup x=some .local:=by intro _ _ _ _; rfl) (hf:fr[0]? = some none:=by rfl)
  (hs:∀ x,foldedSetIterable iter X.env x=pure x:=by intro _; rfl):QS X (.Assign [.Name z zp] (.ListComp elt [⟨.Name x tp,iter,[c],0⟩] scope p2) pos) (bG i (cL ti fr (bO 0) tcs te)):=
 dC (uK (gh:=fun _=>cG 0) (tch:=fun H=>LT (X.frm H) tcs) (teh:=fun H=>LE (X.frm H) te) hc S hi (oI he (fun s H C fp=>pW (ht s H C fp)) hN h0 hl) nd hz hzl hsw hs) fun D σ H h=>m6 (kT _ 0) (fun i e=>by subst e; exact hf) (vC h)
theorem aC6 {i:Nat}{z:Str}{zp:Pos} (nd:X.N.Nodup) (hi:QI X (.Name x tp) iter ti) (he:∀ (s:Shared) (H:Hp) (C:Addr) (fp:List Addr),QE (bL X scope N s H C fp bV) elt te)
  (hz:X.N[i]? = some z:=by rfl) (hzl:X.env.scope.names.lookup z=some .local:=by rfl) (hsw:swapsWith (.ListComp elt [⟨.Name x tp,iter,[],0⟩] scope p2) (some (.Name z zp)) pos.line X.env=pure true:=by rfl)
  (hc:X.calm=true:=by rfl) (S:cK X scope N fr:=by exact cK.of rfl rfl) (hN:N.Nodup:=by decide +kernel) (h0:N[0]? = some x:=by rfl) (hl:∀ (s:Shared) (H:Hp) (C:Addr) (fp:List Addr),(bL X scope N s H C fp bV).env.scope.names.lookup x=some .local:=by intro _ _ _ _; rfl) (hf:fr[0]? = some none:=by rfl)
  (hs:∀ x,foldedSetIterable iter X.env x=pure x:=by intro _; rfl):QS X (.Assign [.Name z zp] (.ListComp elt [⟨.Name x tp,iter,[],0⟩] scope p2) pos) (dQ i (cL ti fr (bO 0) fH te)):=
 dC (uK (gh:=fun _=>cG 0) (tch:=fun H=>LT (X.frm H) fH) (teh:=fun H=>LE (X.frm H) te) hc S hi (oI he (fun _ _ _ _=>wB) hN h0 hl) nd hz hzl hsw hs) fun D σ H h=>m6 (kT _ 0) (fun i e=>by subst e; exact hf) (J6 h)
end
theorem aC7:j7 X "list.extend" (J7 X.K):=fun pins s σ H x xs v us Q I rx rs h=>h.elim (ap0 pins s σ H x xs v us Q I rx rs) (av1 pins s σ H x xs v us Q I rx rs)
theorem O8 (i:Nat) {x:Str}{apos cpos xpos:Pos} (he:QE X e te) (hN:X.N[i]? = some x:=by rfl) (hv:eN X.env.scope x:=by first | exact Or.inl rfl | exact Or.inr (Or.inl rfl) | exact Or.inr (Or.inr rfl)) (hd:(x == ("__debug__" : Str))=false:=by decide) (hcd:(x == ("__classdict__" : Str))=false:=by decide)
  (hbase:attributeBase (.Name x xpos) "extend" X.env (eval (.Name x xpos) X.env)=eval (.Name x xpos) X.env:=by rfl)
  (hfew:((backTo cpos (starEach [e] X.env)).all (fun x=>!x.1) && (backToKw cpos (keywordEach [] X.env)).all (fun x=>x.1.isSome) && decide (([e]:List Expr).length+([]:List Keyword).length+(if ([]:List Keyword).isEmpty then 0 else 1) < 30))=true:=by rfl)
  (hline:(apos.endLine == cpos.line)=true:=by rfl) (hs:starEach [e] X.env=(false,eval e X.env) :: starEach [] X.env:=by rfl) (hplain:(backTo cpos (starEach [] X.env)).any (·.1)=false:=by rfl)
  (hsw:swapsWith (.Call (.Attribute (.Name x xpos) "extend" apos) [e] [] cpos) none pos.line X.env=pure false:=by rfl) :
  QS X (.Expr (.Call (.Attribute (.Name x xpos) "extend" apos) [e] [] cpos) pos) (qT i te):=
 dC (jQ (lP bm4 PySem.F.slot_list_extend PySem.F.type_list_extend aC7 (fW hN hv hd hcd) (cP he dP hs) hbase hfew hline hs hplain) hsw) fun _ _ _=>ax4
theorem aC8 (i:Nat) {x:Str}{apos cpos xpos:Pos} (he:QE X e te) (hm:M1 X (.Name x xpos) "update" apos e cpos:=by exact⟨rfl,rfl,rfl,rfl⟩) (hN:X.N[i]? = some x:=by rfl) (hv:eN X.env.scope x:=by first | exact Or.inl rfl | exact Or.inr (Or.inl rfl) | exact Or.inr (Or.inr rfl)) (hd:(x == ("__debug__" : Str))=false:=by decide) (hcd:(x == ("__classdict__" : Str))=false:=by decide)
  (hsw:swapsWith (.Call (.Attribute (.Name x xpos) "update" apos) [e] [] cpos) none pos.line X.env=pure false:=by rfl):QS X (.Expr (.Call (.Attribute (.Name x xpos) "update" apos) [e] [] cpos) pos) (vL i te):=
 dC (jQ (au9 (fW hN hv hd hcd) he hm) hsw) fun _ _ _=>aA0
theorem O9 {i:Nat}{x:Str}{xpos tpos:Pos} (hk:QE X a tk) (he:QE X e te) (hN:X.N[i]? = some x:=by rfl) (hv:eN X.env.scope x:=by first | exact Or.inl rfl | exact Or.inr (Or.inl rfl) | exact Or.inr (Or.inr rfl)) (hd:(x == ("__debug__" : Str))=false:=by decide) (hcd:(x == ("__classdict__" : Str))=false:=by decide)
  (hp:∀ (tx:TE) (tg:TE),PE X (.Name x xpos) tx->PE X a tg->PG X (.Subscript (.Name x xpos) a tpos) (tI tx tg u6):=by intro _ _ h1 h2; exact ai7 h1 h2 an8)
  (hs:swapsWithSole [.Subscript (.Name x xpos) a tpos] e pos.line X.env=pure false:=by rfl) (hw:swappedStores [.Subscript (.Name x xpos) a tpos] e X.env=pure none:=by rfl) :
  QS X (.Assign [.Subscript (.Name x xpos) a tpos] e pos) (qU i tk te):=dC (yI he (hp _ _ (fW hN hv hd hcd) hk) hs hw) fun _ _ _=>ax5
end
end PP
namespace SO
open PySem PyProof.Rows
variable {rk : Keyed → Int}
section
variable {κ : SortKind} {a0 : Array Keyed} {pd : Array (Nat × Nat × Nat)} {st : SortSt} {prog : Program} {w : World} {A : Around} {E : Value → Shared → Prop} {s : Shared} {Ok : Keyed → Prop}
abbrev DS:=Option (Option Nat) × Nat × Nat
end
abbrev LS:=Option (Array Keyed) × Array Keyed × Nat × Nat × Nat × Nat × Nat
abbrev LO:=Option (Array Keyed) × Array Keyed × Nat × Nat × Nat
variable {rk : Keyed → Int} {xs ys o : List Keyed} {i j : Nat}
variable {rk : Keyed → Int} {xs ys o : List Keyed} {i j : Nat}
variable {rk : Keyed → Int}
def Ch:Nat->List (Nat × Nat)->Nat->Prop
 | a,[],b=>a=b
 | a,(p,n) :: r,b=>p=a/\0 < n/\Ch (a+n) r b
variable {rk : Keyed → Int} {κ : SortKind} {a0 : Array Keyed} {pd : Array (Nat × Nat × Nat)} {st : SortSt} {prog : Program} {w : World} {A : Around} {E : Value → Shared → Prop} {s : Shared} {Ok : Keyed → Prop}
end SO
namespace L2
open PySem PySem.Spec PyProof.Rows
theorem bR.at {P:Program}{w:World}{H:Hp}{h:Heap}{a:Addr}{o:HO} (x:bR P w H h a o):∃ ob,h.get? a=some ob:=by
 cases o with
 | lst xs=>obtain ⟨_,_,_,_,e⟩:=x; exact⟨_,e⟩
 | tup xs=>obtain ⟨_,_,_,⟨_,e,_⟩,_⟩:=x; exact⟨_,e⟩
 | dK kvs=>obtain ⟨_,_,_,_,_,_,_,e,_⟩:=x; exact⟨_,e⟩
 | dT kvs=>obtain ⟨_,_,_,_,_,_,_,e,_⟩:=x; exact⟨_,e⟩
 | set S n=>obtain ⟨_,_,_,_,e,_⟩:=x; exact⟨_,e⟩
 | ins C dx fs=>obtain ⟨_,_,_,e,_⟩:=x; exact⟨_,e⟩
 | own y=>exact x
 | xd fs=>obtain ⟨_,⟨_,_,_,e,_⟩,_⟩:=x; exact⟨_,e⟩
 | rng lo hi=>obtain ⟨_,_,_,e⟩:=x; exact⟨_,e⟩
 | frz ob u=>obtain ⟨e,_⟩:=x; exact⟨_,e⟩
 | tbl ps=>exact⟨_,x⟩
 | met f y=>exact⟨_,x⟩
 | ext φ=>exact x.2.1
structure kX (P:Program) (w:World) (outer:List Env) (H:Hp) (s:Shared) (H':Hp) (B:Heap) (a C:Addr) (s':Shared):Prop where
 os:s'.os=s.os
 bare:AllBare s'.gens
 un:Un (bT outer) [] H H' s.heap s'.heap
 hok:bW P w H' s'.heap
 fly:∃ a0,Heap.FlyingW B outer a (.ref C) a0 s'.heap
 b0:∀ b o,s.heap.get? b=some o->b ∉ bT outer->∃ o',B.get? b=some o'
 b1:∀ b o,s.heap.get? b=some o->H b=none->b ∉ bT outer->B.get? b=some o
 b2:∀ b u o,H' b=some u->s'.heap.get? b=some o->B.get? b=some o
def eC (P:Program) (w:World):gN:=fun outer H s E e s'=>∃ (H':Hp) (B:Heap) (a C:Addr),e = .ref a/\kX P w outer H s H' B a C s'/\E (.ref C) none H'
section
variable {P : Program} {w : World} {outer : List Env} {H H' : Hp} {s s' : Shared} {B h2 : Heap} {a C : Addr}
theorem kX.fresh (f:kX P w outer H s H' B a C s'):H' a=none:=by
 cases q:H' a with
 | none=>rfl
 | some u=>
  obtain ⟨ob,e⟩:=(f.hok a u q).at
  have z:=f.b2 a u ob q e
  obtain ⟨_,_,n,_⟩:=f.fly
  rw [n] at z; cases z
theorem kX.hok2 (f:kX P w outer H s H' B a C s') (k:B.StaysIn h2):bW P w H' h2:=fun b u e=>
 (f.hok b u e).stay (fun c v hc q=>by
  rcases hc with z | z
  ·subst z; exact k _ _ (f.b2 _ _ _ e q)
  ·exact k _ _ (f.b2 _ _ _ z q)) (fun _ q=>q) fun _ _ q=>q
end
section
variable {P : Program} {w : World} {K : PySem.W.Frag} {mg : Str → Option Value} {base : Heap} {N : List Str} {qual : Str} {scope : Scope} {f : Addr} {cd : Value} {A : Around} {outer : List Env} {s₀ : Shared} {H₀ : Hp} {E₀ E₁ : XK}
theorem rJ {pins:List (Addr × Obj)}{σ:St}{H:Hp}{s:Shared} (I:a8 (dB (eC P w) P w K mg base N qual scope f cd A outer s₀ H₀ E₀) pins σ H s) {b:Addr}{o:Obj} (e:s₀.heap.get? b=some o) (n:b ∉ bT outer) :
  b ∉ bT (envOfC qual scope s₀.heap.objs.size f cd :: outer):=fun z=>by
 rcases be9.mp (I.stkSub b z) with y | y
 ·have l:=bf8 e
  have y:b=s₀.heap.objs.size:=y
  exact absurd l (by rw [y]; exact bj7 _)
 ·exact n y
theorem aC9 (hE:∀ c d H',E₁ c d H'->E₀ c d H'):nJ (eC P w) (dB (eC P w) P w K mg base N qual scope f cd A outer s₀ H₀ E₀) E₁:=by
 intro pins σ H s e s' I hx
 obtain ⟨H',B,a,C,e1,fl,q⟩:=hx
 subst e1
 have I':=I.call' fl.os fl.un fl.hok fl.bare (ch:=[]) (fun b z=>absurd z (by simp))
 obtain ⟨a0,fly⟩:=fl.fly
 refine wpAny_leaves_onW I.ok.frames rfl fly fun h' fly' up=>?_
 have slot:∀ b o,s₀.heap.get? b=some o->b ∈ bT outer->∃ sl,h'.get? b=some { o with slots:=sl }:=fun b o e hb=>by
  obtain ⟨sl,e1⟩:=I'.base.slot b o e (I.ok.frf b hb) hb (fun z=>nomatch z)
  obtain ⟨_,o2,e2,nf⟩:=I.ok.funs.mem hb
  rw [show (dB (eC P w) P w K mg base N qual scope f cd A outer s₀ H₀ E₀).s₀=s₀ from rfl,e] at e2
  cases e2
  obtain ⟨sl',e3⟩:=up b _ e1 nf
  exact⟨sl',e3⟩
 have old:∀ b o,s₀.heap.get? b=some o->H₀ b=none->b ∉ bT outer->B.get? b=some o:=fun b o e n hb=>
  fl.b1 b o (I.base.keep b o e n hb (fun z=>nomatch z)) (I.base.free b o e n (fun z=>nomatch z)) (rJ I e hb)
 have old0:∀ b o,s₀.heap.get? b=some o->b ∉ bT outer->∃ o',B.get? b=some o':=fun b o e hb=>by
  obtain ⟨o1,e1⟩:=I.base.there b o e (fun z=>nomatch z)
  exact fl.b0 b o1 e1 (rJ I e hb)
 refine⟨H',B,a,C,rfl,⟨I'.os,I'.bare,⟨fun b o e n hb _=>fly'.1 _ _ (old b o e n hb),fun b o e n hb _=>slot b o e hb,fun b o e n hx=>I'.base.free b o e n hx,fun b o e _=>?_,I'.base.tups,I'.base.frzs,I'.base.tbls⟩,fl.hok2 fly'.1,⟨a0,fly'⟩,old0,old,fun b u o e h=>?_⟩,hE _ _ _ q⟩
 ·by_cases hb:b ∈ bT outer
  ·obtain ⟨sl,e1⟩:=slot b o e hb
   exact⟨_,e1⟩
  ·obtain ⟨o',e1⟩:=old0 b o e hb
   exact⟨o',fly'.1 _ _ e1⟩
 ·obtain ⟨ob,e1⟩:=(fl.hok b u e).at
  have e2:=fl.b2 b u ob e e1
  have e3:=fly'.1 _ _ e2
  have h:h'.get? b=some o:=h
  rw [h] at e3; cases e3; exact e2
theorem aD0 {pins:List (Addr × Obj)}{σ:St}{H:Hp}{s:Shared}{h':Heap}{e C:Addr}{args:List Value} (I:a8 (dB (eC P w) P w K mg base N qual scope f cd A outer s₀ H₀ E₀) pins σ H s) (mx:Heap.MadeExcOf s.heap h' e (.ref C) args) (q:E₀ (.ref C) none H) :
  (dB (eC P w) P w K mg base N qual scope f cd A outer s₀ H₀ E₀).xe (.ref e) { s with heap:=h' }:=by
 have tr:∀ b u,H b=some u->b ∉ bT (envOfC qual scope s₀.heap.objs.size f cd :: outer):=fun b u z n=>by
  rw [I.stkFree b n] at z; cases z
 have inB:∀ b o,s.heap.get? b=some o->b ∉ bT (envOfC qual scope s₀.heap.objs.size f cd :: outer)->(PySem.W.hideAll s.heap (bT (envOfC qual scope s₀.heap.objs.size f cd :: outer))).get? b=some o:=fun b o z n=>PySem.W.hideAll_get _ z n
 refine wpAny_leaves_madeW (base:=PySem.W.hideAll s.heap (bT (envOfC qual scope s₀.heap.objs.size f cd :: outer))) I.ok.frames rfl (fun b o z=>PySem.W.of_hideAll _ z) (PySem.W.funFrames_hide I.stack fun env he b hb=>List.mem_filterMap.mpr ⟨env,he,hb⟩) mx fun h'' t fly _ _ up=>?_
 have slot:∀ b o,s₀.heap.get? b=some o->b ∈ bT outer->∃ sl,h''.get? b=some { o with slots:=sl }:=fun b o e hb=>by
  obtain ⟨sl,e1⟩:=I.base.slot b o e (I.ok.frf b hb) hb (fun z=>nomatch z)
  obtain ⟨_,o2,e2,nf⟩:=I.ok.funs.mem hb
  rw [show (dB (eC P w) P w K mg base N qual scope f cd A outer s₀ H₀ E₀).s₀=s₀ from rfl,e] at e2
  cases e2
  obtain ⟨sl',e3⟩:=up b _ (mx.keeps _ _ e1) nf
  exact⟨sl',e3⟩
 have old:∀ b o,s₀.heap.get? b=some o->H₀ b=none->b ∉ bT outer->(PySem.W.hideAll s.heap (bT (envOfC qual scope s₀.heap.objs.size f cd :: outer))).get? b=some o:=fun b o e n hb=>
  inB b o (I.base.keep b o e n hb (fun z=>nomatch z)) (rJ I e hb)
 have old0:∀ b o,s₀.heap.get? b=some o->b ∉ bT outer->∃ o',(PySem.W.hideAll s.heap (bT (envOfC qual scope s₀.heap.objs.size f cd :: outer))).get? b=some o':=fun b o e hb=>by
  obtain ⟨o1,e1⟩:=I.base.there b o e (fun z=>nomatch z)
  exact⟨o1,inB b o1 e1 (rJ I e hb)⟩
 refine⟨H,_,e,C,rfl,⟨I.os,I.bare,⟨fun b o e n hb _=>fly.1 _ _ (old b o e n hb),fun b o e n hb _=>slot b o e hb,fun b o e n hx=>I.base.free b o e n hx,fun b o e _=>?_,I.base.tups,I.base.frzs,I.base.tbls⟩,fun b u z=>?_,⟨_,fly⟩,old0,old,fun b u o z h=>?_⟩,q⟩
 ·by_cases hb:b ∈ bT outer
  ·obtain ⟨sl,e1⟩:=slot b o e hb
   exact⟨_,e1⟩
  ·obtain ⟨o',e1⟩:=old0 b o e hb
   exact⟨o',fly.1 _ _ e1⟩
 ·refine (I.hok b u z).stay (fun c v hc y=>?_) (fun _ y=>y) fun _ _ y=>y
  rcases hc with z' | z'
  ·subst z'; exact fly.1 _ _ (inB _ _ y (tr _ _ z))
  ·exact fly.1 _ _ (inB _ _ y (tr _ _ z'))
 ·obtain ⟨ob,e1⟩:=(I.hok b u z).at
  have e2:=inB b ob e1 (tr b u z)
  have e3:=fly.1 _ _ e2
  have h:h''.get? b=some o:=h
  rw [h] at e3; cases e3; exact e2
end
structure mE (X:Cx) (E:XK):Prop where
 pass:nJ (eC X.prog X.w) X E
 made:∀ (pins:List (Addr × Obj)) (σ:St) (H:Hp) (s:Shared) (h':Heap) (e C:Addr) (args:List Value),a8 X pins σ H s->Heap.MadeExcOf s.heap h' e (.ref C) args->E (.ref C) none H->X.xe (.ref e) { s with heap:=h' }
 own:PassesOwn (model X.prog X.w) X.A X.env X.xe
theorem aD1 {P:Program}{w:World}{K:PySem.W.Frag}{mg:Str->Option Value}{base:Heap}{N:List Str}{qual:Str}{scope:Scope}{f:Addr}{cd:Value}{A:Around}{outer:List Env}{s₀:Shared}{H₀:Hp}{E₀ E₁:XK} (hE:∀ c d H',E₁ c d H'->E₀ c d H') :
  mE (dB (eC P w) P w K mg base N qual scope f cd A outer s₀ H₀ E₀) E₁:=
 ⟨aC9 hE,fun _ _ _ _ _ _ _ _ I mx q=>aD0 I mx (hE _ _ _ q),PassesOwn.leaving⟩
def P0 (E:XK) (C:Addr) (t:TA):TS:=fun _ σ H=>t σ H fun vs H1=>vs.length<=sizeLine/\E (.ref C) none H1
theorem aD2 {X:Cx}{E:XK}{x:Str}{C:Addr}{bm:List Value}{B newId initId:String}{np cpos pos:Pos}{e:Expr}{es:List Expr}{t:TA} (hX:mE X E) (hc:X.calm=true) (O:OwnCls x C bm newId X.mg X.base) (FB:ExcBaseFacts B newId initId bm) (ha:PA X (e :: es) t) (hg:Gl X x)
  (hd:(x == ("__debug__" : Str))=false:=by decide) (he:starEach (e :: es) X.env=(false,eval e X.env) :: starEach es X.env:=by rfl) (hpl:(backTo cpos (starEach es X.env)).any (·.1)=false:=by rfl) :
  PS X (.Raise (some (.Call (.Name x np) (e :: es) [] cpos)) none pos) (P0 E C t):=by
 intro pins s σ H D I h
 obtain ⟨tl,Na,nm,qn,bs,hx,sn,sub,ab,col,dd,k0,k1,k2,k3,k5,mN,hC,hN,hni,T⟩:=O.obj
 refine wpAny_Raise_call_subT (nm:=nm) (q:=qn) (N:=Na) (bs:=bs) (bm:=tl) (hdct:=hx) (sn:=sn) (sub:=sub) (ab:=ab) (col:=col) (dd:=dd) (k0:=k0) (k1:=k1) (k2:=k2) (k3:=k3) (k5:=k5) FB (C:=C) (mN:=mN) (T.hasType FB.hasBase) (I.ok.hd hc) (by rw [he]; show (false || (backTo cpos (starEach es X.env)).any (·.1))=false; rw [hpl]; rfl) hni (nB I hg O.bound ⟨rfl,?_⟩ hd)
 have h1:=ha cpos pins s σ H _ I h
 rw [he] at h1 ⊢
 refine bs8 (bm2 h1 (fun us s2 h2=>?_) fun _ _ y=>y)
 obtain ⟨vs,H2,I2,r,hl,q⟩:=h2
 have r:aQ vs us:=r
 exact⟨rfl,by show us.length<=sizeLine; rw [<- r.length]; exact hl,I2.bk _ _ hC,hN.keeps I2.bk,T.keeps I2.bk,fun h' e' mx=>hX.made pins σ H2 s2 h' e' C _ I2 mx q⟩
theorem eR.okX {P:Program}{w:World}{K:PySem.W.Frag}{mg:Str->Option Value}{base:Heap}{x qual:Str}{st:Stmt}{f:Addr}{fd:FuncData}{N ps:List Str}{k:Nat}{sp:Sp} (F:eR K x qual st f fd) (S:FnScope N ps (aX st)) (len:∀ vs H Q E,sp vs H Q E->vs.length=ps.length)
  (hbody:∀ (cdv:Value) (A:Around) (outer:List Env) (s:Shared) (H:Hp) (vs:List V) (Q:VK) (E:XK),c9 k (A.deeper (envOfC qual (aX st) s.heap.objs.size f cdv))->sp vs H Q E->
   ∃ t,dA (dB (eC P w) P w K mg base N qual (aX st) f cdv A outer s H E) (dZ st) t/\t { nx:=fun _ H'=>Q .non H',rt:=Q } (start N vs) H):cV P w K mg base (eC P w) (k+1) f fd ps sp:=by
 obtain ⟨oc,od,kV,doc,pm,an,cdv,ct,osl,rfl,lk,hcd⟩:=F.ex
 exact zL lk hcd S len fun A outer s H vs Q E hr hsp=>hbody cdv A outer s H vs Q E hr hsp
section
variable {X : Cx} {pins : List (Addr × Obj)} {σ : St} {H H1 H' : Hp} {s s1 s' : Shared} {B h2 : Heap} {a C : Addr}
theorem P3 {oe:Obj} (I:a8 X pins σ H1 s1) (fl:kX X.prog X.w X.stack H1 s1 H' B a C s') (st:B.StaysIn h2) (up:s'.heap.UpToSlots h2) (he:h2.get? a=some oe) :
  a8 X pins σ (upd H' a (.frz oe (.own a))) { s' with heap:=h2 }:=by
 obtain ⟨a0,fly⟩:=fl.fly
 have na:B.get? a=none:=fly.2.1
 have nf:a ∉ bT X.stack:=fun z=>by
  obtain ⟨_,o,e,d⟩:=fly.2.2.1.mem z
  obtain ⟨o2,vs,e2,_,d2,_⟩:=fly.first
  rw [e] at e2; cases e2
  exact d vs d2
 have nb:∀ b o,s1.heap.get? b=some o->b ≠ a:=fun b o e z=>by
  subst z
  obtain ⟨o',e'⟩:=fl.b0 _ o e nf
  rw [na] at e'; cases e'
 have nt:∀ b u,H' b=some u->b ≠ a:=fun b u e z=>by
  subst z; rw [fl.fresh] at e; cases e
 have off:∀ b,b ≠ X.env.locals->b ∉ X.fs->b ∉ bT X.stack:=fun b n1 n2 z=>(be9.mp (I.stkSub b z)).elim n1 n2
 have slot:∀ b o,s1.heap.get? b=some o->b ∈ bT X.stack->∃ sl,h2.get? b=some { o with slots:=sl }:=fun b o e hb=>by
  obtain ⟨sl,e1⟩:=fl.un.any e (I.stkFree b hb) (fun z=>nomatch z)
  obtain ⟨_,o2,e2,d⟩:=I.stack.mem hb
  rw [e] at e2; cases e2
  obtain ⟨sl',e3⟩:=up b _ e1 d
  exact⟨sl',e3⟩
 have ns:∀ m,s1.heap.Ns X.env.locals m->h2.Ns X.env.locals m:=fun m hm=>by
  obtain ⟨o,es,ep,e,r⟩:=hm
  obtain ⟨sl,e1⟩:=fl.un.any e I.free (fun z=>nomatch z)
  exact up.ns ⟨_,es,ep,e1,r⟩
 have hok:bW X.prog X.w (upd H' a (.frz oe (.own a))) h2:=fun b u e=>by
  by_cases hb:b=a
  ·subst hb; rw [bD] at e; cases e; exact⟨he,_,he⟩
  ·rw [aI hb] at e
   exact (fl.hok2 st b u e).stay (fun _ _ _ q=>q) (fun c q=>by rw [aI (nt c _ q)]; exact q) fun c xs q=>by rw [aI (nt c _ q)]; exact q
 have bare:=fl.bare
 have un:=fl.un
 have b0:=fl.b0
 have b1:=fl.b1
 have os:=fl.os
 clear fl fly up
 obtain ⟨hh,g,d,t,os'⟩:=s'
 obtain rfl:os'=s1.os:=os
 show a8 X pins σ _ { s1 with heap:=h2,gens:=g,drawn:=d,toks:=t }
 refine I.step (h':=h2) (g':=g) (d':=d) (t':=t) (ch:=[]) (fun _ z=>nomatch z) (fun b o n1 n2 _ e n=>st _ _ (b1 b o e n (off b n1 n2))) (fun b o n1 hb _ e n=>?_) (fun b o _ e n=>by rw [aI (nb b o e)]; exact un.free b o e n (fun z=>nomatch z)) (fun b o _ e=>?_)
  (fun b xs q=>by rw [aI (nt b _ (un.tups b xs q))]; exact un.tups b xs q) (fun b o u q=>by rw [aI (nt b _ (un.frzs b o u q))]; exact un.frzs b o u q) (fun b ps q=>by
   obtain ⟨more,q'⟩:=un.tbls b ps q
   exact⟨more,by rw [aI (nt b _ q')]; exact q'⟩) ns hok bare
 ·by_cases hs:b ∈ bT X.stack
  ·exact slot b o e hs
  ·exact⟨o.slots,st _ _ (b1 b o e n hs)⟩
 ·by_cases hb:b ∈ bT X.stack
  ·obtain ⟨sl,e1⟩:=slot b o e hb
   exact⟨_,e1⟩
  ·obtain ⟨o',e1⟩:=b0 b o e hb
   exact⟨o',st _ _ e1⟩
abbrev Cx.suite (X:Cx) (a:Addr):Cx:={ X with A:=X.A.mark (some (.ref a)),calm:=false,xe:=fun _ _=>False }
theorem Cx.Ok.suite {X:Cx} (ok:X.Ok) (a:Addr):(X.suite a).Ok:=
 ⟨ok.mod,ok.kind,ok.glob,ok.blt,ok.above,ok.inj,ok.has,ok.cab,fun z=>Bool.noConfusion z,ok.frames,ok.stk,ok.exf,ok.bs,ok.bsz,ok.noex,ok.exfs,ok.funs,ok.frf⟩
theorem a8.suite (I:a8 X pins σ H s) (a:Addr):a8 (X.suite a) pins σ H s:=⟨I.ok.suite a,I.os,I.bare,I.base,I.loc,I.cell,I.free,I.freeC,I.pin,I.hok,I.len⟩
theorem a8.unsuite (I:a8 (X.suite a) pins σ H s) (ok:X.Ok):a8 X pins σ H s:=⟨ok,I.os,I.bare,I.base,I.loc,I.cell,I.free,I.freeC,I.pin,I.hok,I.len⟩
theorem rK {M:Model}{A:Around}{E:Value->Shared->Prop}{i:Nat}{x:Str}{pos:Pos}{Q:Unit->Shared->Prop} (I:a8 X pins σ H s) (hN:X.N.Nodup) (hi:X.N[i]? = some x) (hk:X.env.scope.names.lookup x=some .local)
  (h:∀ s',a8 X pins (σ.set i none) H s'->Q () s'):wpAny M A (do bindName X.env x .none; unbindBehindTheSuite X.env x pos) Q E s:=by
 obtain ⟨m,hn,hl⟩:=id I.loc
 obtain ⟨oL,_,_,hoL,_⟩:=id hn
 have ab:∀ b o,X.s₀.heap.get? b=some o->b ≠ X.env.locals:=fun b o e=>bh5 (bf2 (bf8 e) I.ok.above)
 refine wpAny_nameGoes_keeps hk hn (by rw [I.ok.kind]; rfl) fun h' v hn' hs=>?_
 refine h _ ⟨I.ok,I.os,I.bare,⟨fun b o e n hb hx=>(hs.2 b (ab b o e)).trans (I.base.keep b o e n hb hx),fun b o e n hb hx=>?_,I.base.free,fun b o e hx=>?_,I.base.tups,I.base.frzs,I.base.tbls⟩,⟨_,hn',fun j y v' e1 e2 e3=>?_⟩,fun y c e=>?_,I.free,I.freeC,fun p hp=>?_,fun b u e=>?_,by simpa using I.len⟩
 ·obtain ⟨sl,e1⟩:=I.base.slot b o e n hb hx
  exact⟨sl,(hs.2 b (ab b o e)).trans e1⟩
 ·obtain ⟨o',e1⟩:=I.base.there b o e hx
  exact⟨o',(hs.2 b (ab b o e)).trans e1⟩
 ·by_cases hj:j=i
  ·subst hj
   have hjl:j < σ.length:=by rw [I.len]; exact (bf0.mp hi).1
   rw [bh9 hjl] at e2
   cases e2
  ·rw [bg3 (Ne.symm hj)] at e2
   obtain ⟨u',r',q⟩:=hl j y v' e1 e2 e3
   refine⟨u',r',?_⟩
   rcases q with ⟨k,e⟩ | ⟨k,c,e,z⟩
   ·have ny:y ≠ x:=fun z=>hj (tD hN e1 (z ▸ hi))
    exact .inl ⟨k,by simp [ny,e]⟩
   ·exact .inr ⟨k,c,e,z.sameBut hs (I.cne y c e)⟩
 ·obtain ⟨w',z⟩:=I.cell y c e
  exact⟨w',z.sameBut hs (I.cne y c e)⟩
 ·obtain ⟨e,n,ne,nf,d⟩:=I.pin p hp
  exact⟨(hs.2 p.1 ne).trans e,n,ne,nf,d⟩
 ·refine (I.hok b u e).stay (fun c v hc q=>(hs.2 c fun z=>?_).trans q) (fun _ q=>q) fun _ _ q=>q
  subst z
  rcases hc with z | z
  ·subst z; rw [I.free] at e; cases e
  ·rw [I.free] at z; cases z
theorem aD3 {M:Model}{A:Around}{E:Value->Shared->Prop}{K:PySem.W.Frag}{e C D:Addr}{oe:Obj}{Q:Bool->Shared->Prop} (k:K.In s.heap) (he:s.heap.get? e=some oe) (hc:oe.cls = .ref C) (h1:(PySem.W.clsIn K D).isSome=true) (h2:PySem.W.typeIn K (.ref D)=some (.type "type"))
  (h3:PySem.W.subIn K (.ref D) (.type "BaseException")=some true) (h4:PySem.W.subIn K (.ref C) (.ref D)=some true) (hq:Q true s):wpAny M A (excMatches (.ref e) (.ref D)) Q E s:=by
 obtain ⟨h,g,d,t,os⟩:=s
 have k:K.In h:=k
 have he:h.get? e=some oe:=he
 have l1:PySem.W.Looks M h (isType (.ref D)) true:=by
  unfold PySem.W.clsIn at h1
  split at h1
  ·rename_i c' d' cd' sl' ho
   intro A' Q' E' s' kk q
   unfold isType loadHead
   exact bd9 (wpAny_loadPart (kk _ _ (k _ _ ho)) (be4 q))
  ·cases h1
 have l2:PySem.W.Looks M h (typeOf (.ref D)) (.type "type"):=PySem.W.looks_typeIn k h2
 have l3:PySem.W.Looks M h (isSubtype (.ref D) (.type "BaseException")) true:=PySem.W.looks_subIn k h3
 have l4:PySem.W.Looks M h (isSubtype (.ref C) (.ref D)) true:=PySem.W.looks_subIn k h4
 have l5:PySem.W.Looks M h (typeOf (.ref e)) (.ref C):=hc ▸ (PySem.W.Looks.ld he).andThen .now
 have l6:PySem.W.Looks M h (isInstance (.ref D) (.type "tuple")) false:=l2.andThen (PySem.W.Looks.of_pure tc_notTuple)
 have l7:PySem.W.Looks M h (isExcClass (.ref D)) true:=by
  unfold isExcClass
  exact l1.andThen (by simpa using l3)
 have f:=tc_notTuple
 unfold excMatches
 repeat (first | exact hq | (with_reducible refine l2.at ?_) | (with_reducible refine l7.at ?_) | (with_reducible refine l1.at ?_) | (with_reducible refine l3.at ?_) | (with_reducible refine l5.at ?_) | (with_reducible refine l4.at ?_) | wp_step)
end
def wC (D:bS) (i:Nat):bS:={ nx:=fun σ H=>D.nx (σ.set i none) H,rt:=D.rt,bk:=fun σ H=>D.bk (σ.set i none) H,ct:=fun σ H=>D.ct (σ.set i none) H }
section
variable {X : Cx} {pins : List (Addr × Obj)} {σ : St} {H H1 H' : Hp} {s s1 s' : Shared} {B : Heap} {a C Ch : Addr} {i : Nat} {x n : Str} {np pos hpos : Pos} {b₀ : Stmt} {suite : List Stmt} {ts : TS} {D : bS} {cJ : List ExceptHandler}
structure wD (K:PySem.W.Frag) (Ch:Addr):Prop where
 c1:(PySem.W.clsIn K Ch).isSome=true
 c2:PySem.W.typeIn K (.ref Ch)=some (.type "type")
 c3:PySem.W.subIn K (.ref Ch) (.type "BaseException")=some true
theorem aD4 (I:a8 X pins σ H1 s1) (fl:kX X.prog X.w X.stack H1 s1 H' B a C s') (hstk:X.stack=X.env :: X.outer/\X.env.frame=some X.env.locals) (hg:Gl X x) (hm:X.mg x=some (.ref Ch)) (ct:wD X.K Ch) (sub:PySem.W.subIn X.K (.ref C) (.ref Ch)=some true)
  (hN:X.N.Nodup) (hi:X.N[i]? = some n) (hl:X.env.scope.names.lookup n=some .local) (hs:dA (X.suite a) (b₀ :: suite) ts) (q:∀ oe:Obj,oe.cls = .ref C->ts (wC D i) (σ.set i (some (.ref a))) (upd H' a (.frz oe (.own a)))) (hd:(x == ("__debug__" : Str))=false) :
  wpAny (model X.prog X.w) X.A (noteFrame (.ref a) X.env) (fun _ s₂=>wpAny (model X.prog X.w) X.A (setFlight (.ref a) none) (fun _ s₃=>wpAny (model X.prog X.w) X.A (handleBy (.ref a) X.env (.ExceptHandler (some (.Name x np)) (some n) (b₀ :: suite) hpos :: cJ)) (SP X pins D) X.xe s₃) X.xe s₂) X.xe s':=by
 obtain ⟨a0,fly⟩:=fl.fly
 rw [hstk.1] at fly
 refine wpAny_looks_onW (outer:=X.outer) (L:=X.env.locals) (by rw [I.ok.frames,hstk.1]) hstk.2 fly fun h4 held up4=>wpAny_landsW held fun h5 fly5 up5=>?_
 obtain ⟨o5,v5,e5,c5,_⟩:=fly5.first
 have I5:=P3 I fl fly5.1 (up4.trans up5) e5
 refine wpAny_handleBy_cons (codeAny_handlers_test (nB (I5.suite a) hg hm ?_ hd)) (by intro z; cases z)
 refine aD3 I5.kIn e5 c5 ct.c1 ct.c2 ct.c3 sub ?_
 show codeAny (model X.prog X.w) (X.A.mark (some (.ref a))) (.handlers (.ref a) [.ExceptHandler none (some n) (b₀ :: suite) hpos] X.env) _ _
 refine codeAny_handlers_suite_as (lands_againW fly5 fun h6 fly6 up6=>?_)
 obtain ⟨o6,v6,e6,c6,_⟩:=fly6.first
 have I6:=P3 I fl fly6.1 ((up4.trans up5).trans up6) e6
 refine tF I6 hN hi (.inl hl) (v:=.ref a) rfl (fun s7 I7=>?_) (.inr hl)
 refine bm2 (hs pins s7 _ _ (wC D i) (I7.suite a) (q o6 c6)) (fun f s8 h8=>?_) fun _ _ z=>z.elim
 show wpAny (model X.prog X.w) X.A (do bindName X.env n .none; unbindBehindTheSuite X.env n hpos) (fun _ s9=>SP X pins D f s9) X.xe s8
 cases f with
 | next=>obtain ⟨σ',H',J,q⟩:=h8; exact rK (J.unsuite I.ok) hN hi hl fun s9 J9=>⟨_,_,J9,q⟩
 | brk=>obtain ⟨σ',H',J,q⟩:=h8; exact rK (J.unsuite I.ok) hN hi hl fun s9 J9=>⟨_,_,J9,q⟩
 | cont=>obtain ⟨σ',H',J,q⟩:=h8; exact rK (J.unsuite I.ok) hN hi hl fun s9 J9=>⟨_,_,J9,q⟩
 | ret u=>obtain ⟨v,σ',H',J,r,q⟩:=h8; exact rK (J.unsuite I.ok) hN hi hl fun s9 J9=>⟨v,_,_,J9,r,q⟩
end
abbrev TB:=bS->XK->St->Hp->Prop
def XB (X:Cx) (pins:List (Addr × Obj)) (σ:St) (Ex:XK):Value->Shared->Prop:=fun e s'=>∃ H1 s1,a8 X pins σ H1 s1/\eC X.prog X.w X.stack H1 s1 Ex e s'
def PB (X:Cx) (sts:List Stmt) (t:TB):Prop:=
 ∀ (pins:List (Addr × Obj)) (s:Shared) (σ:St) (H:Hp) (D:bS) (Ex:XK),a8 X pins σ H s->t D Ex σ H->wpAny (model X.prog X.w) X.A (execs sts X.env) (SP X pins D) (XB X pins σ Ex) s
def aD5 (sp:Sp) (t:TA):TB:=fun D Ex σ H=>t σ H fun vs H1=>sp vs H1 (fun _ H2=>D.nx σ H2) Ex
def aD6 (c:TT) (t u:TB):TB:=fun D Ex σ H=>c σ H fun b H1=>if b=true then t D Ex σ H1 else u D Ex σ H1
section
variable {X : Cx} {k : Nat} {f Ch : Addr} {fd : FuncData} {ps : List Str} {sp : Sp} {x n : Str} {p cp pos np hpos : Pos} {e c : Expr} {es : List Expr} {t : TA} {tb ub : TB} {tc : TT} {sa sb body : List Stmt} {i : Nat} {b₀ : Stmt} {suite : List Stmt} {ts : TS}
theorem aD7 (F:cV X.prog X.w X.K X.mg X.base (eC X.prog X.w) k f fd ps sp) (hr:c9 k X.A) (hg:Gl X x) (hm:X.mg x=some (.ref f)) (hk:PySem.W.keepIn X.K (.ref f)=true) (hb:i3 X.K fd ps []) (ha:∀ E,PA (X.wish E) (e :: es) t)
  (hdb:(x == ("__debug__" : Str))=false:=by decide) (he:starEach (e :: es) X.env=(false,eval e X.env) :: starEach es X.env:=by rfl) (hpl:(backTo cp (starEach es X.env)).any (·.1)=false:=by rfl) (hsw:swapsWith (.Call (.Name x p) (e :: es) [] cp) none pos.line X.env=pure false:=by rfl) :
  PB X [.Expr (.Call (.Name x p) (e :: es) [] cp) pos] (aD5 sp t):=by
 intro pins s σ H D Ex I h
 refine wpAny_execs_cons (wpAny_Expr_any ?_ I.quiet hsw)
 refine wpAny_Call_Name_kw (nB I hg hm ?_ hdb)
 refine PySem.W.callWith_K (h₀:=X.base) I.ok.mod.kin hk (aS (ha (XB X pins σ Ex) cp pins s σ H _ (I.wish _) h) fun us s1 h1=>⟨?_,?_⟩) he hpl
 ·obtain ⟨_,_,I1,_⟩:=h1
  exact I1.kIn
 ·obtain ⟨vs,H1,I1,r,q⟩:=h1
  have I1:=I1.unwish
  have hl:us.length=ps.length:=by rw [<- r.length]; exact F.len _ _ _ _ q
  have bd:=hb s1 us I1.kIn (by rw [bf9]; exact hl)
  rw [bf9] at bd
  refine wpAny_call (codeAny_mono (F.run X.A X.stack s1 H1 ⟨us,[]⟩ us vs _ Ex hr I1.env0 bd r q) fun rs s' hq=>?_)
  cases rs with
  | error ev=>exact⟨H1,s1,I1,hq⟩
  | ok fl=>
   cases fl with
   | ret u=>
    obtain ⟨v,H2,I2,_,q2⟩:=I1.after hq
    exact bs1 ⟨σ,H2,I2,q2⟩
   | next=>exact False.elim hq
   | brk=>exact False.elim hq
   | cont=>exact False.elim hq
theorem aD8 (hc:∀ E,PT (X.wish E) c tc) (ha:PB X sa tb) (hb:PB X sb ub):PB X [.If c sa sb pos] (aD6 tc tb ub):=by
 intro pins s σ H D Ex I h
 refine wpAny_execs_cons (wpAny_If (aS (hc (XB X pins σ Ex) pins s σ H _ (I.wish _) h) fun d s1 h1=>?_))
 obtain ⟨H1,I1,q1⟩:=h1
 have I1:=I1.unwish
 have fin:∀ (fl:Flow) (s2:Shared),SP X pins D fl s2->(match fl with | .next=>wpAny (model X.prog X.w) X.A (execs [] X.env) (SP X pins D) (XB X pins σ Ex) s2 | fl=>SP X pins D fl s2):=fun fl s2 q=>by
  cases fl with
  | next=>exact bs1 q
  | _=>exact q
 cases d with
 | true=>exact aS (ha pins s1 σ H1 D Ex I1 q1) fin
 | false=>exact aS (hb pins s1 σ H1 D Ex I1 q1) fin
def P4 (K:PySem.W.Frag) (Ch:Addr) (i:Nat) (tb:TB) (ts:TS):TS:=fun D σ H=>
 tb D (fun c _ H'=>∀ (a C:Addr) (oe:Obj),c = .ref C->H' a=none->oe.cls = .ref C->PySem.W.subIn K (.ref C) (.ref Ch)=some true/\ts (wC D i) (σ.set i (some (.ref a))) (upd H' a (.frz oe (.own a)))) σ H
theorem aD9 (hstk:X.stack=X.env :: X.outer/\X.env.frame=some X.env.locals) (hb:PB X body tb) (hg:Gl X x) (hm:X.mg x=some (.ref Ch)) (ct:wD X.K Ch) (hN:X.N.Nodup) (hi:X.N[i]? = some n) (hl:X.env.scope.names.lookup n=some .local) (hs:∀ a,dA (X.suite a) (b₀ :: suite) ts)
  (hd:(x == ("__debug__" : Str))=false:=by decide):PS X (.Try body [.ExceptHandler (some (.Name x np)) (some n) (b₀ :: suite) hpos] [] [] pos) (P4 X.K Ch i tb ts):=by
 intro pins s σ H D I h
 refine wpAny_Try_except (bm2 (hb pins s σ H D _ I h) (fun fl s1 q=>?_) (fun ev s1 q=>?_))
 ·cases fl with
  | next=>exact bs1 q
  | _=>exact q
 ·obtain ⟨H1,s2,I1,H',B,a,C,e1,fl,q⟩:=q
  subst e1
  obtain ⟨a0,fly⟩:=fl.fly
  obtain ⟨o5,_,_,c5,_⟩:=fly.first
  exact aD4 I1 fl hstk hg hm ct (q a C o5 rfl fl.fresh c5).1 hN hi hl (hs a) (fun oe hc=>(q a C oe rfl fl.fresh hc).2) hd
end
end L2
namespace L2
open PySem PySem.Spec PyProof.Rows PySem.Calls Builtin Builtin.ObjectAttr Builtin.Getset_descriptor
structure iU (K:PySem.W.Frag) (D:Addr):Prop where
 cls:(PySem.W.clsIn K D).isSome=true
 ga:PySem.W.findIn K (.ref D) "__getattribute__" = some (some (.builtin "BaseException.__getattribute__"))
 gt:PySem.W.findIn K (.ref D) "__getattr__" = some none
 fc:PySem.W.findIn K (.ref D) "__class__" = some (some (.builtin "object.__class__"))
 fg:PySem.W.specialIn K (.builtin "object.__class__") "__get__" = some (some (.builtin "getset_descriptor.__get__"))
 ft:PySem.W.takesIn K (.builtin "object.__class__")=some true
 ob:PySem.W.mroIn K D (.type "object")=some true
 be:PySem.W.mroIn K D (.type "BaseException")=some true
def k9 (h:Heap) (x D:Addr):Prop:=∃ ox:Obj,h.get? x=some ox/\ox.cls = .ref D
theorem k9.type {h:Heap}{x D:Addr}{M:Model} (I:k9 h x D):PySem.W.Looks M h (typeOf (.ref x)) (.ref D):=by
 obtain ⟨ox,e,c⟩:=I
 exact c ▸ (PySem.W.Looks.ld e).andThen .now
section
variable {prog : Program} {w : World} {A : Around} {E : Value → Shared → Prop} {K : PySem.W.Frag} {x D : Addr} {h : Heap} {g : Array GenState} {d : Drawn} {t : Nat} {os : OsState}
theorem aE0 {M:Model} (F:iU K D) (k:K.In h):PySem.W.Looks M h (find (.ref x) (.ref D) "__class__") (.bind (.builtin "getset_descriptor.__get__") (.builtin "object.__class__")):=by
 have L1:=PySem.W.looks_findIn (M:=M) k F.fc
 have L2:=PySem.W.looks_specialIn (M:=M) k F.fg
 have L3:=PySem.W.looks_takesIn (M:=M) k F.ft
 unfold find
 refine L1.andThen (PySem.W.Looks.andThen (a:=some (Value.builtin "getset_descriptor.__get__")) L2 ?_)
 refine PySem.W.Looks.andThen (a:=some (Value.builtin "getset_descriptor.__get__",Value.builtin "object.__class__")) ?_ (PySem.W.Looks.tag .now)
 unfold dataDescriptor?
 exact L3.andThen .now
theorem aE1 {tp:Value}{R:Result->Shared->Prop} (F:iU K D) (k:K.In h) (I:k9 h x D) (hq:R (.ok (.ret (.ref D))) ⟨h,g,d,t,os⟩):codeAny (model prog w) A (.call (.builtin "getset_descriptor.__get__") ⟨[.builtin "object.__class__",.ref x,tp],[]⟩) R ⟨h,g,d,t,os⟩:=by
 have L0:=I.type (M:=model prog w)
 have L1:=PySem.W.looks_mroIn (M:=model prog w) k F.ob
 refine codeAny_call_builtin PySem.W.KF.slot_gs.plain PySem.W.KF.entry_gs (PySem.W.KF.slot_gs.check _ _ _ _ _ _ _ _ PySem.W.KF.type_class (PySem.W.KF.args_gs _ _ _) ?_)
 unfold Builtin.«getset_descriptor.__get__» descrGet; rw [PySem.W.dga_obj]
 refine bd9 (be4 ?_); unfold descrGetter descrCheckInstance descrNameAndClass isInstance
 simp only [PySem.W.KF.owner_class]
 repeat lk
 refine⟨Code.quiet_builtin _ (by decide +kernel),codeAny_builtin PySem.W.KF.entry_class ?_⟩; unfold Builtin.«object.__class__» shownTypeOf
 repeat lk
 exact hq
theorem aE2 {M:Model}{nameV:Value}{Q:Unit->Shared->Prop} (F:iU K D) (k:K.In h) (I:k9 h x D) (hq:Q () ⟨h,g,d,t,os⟩):wpAny M A (checkBuiltinCall "BaseException.__getattribute__" ⟨[.ref x,nameV],[]⟩) Q E ⟨h,g,d,t,os⟩:=by
 have kd:builtinKind "BaseException.__getattribute__" = some .slot:=by decide +kernel
 have sp:splitId "BaseException.__getattribute__" = some ("BaseException","__getattribute__"):=by decide +kernel
 have L:PySem.W.Looks M h (isInstance (.ref x) (.type "BaseException")) true:=(I.type (M:=M)).andThen (PySem.W.looks_mroIn k F.be)
 have ha:=PySem.F.args_bexc_ga (.ref x) nameV
 simp only [checkBuiltinCall,kd,sp]
 refine bd9 (L.at ?_)
 repeat (any_goals (first | assumption | wp_step))
theorem aE3 {tk:Tok}{Q:Fin->Shared->Prop} (F:iU K D) (k:K.In h) (I:k9 h x D) (hq:Q (.done (.ret (.ref D))) ⟨h,g,d,t,os⟩):wpAny (model prog w) A (Builtin.«object.__getattribute__» ⟨[.ref x,.str "__class__" tk],[]⟩) Q E ⟨h,g,d,t,os⟩:=by
 have L0:=I.type (M:=model prog w)
 have L1:=aE0 (M:=model prog w) F k (x:=x)
 refine bd9 (be4 (bd9 (be4 (bd9 (L0.at (bd9 (L1.at ?_)))))))
 show wpAny _ _ (holding [_] (call _ _) >>= ret) _ _ _
 exact bd9 (bm0 (wpAny_call (aE1 F k I (be4 hq))))
theorem aE4 {tk:Tok}{R:Result->Shared->Prop} (F:iU K D) (k:K.In h) (I:k9 h x D) (hq:R (.ok (.ret (.ref D))) ⟨h,g,d,t,os⟩):codeAny (model prog w) A (.call (.builtin "BaseException.__getattribute__") ⟨[.ref x,.str "__class__" tk],[]⟩) R ⟨h,g,d,t,os⟩:=
 codeAny_call_builtin PySem.F.excAttr_ValueError.ga.plain PySem.F.entry_bexc_ga (aE2 F k I (aE3 F k I hq))
theorem aE5 {Q:Option Value->Shared->Prop} (F:iU K D) (k:K.In h) (I:k9 h x D) (hq:Q (some (.ref D)) ⟨h,g,d,t+1,os⟩):wpAny (model prog w) A (getAttr? (.ref x) "__class__") Q E ⟨h,g,d,t,os⟩:=by
 have L0:=I.type (M:=model prog w)
 have L1:=PySem.W.looks_findIn (M:=model prog w) k F.ga
 have L2:=PySem.W.looks_findIn (M:=model prog w) k F.gt
 have f3:=PySem.F.excAttr_ValueError.ga.bind (.ref x)
 unfold getAttr? getAttrBy? getAttrBy
 refine bd9 (wpAny_mkText (bd9 (wpAny_attempt (bm0 (bd9 (L0.at (bd9 (L1.at ?_))))))))
 have nx:(onTheHeap (Value.ref D) && Value.builtin "BaseException.__getattribute__" == Value.builtin "object.__getattribute__")=false:=by
  rw [show (Value.builtin "BaseException.__getattribute__" == Value.builtin "object.__getattribute__")=false by decide +kernel,bo2]
 dsimp only
 rw [if_neg (by rw [nx]; decide)]
 unfold getAttrByItsOwn hookBefore
 repeat (any_goals (first | assumption | (with_reducible refine L2.at ?_) | wp_step))
 exact aE4 F k I (PySem.W.handed_on rfl (be4 hq))
end
theorem aE6 {K:PySem.W.Frag}{x D:Addr} (F:iU K D):PySem.W.KitX K (.ref x) (.ref D) (fun h=>k9 h x D) where
 ty:=fun _ _ _ I=>I.type
 it:=fun M h k _=>by
  have z:=F.cls
  unfold PySem.W.clsIn at z
  split at z
  ·rename_i c' d' cd' sl' ho
   intro A' Q' E' s' kk q
   unfold isType loadHead
   exact bd9 (wpAny_loadPart (kk _ _ (k _ _ ho)) (be4 q))
  ·cases z
 ne:=fun h tp dd its n sl k htp=>by
  have z:=F.cls
  refine bo3.mpr fun q=>?_
  obtain rfl:D=tp:=Value.ref.inj (beq_iff_eq.mp q)
  unfold PySem.W.clsIn at z
  split at z
  ·rename_i ho
   have y:=(k _ _ ho).symm.trans htp
   cases y
  ·cases z
 ca:=fun {_ _ _ _ _ s} k I q=>by
  obtain ⟨h,g,d,t,os⟩:=s
  exact aE5 F k I q
end L2
namespace L2
open PySem PySem.Spec PyProof.Rows
section
variable {X : Cx} {pins : List (Addr × Obj)} {σ : St} {H H' : Hp} {s : Shared} {a : Addr}
theorem a8.reH (I:a8 X pins σ H s) (d:∀ b,b ≠ a->H' b=H b) (ha:∃ x,H a=some x) (tup:∀ xs,H a ≠ some (.tup xs)) (frz:∀ o v,X.H₀ a ≠ some (.frz o v)) (tbl:∀ ps,H a ≠ some (.tbl ps)) (hok:bW X.prog X.w H' s.heap):a8 X pins σ H' s:=by
 have none:∀ b,H b=none->H' b=none:=fun b e=>by
  rw [d b fun z=>?_]; exact e
  obtain ⟨x,hx⟩:=ha
  rw [z,hx] at e; cases e
 refine⟨I.ok,I.os,I.bare,⟨I.base.keep,I.base.slot,fun b o e n hx=>none b (I.base.free b o e n hx),I.base.there,fun b xs q=>?_,fun b o u q=>?_,fun b ps q=>?_⟩,I.loc,I.cell,none _ I.free,fun x c e=>none c (I.freeC x c e),fun p hp=>?_,hok,I.len⟩
 ·have e:=I.base.tups b xs q
  rw [d b fun z=>tup xs (by rw [<- z]; exact e)]; exact e
 ·rw [d b fun z=>frz o u (by rw [<- z]; exact q)]; exact I.base.frzs b o u q
 ·obtain ⟨more,e⟩:=I.base.tbls b ps q
  exact⟨more,by rw [d b fun z=>tbl _ (by rw [<- z]; exact e)]; exact e⟩
 ·obtain ⟨e,n,r⟩:=I.pin p hp
  exact⟨e,none _ n,r⟩
theorem a8.froze {o:Obj}{kvs:List (List aC × V)} (I:a8 X pins σ H s) (h:H a=some (.dT kvs)) (e:s.heap.get? a=some o):a8 X pins σ (upd H a (.frz o (.dT kvs))) s:=by
 have own:∀ {c:Addr}{y:Addr},H c=some (.own y)->c ≠ a:=fun {c y} q z=>by rw [z,h] at q; cases q
 have tp:∀ {c:Addr}{xs:List V},H c=some (.tup xs)->c ≠ a:=fun {c xs} q z=>by rw [z,h] at q; cases q
 refine I.reH (a:=a) (fun b n=>aI n) ⟨_,h⟩ (fun xs q=>by rw [h] at q; cases q) (fun o' v q=>by have:=I.base.frzs a o' v q; rw [h] at this; cases this) (fun ps q=>by rw [h] at q; cases q) fun b u q=>?_
 by_cases hb:b=a
 ·subst hb
  rw [bD] at q; cases q
  exact⟨e,(I.hok b _ h).stay (fun _ _ _ q=>q) (fun c q=>by rw [aI (own q)]; exact q) fun c xs q=>by rw [aI (tp q)]; exact q⟩
 ·rw [aI hb] at q
  exact (I.hok b u q).stay (fun _ _ _ q=>q) (fun c q=>by rw [aI (own q)]; exact q) fun c xs q=>by rw [aI (tp q)]; exact q
theorem a8.thaw {o:Obj}{u:HO} (I:a8 X pins σ H s) (h:H a=some (.frz o u)) (n:∀ o v,X.H₀ a ≠ some (.frz o v)):a8 X pins σ (upd H a u) s:=by
 have own:∀ {c:Addr}{y:Addr},H c=some (.own y)->c ≠ a:=fun {c y} q z=>by rw [z,h] at q; cases q
 have tp:∀ {c:Addr}{xs:List V},H c=some (.tup xs)->c ≠ a:=fun {c xs} q z=>by rw [z,h] at q; cases q
 refine I.reH (a:=a) (fun b n=>aI n) ⟨_,h⟩ (fun xs q=>by rw [h] at q; cases q) n (fun ps q=>by rw [h] at q; cases q) fun b v q=>?_
 by_cases hb:b=a
 ·subst hb
  rw [bD] at q; cases q
  exact bR.stay (I.hok b _ h).2 (fun _ _ _ q=>q) (fun c q=>by rw [aI (own q)]; exact q) fun c xs q=>by rw [aI (tp q)]; exact q
 ·rw [aI hb] at q
  exact (I.hok b v q).stay (fun _ _ _ q=>q) (fun c q=>by rw [aI (own q)]; exact q) fun c xs q=>by rw [aI (tp q)]; exact q
end
def P5 (a:Addr) (o:Obj) (ys:List V):It:=
 ⟨fun i H=>(∃ u,H a=some (.frz o u))/\i < ys.length,fun i H v H'=>H'=H/\ys[i]? = some v,fun i H=>(∃ u,H a=some (.frz o u))/\i=ys.length⟩
theorem aE7 {P:Program}{w:World}{K:PySem.W.Frag}{tg:Expr}{o:Obj}{es:Array DictEntry}{ep:Nat}{ys:List V} (a it:Addr) (od:o.ExactDict/\o.data = .dict es ep) (vl:aQ ys (es.toList.map (·.key))) :
  hZ P w K tg (P5 a o ys) [it] it (fun i h=>h.IsKeyIter it a i es.size ep):=by
 have hs:es.size=ys.length:=by
  have:=vl.length
  rw [be5,bi0] at this
  exact this.symm
 refine⟨by simp,fun i h st b hb=>?_,fun i h h' st k=>st.at fun o e=>k it (by simp) o e,?_,?_,fun _ _ _ _ _ st q=>wpAny_pyIter_keyiter st q⟩
 ·obtain rfl:b=it:=by simpa using hb
  obtain ⟨o,e,c,d⟩:=st
  exact⟨o,e,fun v z=>by rw [d] at z; cases z⟩
 ·intro X hP hw hK hc i pins s σ H E I hf st hg
  subst hP hw hK
  obtain ⟨⟨u,hu⟩,hi⟩:=hg
  obtain ⟨f0,f1,f2,f3,f4,f5⟩:=hf it (by simp)
  refine Raw.turn (I.ok.hd hc) st ⟨o,(I.hok a _ hu).1,od.1,od.2⟩ (fun lt h' again sb=>?_) (fun ge=>absurd ge (by omega))
  have I1:a8 X pins σ H { s with heap:=h' }:=I.turned (t':=s.toks) (fun b o hb e=>(sb.2 b hb).trans e) f0 f1 f3 f4 f5
  have hv:=be3 hi
  obtain ⟨key,hk,rv⟩:=vl.get hv
  obtain rfl:key=es[i].key:=by
   rw [bf4] at hk
   simp [lt] at hk
   exact hk.symm
  obtain ⟨o',e,c,d⟩:=id again
  exact⟨es[i].key,rfl,pF (s:={ s with heap:=h' }) e c d (by decide) ⟨_,H,I1,rv,⟨rfl,hv⟩,again,fun b hb=>(hf b hb).1⟩⟩
 ·intro X hP hw hK hc i pins s σ H E I hf st hg
  subst hP hw hK
  obtain ⟨⟨u,hu⟩,hi⟩:=hg
  obtain ⟨f0,f1,f2,f3,f4,f5⟩:=hf it (by simp)
  exact Raw.turn (I.ok.hd hc) st ⟨o,(I.hok a _ hu).1,od.1,od.2⟩ (fun lt=>absurd lt (by omega)) fun _ h' eb=>⟨rfl,I.turned (t':=s.toks) (fun b o hb e=>eb b o hb e) f0 f1 f3 f4 f5⟩
section
variable {X : Cx} {tg l : Expr} {tl : TE}
def P6 (tl:TE):TI:=fun σ H R=>tl σ H fun x H1=>∃ a kvs,x = .ref a/\H1 a=some (.dT kvs)/\∀ o ys,Paired (nX H1) ys (kvs.map (·.1))->R (P5 a o ys) (upd H1 a (.frz o (.dT kvs)))
theorem aE8 (hl:PE X l tl):PI X tg l (P6 tl):=by
 intro pins s σ H R I h
 refine aS (hl pins s σ H _ I h) fun v s1 h1=>?_
 obtain ⟨x,H1,I1,r1,a,kvs,e,ha,q⟩:=h1
 subst e
 cases r1
 obtain ⟨es,ep,ys,⟨o,e1,e2,e3⟩,far,pk,vl,z⟩:=F4 I1 ha
 refine Raw.made far ⟨o,e1,e2,e3⟩ ?_
 have hf:H1 s1.heap.objs.size=none:=I1.hok.fresh (be6 _)
 refine⟨s1.heap.objs.size,[s1.heap.objs.size],_,_,upd H1 a (.frz o (.dT kvs)),rfl,(I1.froze ha e1).kept (t':=s1.toks) fun b o e=>be1 _ e,aE7 a _ ⟨e2,e3⟩ vl,⟨_,bf6 _ rfl,rfl,rfl⟩,fun b hb=>?_,q o ys pk⟩
 obtain rfl:b=s1.heap.objs.size:=by simpa using hb
 exact I1.fpOk (be6 _) (by rw [aI (fun z=>by rw [z,ha] at hf; cases hf)]; exact hf)
def P7 (X:Cx) (t:TE):TE:=fun σ H Q=>t σ H fun v H'=>∃ a o u,H' a=some (.frz o u)/\(∀ o' v',X.H₀ a ≠ some (.frz o' v'))/\Q v (upd H' a u)
theorem aE9 {e:Expr}{t:TE} (h:PE X e t):PE X e (P7 X t):=by
 intro pins s σ H Q I hq
 refine aS (h pins s σ H _ I hq) fun v s1 h1=>?_
 obtain ⟨x,H1,I1,r1,a,o,u,e,n,q⟩:=h1
 exact⟨x,_,I1.thaw e n,r1,q⟩
end
end L2
namespace Raw
open PySem PySem.W PySem.Calls PyProof.Rows
theorem kY {α β:Type} (f:α->β):∀ (j:Nat) (l:List α),(l.eraseIdx j).map f=(l.map f).eraseIdx j
 | _,[]=>rfl
 | 0,_ :: _=>rfl
 | j+1,x :: r=>by
  show f x :: (r.eraseIdx j).map f=f x :: (r.map f).eraseIdx j
  rw [kY f j r]
section
variable {prog : Program} {w : World} {K : Type} [DecidableEq K] {knd : HeapKind prog w K} {A : Around} {E : Value → Shared → Prop} {s : Shared} {d a : Addr} {k : K} {xs : List (K × Addr × Value)}
def P8 (knd:HeapKind prog w K) (h:Heap) (d:Addr) (xs:List (K × Addr × Value)) (j:Nat):Prop:=∃ o es ep,h.get? d=some o/\o.ExactDict/\o.data = .dict es ep/\es.toList=(xs.eraseIdx j).map (entryOfKey knd)
theorem aF0 {Q:Option DictEntry->Shared->Prop} (hu:knd.room A) (hkey:knd.is s.heap k a) (hm:s.heap.DictOfH knd d xs) (hz:xs.length<=sizeLine) (is:∃ (j:Nat) (p:Addr × Value),xs[j]? = some (k,p))
  (q:∀ (j:Nat) (p:Addr × Value) h',xs[j]? = some (k,p)->P8 knd h' d xs j->Heap.SameBut d s.heap h'->Q (some (entryOfKey knd (k,p))) { s with heap:=h',toks:=s.toks+knd.draws k }):wpAny (model prog w) A (Builtin.Dict.takeOut d (.ref a)) Q E s:=by
 obtain ⟨o,es,ep,e1,e2,e3,e4,e5,e6⟩:=hm
 obtain ⟨j0,p0,h0⟩:=is
 unfold Builtin.Dict.takeOut
 try with_reducible refine bm0 ?_
 apply bd9
 apply knd.pyHash hu hkey
 apply bd9
 refine wpAny_dictFind_heap (s:={ s with toks:=s.toks+knd.draws k }) hu hkey e1 e3 e4 e5 e6 (fun no=>absurd h0 (no j0 p0)) fun j p hj=>?_
 apply bd9
 apply wpAny_dictEntries (s:={ s with toks:=s.toks+knd.draws k }) e1 e3
 rw [entry_at e4 j,hj]
 have sz:=size_of_entries e4
 apply bd9
 refine wpAny_updateDictKeys (hz:=by omega) (s:={ s with toks:=s.toks+knd.draws k }) e1 e3 (be4 (q j p _ hj ⟨_,_,ep+1,bs0 _ e1 (Obj.isFreed_of_dict (Obj.data_mapDictKeys e3 _)),e2.mapDictKeys _,Obj.data_mapDictKeys e3 _,?_⟩ (bo6 ..)))
 rw [kY,<- e4]
 obtain ⟨l⟩:=es
 simp
end
section
variable {prog : Program} {w : World} {K : Type} [DecidableEq K] (knd : HeapKind prog w K) (d a : Addr)
theorem aF1:MeetsIn prog w (Builtin.«dict.pop» ⟨[.ref d,.ref a],[]⟩) (fun A R s=>knd.room A.in1/\∃ k xs,knd.is s.heap k a/\s.heap.DictOfH knd d xs/\xs.length<=sizeLine/\(∃ (j:Nat) (p:Addr × Value),xs[j]? = some (k,p))/\
  ∀ (j:Nat) (p:Addr × Value) h',xs[j]? = some (k,p)->P8 knd h' d xs j->Heap.SameBut d s.heap h'->R (.ok (.ret p.2)) { s with heap:=h',toks:=s.toks+knd.draws k }):=
 .of_wp fun A R s h=>by
  obtain ⟨hu,k,xs,hk,hm,hz,is,q⟩:=h
  obtain ⟨o,es,ep,e1,e2,e3,e4,e5,e6⟩:=id hm
  have ne:es.isEmpty=false:=by
   obtain ⟨j,p,hj⟩:=is
   have sz:=size_of_entries e4
   have:=(bf0.mp hj).1
   rw [Array.isEmpty_eq_false_iff,ne_eq,<- Array.size_eq_zero_iff]
   omega
  unfold Builtin.«dict.pop»
  apply bd9
  unfold Builtin.Dict.keyAndDefault
  apply bd9
  apply wpAny_notOrdered_dict hm.typeIs
  change wpAny _ _ (pure (d,Value.ref a,none)) _ _ s
  apply be4
  have kp:(keyPart (Value.ref a)).isSome=false:=rfl
  simp only [kp,bg7,bk8]
  refine bd9 (wpAny_dictEntries e1 e3 (bd9 (be4 ?_)))
  simp only [ne,bg7,bk8]
  apply bd9
  refine aF0 hu hk hm hz is fun j p h' hj c sb=>?_
  simp only [Option.isNone_some,bg7,bk8]
  exact bd9 (wpAny_letGo (be4 ⟨p.2,rfl,q j p h' hj c sb⟩))
end
end Raw
namespace L2
open PySem PySem.Spec PyProof.Rows
theorem Paired.erase {α β:Type}{F:α->β->Prop}:∀ (j:Nat) {l:List α}{m:List β},Paired F l m->Paired F (l.eraseIdx j) (m.eraseIdx j)
 | _,_,_,.nil=>.nil
 | 0,_,_,.cons _ t=>t
 | j+1,_,_,.cons r t=>.cons r (Paired.erase j t)
theorem P9 {α β:Type}{F:α->β->Prop}:∀ {l:List α}{m:List β}{i:Nat}{y:β},Paired F l m->m[i]? = some y->∃ x,l[i]? = some x/\F x y
 | _,_,_,_,.nil,e=>by simp at e
 | _,_,0,_,.cons r _,e=>by simp at e; subst e; exact⟨_,rfl,r⟩
 | _,_,i+1,y,.cons _ t,e=>by
  rw [bh4] at e
  obtain ⟨x,h1,h2⟩:=P9 t e
  exact⟨x,by rw [bh4]; exact h1,h2⟩
theorem Q0 {α β:Type}{F:α->β->Prop}:∀ {l:List α}{m:List β}{i:Nat}{x:α},Paired F l m->l[i]? = some x->∃ y,m[i]? = some y/\F x y
 | _,_,_,_,.nil,e=>by simp at e
 | _,_,0,_,.cons r _,e=>by simp at e; subst e; exact⟨_,rfl,r⟩
 | _,_,i+1,x,.cons _ t,e=>by
  rw [bh4] at e
  obtain ⟨y,h1,h2⟩:=Q0 t e
  exact⟨y,by rw [bh4]; exact h1,h2⟩
section
variable {X : Cx} {pins : List (Addr × Obj)} {σ : St} {H : Hp} {s : Shared} {a b : Addr} {kvs : List (List aC × V)} {k : List aC} {A : Around} {E : Value → Shared → Prop}
theorem aF2 {Q:Value->Shared->Prop} (hu:A.units+1 < cLine) (I:a8 X pins σ H s) (e:H a=some (.dT kvs)) (eb:H b=some (.tup (k.map kV))) (is:∃ j:Nat,(kvs.map (·.1))[j]? = some k)
  (h:∀ (j:Nat) v w' s',(kvs.map (·.1))[j]? = some k->a8 X pins σ (upd H a (.dT (kvs.eraseIdx j))) s'->b4 v w'->Q w' s'):wpAny (model X.prog X.w) A (call (.builtin "dict.pop") [.ref a,.ref b]) Q E s:=by
 obtain ⟨z,hd,xs,rel,dd⟩:=B0 I.hok e
 have hz:xs.length<=sizeLine:=by rw [<- Paired.length rel]; exact z
 refine call_meetsIn PySem.F.slot_dict_pop dd.typeIs PySem.F.entry_dict_pop (PySem.F.args_dict_pop_2 _ _) (Raw.aF1 (tupleKind (eM X.prog X.w)) a b) ⟨tupleKind_room_in1 hu,k,xs,nS I.hok eb,dd,hz,?_,fun j p h' hj c sb=>?_⟩
 ·obtain ⟨j,hj⟩:=is
  rw [bf4] at hj
  cases ej:kvs[j]? with
  | none=>rw [ej] at hj; cases hj
  | some kv=>
   rw [ej] at hj
   cases hj
   obtain ⟨y,hy,r⟩:=Q0 rel ej
   exact⟨j,y.2,by rw [hy]; exact congrArg some (Prod.ext r.1.symm rfl)⟩
 ·obtain ⟨kv,hkv,r⟩:=P9 rel hj
  obtain ⟨o,es,ep,h1,h2,h3,h4⟩:=c
  have nd:((xs.eraseIdx j).map (·.1)).Nodup:=by
   obtain ⟨_,_,_,_,_,_,_,_,nd⟩:=dd
   exact nd.sublist ((List.eraseIdx_sublist xs j).map _)
  refine h j kv.2 p.2 _ (by rw [bf4,hkv]; exact congrArg some r.1) ?_ r.2.2
  refine pO I (by rw [e]; exact bt2) sb ⟨o,h1⟩ ⟨bh6 (List.length_eraseIdx_le kvs j) z,hd,_,KT.keeps (Paired.erase j rel) fun c ys ec=>?_,o,es,ep,h1,h2,h3,h4,nd⟩
  rw [aI (xZ ec e (fun z=>nomatch z))]
  exact ec
end
section
variable {X : Cx} {o e : Expr} {apos cpos : Pos} {td ty : TE}
def Q2 (td ty:TE):TE:=fun σ H Q=>td σ H fun x H1=>∃ a,x = .ref a/\uD H1 a/\ty σ H1 fun y H2=>∃ kvs k b,H2 a=some (.dT kvs)/\y = .ref b/\H2 b=some (.tup (k.map kV))/\(∃ j:Nat,(kvs.map (·.1))[j]? = some k)/\∀ (j:Nat) v,(kvs.map (·.1))[j]? = some k->Q v (upd H2 a (.dT (kvs.eraseIdx j)))
theorem aF3 (hu:X.A.units+1 < cLine) (ho:PE X o td) (he:PE X e ty) (m:M1 X o "pop" apos e cpos):PE X (.Call (.Attribute o "pop" apos) [e] [] cpos) (Q2 td ty):=by
 intro pins s σ H Q I h
 refine wpAny_Call_method m.base m.few m.line PySem.F.plainAttrs_dict PySem.F.slot_dict_pop PySem.F.type_dict_pop (aS (ho pins s σ H _ I h) fun u s1 h1=>?_)
 obtain ⟨x,H1,I1,rx,a,ex,d,q1⟩:=h1
 subst ex
 obtain rfl:u=Value.ref a:=rx
 obtain ⟨t1,t2,_⟩:=B9 I1 d
 refine⟨t1,t2,?_⟩
 rw [m.trees]
 refine bq6 rfl (bs8 (Calls.spliced_cons (aS (he pins s1 σ H1 _ I1 q1) fun iv s2 h2=>Calls.spliced_nil ?_)))
 obtain ⟨y,H2,I2,ry,kvs,k,b,ea,ey,eb,is,q2⟩:=h2
 subst ey
 obtain rfl:iv=Value.ref b:=ry
 exact aF2 hu I2 ea eb is fun j v w' s3 hj I3 rw'=>⟨v,_,I3,rw',q2 j v hj⟩
end
section
variable {X : Cx}
def Q3:V->List V->Hp->VK->Prop:=fun x vs H Q=>∃ l xs y,∃ k:Nat,x = .ref l/\vs = [.int k,y]/\H l=some (.lst xs)/\k<=xs.length/\xs.length < sizeLine/\Q .non (upd H l (.lst (xs.take k ++ y :: xs.drop k)))
theorem aF4:j7 X "list.insert" Q3:=by
 intro pins s σ H x vs v us Q I rx rv h
 obtain ⟨l,xs,y,k,rfl,rfl,hH,hk,hz,q⟩:=h
 obtain ⟨u1,u2,rfl,⟨t,rfl⟩,r2⟩:=rv.two
 obtain rfl:v=Value.ref l:=rx
 obtain ⟨z,its,n,r,hl,e⟩:=I.lstM hH
 have hs:sizeLine=16777216:=sizeLine_eq
 obtain ⟨x,hx⟩:∃ x:Int,x=(k:Int):=⟨_,rfl⟩
 rw [<- hx]
 have hf : ¬(!Builtin.List.listFitsIndex x)=true:=by
  have h1:Builtin.List.listFitsIndex x=true:=by
   unfold Builtin.List.listFitsIndex
   rw [bg1]
   exact⟨be7 (by omega),be7 (by omega)⟩
  rw [h1]; exact bg6
 have hz2:its.toArray.size<=sizeLine:=by rw [be0]; omega
 refine call_meets PySem.F.slot_list_insert ⟨_,e,rfl⟩ PySem.F.entry_list_insert (PySem.F.args_list_insert_3 _ _ _) (AutoSeq1.list_insert_list_int_val_1 l its.toArray n x t u2 hf hz2) ⟨e,.non,_,?_,rfl,q⟩
 refine I.lset (its':=its.take k ++ u2 :: its.drop k) hH e ?_ ((r.take k).append (.cons r2 (r.drop k))) ?_
 ·have e1:(if x < 0 then (x+(its.toArray.size:Int)).toNat else min x.toNat its.toArray.size)=k:=by
   rw [if_neg (by omega),be0]
   omega
  dsimp only
  rw [e1]
  apply Array.toList_inj.mp
  simp only [Array.toList_append,Array.toList_push,Array.toList_extract,List.extract_eq_drop_take]
  simp
  rw [bl8 (by rw [bk4]; omega)]
 ·rw [be2,bi2,bj0,bk4]
  omega
end
end L2
namespace Core
open PySem L2 PP
def iD (ns:List Int):Bool:=((ns.zip (ns.drop 1)).map fun p=>decide (p.1 < p.2)).all id
theorem rL {α β:Type}{l:List α}{f:α->β}{i:Nat}{x:α} (h:l[i]? = some x):(l.take (i+1)).map f=(l.take i).map f ++ [f x]:=by
 rw [bm3,h]; simp
theorem fU:∀ {ns:List Int},iD ns=true->ns.Pairwise (· < ·)
 | [],_=>.nil
 | [x],_=>bh7 _ _
 | x :: y :: r,h=>by
  have e:iD (x :: y :: r)=(decide (x < y) && iD (y :: r)):=rfl
  rw [e,bg1] at h
  have ih:=fU h.2
  refine List.pairwise_cons.mpr ⟨fun z hz=>?_,ih⟩
  rcases be9.mp hz with rfl | hz
  ·exact bq3 h.1
  ·exact Int.lt_trans (bq3 h.1) (List.rel_of_pairwise_cons ih hz)
theorem wE:∀ {ns:List Int},ns.Pairwise (· < ·)->iD ns=true
 | [],_=>rfl
 | [x],_=>rfl
 | x :: y :: r,h=>by
  have e:iD (x :: y :: r)=(decide (x < y) && iD (y :: r)):=rfl
  have h':=List.pairwise_cons.mp h
  rw [e,wE h'.2,Bool.and_true]
  exact be7 (h'.1 y bf5)
def kin (ws:List Int) (ls:List (Int × Int)) (S:List Int) (h:Int):Bool:=!decide (h ∈ S) && decide (ws.getD h.toNat 0<=(((bE ls h).filter fun x=>decide (x ∈ S)).length:Int))
def nextOf (ws:List Int) (ls:List (Int × Int)) (S:List Int):List Int:=((List.range ws.length).map fun (i:Nat)=>(i:Int)).filter (kin ws ls S)
def b5 (ws:List Int) (ls:List (Int × Int)) (S:List Int):Nat->List Int
 | 0=>S
 | k+1=>b5 ws ls S k ++ nextOf ws ls (b5 ws ls S k)
def eJ (ws:List Int) (S:List Int):Nat:=(((List.range ws.length).map fun (i:Nat)=>(i:Int)).filter fun x=>!decide (x ∈ S)).length
theorem wF {α:Type} (p q:α->Bool) (h:∀ x,q x=true->p x=false):∀ L:List α,(L.filter fun x=>!p x && !q x).length+(L.filter q).length=(L.filter fun x=>!p x).length
 | []=>rfl
 | x :: r=>by
  have ih:=wF p q h r
  cases e1:p x with
  | true=>
   have e2:q x=false:=by
    cases e:q x with
    | false=>rfl
    | true=>have:=h x e; rw [e1] at this; cases this
   simp only [List.filter_cons,e1,e2,Bool.not_true,br3,bg7,bk8]
   exact ih
  | false=>
   cases e2:q x with
   | true=>
    simp only [List.filter_cons,e1,e2,Bool.not_true,Bool.not_false,bo2,bg7,bk8,if_true,bi2]
    omega
   | false=>
    simp only [List.filter_cons,e1,e2,Bool.not_false,Bool.and_true,bg7,bk8,if_true,bi2]
    omega
theorem rM {ws:List Int}{ls:List (Int × Int)}{S:List Int}{x:Int} (h:kin ws ls S x=true):decide (x ∈ S)=false:=by
 unfold kin at h
 cases e:decide (x ∈ S) with
 | false=>rfl
 | true=>rw [e] at h; cases h
theorem wG (ws:List Int) (ls:List (Int × Int)) (S:List Int):eJ ws (S ++ nextOf ws ls S)+(nextOf ws ls S).length=eJ ws S:=by
 have e:=wF (fun x=>decide (x ∈ S)) (kin ws ls S) (fun x h=>rM h) ((List.range ws.length).map fun (i:Nat)=>(i:Int))
 unfold eJ
 rw [<- e]
 congr 2
 refine List.filter_congr fun x hx=>?_
 have:decide (x ∈ S ++ nextOf ws ls S)=(decide (x ∈ S) || kin ws ls S x):=by
  rw [bm7]
  unfold nextOf
  simp only [bj2,bg2,bl1,Bool.or_eq_true]
  exact⟨fun z=>z.elim .inl fun z=>.inr z.2,fun z=>z.elim .inl fun z=>.inr ⟨hx,z⟩⟩
 rw [this]
 cases decide (x ∈ S) <;> cases kin ws ls S x <;> rfl
theorem aF5 (ws:List Int) (S:List Int):eJ ws S<=ws.length:=by
 unfold eJ
 refine bh6 (bp0 _ _) ?_
 rw [be5,bo5]; exact be6 _
theorem aF6 (ws:List Int) (ls:List (Int × Int)) (S:List Int):(nextOf ws ls S).length<=ws.length:=by
 unfold nextOf
 refine bh6 (bp0 _ _) ?_
 rw [be5,bo5]; exact be6 _
def after (ws:List Int) (ls:List (Int × Int)) (S:List Int) (m:Nat):List (List Int):=(List.range m).map fun k=>nextOf ws ls (b5 ws ls S k)
theorem Q4 (ws:List Int) (ls:List (Int × Int)) (S:List Int) (m:Nat):after ws ls S (m+1)=after ws ls S m ++ [nextOf ws ls (b5 ws ls S m)]:=by
 unfold after
 rw [List.range_succ,bh3]; rfl
theorem wH (ws:List Int) (ls:List (Int × Int)) (ns:List Int):∀ k,(b5 ws ls ns k).length+eJ ws (b5 ws ls ns k)=ns.length+eJ ws ns
 | 0=>rfl
 | k+1=>by
  have ih:=wH ws ls ns k
  have cs:=wG ws ls (b5 ws ls ns k)
  show (b5 ws ls ns k ++ nextOf ws ls (b5 ws ls ns k)).length+eJ ws (b5 ws ls ns k ++ nextOf ws ls (b5 ws ls ns k))=_
  rw [be2]; omega
theorem Q5 {ws ns:List Int} (hu:ns.Pairwise (· < ·)) (hin:∀ x ∈ ns,0<=x/\x < (ws.length:Int)):ns.length+eJ ws ns<=ws.length:=by
 have nd:ns.Nodup:=hu.imp fun h=>Int.ne_of_lt h
 have sub:ns ⊆ ((List.range ws.length).map fun (i:Nat)=>(i:Int)).filter fun x=>decide (x ∈ ns):=fun x hx=>by
  refine bl1.mpr ⟨bi7.mpr ⟨x.toNat,br2.mpr ?_,?_⟩,be7 hx⟩
  ·have:=hin x hx; omega
  ·have:=hin x hx; omega
 have h1:=nd.length_le_of_subset sub
 have h2:=wF (fun _=>false) (fun x=>decide (x ∈ ns)) (fun _ _=>rfl) ((List.range ws.length).map fun (i:Nat)=>(i:Int))
 have h3:(((List.range ws.length).map fun (i:Nat)=>(i:Int)).filter fun x=>!false && !decide (x ∈ ns)).length=eJ ws ns:=rfl
 have h4:(((List.range ws.length).map fun (i:Nat)=>(i:Int)).filter fun x=>!false).length<=ws.length:=by
  refine bh6 (bp0 _ _) ?_
  rw [be5,bo5]; exact be6 _
 rw [h3] at h2
 omega
theorem wI (ws:List Int) (ls:List (Int × Int)) (ns:List Int):∀ m,(ns :: after ws ls ns m).flatten=b5 ws ls ns m
 | 0=>by simp [after,b5]
 | m+1=>by
  rw [Q4,<- List.cons_append,List.flatten_append,wI ws ls ns m]
  simp [b5]
def bS (ws:List Int) (ls:List (Int × Int)) (ns:List Int) (m:Nat):Prop:=(∀ k < m,nextOf ws ls (b5 ws ls ns k) ≠ [])/\nextOf ws ls (b5 ws ls ns m) = []
theorem aF7 {ws:List Int}{ls:List (Int × Int)}{ns:List Int}{m n:Nat} (h:bS ws ls ns m) (g:bS ws ls ns n):m=n:=by
 rcases Nat.lt_trichotomy m n with z | z | z
 ·exact absurd h.2 (g.1 m z)
 ·exact z
 ·exact absurd g.2 (h.1 n z)
theorem Q6 {ws:List Int}{ls:List (Int × Int)}{ns:List Int}:∀ (m:Nat),(∀ k < m,nextOf ws ls (b5 ws ls ns k) ≠ [])->m+eJ ws (b5 ws ls ns m)<=ws.length
 | 0,_=>by have:=aF5 ws ns; show 0+eJ ws ns<=_; omega
 | m+1,h=>by
  have ih:=Q6 m fun k hk=>h k (by omega)
  have cs:=wG ws ls (b5 ws ls ns m)
  have:1<=(nextOf ws ls (b5 ws ls ns m)).length:=by
   cases e:nextOf ws ls (b5 ws ls ns m) with
   | nil=>exact absurd e (h m (by omega))
   | cons _ _=>exact Nat.succ_le_succ (bh8 _)
  show m+1+eJ ws (b5 ws ls ns m ++ nextOf ws ls (b5 ws ls ns m))<=_
  omega
theorem fB {ns:List Int}{i:Nat}{x:PV} (h:(intz ns)[i]? = some x):∃ n,x = .int n/\ns[i]? = some n:=by
 rw [bf4] at h
 cases e:ns[i]? with
 | none=>rw [e] at h; cases h
 | some n=>rw [e] at h; exact⟨n,(bg9 h).symm,rfl⟩
theorem gZ {lo:Int}{n i:Nat}{x:PV} (h:(fQ lo n)[i]? = some x):x = .int (lo+i)/\i < n:=by
 have hi:i < n:=by
  have:=(bf0.mp h).1
  rwa [dO] at this
 rw [K5 hi] at h
 exact⟨(bg9 h).symm,hi⟩
def rng (n:Nat):List Int:=(List.range n).map fun (i:Nat)=>(i:Int)
theorem fC (n:Nat):(rng n).length=n:=by unfold rng; rw [be5,bo5]
theorem wJ {n i:Nat} (h:i < n):(rng n)[i]? = some (i:Int):=by unfold rng; rw [bf4,List.getElem?_range h]; rfl
theorem dE {n:Nat}{x:Int}:x ∈ rng n ↔ 0<=x/\x < (n:Int):=by
 unfold rng
 rw [bi7]
 constructor
 ·rintro ⟨i,hi,rfl⟩
  have:=br2.mp hi
  omega
 ·intro h
  exact⟨x.toNat,br2.mpr (by omega),by omega⟩
theorem kA {α:Type}{l:List α}{p:α->Bool}{i:Nat}{x:α} (h:l[i]? = some x):(l.take (i+1)).filter p=(l.take i).filter p ++ (if p x=true then [x] else []):=by
 rw [bm3,h,List.filter_append]
 congr 1
 cases e:p x <;> simp [e]
theorem cR (a b:List Int):intz (a ++ b)=intz a ++ intz b:=bh3
theorem aW (a:List Int):(intz a).length=a.length:=be5 _
def b8 (ws:List Int) (ls:List (Int × Int)):PV:=.tup [.tup (intz ws),.tup (ls.map fun l=>.tup [.int l.1,.int l.2])]
structure Wb (ws:List Int) (ls:List (Int × Int)):Prop where
 few:ws.length<=40
 most:ls.length<=1700
 links:∀ l ∈ ls,(0<=l.1/\l.1 < ws.length)/\0<=l.2/\l.2 < ws.length
def cY (x:PV) (ns:List Int):Prop:=x = .tup (intz ns) ∨ x = .lst (intz ns)
theorem cY.seq {x:PV}{ns:List Int} (h:cY x ns):jF x=some (intz ns):=by rcases h with rfl | rfl <;> rfl
theorem cY.seqT {x:PV}{ns:List Int} (h:cY x ns):seqT x=some (intz ns):=by rcases h with rfl | rfl <;> rfl
theorem oJ:∀ (ls:List (Int × Int)),flats (ls.map fun l=>PV.tup [.int l.1,.int l.2])=true
 | []=>rfl
 | l :: r=>by
  show (flat (.tup [.int l.1,.int l.2]) && flats (r.map fun l=>PV.tup [.int l.1,.int l.2]))=true
  rw [oJ r]; rfl
theorem Q7 (ws:List Int) (ls:List (Int × Int)):flat (b8 ws ls)=true:=by
 show flats [.tup (intz ws),.tup (ls.map fun l=>PV.tup [.int l.1,.int l.2])]=true
 show (flat (.tup (intz ws)) && (flat (.tup (ls.map fun l=>PV.tup [.int l.1,.int l.2])) && true))=true
 show (flats (intz ws) && (flats (ls.map fun l=>PV.tup [.int l.1,.int l.2]) && true))=true
 rw [bJ,oJ]; rfl
theorem Q8 (ns:List Int):flat (.tup (intz ns))=true:=bJ ns
def hG:bK:=fun xs Q=>∃ ws ls,xs = [b8 ws ls]/\Q (.int ws.length)
def Q9:aK:=(b9 (aB cW (a6 (cQ (a5 0) (qC (.int 0))) a9)))
abbrev cI (t:aK) (N:List Str) (p:bK):Prop:=∀ xs Q,p xs Q->t { nx:=fun _=>Q .non,rt:=Q } (eW N xs)
theorem aF8:cI Q9 ["web"] hG:=by
 rintro xs Q ⟨ws,ls,rfl,q⟩
 refine⟨_,rfl,_,_,_,rfl,rfl,rfl,_,_,rfl,rfl,trivial,?_⟩
 rw [aW]; exact q
def wK:bK:=fun xs Q=>∃ x ns,xs = [x]/\cY x ns/\ns.length<=1000/\Q (.bl (iD ns))
def inB (n:Nat) (x:Int):Bool:=decide (0<=x) && decide (x < (n:Int))
def mF:bK:=fun xs Q=>∃ ws ls n,xs = [b8 ws ls,.int n]/\Q (.bl (inB ws.length n))
def R3:aK:=(b9 (lT (vV (a5 1) (qC (.int 0))) (r6 (a5 1) (aB hG (a6 (a5 0) a9)))))
theorem aF9:cI R3 ["web","number"] mF:=by
 rintro xs Q ⟨ws,ls,n,rfl,q⟩
 refine⟨_,rfl,_,_,rfl,rfl,_,rfl,?_⟩
 unfold inB at q
 by_cases h:(0:Int)<=n
 ·rw [be7 h] at q ⊢
  refine aZ ⟨_,rfl,_,rfl,ws,ls,rfl,_,_,rfl,rfl,trivial,?_⟩
  simpa using q
 ·rw [be8 h] at q ⊢
  exact aP ⟨trivial,by simpa using q⟩
def aY (n:Nat) (ns:List Int):Bool:=iD ns && (ns.map (inB n)).all id
def rN:bK:=fun xs Q=>∃ ws ls x ns,xs = [b8 ws ls,x]/\cY x ns/\ns.length<=1000/\Q (.bl (aY ws.length ns))
def R4:aK:=(b9 (lT (aB wK (a6 (a5 1) a9)) (aB vF (a6 (cL (dN (a5 1)) [none,some 0] (bO 0) fH (aB mF (a6 (a5 1) (a6 (a5 0) a9)))) a9))))
theorem oK {x:PV}{ns:List Int} (h:cY x ns):(Slot.sh (flat x) x).tag = .rd->flat x=true:=by
 cases flat x <;> intro z <;> cases z
theorem aG0:cI R4 ["web","numbers"] rN:=by
 rintro xs Q ⟨ws,ls,x,ns,rfl,hx,hl,q⟩
 refine⟨_,rfl,x,ns,rfl,hx,hl,_,rfl,?_⟩
 unfold aY at q
 cases h:iD ns with
 | false=>rw [h] at q; exact aP ⟨trivial,q⟩
 | true=>
  rw [h] at q
  refine aZ ⟨_,rfl,_,hx.seq,oK hx,by rw [aW]; omega,fun i acc=>acc=(((ns.take i).map (inB ws.length)).map PV.bl),rfl,?_,?_⟩
  ·rintro i y acc hy rfl
   obtain ⟨n,rfl,hn⟩:=fB hy
   have tk:((ns.take (i+1)).map (inB ws.length)).map PV.bl=((ns.take i).map (inB ws.length)).map PV.bl ++ [PV.bl (inB ws.length n)]:=by rw [rL hn,bh3]; rfl
   exact⟨_,rfl,_,rfl,ws,ls,n,rfl,trivial,tk.symm⟩
  ·rintro acc rfl
   rw [aW,bi3]
   exact⟨_,rfl,trivial,by simpa using q⟩
theorem cY.noscr {x:PV}{ns:List Int} (h:cY x ns):∀ ms,([x]:List PV) ≠ [.scr ms]:=by
 rcases h with rfl | rfl <;> intro ms z <;> cases z
structure DS (ps:List (aC × PV)) (S:List Int):Prop where
 has:∀ i:Int,(cA ps (Sum.inl i:aC)).isSome=decide (i ∈ S)
 len:ps.length<=S.length
 fl:flats (ps.map (·.2))=true
theorem DS.nil:DS [] []:=⟨fun i=>rfl,be6 _,rfl⟩
section
variable {κ : Type} [DecidableEq κ]
theorem aG1 {k:κ}:cA ([]:List (κ × PV)) k=none:=rfl
theorem iV {p:κ × PV}{r:List (κ × PV)}{k:κ} (e:p.1=k):cA (p :: r) k=some p.2:=by simp [cA,bl9,e]
theorem iW {p:κ × PV}{r:List (κ × PV)}{k:κ} (e : ¬ p.1=k):cA (p :: r) k=cA r k:=by simp [cA,bl9,e]
theorem rO (k:κ):∀ kvs:List (κ × PV),(kvs.any fun kv=>decide (kv.1=k))=(cA kvs k).isSome
 | []=>rfl
 | p :: r=>by
  rw [List.any_cons]
  by_cases e:p.1=k
  ·simp only [iV e,be7 e,Bool.true_or,Option.isSome_some]
  ·rw [iW e,be8 e,Bool.false_or]; exact rO k r
theorem R5 (k j:κ) (y:PV):∀ kvs:List (κ × PV),cA (kvs.map fun kv=>if kv.1=k then (kv.1,y) else kv) j=(cA kvs j).map fun x=>if j=k then y else x
 | []=>rfl
 | p :: r=>by
  have ih:=R5 k j y r
  rw [bj4]
  by_cases h:p.1=k
  ·rw [if_pos h]
   by_cases e:p.1=j
   ·rw [iV (p:=(p.1,y)) e,iV e,Option.map_some,if_pos (e.symm.trans h)]
   ·rw [iW (p:=(p.1,y)) e,iW e,ih]
  ·rw [if_neg h]
   by_cases e:p.1=j
   ·rw [iV (p:=p) e,iV e,Option.map_some,if_neg (fun z=>h (e.trans z))]
   ·rw [iW (p:=p) e,iW e,ih]
theorem R6 (k j:κ) (y:PV):∀ kvs:List (κ × PV),cA kvs k=none->cA (kvs ++ [(k,y)]) j=if j=k then some y else cA kvs j
 | [],_=>by
  by_cases e:k=j
  ·rw [if_pos e.symm]; exact iV (p:=(k,y)) e
  ·rw [if_neg (fun z=>e z.symm)]; exact iW (p:=(k,y)) e
 | p :: r,hn=>by
  rw [List.cons_append]
  have hk : ¬ p.1=k:=fun z=>by rw [iV z] at hn; cases hn
  rw [iW hk] at hn
  have ih:=R6 k j y r hn
  by_cases e:p.1=j
  ·rw [iV e,iV e,if_neg (fun z=>hk (e.trans z))]
  ·rw [iW e,iW e,ih]
theorem R7 (kvs:List (κ × PV)) (k j:κ) (y:PV):cA (cM kvs k y) j=if j=k then some y else cA kvs j:=by
 unfold cM
 by_cases a:(kvs.any fun kv=>decide (kv.1=k))=true
 ·rw [if_pos a,R5]
  rw [rO] at a
  by_cases e:j=k
  ·obtain ⟨x,hx⟩:=Option.isSome_iff_exists.mp a
   rw [if_pos e,e,hx,Option.map_some,if_pos rfl]
  ·rw [if_neg e]
   cases cA kvs j with
   | none=>rfl
   | some x=>rw [Option.map_some,if_neg e]
 ·rw [if_neg a]
  refine R6 k j y kvs ?_
  rw [rO] at a
  cases q:cA kvs k with
  | none=>rfl
  | some x=>rw [q] at a; exact (a rfl).elim
theorem wL (kvs:List (κ × PV)) (k:κ) (v:PV):(cM kvs k v).length<=kvs.length+1:=by
 unfold cM
 split
 ·rw [be5]; omega
 ·rw [be2,bi2,List.length_nil]; omega
end
theorem R8:∀ (xs:List PV),flats xs=true ↔ ∀ x ∈ xs,flat x=true
 | []=>by simp [flats]
 | x :: r=>by
  unfold flats
  rw [bg1,R8 r]; simp
theorem aG2 {κ:Type} [DecidableEq κ] {ps:List (κ × PV)}{k:κ}{v:PV}{p:κ × PV} (h:p ∈ cM ps k v):p.2=v ∨ p ∈ ps:=by
 unfold cM at h
 split at h
 ·obtain ⟨q,hq,e⟩:=bi7.mp h
  split at e
  ·subst e; exact .inl rfl
  ·subst e; exact .inr hq
 ·rcases bg2.mp h with h | h
  ·exact .inr h
  ·rw [bf3.mp h]; exact .inl rfl
theorem wM {κ:Type} [DecidableEq κ] {ps:List (κ × PV)}{k:κ}{v:PV} (h:flats (ps.map (·.2))=true) (hv:flat v=true):flats ((cM ps k v).map (·.2))=true:=by
 rw [R8] at h ⊢
 intro x hx
 obtain ⟨p,hp,rfl⟩:=bi7.mp hx
 rcases aG2 hp with e | e
 ·rw [e]; exact hv
 ·exact h _ (bi7.mpr ⟨p,e,rfl⟩)
theorem DS.put {ps:List (aC × PV)}{S:List Int} (h:DS ps S) (x:Int) (v:PV) (hv:flat v=true):DS (cM ps (Sum.inl x:aC) v) (S ++ [x]):=by
 refine⟨fun i=>?_,?_,wM h.fl hv⟩
 ·rw [R7]
  by_cases e:i=x
  ·subst e; rw [if_pos rfl]; simp
  ·rw [if_neg (fun z=>e (Sum.inl.inj z)),h.has]
   simp [e]
 ·have:=wL ps (Sum.inl x:aC) v
  have:=h.len
  rw [be2,bi8]; omega
theorem DS.merge {S:List Int}:∀ {mp ps:List (aC × PV)}{T:List Int},DS ps S->DS mp T->DS (iA ps mp) (S ++ T):=by
 have key:∀ (mp:List (aC × PV)) {ps:List (aC × PV)} (i:Int),(cA (iA ps mp) (Sum.inl i:aC)).isSome=((cA ps (Sum.inl i:aC)).isSome || (cA mp (Sum.inl i:aC)).isSome):=fun mp=>by
  induction mp with
  | nil=>intro ps i; show (cA ps (Sum.inl i:aC)).isSome=_; rw [aG1]; simp
  | cons p r ih=>
   intro ps i
   show (cA (iA (cM ps p.1 p.2) r) (Sum.inl i:aC)).isSome=_
   rw [ih,R7]
   by_cases e:(Sum.inl i:aC)=p.1
   ·rw [if_pos e,iV e.symm]; simp
   ·rw [if_neg e,iW (Ne.symm e)]
 have keyl:∀ (mp:List (aC × PV)) {ps:List (aC × PV)},(iA ps mp).length<=ps.length+mp.length:=fun mp=>by
  induction mp with
  | nil=>intro ps; exact be6 _
  | cons p r ih=>
   intro ps
   have h1:=ih (ps:=cM ps p.1 p.2)
   have h2:=wL ps p.1 p.2
   show (iA (cM ps p.1 p.2) r).length<=_
   rw [bi2]; omega
 have keyf:∀ (mp:List (aC × PV)) {ps:List (aC × PV)},flats (ps.map (·.2))=true->flats (mp.map (·.2))=true->flats ((iA ps mp).map (·.2))=true:=fun mp=>by
  induction mp with
  | nil=>intro ps h _; exact h
  | cons p r ih=>
   intro ps h g
   have g:(flat p.2 && flats (r.map (·.2)))=true:=g
   rw [bg1] at g
   exact ih (ps:=cM ps p.1 p.2) (wM h g.1) g.2
 intro mp ps T h g
 refine⟨fun i=>?_,?_,keyf mp h.fl g.fl⟩
 ·rw [key,h.has,g.has,bm7]; simp
 ·have:=keyl mp (ps:=ps)
  have:=h.len
  have:=g.len
  rw [be2]; omega
def iE:bK:=fun xs Q=>∃ x ns,xs = [x]/\cY x ns/\ns.length<=1000/\∀ ps,DS ps ns->Q (.dK ps)
def R9:aK:=(aH (dQ 1 (qC (.dK [])))
 (aH (eI (dN (a5 0)) (bO 2)
  (oB 1 (a5 2) (qC (.bl true))))
 (gT 1)))
theorem aG3:cI R9 ["hearths","inside","hearth"] iE:=by
 rintro xs Q ⟨x,ns,rfl,hx,hl,q⟩
 refine⟨rfl,rfl,_,rfl,_,hx.seq,oK hx,fun i ρ=>∃ y ps,ρ = [some (.sh (flat x) x),some (.own (.dK ps)),y]/\DS ps (ns.take i),⟨none,[],rfl,DS.nil⟩,?_,?_⟩
 ·rintro i y ρ hy ⟨y0,ps,rfl,d⟩
  obtain ⟨n,rfl,hn⟩:=fB hy
  have hlen:=d.len
  rw [bj0] at hlen
  refine⟨_,rfl,_,rfl,Sum.inl n,rfl,trivial,by omega,_,_,rfl,?_⟩
  rw [bm3,hn]
  exact d.put n _ rfl
 ·rintro ρ ⟨y,ps,rfl,d⟩
  rw [aW,bi3] at d
  exact⟨_,rfl,trivial,q ps d⟩
def rP:bK:=fun xs Q=>∃ x ns ps S,xs = [x,.dK ps]/\cY x ns/\DS ps S/\ns.length<=10000/\Q (.int ((ns.filter fun x=>decide (x ∈ S)).length:Nat))
def S0:aK:=(b9 (aB cW (a6 (cL (dN (a5 0)) [none,some 1] (bO 0) (aR (iN false (a5 0) (a5 1))) (a5 0)) a9)))
theorem aG4:cI S0 ["hearths","inside"] rP:=by
 rintro xs Q ⟨x,ns,ps,S,rfl,hx,d,hl,q⟩
 refine⟨_,rfl,_,hx.seq,oK hx,by rw [aW]; omega,fun i acc=>acc=intz ((ns.take i).filter fun x=>decide (x ∈ S)),rfl,?_,?_⟩
 ·rintro i y acc hy rfl
  obtain ⟨n,rfl,hn⟩:=fB hy
  have tk:=kA (p:=fun x=>decide (x ∈ S)) hn
  refine⟨_,rfl,_,rfl,_,.inl ⟨ps,Sum.inl n,rfl,rfl,rfl⟩,_,rfl,?_⟩
  show if (cA ps (Sum.inl n:aC)).isSome=true then _ else _
  rw [d.has n]
  by_cases h:n ∈ S
  ·rw [be7 h] at tk ⊢
   refine aZ ⟨_,rfl,trivial,?_⟩
   rw [if_pos rfl] at tk
   show _=intz (List.filter _ (List.take (i+1) ns))
   rw [tk,cR]; rfl
  ·rw [be8 h] at tk ⊢
   refine aP ?_
   rw [if_neg (by decide),bf9] at tk
   show _=intz (List.filter _ (List.take (i+1) ns))
   rw [tk]
 ·rintro acc rfl
  rw [aW,bi3]
  refine⟨_,_,rfl,rfl,trivial,?_⟩
  rw [aW]; exact q
def iX (n:Nat) (ls:List (Int × Int)):List PV:=(List.range n).map fun (k:Nat)=>PV.lst (intz (bE ls k))
def oM:bK:=fun xs Q=>∃ ws ls,xs = [b8 ws ls]/\Wb ws ls/\Q (.lst (iX ws.length ls))
theorem aG5 {n:Nat}{ls:List (Int × Int)}{h:Int} (h0:0<=h) (h1:h < (n:Int)):atI (iX n ls) h=some (.lst (intz (bE ls h))):=by
 refine qH h0 ?_
 unfold iX
 rw [bf4,List.getElem?_range (by omega)]
 show some (PV.lst (intz (bE ls ((h.toNat:Nat):Int))))=_
 rw [show ((h.toNat:Nat):Int)=h by omega]
def mG:bK:=fun xs Q=>∃ ws ls ps S h,xs = [b8 ws ls,.lst (iX ws.length ls),.dK ps,.int h]/\Wb ws ls/\DS ps S/\0<=h/\h < (ws.length:Int)/\Q (.bl (kin ws ls S h))
def S2:aK:=(b9 (lT (iN true (a5 3) (a5 2)) (vV (aB rP (a6 (cQ (a5 1) (a5 3)) (a6 (a5 2) a9))) (cQ (cQ (a5 0) (qC (.int 0))) (a5 3)))))
theorem wN {ws:List Int}{h:Int} (h0:0<=h) (h1:h < (ws.length:Int)):atI (intz ws) h=some (.int (ws.getD h.toNat 0)):=by
 refine qH h0 ?_
 have:h.toNat < ws.length:=by omega
 rw [bf4,bf7,be3 this]; rfl
theorem aG6:cI S2 ["web","around","burning","hearth"] mG:=by
 rintro xs Q ⟨ws,ls,ps,S,h,rfl,wb,d,h0,h1,q⟩
 refine⟨_,rfl,_,rfl,_,.inl ⟨ps,Sum.inl h,rfl,rfl,rfl⟩,_,rfl,?_⟩
 show if (!(cA ps (Sum.inl h:aC)).isSome)=true then _ else _
 rw [d.has h]
 unfold kin at q
 by_cases hm:h ∈ S
 ·rw [be7 hm] at q ⊢
  exact aP ⟨trivial,by simpa using q⟩
 ·rw [be8 hm] at q ⊢
  have nl:=qG ls h
  have:=wb.most
  refine aZ ⟨_,rfl,_,rfl,_,_,_,rfl,rfl,aG5 h0 h1,_,rfl,_,bE ls h,ps,S,rfl,.inr rfl,d,by omega,_,rfl,_,_,_,rfl,rfl,rfl,_,rfl,_,_,_,rfl,rfl,wN h0 h1,_,_,rfl,rfl,trivial,?_⟩
  simpa using q
def oN:bK:=fun xs Q=>∃ ws ls ps S,xs = [b8 ws ls,.lst (iX ws.length ls),.dK ps]/\Wb ws ls/\DS ps S/\Q (.tup (intz (nextOf ws ls S)))
def S3:aK:=(b9 (aB dW (a6 (cL (gD (aB hG (a6 (a5 0) a9))) [none,some 0,some 1,some 2] (bO 0) (aR (aB mG (a6 (a5 1) (a6 (a5 2) (a6 (a5 3) (a6 (a5 0) a9)))))) (a5 0)) a9)))
theorem aG7:cI S3 ["web","around","burning"] oN:=by
 rintro xs Q ⟨ws,ls,ps,S,rfl,wb,d,q⟩
 have few:=wb.few
 refine⟨_,rfl,ws,ls,rfl,_,rfl,by omega,by omega,by rw [dO]; omega,fun i acc=>acc=intz (((rng ws.length).take i).filter (kin ws ls S)),rfl,?_,?_⟩
 ·rintro i y acc hy rfl
  obtain ⟨rfl,hi⟩:=gZ hy
  have hi':i < ws.length:=by omega
  have tk:=kA (p:=kin ws ls S) (wJ hi')
  have e0:(0:Int)+(i:Int)=(i:Int):=by omega
  refine⟨_,rfl,_,rfl,_,rfl,_,rfl,ws,ls,ps,S,_,rfl,wb,d,by omega,by omega,_,rfl,?_⟩
  show if kin ws ls S ((0:Int)+(i:Int))=true then _ else _
  rw [e0]
  cases h:kin ws ls S (i:Int) with
  | true=>
   refine aZ ⟨_,rfl,trivial,?_⟩
   rw [h,if_pos rfl] at tk
   show _=intz (List.filter _ (List.take (i+1) _))
   rw [tk,cR]
   show _ ++ [PV.int _]=_
   rfl
  | false=>
   refine aP ?_
   rw [h,if_neg (by decide),bf9] at tk
   show _=intz (List.filter _ (List.take (i+1) _))
   rw [tk]
 ·rintro acc rfl
  rw [dO,bl8 (by rw [fC]; omega)]
  exact⟨⟨_,_,rfl,rfl,bJ _,trivial,q⟩,fun ns z=>by cases z⟩
def tups (rs:List (List Int)):List PV:=rs.map fun r=>PV.tup (intz r)
theorem aG8 {rs:List (List Int)}{i:Nat}{x:PV} (h:(tups rs)[i]? = some x):∃ r,x = .tup (intz r)/\rs[i]? = some r:=by
 unfold tups at h
 rw [bf4] at h
 cases e:rs[i]? with
 | none=>rw [e] at h; cases h
 | some n=>rw [e] at h; exact⟨n,(bg9 h).symm,rfl⟩
theorem S4 (rs:List (List Int)):(tups rs).length=rs.length:=be5 _
theorem dF {n:Nat}{ns:List Int} (h:aY n ns=true):iD ns=true/\∀ x ∈ ns,0<=x/\x < (n:Int):=by
 unfold aY at h
 rw [bg1,bm8] at h
 refine⟨h.1,fun x hx=>?_⟩
 have:=h.2 _ (bi7.mpr ⟨x,hx,rfl⟩)
 unfold inB at this
 simpa using this
theorem gH {n:Nat}{ns:List Int} (h:aY n ns=true):ns.length<=n:=by
 obtain ⟨h1,h2⟩:=dF h
 have:=Q5 (ws:=List.replicate n (0:Int)) (fU h1) (by rw [List.length_replicate]; exact h2)
 rw [List.length_replicate] at this
 omega
theorem wO {ws:List Int}{ls:List (Int × Int)}{ns:List Int} (h:aY ws.length ns=true) (k:Nat):(b5 ws ls ns k).length<=ws.length:=by
 have h1:=wH ws ls ns k
 have h2:=Q5 (fU (dF h).1) (dF h).2
 omega
end Core
namespace PP
open PySem L2
def wP (te:aE):aE:=fun ρ Q=>te ρ fun x _=>∃ n:Int,x = .int n/\0<=n/\n<=1000000/\Q (.lst (fQ 0 n.toNat)) .fr
def rQ:List PV->(PV->Prop)->Prop:=fun xs Q=>∃ ys:List (List Int),xs = [.lst (ys.map fun r=>PV.tup (intz r))]/\ys.length < 64/\(∀ y ∈ ys,y ≠ [])/\∀ zs:List (List Int),zs.Perm ys->zs.Pairwise (fun u v=>HT.fN v u=false)->Q (.lst (zs.map fun r=>PV.tup (intz r)))
def rR:List PV->(PV->Prop)->Prop:=fun xs Q=>∃ ps:List (List aC × PV),xs = [.dT ps]/\Q (.lst (ps.map fun p=>PV.tup (p.1.map kP)))
end PP
namespace Core
open PySem L2 PP
theorem S5 (g:Tg) (n:Int):Nw g (.int n):=by cases g <;> first | exact trivial | rfl
def hJ (x:PV) (ns:List Int):Prop:=x = .scr ns ∨ x = .lst (intz ns)
theorem hJ.seq {x:PV}{ns:List Int} (h:hJ x ns):jF x=some (intz ns):=by rcases h with rfl | rfl <;> rfl
theorem hJ.len {x:PV}{ns:List Int} (h:hJ x ns):vE x=some ns.length:=by
 rcases h with rfl | rfl
 ·rfl
 ·show some (intz ns).length=_
  rw [aW]
def kZ:bK:=fun xs Q=>∃ x ns k,xs = [x,.int k]/\hJ x ns/\0<=k/\Q (.int (ns.getD k.toNat 0))
def S6:aK:=(aH (bQ (aR (r6 (a5 1) (aB cW (a6 (a5 0) a9)))) (b9 (cQ (a5 0) (a5 1))) bX)
 (b9 (qC (.int 0))))
theorem aG9:cI S6 ["script","k"] kZ:=by
 rintro xs Q ⟨x,ns,k,rfl,hx,h0,q⟩
 refine⟨_,rfl,_,rfl,_,_,rfl,hx.len,_,_,rfl,rfl,_,rfl,?_⟩
 by_cases h:k < (ns.length:Int)
 ·rw [be7 h]
  exact aZ ⟨_,rfl,_,rfl,_,_,_,hx.seq,rfl,wN h0 h,S5 _ _,q⟩
 ·rw [be8 h]
  rw [bf7,List.getElem?_eq_none (by omega)] at q
  exact aP ⟨trivial,q⟩
def bC (ls:List (Int × Int)):List PV:=ls.map fun l=>PV.tup [.int l.1,.int l.2]
theorem S7 (ls:List (Int × Int)):(bC ls).length=ls.length:=be5 _
def oO (l m:Int × Int):Prop:=l.1 < m.1 ∨ (l.1=m.1/\l.2 < m.2)
structure l8 (n:Int) (ws:List Int) (ls:List (Int × Int)):Prop where
 many:(ws.length:Int)=n
 inn:∀ l ∈ ls,0<=l.1/\l.1 < l.2/\l.2 < n
 most:ls.length<=63
 ord:ls.Pairwise oO
 pos:∀ w ∈ ws,0<=w
abbrev si (n:Int):Option Slot:=some (.sh true (.int n))
def oP:bK:=fun xs Q=>∃ i,xs = [.int i]/\Q (.bl true)
def S8 (K:PySem.W.Frag):aK:=(b9 (lT (iO K "int" (a5 0)) (v8 (iO K "bool" (a5 0)))))
theorem cY.len {x:PV}{ns:List Int} (h:cY x ns):vE x=some ns.length:=by
 rcases h with rfl | rfl <;> (show some (intz ns).length=_; rw [aW])
theorem aH0 {K:PySem.W.Frag} (k1:PySem.W.kitOne K (.type "int") (.type "int")=some true) (k2:PySem.W.kitOne K (.type "int") (.type "bool")=some false):cI (S8 K) ["found"] oP:=by
 rintro xs Q ⟨i,rfl,q⟩
 exact⟨_,rfl,_,_,rfl,k1,_,rfl,aZ ⟨_,rfl,_,_,rfl,k2,_,rfl,trivial,q⟩⟩
theorem wQ {ls:List (Int × Int)}{i:Nat}{x:PV} (h:(bC ls)[i]? = some x):∃ l,x = .tup [.int l.1,.int l.2]/\ls[i]? = some l:=by
 unfold bC at h
 rw [bf4] at h
 cases e:ls[i]? with
 | none=>rw [e] at h; cases h
 | some n=>rw [e] at h; exact⟨n,(bg9 h).symm,rfl⟩
end Core
namespace PP
open PySem L2 PyProof.Rows
section
variable {X : Cx} {a b e : Expr} {ta tb te : aE} {tr : cN} {pos p2 p3 pos2 : Pos}
theorem aH1 {tA:TA} (hg:Gl X "range") (hm:X.mg "range" = none) (ha:PA X [a] tA) (hs:starEach [a] X.env = [(false,eval a X.env)]:=by rfl) :
  PE X (.Call (.Name "range" p2) [a] [] pos) (fun σ H Q=>tA σ H fun vs H1=>∃ j:Int,vs = [.int j]/\∀ r,H1 r=none->Q (.ref r) (upd H1 r (.rng 0 j))):=by
 intro pins s σ H Q I h
 refine Call_ (j3 I hg hm boot_range (bl0 (aS (ha pos pins s σ H _ I h) fun us s1 ⟨vs,H1,I1,r1,q1⟩=>?_) hs rfl))
 obtain ⟨j,e,q⟩:=q1
 subst e
 cases r1 with
 | cons r rr=>
  cases rr
  obtain ⟨t,rfl⟩:=r
  refine call_range_1 ?_
  exact⟨.ref s1.heap.objs.size,_,I1.laid (o:=.rng 0 j) (fun b ob q=>be1 _ q) (be6 _) ⟨_,_,_,bf6 _ rfl⟩,rfl,q _ (I1.hok.fresh (be6 _))⟩
theorem S9:∀ {xs:List V}{us:List Value},xs.length=us.length->(∀ (i:Nat) x u,xs[i]? = some x->us[i]? = some u->b4 x u)->aQ xs us
 | [],[],_,_=>.nil
 | x :: xs,u :: us,hl,h=>.cons (h 0 x u rfl rfl) (S9 (by simpa using hl) fun i y w h1 h2=>h (i+1) y w (by rw [bh4]; exact h1) (by rw [bh4]; exact h2))
theorem aH2 {n:Nat}{acc:Array Value} (h:ItemsOf (fun i v=>∃ t,v = .int (0+(i:Int) * 1) t) acc n):aQ (jB 0 n) acc.toList:=by
 obtain ⟨h1,h2⟩:=h
 refine S9 (by rw [uL]; simp [h1]) fun i x u hx hu=>?_
 have hi:i < n:=by
  have:=(bf0.mp hx).1
  rwa [uL] at this
 unfold jB at hx
 rw [bf4,List.getElem?_range hi] at hx
 cases hx
 obtain ⟨t,rfl⟩:=h2 i u (by rw [<- Array.getElem?_toList]; exact hu)
 exact⟨t,by congr 1; omega⟩
theorem aH3 (hc:X.calm=true):cU X (.type "list") (fun xs H Q=>∃ r j,xs = [.ref r]/\H r=some (.rng 0 j)/\0<=j/\j<=1000000/\∀ l,H l=none->Q (.ref l) (upd H l (.lst (jB 0 j.toNat)))):=by
 intro pins s σ H xs us Q I r h
 obtain ⟨p,j,rfl,hq,h0,h1,q⟩:=h
 obtain ⟨u,rfl,rx⟩:=fX r
 cases rx
 obtain ⟨t,u,v,ho⟩:=(show bR X.prog X.w H s.heap p (.rng 0 j) from I.hok p _ hq)
 refine PySem.call_list_range (a:=0) (b:=j) (c:=1) (n:=j.toNat) (I.ok.hd hc) ho (small_one (by decide) (by decide) (by omega) (by omega)) (by rw [rangeSize_one]; split <;> omega) (by omega) fun h' tk acc' c' kp e it=>?_
 have vv:=aH2 it
 have eq:acc'.toList.toArray=acc':=by simp
 exact⟨.ref s.heap.objs.size,_,I.laid (t':=tk) (o:=.lst (jB 0 j.toNat)) kp (be6 _) ⟨by rw [uL]; exact lim (by omega),acc'.toList,c',vv,by rw [eq]; exact e⟩,rfl,q _ (I.hok.fresh (be6 _))⟩
theorem aH4 {K:PySem.W.Frag}{M:Addr->Prop}{H:Hp} (lo:Int) (n:Nat):Reps K M H (jB lo n) (fQ lo n):=by
 unfold jB fQ
 generalize List.range n=l
 induction l with
 | nil=>exact .nil
 | cons a r ih=>exact .cons (.int _) ih
theorem T0 (B:Bt X.mg) (ha:QE X a ta) (hc:X.calm=true:=by rfl) (hg:Gl X "list":=by rfl) (hgr:Gl X "range":=by rfl) (hs:starEach [a] X.env = [(false,eval a X.env)]:=by rfl)
  (he:starEach [.Call (.Name "range" p3) [a] [] pos2] X.env=(false,eval (.Call (.Name "range" p3) [a] [] pos2) X.env) :: starEach [] X.env:=by rfl) (hpl:(backTo pos (starEach [] X.env)).any (·.1)=false:=by rfl) :
  QE X (.Call (.Name "list" p2) [.Call (.Name "range" p3) [a] [] pos2] [] pos) (wP ta):=
 c7 (zM (aH3 hc) hg B.list PyProof.Rows.boot_list (cP (aH1 hgr B.range (cP ha dP hs) hs) dP he) (he:=he) (hpl:=hpl)) fun σ H Q' h=>by
  obtain ⟨W,ρ,Q,px,q,k⟩:=h
  refine⟨W,ρ,_,px,q,?_⟩
  rintro v H1 x g s r ⟨n,rfl,h0,h1,q⟩
  cases r
  refine⟨n,rfl,fun r hr=>⟨r,n,rfl,bD,h0,h1,fun l hl=>?_⟩⟩
  have S:aD H (upd (upd H1 r (.rng 0 n)) l (.lst (jB 0 n.toNat))):=(s.trans (bM hr _)).trans (bM hl _)
  exact k _ _ _ .fr S (.lst (((s.trans (bM hr _))).free hl) bD (aH4 0 n.toNat)) q
theorem aH5:fP X rR (fun xs H Q=>∃ a kvs,xs = [.ref a]/\H a=some (.dT kvs)/\∀ l ys,H l=none->Paired (nX H) ys (kvs.map (·.1))->Q (.ref l) (upd H l (.lst ys))):=by
 rintro H vs xs Q Q' r ⟨ps,rfl,q⟩ k
 obtain ⟨v,rfl,r1⟩:=r.one
 cases r1 with
 | @dT a kvs _ m h e r2=>
  refine⟨a,kvs,rfl,h,fun l ys hl pr=>k _ _ _ (bM hl _) (.lst hl bD ?_) q⟩
  have kv:∀ (k:List aC),Reps X.K (fun a=>H a=none) H (k.map kV) (k.map kP):=fun k=>by
   induction k with
   | nil=>exact .nil
   | cons a r ih=>exact .cons (by cases a <;> constructor) ih
  have go:∀ {ys:List V}{ks:List (List aC)},Paired (nX H) ys ks->Reps X.K (fun a=>H a=none) H ys (ks.map fun k=>PV.tup (k.map kP)):=fun {ys ks} pr=>by
   induction pr with
   | nil=>exact .nil
   | cons h t ih=>
    obtain ⟨q,rfl,hq⟩:=h
    exact .cons (.tup hq (kv _)) ih
  have e2:(ps.map fun p=>PV.tup (p.1.map kP))=(kvs.map (·.1)).map fun k=>PV.tup (k.map kP):=by rw [e,bn3]; rfl
  rw [e2]
  exact (go pr).same (bM hl _) fun _ z=>z
theorem aH6 (B:Bt X.mg) (hc:X.calm=true) (ha:QA X [e] tr) (hg:Gl X "list":=by rfl) (he:starEach [e] X.env=(false,eval e X.env) :: starEach [] X.env:=by rfl) (hpl:(backTo pos (starEach [] X.env)).any (·.1)=false:=by rfl):QE X (.Call (.Name "list" p2) [e] [] pos) (aB rR tr):=
 w4 (as8 hc) aH5 hg B.list PyProof.Rows.boot_list ha (he:=he) (hpl:=hpl)
def wR:V->Int
 | .int i=>i
 | _=>0
def l9 (H:Hp):V->List Int
 | .ref a=>match H a with
  | some (.tup us)=>us.map wR
  | _=>[]
 | _=>[]
theorem aH7 {H:Hp}{a:Addr}{ns:List Int} (h:H a=some (.tup (ns.map V.int))):l9 H (.ref a)=ns:=by
 show (match H a with | some (.tup us)=>us.map wR | _=>[])=ns
 rw [h]
 show (ns.map V.int).map wR=ns
 rw [bn3]
 exact List.map_id _
theorem T1 {K:PySem.W.Frag}{M:Addr->Prop}{H:Hp}:∀ {us:List V}{ys:List (List Int)},Reps K M H us (ys.map fun r=>PV.tup (intz r))->us.map (l9 H)=ys/\∀ u ∈ us,∃ b,u = .ref b/\H b=some (.tup ((l9 H u).map V.int))
 | _,[],.nil=>⟨rfl,fun u h=>nomatch h⟩
 | _,y :: ys,.cons r t=>by
  obtain ⟨a,us,rfl,h,r1⟩:=r.sqT
  obtain rfl:=r1.ofInts
  obtain ⟨h1,h2⟩:=T1 t
  have hk:=aH7 h
  refine⟨by rw [bj4,h1,hk],fun u hu=>?_⟩
  rcases be9.mp hu with rfl | hu
  ·exact⟨a,rfl,by rw [hk]; exact h⟩
  ·exact h2 u hu
theorem T2 {K:PySem.W.Frag}{M:Addr->Prop}{H:Hp}:∀ {us:List V},(∀ u ∈ us,∃ b,u = .ref b/\H b=some (.tup ((l9 H u).map V.int)))->Reps K M H us ((us.map (l9 H)).map fun r=>PV.tup (intz r))
 | [],_=>.nil
 | u :: us,h=>by
  obtain ⟨b,rfl,hb⟩:=h u bf5
  exact .cons (.tup hb (Reps.intz _)) (T2 fun v hv=>h v (bg0 _ hv))
theorem aH8:fP X rQ (F1 X.K):=by
 rintro H vs xs Q Q' r ⟨ys,rfl,hl,hne,q⟩ k
 obtain ⟨v,rfl,r1⟩:=r.one
 obtain ⟨a,us,rfl,_,h,r2⟩:=r1.sqL
 obtain ⟨h1,h2⟩:=T1 r2
 have lr:=r2.length
 rw [be5] at lr
 refine⟨a,us,l9 H,rfl,aU.of h,by omega,fun y hy=>?_,fun l zs hl' pm so=>?_⟩
 ·obtain ⟨b,rfl,hb⟩:=h2 y hy
  refine⟨b,rfl,aO.of hb,hne _ ?_⟩
  rw [<- h1]; exact bi7.mpr ⟨_,hy,rfl⟩
 ·have hz:∀ u ∈ zs,∃ b,u = .ref b/\H b=some (.tup ((l9 H u).map V.int)):=fun u hu=>h2 u (pm.mem_iff.mp hu)
  refine k _ _ _ (bM hl' _) (.lst hl' bD ((T2 hz).same (bM hl' _) fun _ z=>z)) (q _ ?_ ?_)
  ·rw [<- h1]; exact pm.map _
  ·rw [bn0]; exact so
theorem aH9 (B:Bt X.mg) (ha:QA X [e] tr) (hg:Gl X "sorted":=by rfl) (he:starEach [e] X.env=(false,eval e X.env) :: starEach [] X.env:=by rfl) (hpl:(backTo pos (starEach [] X.env)).any (·.1)=false:=by rfl):QE X (.Call (.Name "sorted" p2) [e] [] pos) (aB rQ tr):=
 k8 as5 aH8 hg B.sorted PyProof.Rows.boot_sorted ha (he:=he) (hpl:=hpl)
end
def T3 (K:PySem.W.Frag):Sp:=fun vs H Q _=>∃ (a:Addr) (ns:List Int),vs = [.ref a]/\(aO K H a (ns.map V.int) ∨ aU K H a (ns.map V.int))/\ns.length<=1000/\∀ H',aD H H'->Q (.bl (Core.iD ns)) H'
def T4:Sp:=fun vs H Q _=>∃ v ws ls,vs = [v]/\F7 H v ws ls/\ws.length<=1000/\ls.length<=2000/\(∀ l ∈ ls,(0<=l.1/\l.1 < ws.length)/\0<=l.2/\l.2 < ws.length)/\
 ∀ (r:Addr) (bs:List Addr) (H':Hp),bs.length=ws.length->jC H H' r bs (fun k=>bE ls k)->Q (.ref r) H'
section
variable {P : Program} {w : World} {K : PySem.W.Frag} {mg : Str → Option Value} {base : Heap} {f : Addr} {fd : FuncData} {k : Nat}
theorem aI0 (F:cV P w K mg base dL k f fd ["things"] (T3 K)) (b:i3 K fd ["things"] []) (kp:PySem.W.keepIn K (.ref f)=true) (m:mg "rises" = some (.ref f)):Df P w K mg base k "rises" ["things"] Core.wK:=by
 refine⟨f,fd,F.imp fun vs H Q E h=>?_,b,kp,m⟩
 obtain ⟨xs,Qp,r,⟨x,ns,rfl,hx,hl,q⟩,k⟩:=h
 obtain ⟨v,rfl,r1⟩:=r.one
 rcases hx with rfl | rfl
 ·obtain ⟨a,us,rfl,h,r2⟩:=r1.sqT
  obtain rfl:=r2.ofInts
  exact⟨a,ns,rfl,.inl (aO.of h),hl,fun H' s=>k _ H' _ s (.bl _) q⟩
 ·obtain ⟨a,us,rfl,_,h,r2⟩:=r1.sqL
  obtain rfl:=r2.ofInts
  exact⟨a,ns,rfl,.inr (aU.of h),hl,fun H' s=>k _ H' _ s (.bl _) q⟩
theorem qJ {M:Addr->Prop}{H:Hp}:∀ {us:List V}{ls:List (Int × Int)},Reps K M H us (ls.map fun l=>PV.tup [.int l.1,.int l.2])->lQ H us ls
 | _,[],.nil=>.nil
 | _,l :: ls,.cons r t=>by
  obtain ⟨a,us,rfl,h,r1⟩:=r.sqT
  obtain ⟨u1,u2,rfl,q1,q2⟩:=r1.two
  cases q1; cases q2
  exact .cons ⟨a,rfl,h⟩ (qJ t)
theorem aI1 {M:Addr->Prop}{H:Hp}{v:V}{ws:List Int}{ls:List (Int × Int)} (r:aG K M H v (Core.b8 ws ls)):F7 H v ws ls:=by
 obtain ⟨a,us,rfl,h,r1⟩:=aG.sqT r
 obtain ⟨u1,u2,rfl,q1,q2⟩:=r1.two
 obtain ⟨p,up,rfl,hp,rp⟩:=q1.sqT
 obtain ⟨q,uq,rfl,hq,rq⟩:=q2.sqT
 obtain rfl:=rp.ofInts
 exact⟨a,p,q,uq,rfl,h,hp,hq,qJ rq⟩
theorem T5 {M:Addr->Prop}{H:Hp}:∀ {bs:List Addr}{ls:List (Int × Int)} (off:Nat),(∀ b ∈ bs,M b)->(∀ (k:Nat) b,bs[k]? = some b->H b=some (.lst ((bE ls ((off+k:Nat):Int)).map V.int)))->Reps K M H (bs.map V.ref) ((List.range' off bs.length).map fun (k:Nat)=>PV.lst (intz (bE ls k)))
 | [],_,_,_,_=>.nil
 | b :: bs,ls,off,hm,h=>by
  refine .cons (.lst (hm b bf5) (h 0 b rfl) (Reps.intz _)) (T5 (off+1) (fun c hc=>hm c (bg0 _ hc)) fun k c hk=>?_)
  have:=h (k+1) c (by rw [bh4]; exact hk)
  rw [show off+1+k=off+(k+1) by omega]; exact this
theorem aI2 (F:cV P w K mg base dL k f fd ["web"] T4) (b:i3 K fd ["web"] []) (kp:PySem.W.keepIn K (.ref f)=true) (m:mg "near_lists" = some (.ref f)):Df P w K mg base k "near_lists" ["web"] Core.oM:=by
 refine⟨f,fd,F.imp fun vs H Q E h=>?_,b,kp,m⟩
 obtain ⟨xs,Qp,r,⟨ws,ls,rfl,wb,q⟩,k⟩:=h
 obtain ⟨v,rfl,r1⟩:=r.one
 have:=wb.few
 have:=wb.most
 refine⟨v,ws,ls,rfl,aI1 r1,by omega,by omega,wb.links,fun t bs H' hb R=>k _ H' _ R.same (.lst R.new R.row ?_) q⟩
 have:=T5 (K:=K) (M:=fun a=>H a=none) (H:=H') (bs:=bs) (ls:=ls) 0 (fun b hb=>(R.news b hb).1) fun k b hk=>by rw [Nat.zero_add]; exact R.rows k b hk
 rw [hb,<- List.range_eq_range'] at this
 exact this
end
end PP
namespace Core
open PySem L2 PP
theorem T6 (n:Nat):fQ 0 n=intz (rng n):=by
 unfold fQ rng
 show _=List.map PV.int (List.map (fun (i:Nat)=>(i:Int)) (List.range n))
 rw [bn3]
 refine List.map_congr_left fun i _=>?_
 show PV.int (0+(i:Int))=PV.int (i:Int)
 rw [Int.zero_add]
theorem aI3 (n:Nat):(rng n).Nodup:=by
 unfold rng
 rw [List.nodup_iff_pairwise_ne,bn0]
 exact (List.nodup_range (n:=n)).imp fun h e=>h (by omega)
def two (l:Int × Int):List Int:=[l.1,l.2]
def oQ (r:List Int):Int × Int:=(r.getD 0 0,r.getD 1 0)
theorem rS (ls:List (Int × Int)):bC ls=(ls.map two).map fun r=>PV.tup (intz r):=by
 unfold bC
 rw [bn3]; rfl
theorem aI4 {zs:List (List Int)}{ls:List (Int × Int)} (h:zs.Perm (ls.map two)):∃ ls':List (Int × Int),zs=ls'.map two/\ls'.Perm ls:=by
 refine⟨zs.map oQ,?_,?_⟩
 ·rw [bn3]
  have:∀ z ∈ zs,(two ∘ oQ) z=z:=fun z hz=>by
   obtain ⟨l,_,rfl⟩:=bi7.mp (h.mem_iff.mp hz)
   rfl
  rw [List.map_congr_left this,List.map_id']
 ·have:=h.map oQ
  rw [bn3] at this
  have e:ls.map (oQ ∘ two)=ls:=by
   have:∀ l ∈ ls,(oQ ∘ two) l=id l:=fun l _=>rfl
   rw [List.map_congr_left this,List.map_id]
  rw [e] at this
  exact this
theorem aI5 {ls:List (Int × Int)} (so:(ls.map two).Pairwise fun u v=>HT.fN v u=false) (nd:ls.Nodup):ls.Pairwise oO:=by
 rw [bn0] at so
 refine (List.pairwise_and_iff.mpr ⟨so,nd⟩).imp fun {a b} h=>?_
 obtain ⟨h1,h2⟩:=h
 unfold two at h1
 rw [HT.nL] at h1
 unfold oO
 by_cases e:b.1=a.1
 ·rw [if_pos e,HT.nL] at h1
  by_cases e2:b.2=a.2
  ·exact absurd (Prod.ext e.symm e2.symm) h2
  ·rw [if_neg e2] at h1
   have:=bp3 h1
   omega
 ·rw [if_neg e] at h1
  have:=bp3 h1
  omega
theorem l8.perm {n:Int}{ws:List Int}{ls ls':List (Int × Int)} (h1:(ws.length:Int)=n) (h2:∀ l ∈ ls,0<=l.1/\l.1 < l.2/\l.2 < n) (h3:ls.length<=63) (nd:ls.Nodup) (h4:∀ w ∈ ws,0<=w) (p:ls'.Perm ls) (so:(ls'.map two).Pairwise fun u v=>HT.fN v u=false):l8 n ws ls':=
 ⟨h1,fun l hl=>h2 l (p.mem_iff.mp hl),by rw [p.length_eq]; exact h3,aI5 so (p.nodup_iff.mpr nd),h4⟩
theorem aI6 (ws:List Int) (ls:List (Int × Int)):flats [.tup (intz ws),.tup (bC ls)]=true:=Q7 ws ls
def fV (l:Int × Int):List aC:=[Sum.inl l.1,Sum.inl l.2]
structure DL (n:Int) (ps:List (List aC × PV)) (i:Nat):Prop where
 key:∀ p ∈ ps,∃ l:Int × Int,p.1=fV l/\0<=l.1/\l.1 < l.2/\l.2 < n
 len:ps.length<=i
 fl:flats (ps.map (·.2))=true
 nd:(ps.map (·.1)).Nodup
theorem aI7 {κ:Type} [DecidableEq κ] {ps:List (κ × PV)} (k:κ) (v:PV) (h:(ps.map (·.1)).Nodup):((cM ps k v).map (·.1)).Nodup:=by
 unfold cM
 split
 ·rw [bn3]
  have:((fun x:κ × PV=>x.1) ∘ fun kv:κ × PV=>if kv.1=k then (kv.1,v) else kv)=fun x=>x.1:=by
   funext x
   show (if x.1=k then (x.1,v) else x).1=x.1
   split <;> rfl
  rw [this]; exact h
 ·rename_i hn
  rw [bh3]
  refine bj3.mpr ⟨h,bh7 _ _,fun x hx y hy e=>hn ?_⟩
  obtain ⟨p,hp,rfl⟩:=bi7.mp hx
  rw [bf3.mp hy] at e
  exact List.any_eq_true.mpr ⟨p,hp,be7 e⟩
theorem aI8 {κ:Type} [DecidableEq κ] {ps:List (κ × PV)}{k:κ}{v:PV}{p:κ × PV} (h:p ∈ cM ps k v):p.1=k ∨ ∃ q ∈ ps,q.1=p.1:=by
 unfold cM at h
 split at h
 ·obtain ⟨q,hq,e⟩:=bi7.mp h
  split at e
  ·subst e; exact .inr ⟨q,hq,rfl⟩
  ·subst e; exact .inr ⟨q,hq,rfl⟩
 ·rcases bg2.mp h with h | h
  ·exact .inr ⟨p,h,rfl⟩
  ·rw [bf3.mp h]; exact .inl rfl
theorem DL.put {n:Int}{ps:List (List aC × PV)}{i:Nat} (h:DL n ps i) (l:Int × Int) (hl:0<=l.1/\l.1 < l.2/\l.2 < n):DL n (cM ps (fV l) (.bl true)) (i+1):=by
 refine⟨fun p hp=>?_,?_,wM h.fl rfl,aI7 _ _ h.nd⟩
 ·rcases aI8 hp with e | ⟨q,hq,e⟩
  ·exact⟨l,e,hl⟩
  ·obtain ⟨l',e',h'⟩:=h.key q hq
   exact⟨l',e ▸ e',h'⟩
 ·have:=wL ps (fV l) (.bl true)
  have:=h.len
  omega
theorem DL.links {n:Int}:∀ {ps:List (List aC × PV)},(∀ p ∈ ps,∃ l:Int × Int,p.1=fV l/\0<=l.1/\l.1 < l.2/\l.2 < n)->∃ ls:List (Int × Int),(ps.map fun p=>PV.tup (p.1.map kP))=bC ls/\(∀ l ∈ ls,0<=l.1/\l.1 < l.2/\l.2 < n)/\ls.length=ps.length/\ps.map (·.1)=ls.map fV
 | [],_=>⟨[],rfl,(fun _ h=>nomatch h),rfl,rfl⟩
 | p :: ps,h=>by
  obtain ⟨l,e,hl⟩:=h p bf5
  obtain ⟨ls,h1,h2,h3,h4⟩:=DL.links (ps:=ps) fun q hq=>h q (bg0 _ hq)
  refine⟨l :: ls,?_,fun m hm=>?_,by rw [bi2,bi2,h3],by rw [bj4,bj4,h4,e]⟩
  ·rw [bj4,h1,e]; rfl
  ·rcases be9.mp hm with rfl | hm
   ·exact hl
   ·exact h2 m hm
theorem aI9 {x:PV}{ns:List Int} (h:hJ x ns):(Slot.sh (flat x) x).tag = .rd->flat x=true:=by
 cases flat x <;> intro z <;> cases z
theorem wS (ns:List Int) {k:Int} (h:0<=k):iP (intz ns) (some k) none=intz (ns.drop k.toNat):=by
 unfold iP
 have e1:HT.b7 (intz ns).length 0 (some k)=min k.toNat (intz ns).length:=by
  have:=HT.zN (intz ns).length 0 k.toNat
  rw [show ((k.toNat:Nat):Int)=k by omega] at this
  exact this
 have e2:HT.b7 (intz ns).length (intz ns).length none=(intz ns).length:=rfl
 rw [e1,e2,aW]
 rw [bl8 (by rw [bk4,aW]; omega)]
 show _=List.map PV.int _
 rw [List.map_drop]
 by_cases hk:k.toNat<=ns.length
 ·rw [Nat.min_eq_left hk]
 ·rw [Nat.min_eq_right (by omega),List.drop_of_length_le (by rw [aW]; omega),List.drop_of_length_le (by rw [aW]; omega)]
structure wT (i:Int) (ms:List Int):Prop where
 up:ms.Pairwise (· < ·)
 inn:∀ x ∈ ms,0<=x/\x < i
 len:(ms.length:Int)<=i
theorem wT.set {n:Nat}{ms:List Int} (h:wT (n:Int) ms):aY n ms=true:=by
 unfold aY
 rw [wE h.up,bp7,bm8]
 intro b hb
 obtain ⟨x,hx,rfl⟩:=bi7.mp hb
 have:=h.inn x hx
 unfold inB
 simp [this]
theorem wU:∀ {a b:List Int},a.Perm b->a.Pairwise (· <= ·)->b.Pairwise (· <= ·)->a=b:=by
 intro a b h ha hb
 exact h.eq_of_pairwise (fun x y _ _ h1 h2=>Int.le_antisymm h1 h2) ha hb
def T7:bK:=fun xs Q=>∃ ns:List Int,xs = [.scr ns]/\ns.length<=63/\Q (.bl true)
structure aJ0 (K:PySem.W.Frag):Prop where
 ii:PySem.W.kitOne K (.type "int") (.type "int")=some true
 ib:PySem.W.kitOne K (.type "int") (.type "bool")=some false
 tt:PySem.W.kitOne K (.type "tuple") (.type "tuple")=some true
 ll:PySem.W.kitOne K (.type "list") (.type "list")=some true
 bb:PySem.W.kitOne K (.type "bool") (.type "bool")=some true
theorem oR (K:PySem.W.Frag):aJ0 K:=by
 have same:∀ n:String,PySem.W.kitMeta n=true->True:=fun _ _=>trivial
 refine⟨?_,?_,?_,?_,?_⟩
 ·unfold PySem.W.kitOne; rw [if_pos (by decide)]
 ·have e:(if PySem.W.kitMeta "bool" = true then (fastBuiltinMro "int").map (·.contains (Value.type "bool")) else none)=some false:=by decide +kernel
  unfold PySem.W.kitOne
  rw [if_neg (by decide)]
  exact e
 ·unfold PySem.W.kitOne; rw [if_pos (by decide)]
 ·unfold PySem.W.kitOne; rw [if_pos (by decide)]
 ·unfold PySem.W.kitOne; rw [if_pos (by decide)]
theorem l8.wb {n:Int}{ws:List Int}{ls:List (Int × Int)} (h:l8 n ws ls) (hn:n<=40):Wb ws ls:=
 ⟨by have:=h.many; omega,by have:=h.most; omega,fun l hl=>by have:=h.inn l hl; have:=h.many; omega⟩
end Core
namespace PP
open PySem L2 PyProof.Rows
theorem aJ1 {P:Program}{w:World}{K:PySem.W.Frag}{mg:Str->Option Value}{base:Heap}{k:Nat}{x:Str}{ps N:List Str}{p:bK}{st:Stmt}{f:Addr}{fd:FuncData} (F:eR K x x st f fd) (S:FnScope N ps (aX st))
  (len:∀ xs Q,p xs Q->xs.length=ps.length)
  (body:∀ (cdv:Value) (A:Around) (outer:List Env) (s:Shared) (H:Hp) (E:XK),c9 k (A.deeper (envOfC x (aX st) s.heap.objs.size f cdv))->
   ∃ t,eZ (dB dL P w K mg base N x (aX st) f cdv A outer s H E).nox (dZ st) t/\∀ xs Q,p xs Q->t { nx:=fun _=>Q .non,rt:=Q } (eW N xs)):cV P w K mg base dL (k+1) f fd ps (o7 K p):=by
 refine F.ok S (fun vs H Q E h=>?_) (fun cdv A outer s H vs Q E hr h=>?_)
 ·obtain ⟨xs,Qp,r,q,_⟩:=h
  rw [r.length]; exact len xs Qp q
 ·obtain ⟨xs,Qp,r,q,k⟩:=h
  obtain ⟨t,ht,hq⟩:=body cdv A outer s H E hr
  refine⟨_,ht,fun _=>False,eW N xs,_,rG r,hq xs Qp q,?_,?_,?_,?_⟩
  ·exact fun W' σ' H' ρ' e px q=>k _ _ _ px.same .non q
  ·exact fun v H' x s r q=>k _ _ _ s r q
  ·exact fun W' σ' H' ρ' e px q=>q
  ·exact fun W' σ' H' ρ' e px q=>q
def rT (K:PySem.W.Frag):Sp:=fun vs H Q _=>∃ (a:Addr) (ns:List Int),vs = [.ref a]/\jD K H a ns/\ns.length<=63/\∀ H',Q (.bl true) H'
theorem aJ2 {P:Program}{w:World}{K:PySem.W.Frag}{mg:Str->Option Value}{base:Heap}{k:Nat}{f:Addr}{fd:FuncData} (F:cV P w K mg base dL k f fd ["script"] (o7 K Core.T7)):cV P w K mg base dL k f fd ["script"] (rT K):=
 F.imp fun vs H Q E h=>by
  obtain ⟨a,ns,rfl,hs,hl,q⟩:=h
  refine⟨[.scr ns],fun z=>z = .bl true,.cons (.scr hs) .nil,⟨ns,rfl,hl,rfl⟩,?_⟩
  rintro v H' x _ r rfl
  cases r
  exact q H'
theorem aJ3 {K:PySem.W.Frag}{H:Hp}{a:Addr}{ns:List Int} (hO:pP H) (h:aU K H a (ns.map V.int)):jD K H a ns:=by
 rcases h with (h | ⟨o,h⟩) | h
 ·rcases hO a with e | ⟨o,xs,e⟩ <;> (rw [h] at e; cases e)
 ·exact .inl ⟨o,h⟩
 ·exact .inr h
end PP
namespace PyProof.Rows
open PySem
section
variable {prog : Program} {w : World} {A : Around} {E : Value → Shared → Prop} {s : Shared}
theorem aJ4 {l:Addr}{vs:List Value}{Q:List Value->Shared->Prop} (hl:s.heap.IsTuple l vs.toArray)
  (h:Q vs { s with heap:=(s.heap.push (seqObj "list" #[] 0)).update s.heap.objs.size (Obj.mapSeq (· ++ vs.toArray)) }) (hsz:vs.length<=sizeLine) :
  wpAny (model prog w) A (collect (.ref l)) Q E s:=by
 obtain ⟨o,ho,hc,n,hd⟩:=id hl
 unfold collect
 refine bd9 (wpAny_runValue (codeAny_builtin entry_proto_collect' ?_))
 show wpAny _ _ (do again (.builtin "list.__iadd__" ⟨[<- newList [],.ref l],[]⟩)) _ _ s
 refine bd9 (wpAny_newList (be4 ⟨Code.quiet_builtin _ (by decide +kernel),codeAny_builtin entry_list_iadd' ?_⟩))
 show wpAny _ _ (Builtin.List.listExtendWith (.ref s.heap.objs.size) (.ref l) (.ref s.heap.objs.size)) _ _ { s with heap:=s.heap.push (seqObj "list" #[] 0) }
 unfold Builtin.List.listExtendWith
 have ho':(s.heap.push (seqObj "list" #[] 0)).get? l=some o:=be1 _ ho
 refine bd9 (wpAny_typeOf (T:="tuple") ⟨o,ho',hc⟩ ?_)
 have ht:(Value.type "tuple" == Value.type "tuple")=true:=by rfl
 rw [if_pos (by rw [ht]; simp)]
 refine bd9 (listItems_at ho' hd ?_)
 refine bd9 (listItems_at (xs:=#[]) (n:=0) (bf6 _ rfl) rfl ?_)
 rw [if_neg (by simp)]
 refine bd9 (listUpdate_at (xs:=#[]) (n:=0) (bf6 _ rfl) rfl ?_ (bh8 _) (by show (#[] ++ vs.toArray).size<=sizeLine+1; simp only [Array.size_append,be0,List.length_nil]; omega))
 refine be4 ?_
 show wpAny (model prog w) A (do
   let o <- load s.heap.objs.size
   match o.data with
   | .seq xs _=>pure xs.toList
   | _=>unsupported "internal:collect") Q E { s with heap:=(s.heap.push (seqObj "list" #[] 0)).update s.heap.objs.size (Obj.mapSeq (· ++ vs.toArray)) }
 refine bd9 (wpAny_load (get?_update_seq (bf6 _ rfl) _) ?_)
 show wpAny _ _ (pure ((#[]:Array Value) ++ vs.toArray).toList) Q E _
 rw [show ((#[]:Array Value) ++ vs.toArray).toList=vs by simp]
 exact be4 h
theorem aJ5 {l:Addr}{vs:List Value}{ns:List Int}{Q:Value->Shared->Prop} (hl:s.heap.IsTuple l vs.toArray) (hI:IntsAre vs ns) (h64:vs.length < 64)
  (h:∀ (out:Array Value) (ns':List Int),IntsAre out.toList ns'->ns'.Perm ns->ns'.Pairwise (· <= ·)->Q (.ref (s.heap.objs.size+1)) { s with heap:=sortedAll s.heap vs out }) :
  wpAny (model prog w) A (call (.builtin "sorted") [.ref l]) Q E s:=by
 have hsl:vs.length<=sizeLine:=bh6 (bj6 h64) (by decide)
 refine Calls.call_function_entry kind_sorted plain_sorted entry_sorted (args_sorted1 _) ?_
 unfold Builtin.«sorted»
 refine bd9 (m:=checkCount "sorted" 1 1 _) (be4 ?_)
 refine bd9 (aJ4 hl ?_ hsl)
 refine bd9 (wpAny_newList ?_)
 have hsz:((s.heap.push (seqObj "list" #[] 0)).update s.heap.objs.size (Obj.mapSeq (· ++ vs.toArray))).objs.size=s.heap.objs.size+1:=by
  rw [Heap.size_update,size_push']
 have hoL:(((s.heap.push (seqObj "list" #[] 0)).update s.heap.objs.size (Obj.mapSeq (· ++ vs.toArray))).push (seqObj "list" vs.toArray 0)).get? (s.heap.objs.size+1)=some (seqObj "list" vs.toArray 0):=by
  rw [<- hsz]; exact bf6 _ rfl
 show wpAny _ _ _ _ _ { s with heap:=((s.heap.push (seqObj "list" #[] 0)).update s.heap.objs.size (Obj.mapSeq (· ++ vs.toArray))).push (seqObj "list" vs.toArray 0) }
 rw [hsz]
 refine bd9 (bm0 (bk5 slot_list_sort ⟨_,hoL,rfl⟩ entry_list_sort (list_sort_tree hoL hI h64 fun out ns' a1 a2 a3=>⟨_,rfl,?_⟩) (args_list_sort _)))
 exact be4 ⟨_,rfl,h out ns' a1 a2 a3⟩
end
end PyProof.Rows
namespace PP
open PySem L2 PyProof.Rows
section
variable {X : Cx} {a b e : Expr} {ta tb te : aE} {tr : cN} {pos p2 : Pos}
theorem aJ6:cU X (.builtin "sorted") (fun xs H Q=>∃ a ns,xs = [.ref a]/\(aU X.K H a (ns.map V.int) ∨ aO X.K H a (ns.map V.int))/\ns.length < 64/\∀ l (ms:List Int),H l=none->ms.Perm ns->ms.Pairwise (· <= ·)->Q (.ref l) (upd H l (.lst (ms.map V.int)))):=by
 intro pins s σ H xs us Q I r h
 obtain ⟨a,ns,rfl,hs,h64,q⟩:=h
 rcases hs with hs | hs
 ·exact E6 pins s σ H _ us Q I r ⟨a,ns,rfl,hs,h64,q⟩
 obtain ⟨u,rfl,ru⟩:=fX r
 cases ru
 obtain ⟨its,rv,p,hz⟩:=I.tuple hs
 have hl:=rv.length
 rw [be5] at hl
 refine aJ5 p (kJ rv) (by omega) fun out ns' a1 a2 a3=>?_
 obtain ⟨e,he⟩:=sortedAll_at s.heap its out
 have hn:s.heap.objs.size<=s.heap.objs.size+1:=Nat.le_succ _
 have hlen:ns'.length=ns.length:=a2.length_eq
 refine⟨.ref (s.heap.objs.size+1),upd H (s.heap.objs.size+1) (.lst (ns'.map V.int)),I.laid (t':=s.toks) (fun _ _=>sortedAll_old) hn ⟨?_,out.toList,e,nT a1,by simpa using he⟩,rfl,q _ ns' (I.hok.fresh hn) a2 a3⟩
 rw [be5,hlen]
 exact bj6 (nU (by omega))
def rV:List PV->(PV->Prop)->Prop:=fun xs Q=>∃ x ns,xs = [x]/\jF x=some (intz ns)/\ns.length < 64/\∀ ms:List Int,ms.Perm ns->ms.Pairwise (· <= ·)->Q (.lst (intz ms))
theorem aJ7:fP X rV (fun xs H Q=>∃ a ns,xs = [.ref a]/\(aU X.K H a (ns.map V.int) ∨ aO X.K H a (ns.map V.int))/\ns.length < 64/\∀ l (ms:List Int),H l=none->ms.Perm ns->ms.Pairwise (· <= ·)->Q (.ref l) (upd H l (.lst (ms.map V.int)))):=by
 rintro H vs xs Q Q' r ⟨x,ns,rfl,e,hl,q⟩ k
 obtain ⟨v,rfl,r1⟩:=r.one
 obtain ⟨a,us,rfl,hs,r2⟩:=r1.seq e
 obtain rfl:=r2.ofInts
 exact⟨a,ns,rfl,hs,hl,fun l ms hl' p o=>k _ _ _ (bM hl' _) (.lst hl' bD (Reps.intz ms)) (q ms p o)⟩
theorem T8 (B:Bt X.mg) (ha:QA X [e] tr) (hg:Gl X "sorted":=by rfl) (he:starEach [e] X.env=(false,eval e X.env) :: starEach [] X.env:=by rfl) (hpl:(backTo pos (starEach [] X.env)).any (·.1)=false:=by rfl):QE X (.Call (.Name "sorted" p2) [e] [] pos) (aB rV tr):=
 k8 aJ6 aJ7 hg B.sorted PyProof.Rows.boot_sorted ha (he:=he) (hpl:=hpl)
def T9:PV->Tg->PV->Tg->PK->Prop:=fun x _ y _ Q=>∃ xs ys,x = .lst xs/\y = .lst ys/\flats xs=true/\flats ys=true/\xs.length+ys.length<=16000000/\Q (.lst (xs ++ ys)) .fr
abbrev mH (ta tb:aE):aE:=q2 T9 ta tb
theorem aJ8:e9 X T9 A6:=by
 rintro W Hs H u v x y g g' Q Q' s n r1 r2 ⟨xs,ys,rfl,rfl,f1,f2,hl,q⟩ k
 obtain ⟨a,us,rfl,_,h1,q1⟩:=r1.sqL
 obtain ⟨b,ws,rfl,_,h2,q2⟩:=r2.sqL
 have l1:=q1.length
 have l2:=q2.length
 refine⟨a,b,us,ws,rfl,rfl,h1,h2,lim (by omega),fun p hp=>k _ _ _ .fr (bM hp _) (.lst (s.free hp) bD (((q1.flat f1).append (q2.flat f2)).same (bM hp _) fun _ z=>z)) q⟩
theorem oS (ha:QE X a ta) (hb:QE X b tb):QE X (.BinOp a .Add b pos) (mH ta tb):=jJ ap3 aJ8 ha hb
end
end PP
namespace L2
open PySem PySem.Spec PyProof.Rows
def wV (K:PySem.W.Frag) (a:Addr):It:=
  ⟨fun i H=>∃ xs x,aU K H a xs/\xs[i]? = some x,
   fun i H v H'=>∃ T x,H T=none/\v = .ref T/\H'=upd H T (.tup [.int i,x])/\∀ xs,aU K H a xs->xs[i]? = some x,
   fun i H=>∃ xs,aU K H a xs/\xs.length<=i⟩
structure aJ9 (e it a:Addr) (i:Nat) (h:Heap):Prop where
 ee:∃ old,IsEnum h e it i old
 s1:h.IsListIter it a i
theorem aK0 {P:Program}{w:World}{K:PySem.W.Frag}{elts:List Expr}{k:Nat}{pos:Pos} (a e it:Addr) (d:e ≠ it) :
  hZ P w K (.Tuple elts k pos) (wV K a) [e,it] e (aJ9 e it a):=by
 refine⟨by simp,fun i h st c hc=>?_,fun i h h' st kp=>?_,?_,?_,fun A i s Q E st q=>?_⟩
 ·simp only [be9,bf1,bi6] at hc
  obtain ⟨old,ee⟩:=st.ee
  obtain ⟨o1,f1,g1,d1⟩:=st.s1
  rcases hc with rfl | rfl
  ·exact⟨_,ee,fun v q=>by cases q⟩
  ·exact⟨_,f1,fun v q=>by rw [d1] at q; cases q⟩
 ·obtain ⟨old,ee⟩:=st.ee
  exact⟨⟨old,kp e (by simp) _ ee⟩,st.s1.at fun o z=>kp it (by simp) o z⟩
 ·intro X hP hw hK hc i pins s σ H E I hf st hg
  subst hP hw hK
  obtain ⟨xs,x,ha,hx⟩:=hg
  obtain ⟨us,ru,pu,lu⟩:=I.list ha
  obtain ⟨ux,eux,rux⟩:=ru.get hx
  obtain ⟨old,ee⟩:=st.ee
  refine wpAny_pyNext_enum_item ee st.s1 pu.isList (by simpa using eux) d fun h' eo it' pr sz kp=>⟨_,rfl,?_⟩
  refine wpAny_letOwnedTupleGo_enum (s:={ s with heap:=h',toks:=s.toks+1 }) eo fun g zz sb=>?_
  have hzl:e < s.heap.objs.size:=bf8 ee
  have up:∀ c o,c ≠ e->c ≠ it->s.heap.get? c=some o->g.get? c=some o:=fun c o c1 c2 z=>sb.extBut c o c1 (kp c o c1 c2 z)
  have hT:H s.heap.objs.size=none:=I.hok.fresh (be6 _)
  have prG:g.get? s.heap.objs.size=some { cls:=.type "tuple",data:=.seq #[.int i s.toks,ux] }:=sb.extBut _ _ (bl7 hzl) pr
  have fpn:∀ c u,H c=some u->c ∉ [e,it]:=fun c u z hm=>by rw [(hf c hm).1] at z; cases z
  have upH:∀ c o u,H c=some u->s.heap.get? c=some o->g.get? c=some o:=fun c o u q z=>by
   have:=fpn c u q
   simp only [be9,bf1,bi6,not_or] at this
   exact up c o this.1 this.2 z
  have ns:∀ m,s.heap.Ns X.env.locals m->g.Ns X.env.locals m:=fun m hm=>by
   obtain ⟨o,es,ep,e1,e2⟩:=hm
   exact⟨o,es,ep,up _ o (Ne.symm (hf e (by simp)).2.1) (Ne.symm (hf it (by simp)).2.1) e1,e2⟩
  have I2:a8 X pins σ (upd H s.heap.objs.size (.tup [.int i,x])) { s with heap:=g,toks:=s.toks+1 }:=by
   refine I.step (g':=s.gens) (d':=s.drawn) (ch:=[e,it]) (fun c hc'=>?_) (fun c o _ _ hc' z _=>?_) (fun c o _ _ hc' z _=>⟨o.slots,?_⟩) (fun c o _ z n=>?_) (fun c o hc' z=>⟨o,?_⟩)
    (fun c zs z=>by rw [aI (cF z hT)]; exact z) (fun c u zs z=>by rw [aI (cF z hT)]; exact z) (fun c ps z=>⟨#[],by rw [aI (cF z hT),z]; simp⟩) ns (fun c u z=>?_) I.bare
   ·exact⟨(hf c hc').2.2.2.1,(hf c hc').2.1,(hf c hc').2.2.2.2.1,(hf c hc').2.2.2.2.2⟩
   ·simp only [be9,bf1,bi6,not_or] at hc'
    exact up c o hc'.1 hc'.2 z
   ·simp only [be9,bf1,bi6,not_or] at hc'
    exact up c o hc'.1 hc'.2 z
   ·rw [aI (bh5 (bf8 z))]; exact n
   ·simp only [be9,bf1,bi6,not_or] at hc'
    exact up c o hc'.1 hc'.2 z
   ·by_cases hcT:c=s.heap.objs.size
    ·subst hcT
     rw [bD] at z; cases z
     exact⟨by show 2<=sizeLine; decide,[.int i s.toks,ux],.cons ⟨_,rfl⟩ (.cons rux .nil),⟨_,prG,rfl,_,rfl⟩,fun u e=>by rw [prG] at e; cases e; rfl⟩
    ·rw [aI hcT] at z
     refine (I.hok c u z).stay (fun c' o' hc2 q'=>?_) (fun c' q'=>by rw [aI (cF q' hT)]; exact q') fun c' zs q'=>by rw [aI (cF q' hT)]; exact q'
     rcases hc2 with rfl | hc2
     ·exact upH _ _ _ z q'
     ·exact upH _ _ _ hc2 q'
  refine⟨.ref s.heap.objs.size,_,I2,rfl,⟨_,x,hT,rfl,rfl,fun xs' ha'=>?_⟩,⟨⟨ux,by push_cast; exact zz⟩,it'.at fun o z=>sb.extBut _ o (Ne.symm d) z⟩,fun c hc'=>?_⟩
  ·rw [I.list_inj ha' ha]; exact hx
  ·obtain ⟨o,z⟩:∃ o,s.heap.get? c=some o:=by
    simp only [be9,bf1,bi6] at hc'
    obtain ⟨o1,f1,_⟩:=st.s1
    rcases hc' with rfl | rfl
    ·exact⟨_,ee⟩
    ·exact⟨_,f1⟩
   rw [aI (bh5 (bf8 z))]; exact (hf c hc').1
 ·intro X hP hw hK hc i pins s σ H E I hf st hg
  subst hP hw hK
  obtain ⟨xs,ha,hi⟩:=hg
  obtain ⟨us,ru,pu,lu⟩:=I.list ha
  obtain ⟨old,ee⟩:=st.ee
  have hh:X.A.handled=none:=I.ok.hd hc
  have e1:=ru.length
  refine wpAny_pyNext_enum_end hh ee st.s1 pu.isList (by rw [Array.getElem?_eq_none]; simp only [be0]; omega) fun g kp=>⟨rfl,?_⟩
  have fpn:∀ c u,H c=some u->c ∉ [e,it]:=fun c u z hm=>by rw [(hf c hm).1] at z; cases z
  have upH:∀ c o u,H c=some u->s.heap.get? c=some o->g.get? c=some o:=fun c o u q z=>by
   have:=fpn c u q
   simp only [be9,bf1,bi6,not_or] at this
   exact kp c o this.2 z
  have ns:∀ m,s.heap.Ns X.env.locals m->g.Ns X.env.locals m:=fun m hm=>by
   obtain ⟨o,es,ep,e1,e2⟩:=hm
   exact⟨o,es,ep,kp _ o (Ne.symm (hf it (by simp)).2.1) e1,e2⟩
  refine I.step (g':=s.gens) (d':=s.drawn) (ch:=[it]) (fun c hc'=>?_) (fun c o _ _ hc' z _=>?_) (fun c o _ _ hc' z _=>⟨o.slots,?_⟩) (fun c o _ z n=>n) (fun c o hc' z=>⟨o,?_⟩)
   (fun c zs z=>z) (fun c u zs z=>z) (fun c ps z=>⟨#[],by rw [z]; simp⟩) ns (fun c u z=>?_) I.bare
  ·have hm:c ∈ [e,it]:=bg0 _ hc'
   exact⟨(hf c hm).2.2.2.1,(hf c hm).2.1,(hf c hm).2.2.2.2.1,(hf c hm).2.2.2.2.2⟩
  ·exact kp c o (fun y=>hc' (by rw [y]; simp)) z
  ·exact kp c o (fun y=>hc' (by rw [y]; simp)) z
  ·exact kp c o (fun y=>hc' (by rw [y]; simp)) z
  ·refine (I.hok c u z).stay (fun c' o' hc2 q'=>?_) (fun _ q'=>q') fun _ _ q'=>q'
   rcases hc2 with rfl | hc2
   ·exact upH _ _ _ z q'
   ·exact upH _ _ _ hc2 q'
 ·obtain ⟨old,ee⟩:=st.ee
  exact wpAny_pyIter_enum ee q
end L2
namespace Zp
open PySem PyProof.Rows
section
variable {prog : Program} {w : World} {A : Around} {E : Value → Shared → Prop} {s : Shared}
theorem aK1 {e it t:Addr}{i:Nat}{items:Array Value}{x old:Value}{Q:Option Value->Shared->Prop} (he:IsEnum s.heap e it i old) (hi:s.heap.IsTupleIter it t i) (ht:s.heap.IsTuple t items) (hx:items[i]? = some x) (ne:e ≠ it)
  (q:∀ h',IsEnumOut h' e it ((i:Int)+1) x s.heap.objs.size->h'.IsTupleIter it t (i+1)->h'.get? s.heap.objs.size=some { cls:=.type "tuple",data:=.seq #[.int i s.toks,x] }->h'.objs.size=s.heap.objs.size+1->
   (∀ b o,b ≠ e->b ≠ it->s.heap.get? b=some o->h'.get? b=some o)->Q (some (.ref s.heap.objs.size)) { s with heap:=h',toks:=s.toks+1 }):wpAny (model prog w) A (pyNext (.ref e)) Q E s:=by
 have T:s.TypeIs (.ref e) "enumerate":=⟨_,he,rfl⟩
 have slot:=PySem.F.slot_enumerate_next
 unfold pyNext
 apply bd9
 apply wpAny_attempt
 apply bk1 (name:=Str.ofString "__next__") T slot
 apply bk5 slot T PySem.F.entry_enumerate_next _ (PySem.F.args_enumerate_next_1 _)
 change wpAny _ _ (field (.ref e) 2 >>= _) _ _ _
 apply bd9
 refine bk0 he rfl (x:=.ref it) rfl ?_
 apply bd9
 refine F9 hi ht hx fun g1 it1 sb1=>?_
 have e1:IsEnum g1 e it i old:=sb1.extBut _ _ ne he
 change wpAny _ _ (field (.ref e) 3 >>= _) _ _ _
 apply bd9
 refine bk0 e1 rfl (x:=rawInt i) rfl ?_
 change wpAny _ _ (field (.ref e) 4 >>= _) _ _ _
 apply bd9
 refine bk0 e1 rfl (x:=.none) rfl ?_
 change wpAny _ _ (mkInt i >>= _) _ _ _
 apply bd9
 refine wpAny_mkInt ?_
 change wpAny _ _ (setField (.ref e) 3 (rawInt ((i:Int)+1)) >>= _) _ _ _
 apply bd9
 refine bk9 e1 (by simp) fun g2 e2 sb2=>?_
 apply bd9
 refine bk9 e2 (by simp) fun g3 e3 sb3=>?_
 have e3:IsEnum g3 e it ((i:Int)+1) old:=e3
 apply bd9
 refine wpAny_newTuple ?_ (by show 2<=sizeLine; decide)
 have e4:IsEnum (g3.push { cls:=.type "tuple",data:=.seq #[.int i s.toks,x] }) e it ((i:Int)+1) old:=be1 _ e3
 have size:g3.objs.size=s.heap.objs.size:=by rw [sb3.1,sb2.1,sb1.1]
 change wpAny _ _ (Builtin.SmallTypes.ownedTupleIsFree (.ref e) >>= _) _ _ _
 apply bd9
 unfold Builtin.SmallTypes.ownedTupleIsFree
 apply bd9
 refine bk0 e4 rfl (x:=.none) rfl (be4 ?_)
 simp only [if_true]
 apply bd9
 apply wpAny_rule
 apply bd9
 refine bk0 e4 rfl (x:=old) rfl ?_
 apply bd9
 refine bk9 e4 (by simp) fun g5 e5 sb5=>?_
 apply bd9
 unfold Builtin.SmallTypes.ownedTupleHandOut
 apply bd9
 refine bk9 e5 (by simp) fun g6 e6 sb6=>?_
 refine bk9 e6 (by simp) fun g7 e7 sb7=>?_
 have e7:IsEnumOut g7 e it ((i:Int)+1) x g3.objs.size:=e7
 have elt:e < g3.objs.size:=bf8 e3
 have up:∀ c o,c ≠ e->(g3.push { cls:=.type "tuple",data:=.seq #[.int i s.toks,x] }).get? c=some o->g7.get? c=some o:=fun c o c1 z=>sb7.extBut c o c1 (sb6.extBut c o c1 (sb5.extBut c o c1 z))
 have up3:∀ c o,c ≠ e->g1.get? c=some o->g7.get? c=some o:=fun c o c1 z=>up c o c1 (be1 _ (sb3.extBut c o c1 (sb2.extBut c o c1 z)))
 have p7:g7.get? g3.objs.size=some { cls:=.type "tuple",data:=.seq #[.int i s.toks,x] }:=up _ _ (bl7 elt) (bf6 _ rfl)
 have s7:g7.objs.size=g3.objs.size+1:=by rw [sb7.1,sb6.1,sb5.1,bo4]
 apply bd9
 apply wpAny_letGo
 apply be4
 rw [size] at e7 p7 s7
 refine⟨_,rfl,be4 ?_⟩
 change Q (some (.ref g3.objs.size)) _
 rw [size]
 exact q g7 e7 (it1.at fun o z=>up3 it o (Ne.symm ne) z) p7 s7 fun b o b1 b2 z=>up3 b o b1 (sb1.extBut b o b2 z)
theorem aK2 {e it t:Addr}{i:Nat}{items:Array Value}{old:Value}{Q:Option Value->Shared->Prop} (hh:A.handled=none) (he:IsEnum s.heap e it i old) (hi:s.heap.IsTupleIter it t i) (ht:s.heap.IsTuple t items) (hx:items[i]? = none)
  (q:∀ h',Heap.ExtBut it s.heap h'->Q none { s with heap:=h' }):wpAny (model prog w) A (pyNext (.ref e)) Q E s:=by
 have T:s.TypeIs (.ref e) "enumerate":=⟨_,he,rfl⟩
 have slot:=PySem.F.slot_enumerate_next
 unfold pyNext
 apply bd9
 apply wpAny_attempt
 apply bk1 (name:=Str.ofString "__next__") T slot
 apply bk5 slot T PySem.F.entry_enumerate_next _ (PySem.F.args_enumerate_next_1 _)
 change wpAny _ _ (field (.ref e) 2 >>= _) _ _ _
 apply bd9
 refine bk0 he rfl (x:=.ref it) rfl ?_
 apply bd9
 refine G0 hh hi ht hx fun g2 ex eb exo=>?_
 obtain ⟨oe,eo,co⟩:=exo
 apply bd9
 refine wpAny_isInstance (T:="StopIteration") (b:=true) ⟨oe,eo,co⟩ isSubtype_stop ?_
 exact be4 (q g2 eb)
theorem aK3 {M:Model}{A:Around}{E:Value->Shared->Prop}{s:Shared}{α:Type}{c:Prop} [Decidable c] {m n:Sem α}{Q:α->Shared->Prop} (h1:wpAny M A m Q E s) (h2:wpAny M A n Q E s):wpAny M A (if c then m else n) Q E s:=by
 split
 ·exact h1
 ·exact h2
theorem aK4 (t:Addr) (xs:Array Value):Meets (Builtin.«enumerate.__new__» ⟨[.type "enumerate",.ref t],[]⟩) (fun _ R s=>s.heap.IsTuple t xs/\R (.ok (.ret (.ref (s.heap.objs.size+1)))) { s with heap:=(s.heap.push { cls:=.type "tuple_iterator",data:=.fields #[.ref t,.int 0 0] }).push { cls:=.type "enumerate",data:=.fields #[.none,.bool false,.ref s.heap.objs.size,rawInt 0,.none,.none] } }):=
 .of_wp fun prog w A R s h=>by
  obtain ⟨hp,g,d,tk,os⟩:=s
  obtain ⟨ht,h⟩:=h
  have sub:=sub_enumerate
  have a1:Heap.IsTuple (Shared.heap ⟨hp,g,d,tk,os⟩) t xs:=ht
  wp_walk using br4 a1
  refine wpAny_stack_any fun st=>be4 ?_
  refine aK3 ?_ ?_
  all_goals
   apply bd9
   refine wpAny_of_eq (a:=(Value.ref t,none)) rfl ?_
   wp_walk using br4 a1
   have e:∀ (o:Obj) (k:Heap),(k.push o).objs.size=k.objs.size+1:=fun o k=>bo4 ..
   refine⟨_,rfl,?_⟩
   simp only [e] at h ⊢
   exact h
theorem aK5 {t:Addr}{xs:Array Value}{Q:Value->Shared->Prop} (ht:s.heap.IsTuple t xs)
  (q:∀ h',IsEnum h' (s.heap.objs.size+1) s.heap.objs.size 0 .none->h'.IsTupleIter s.heap.objs.size t 0->h'.objs.size=s.heap.objs.size+2->(∀ c o,s.heap.get? c=some o->h'.get? c=some o)->Q (.ref (s.heap.objs.size+1)) { s with heap:=h' }) :
  wpAny (model prog w) A (call (.type "enumerate") [.ref t]) Q E s:=by
 refine callType_new PySem.F.called_enumerate (by decide) (PySem.F.typeCall_enumerate_1 _) (PySem.F.newCall_enumerate_1 _) (fun obj=>PySem.F.args_object_init_2 obj _) PySem.F.entry_enumerate_new (aK4 t xs) ⟨ht,?_⟩
 have e:∀ (o:Obj) (k:Heap),(k.push o).objs.size=k.objs.size+1:=fun o k=>bo4 ..
 have g0:((s.heap.push { cls:=.type "tuple_iterator",data:=.fields #[.ref t,.int 0 0] }).push { cls:=.type "enumerate",data:=.fields #[.none,.bool false,.ref s.heap.objs.size,rawInt 0,.none,.none] }).get? s.heap.objs.size=some { cls:=.type "tuple_iterator",data:=.fields #[.ref t,.int 0 0] }:=be1 _ (bf6 _ rfl)
 have g1:((s.heap.push { cls:=.type "tuple_iterator",data:=.fields #[.ref t,.int 0 0] }).push { cls:=.type "enumerate",data:=.fields #[.none,.bool false,.ref s.heap.objs.size,rawInt 0,.none,.none] }).get? (s.heap.objs.size+1)=some { cls:=.type "enumerate",data:=.fields #[.none,.bool false,.ref s.heap.objs.size,rawInt 0,.none,.none] }:=by
  have:=bf6 (h:=s.heap.push { cls:=.type "tuple_iterator",data:=.fields #[.ref t,.int 0 0] }) (o:={ cls:=.type "enumerate",data:=.fields #[.none,.bool false,.ref s.heap.objs.size,rawInt 0,.none,.none] }) rfl
  rw [e] at this; exact this
 exact⟨⟨_,g1,rfl⟩,q _ g1 ⟨_,g0,rfl,rfl⟩ (by rw [e,e]) fun c o z=>be1 _ (be1 _ z)⟩
end
end Zp
namespace L2
open PySem PySem.Spec PyProof.Rows
def wW (K:PySem.W.Frag) (a:Addr):It:=
  ⟨fun i H=>∃ xs x,aO K H a xs/\xs[i]? = some x,
   fun i H v H'=>∃ T x,H T=none/\v = .ref T/\H'=upd H T (.tup [.int i,x])/\∀ xs,aO K H a xs->xs[i]? = some x,
   fun i H=>∃ xs,aO K H a xs/\xs.length<=i⟩
structure aK6 (e it a:Addr) (i:Nat) (h:Heap):Prop where
 ee:∃ old,IsEnum h e it i old
 s1:h.IsTupleIter it a i
theorem aK7 {P:Program}{w:World}{K:PySem.W.Frag}{elts:List Expr}{k:Nat}{pos:Pos} (a e it:Addr) (d:e ≠ it) :
  hZ P w K (.Tuple elts k pos) (wW K a) [e,it] e (aK6 e it a):=by
 refine⟨by simp,fun i h st c hc=>?_,fun i h h' st kp=>?_,?_,?_,fun A i s Q E st q=>?_⟩
 ·simp only [be9,bf1,bi6] at hc
  obtain ⟨old,ee⟩:=st.ee
  obtain ⟨o1,f1,g1,d1⟩:=st.s1
  rcases hc with rfl | rfl
  ·exact⟨_,ee,fun v q=>by cases q⟩
  ·exact⟨_,f1,fun v q=>by rw [d1] at q; cases q⟩
 ·obtain ⟨old,ee⟩:=st.ee
  exact⟨⟨old,kp e (by simp) _ ee⟩,st.s1.at fun o z=>kp it (by simp) o z⟩
 ·intro X hP hw hK hc i pins s σ H E I hf st hg
  subst hP hw hK
  obtain ⟨xs,x,ha,hx⟩:=hg
  obtain ⟨us,ru,pu,lu⟩:=I.tuple ha
  obtain ⟨ux,eux,rux⟩:=ru.get hx
  obtain ⟨old,ee⟩:=st.ee
  refine Zp.aK1 ee st.s1 pu (by simpa using eux) d fun h' eo it' pr sz kp=>⟨_,rfl,?_⟩
  refine wpAny_letOwnedTupleGo_enum (s:={ s with heap:=h',toks:=s.toks+1 }) eo fun g zz sb=>?_
  have hzl:e < s.heap.objs.size:=bf8 ee
  have up:∀ c o,c ≠ e->c ≠ it->s.heap.get? c=some o->g.get? c=some o:=fun c o c1 c2 z=>sb.extBut c o c1 (kp c o c1 c2 z)
  have hT:H s.heap.objs.size=none:=I.hok.fresh (be6 _)
  have prG:g.get? s.heap.objs.size=some { cls:=.type "tuple",data:=.seq #[.int i s.toks,ux] }:=sb.extBut _ _ (bl7 hzl) pr
  have fpn:∀ c u,H c=some u->c ∉ [e,it]:=fun c u z hm=>by rw [(hf c hm).1] at z; cases z
  have upH:∀ c o u,H c=some u->s.heap.get? c=some o->g.get? c=some o:=fun c o u q z=>by
   have:=fpn c u q
   simp only [be9,bf1,bi6,not_or] at this
   exact up c o this.1 this.2 z
  have ns:∀ m,s.heap.Ns X.env.locals m->g.Ns X.env.locals m:=fun m hm=>by
   obtain ⟨o,es,ep,e1,e2⟩:=hm
   exact⟨o,es,ep,up _ o (Ne.symm (hf e (by simp)).2.1) (Ne.symm (hf it (by simp)).2.1) e1,e2⟩
  have I2:a8 X pins σ (upd H s.heap.objs.size (.tup [.int i,x])) { s with heap:=g,toks:=s.toks+1 }:=by
   refine I.step (g':=s.gens) (d':=s.drawn) (ch:=[e,it]) (fun c hc'=>?_) (fun c o _ _ hc' z _=>?_) (fun c o _ _ hc' z _=>⟨o.slots,?_⟩) (fun c o _ z n=>?_) (fun c o hc' z=>⟨o,?_⟩)
    (fun c zs z=>by rw [aI (cF z hT)]; exact z) (fun c u zs z=>by rw [aI (cF z hT)]; exact z) (fun c ps z=>⟨#[],by rw [aI (cF z hT),z]; simp⟩) ns (fun c u z=>?_) I.bare
   ·exact⟨(hf c hc').2.2.2.1,(hf c hc').2.1,(hf c hc').2.2.2.2.1,(hf c hc').2.2.2.2.2⟩
   ·simp only [be9,bf1,bi6,not_or] at hc'
    exact up c o hc'.1 hc'.2 z
   ·simp only [be9,bf1,bi6,not_or] at hc'
    exact up c o hc'.1 hc'.2 z
   ·rw [aI (bh5 (bf8 z))]; exact n
   ·simp only [be9,bf1,bi6,not_or] at hc'
    exact up c o hc'.1 hc'.2 z
   ·by_cases hcT:c=s.heap.objs.size
    ·subst hcT
     rw [bD] at z; cases z
     exact⟨by show 2<=sizeLine; decide,[.int i s.toks,ux],.cons ⟨_,rfl⟩ (.cons rux .nil),⟨_,prG,rfl,_,rfl⟩,fun u e=>by rw [prG] at e; cases e; rfl⟩
    ·rw [aI hcT] at z
     refine (I.hok c u z).stay (fun c' o' hc2 q'=>?_) (fun c' q'=>by rw [aI (cF q' hT)]; exact q') fun c' zs q'=>by rw [aI (cF q' hT)]; exact q'
     rcases hc2 with rfl | hc2
     ·exact upH _ _ _ z q'
     ·exact upH _ _ _ hc2 q'
  refine⟨.ref s.heap.objs.size,_,I2,rfl,⟨_,x,hT,rfl,rfl,fun xs' ha'=>?_⟩,⟨⟨ux,by push_cast; exact zz⟩,it'.at fun o z=>sb.extBut _ o (Ne.symm d) z⟩,fun c hc'=>?_⟩
  ·rw [I.tuple_inj ha' ha]; exact hx
  ·obtain ⟨o,z⟩:∃ o,s.heap.get? c=some o:=by
    simp only [be9,bf1,bi6] at hc'
    obtain ⟨o1,f1,_⟩:=st.s1
    rcases hc' with rfl | rfl
    ·exact⟨_,ee⟩
    ·exact⟨_,f1⟩
   rw [aI (bh5 (bf8 z))]; exact (hf c hc').1
 ·intro X hP hw hK hc i pins s σ H E I hf st hg
  subst hP hw hK
  obtain ⟨xs,ha,hi⟩:=hg
  obtain ⟨us,ru,pu,lu⟩:=I.tuple ha
  obtain ⟨old,ee⟩:=st.ee
  have hh:X.A.handled=none:=I.ok.hd hc
  have e1:=ru.length
  refine Zp.aK2 hh ee st.s1 pu (by rw [Array.getElem?_eq_none]; simp only [be0]; omega) fun g kp=>⟨rfl,?_⟩
  have fpn:∀ c u,H c=some u->c ∉ [e,it]:=fun c u z hm=>by rw [(hf c hm).1] at z; cases z
  have upH:∀ c o u,H c=some u->s.heap.get? c=some o->g.get? c=some o:=fun c o u q z=>by
   have:=fpn c u q
   simp only [be9,bf1,bi6,not_or] at this
   exact kp c o this.2 z
  have ns:∀ m,s.heap.Ns X.env.locals m->g.Ns X.env.locals m:=fun m hm=>by
   obtain ⟨o,es,ep,e1,e2⟩:=hm
   exact⟨o,es,ep,kp _ o (Ne.symm (hf it (by simp)).2.1) e1,e2⟩
  refine I.step (g':=s.gens) (d':=s.drawn) (ch:=[it]) (fun c hc'=>?_) (fun c o _ _ hc' z _=>?_) (fun c o _ _ hc' z _=>⟨o.slots,?_⟩) (fun c o _ z n=>n) (fun c o hc' z=>⟨o,?_⟩)
   (fun c zs z=>z) (fun c u zs z=>z) (fun c ps z=>⟨#[],by rw [z]; simp⟩) ns (fun c u z=>?_) I.bare
  ·have hm:c ∈ [e,it]:=bg0 _ hc'
   exact⟨(hf c hm).2.2.2.1,(hf c hm).2.1,(hf c hm).2.2.2.2.1,(hf c hm).2.2.2.2.2⟩
  ·exact kp c o (fun y=>hc' (by rw [y]; simp)) z
  ·exact kp c o (fun y=>hc' (by rw [y]; simp)) z
  ·exact kp c o (fun y=>hc' (by rw [y]; simp)) z
  ·refine (I.hok c u z).stay (fun c' o' hc2 q'=>?_) (fun _ q'=>q') fun _ _ q'=>q'
   rcases hc2 with rfl | hc2
   ·exact upH _ _ _ z q'
   ·exact upH _ _ _ hc2 q'
 ·obtain ⟨old,ee⟩:=st.ee
  exact wpAny_pyIter_enum ee q
section
variable {X : Cx}
def U0 (K:PySem.W.Frag) (ta:TA):TI:=fun σ H R=>ta σ H fun vs H1=>∃ a,vs = [.ref a]/\((∃ xs,aU K H1 a xs/\R (wV K a) H1) ∨ (∃ xs,aO K H1 a xs/\R (wW K a) H1))
theorem aK8 {elts:List Expr}{kt:Nat}{pt:Pos}{a:Expr}{ta:TA}{p pos:Pos} (hg:Gl X "enumerate") (hm:X.mg "enumerate" = none) (ha:PA X [a] ta) (hs:starEach [a] X.env = [(false,eval a X.env)]:=by rfl) :
  PI X (.Tuple elts kt pt) (.Call (.Name "enumerate" p) [a] [] pos) (U0 X.K ta):=by
 intro pins s σ H R I h
 refine Call_ (j3 I hg hm PyProof.Rows.boot_enumerate (bl0 (aS (ha pos pins s σ H _ I h) fun us s1 ⟨vs,H1,I1,r1,q1⟩=>?_) (by rw [hs]; rfl) (by rfl)))
 obtain ⟨a',e,q⟩:=q1
 subst e
 have fresh:∀ k,H1 (s1.heap.objs.size+k)=none:=fun k=>I1.hok.fresh (bk7 _ _)
 cases r1 with
 | cons r rr=>
  cases rr
  cases r
  rcases q with ⟨xs,h1,q⟩ | ⟨xs,h1,q⟩
  ·obtain ⟨us,_,p1,_⟩:=I1.list h1
   refine call_enumerate_list p1.isList fun h' z s1' sz kp=>wpAny_pyIter_enum z ?_
   refine⟨s1.heap.objs.size+1,[s1.heap.objs.size+1,s1.heap.objs.size],_,_,H1,rfl,I1.kept (t':=s1.toks) kp,
    aK0 a' _ _ (Nat.succ_ne_self _),⟨⟨_,z⟩,s1'⟩,fun c hc=>?_,q⟩
   simp only [be9,bf1,bi6] at hc
   rcases hc with rfl | rfl
   ·exact I1.fpOk (bk7 _ _) (fresh 1)
   ·exact I1.fpOk (be6 _) (fresh 0)
  ·obtain ⟨us,_,p1,_⟩:=I1.tuple h1
   refine Zp.aK5 p1 fun h' z s1' sz kp=>wpAny_pyIter_enum z ?_
   refine⟨s1.heap.objs.size+1,[s1.heap.objs.size+1,s1.heap.objs.size],_,_,H1,rfl,I1.kept (t':=s1.toks) kp,
    aK7 a' _ _ (Nat.succ_ne_self _),⟨⟨_,z⟩,s1'⟩,fun c hc=>?_,q⟩
   simp only [be9,bf1,bi6] at hc
   rcases hc with rfl | rfl
   ·exact I1.fpOk (bk7 _ _) (fresh 1)
   ·exact I1.fpOk (be6 _) (fresh 0)
end
end L2
namespace Zp
open PySem PyProof.Rows
theorem aK9 (t b:Addr) (xs ys:Array Value) (n n2:Nat) (dd dd2:Option Addr) (sl sl2:Array (Option Value)) (hx:xs.isEmpty=true):Meets (Builtin.«tuple.__add__» ⟨[.ref t,.ref b],[]⟩)
  (fun _ R s=>s.heap.get? t=some { cls:=.type "tuple",dict:=dd,data:=.seq xs n,slots:=sl }/\s.heap.get? b=some { cls:=.type "tuple",dict:=dd2,data:=.seq ys n2,slots:=sl2 }/\R (.ok (.ret (.ref b))) s):=
 .of_wp fun prog w A R s h=>by
  obtain ⟨h1,h2,h⟩:=h
  have sub:isSubtype (Value.type "tuple") (Value.type "tuple")=pure true:=rfl
  wp_walk
  exact⟨_,rfl,h⟩
end Zp
namespace L2
open PySem PySem.Spec PyProof.Rows
section
variable {X : Cx}
def U1 (K:PySem.W.Frag):R2:=fun x y H Q=>∃ a b xs ys,x = .ref a/\y = .ref b/\aO K H a xs/\aO K H b ys/\xs.length+ys.length<=sizeLine/\
 (xs = []->Q (.ref b) H)/\(xs ≠ []->ys = []->Q (.ref a) H)/\(xs ≠ []->ys ≠ []->∀ p,H p=none->Q (.ref p) (upd H p (.tup (xs ++ ys))))
theorem aL0:cB X (binaryOp .Add) (U1 X.K):=by
 intro pins s σ H x y v u Q I rx ry h
 obtain ⟨a,b,xs,ys,ex,ey,ha,hb,hz,q0,q1,q2⟩:=h
 by_cases hx:xs = []
 ·subst ex ey
  cases rx
  cases ry
  obtain ⟨its,r1,p1,_⟩:=I.tuple ha
  obtain ⟨its2,r2,p2,_⟩:=I.tuple hb
  have hi:its = []:=r1.nil_iff.mpr hx
  obtain ⟨⟨cls,dd,data,sl⟩,ho,hc,n,hd⟩:=id p1
  obtain ⟨⟨cls2,dd2,data2,sl2⟩,ho2,hc2,n2,hd2⟩:=id p2
  simp only at hc hd hc2 hd2
  subst hc hd hc2 hd2
  exact concat_meets ⟨_,ho,rfl⟩ ⟨_,ho2,rfl⟩ noFill_tuple_add seq_tuple_add PySem.F.slot_tuple_add PySem.F.entry_tuple_add (PySem.F.args_tuple_add_2 _ _)
   (Zp.aK9 a b its.toArray its2.toArray n n2 dd dd2 sl sl2 (by simp [hi])) ⟨ho,ho2,⟨.ref b,H,I,rfl,q0 hx⟩⟩
 ·exact an4 pins s σ H x y v u Q I rx ry ⟨a,b,xs,ys,ex,ey,ha,hb,hx,hz,q1 hx,q2 hx⟩
end
end L2
namespace PP
open PySem L2 PyProof.Rows
def jM (xs:List PV):List PV:=xs.mapIdx fun i x=>PV.tup [.int (i:Int),x]
theorem wX (xs:List PV):(jM xs).length=xs.length:=by unfold jM; rw [List.length_mapIdx]
theorem U2 {xs:List PV}{i:Nat}{x:PV} (h:xs[i]? = some x):(jM xs)[i]? = some (.tup [.int (i:Int),x]):=by
 unfold jM; rw [List.getElem?_mapIdx,h]; rfl
theorem aL1 {xs:List PV}{i:Nat}{z:PV} (h:(jM xs)[i]? = some z):∃ x,xs[i]? = some x/\z = .tup [.int (i:Int),x]:=by
 unfold jM at h
 rw [List.getElem?_mapIdx] at h
 cases e:xs[i]? with
 | none=>rw [e] at h; cases h
 | some x=>rw [e] at h; exact⟨x,rfl,(bg9 h).symm⟩
def wY (te:aE):eU:=fun ρ Q=>te ρ fun x g=>∃ xs,(x = .lst xs ∨ x = .tup xs)/\(g = .rd->flat x=true)/\Q (jM xs) (qW g xs)
theorem aL2 {K:PySem.W.Frag}{H0:Hp}{W:Addr->Prop}{g:Bool}{H1:Hp}{a:Addr}{us:List V}{xs:List PV} (tw:∀ a,W a->∃ o,H1 a=some o/\gQ o=true) (ha:∀ W' H',Ev W H1 W' H'->aU K H' a us) (r:Reps K (Ms H0 W g) H1 us xs):lY K H0 W g H1 (wV K a) (jM xs):=by
 have lr:=r.length
 have ll:=wX xs
 refine⟨fun W' H' i e hi=>⟨us,us[i]'(by omega),ha W' H' e,by simp⟩,fun W' H' i v H2 e y hi=>?_,fun W' H' e=>⟨us,ha W' H' e,by omega⟩⟩
 obtain ⟨T,x,hT,rfl,rfl,y⟩:=y
 obtain ⟨z,hz,rz⟩:=r.get (y us (ha W' _ e))
 have sm:=bM hT (HO.tup [.int (i:Int),x])
 exact⟨sm,_,U2 hz,.tup bD (.cons (.int _) (.cons ((rz.keep (e.keep tw)).same sm fun _ q=>q) .nil))⟩
theorem aL3 {K:PySem.W.Frag}{H0:Hp}{W:Addr->Prop}{g:Bool}{H1:Hp}{a:Addr}{us:List V}{xs:List PV} (tw:∀ a,W a->∃ o,H1 a=some o/\gQ o=true) (ha:∀ W' H',Ev W H1 W' H'->aO K H' a us) (r:Reps K (Ms H0 W g) H1 us xs):lY K H0 W g H1 (wW K a) (jM xs):=by
 have lr:=r.length
 have ll:=wX xs
 refine⟨fun W' H' i e hi=>⟨us,us[i]'(by omega),ha W' H' e,by simp⟩,fun W' H' i v H2 e y hi=>?_,fun W' H' e=>⟨us,ha W' H' e,by omega⟩⟩
 obtain ⟨T,x,hT,rfl,rfl,y⟩:=y
 obtain ⟨z,hz,rz⟩:=r.get (y us (ha W' _ e))
 have sm:=bM hT (HO.tup [.int (i:Int),x])
 exact⟨sm,_,U2 hz,.tup bD (.cons (.int _) (.cons ((rz.keep (e.keep tw)).same sm fun _ q=>q) .nil))⟩
section
variable {X : Cx} {σ : L2.St} {H : Hp} {te : aE} {R : It → Hp → Prop}
theorem aL4 (h:LI X (wY te) σ H R):U0 X.K (gM (LE X te) iJ) σ H R:=by
 obtain ⟨W,ρ,Q,px,q,k⟩:=h
 refine⟨W,ρ,_,px,q,?_⟩
 rintro v H1 x g s r ⟨xs,hx,hg,q⟩
 have px1:=px.mono s
 have tw:∀ a,W a->∃ o,H1 a=some o/\gQ o=true:=fun a z=>(px1.wm a z).2
 rcases hx with rfl | rfl
 ·obtain ⟨a,us,rfl,m,h,r⟩:=r.sqL
  have wa : ¬ W a:=by
   cases g with
   | fr=>exact (px.new m).1
   | nw=>exact m.1
   | sh=>exact m
   | rd=>have:=hg rfl; unfold flat at this; cases this
  exact⟨a,rfl,.inl ⟨us,aU.of h,k _ _ _ _ s (aL2 tw (fun W' H' e=>aU.of (e _ _ h wa).1) (lZ px (fun z=>by have:=hg z; unfold flat at this; cases this) r)) q⟩⟩
 ·obtain ⟨a,us,rfl,h,r⟩:=r.sqT
  refine⟨a,rfl,.inr ⟨us,aO.of h,k _ _ _ _ s (aL3 tw (fun W' H' e=>aO.of (e _ _ h fun z=>?_).1) (lZ px (fun z=>by have:=hg z; unfold flat at this; exact this) r)) q⟩⟩
  obtain ⟨o,h',mu⟩:=tw _ z; rw [h] at h'; cases h'; cases mu
theorem aL5 {elts:List Expr}{kt:Nat}{pt p2 pos:Pos}{a:Expr}{ta:aE} (hg:Gl X "enumerate") (hm:X.mg "enumerate" = none) (ha:QE X a ta) (hs:starEach [a] X.env = [(false,eval a X.env)]:=by rfl):QI X (.Tuple elts kt pt) (.Call (.Name "enumerate" p2) [a] [] pos) (wY ta):=
 r9 (aK8 hg hm (cP ha dP hs) hs) fun _ _ _=>aL4
end
section
variable {X : Cx} {e : Expr} {te : aE} {pos p2 : Pos} {scope : Scope} {N : List Str} {fr : List (Option Nat)} {x y : Str} {tp xp yp : Pos} {kt : Nat} {iter elt : Expr} {ti : eU}
abbrev wZ (x y:Str) (xp yp:Pos) (kt:Nat) (tp:Pos):Expr:=.Tuple [.Name x xp,.Name y yp] kt tp
theorem aL6 {ifs:List Expr}{tcs:bY} (hc:X.calm=true) (he:∀ (s:Shared) (H:Hp) (C:Addr) (fp:List Addr),QE (bL X scope N s H C fp bV) elt te) (hi:∀ (s:Shared) (H:Hp) (C:Addr) (fp:List Addr),jA (bL X scope N s H C fp bV) ifs (LT (bL X scope N s H C fp bV) tcs))
  (hN:N.Nodup) (h0:N[0]? = some x) (h1:N[1]? = some y) (hl:∀ (s:Shared) (H:Hp) (C:Addr) (fp:List Addr),(bL X scope N s H C fp bV).env.scope.names.lookup x=some .local) (hl2:∀ (s:Shared) (H:Hp) (C:Addr) (fp:List Addr),(bL X scope N s H C fp bV).env.scope.names.lookup y=some .local) (s:Shared) (H:Hp) :
  kM X scope N (wZ x y xp yp kt tp) ifs elt s H (jS X.K 2 (fD (cG 0) (fD (cG 1) jR))) (LT (X.frm H) tcs) (LE (X.frm H) te):=
 ⟨fun C fp=>lM (X:=bL X scope N s H C fp bV) hc (gK (eQ hN h0 (.inl (hl s H C fp)) (.inr (hl s H C fp))) (gK (eQ hN h1 (.inl (hl2 s H C fp)) (.inr (hl2 s H C fp))) lK)),fun C fp=>hi s H C fp,fun C fp=>he s H C fp⟩
theorem aL7 {c:Expr}{tcs:bY} (hi:QI X (wZ x y xp yp kt tp) iter ti) (ht:∀ (s:Shared) (H:Hp) (C:Addr) (fp:List Addr),QT (bL X scope N s H C fp bV) c tcs) (he:∀ (s:Shared) (H:Hp) (C:Addr) (fp:List Addr),QE (bL X scope N s H C fp bV) elt te)
  (hc:X.calm=true:=by rfl) (S:cK X scope N fr:=by exact cK.of rfl rfl) (hN:N.Nodup:=by decide +kernel) (h0:N[0]? = some x:=by rfl) (h1:N[1]? = some y:=by rfl) (hl:∀ (s:Shared) (H:Hp) (C:Addr) (fp:List Addr),(bL X scope N s H C fp bV).env.scope.names.lookup x=some .local:=by intro _ _ _ _; rfl) (hl2:∀ (s:Shared) (H:Hp) (C:Addr) (fp:List Addr),(bL X scope N s H C fp bV).env.scope.names.lookup y=some .local:=by intro _ _ _ _; rfl) (hf:fr[0]? = some none:=by rfl) (hf2:fr[1]? = some none:=by rfl)
  (hs:∀ x,foldedSetIterable iter X.env x=pure x:=by intro _; rfl):QE X (.ListComp elt [⟨wZ x y xp yp kt tp,iter,[c],0⟩] scope pos) (cL ti fr (o8 0 1) tcs te):=
 c7 (qA (gh:=fun _=>jS X.K 2 (fD (cG 0) (fD (cG 1) jR))) (tch:=fun H=>LT (X.frm H) tcs) (teh:=fun H=>LE (X.frm H) te) hc S hi (aL6 hc he (fun s H C fp=>pW (ht s H C fp)) hN h0 h1 hl hl2) hs) fun _ _ _=>m6 (K7 _ 0 1) (fun i e=>by rcases e with e | e <;> (subst e; assumption))
end
section
variable {X : Cx} {a b : Expr} {ta tb : aE} {pos : Pos}
def U3:PV->Tg->PV->Tg->PK->Prop:=fun x _ y _ Q=>∃ xs ys,x = .tup xs/\y = .tup ys/\flats xs=true/\flats ys=true/\xs.length+ys.length<=16000000/\Q (.tup (xs ++ ys)) .fr
abbrev rW (ta tb:aE):aE:=q2 U3 ta tb
theorem aL8:e9 X U3 (U1 X.K):=by
 rintro W Hs H u v x y g g' Q Q' s n r1 r2 ⟨xs,ys,rfl,rfl,f1,f2,hl,q⟩ k
 obtain ⟨a,us,rfl,h1,q1⟩:=r1.sqT
 obtain ⟨b,ws,rfl,h2,q2⟩:=r2.sqT
 have l1:=q1.length
 have l2:=q2.length
 refine⟨a,b,us,ws,rfl,rfl,aO.of h1,aO.of h2,lim (by omega),fun z=>?_,fun _ z=>?_,fun _ _ p hp=>k _ _ _ .fr (bM hp _) (.tup bD (((q1.flat f1).append (q2.flat f2)).same (bM hp _) fun _ z=>z)) q⟩
 ·obtain rfl:xs = []:=by cases xs with
   | nil=>rfl
   | cons _ _=>rw [z] at l1; cases l1
  exact k _ _ _ .fr (aD.refl _) (.tup h2 (q2.flat f2)) q
 ·obtain rfl:ys = []:=by cases ys with
   | nil=>rfl
   | cons _ _=>rw [z] at l2; cases l2
  rw [bf9] at q
  exact k _ _ _ .fr (aD.refl _) (.tup h1 (q1.flat f1)) q
theorem x3 (ha:QE X a ta) (hb:QE X b tb):QE X (.BinOp a .Add b pos) (rW ta tb):=jJ aL0 aL8 ha hb
end
end PP
namespace Core
open PySem L2 PP
section
variable (ws : List Int) (ls : List (Int × Int)) (os ns : List Int)
def aV:Nat->List Int
 | 0=>[]
 | k+1=>aV k ++ (os.find? (kin ws ls (ns ++ aV k))).toList
def dJ (k:Nat):Option Int:=os.find? (kin ws ls (ns ++ aV ws ls os ns k))
def fK (k:Nat):Prop:=(∀ j < k,dJ ws ls os ns j ≠ none)/\dJ ws ls os ns k=none
end
section
variable {ws : List Int} {ls : List (Int × Int)} {os ns : List Int}
theorem U4 {m n:Nat} (h:fK ws ls os ns m) (g:fK ws ls os ns n):m=n:=by
 rcases Nat.lt_trichotomy m n with z | z | z
 ·exact absurd h.2 (g.1 m z)
 ·exact z
 ·exact absurd g.2 (h.1 n z)
theorem rX {k:Nat}{h:Int} (e:dJ ws ls os ns k=some h):aV ws ls os ns (k+1)=aV ws ls os ns k ++ [h]:=by
 show aV ws ls os ns k ++ (dJ ws ls os ns k).toList=_
 rw [e]; rfl
theorem x4 {S T:List Int}{h:Int} (hk:kin ws ls S h=true) (st:∀ x ∈ S,x ∈ T) (hn:h ∉ T):kin ws ls T h=true:=by
 unfold kin at hk ⊢
 rw [bg1] at hk ⊢
 refine⟨by rw [be8 hn]; rfl,be7 ?_⟩
 have h1:=bq3 hk.2
 have h2:((bE ls h).filter fun x=>decide (x ∈ S)).length<=((bE ls h).filter fun x=>decide (x ∈ T)).length:=by
  rw [<- List.countP_eq_length_filter,<- List.countP_eq_length_filter]
  exact List.countP_mono_left fun x _ hx=>be7 (st x (bq3 hx))
 omega
def gI (ws:List Int) (ls:List (Int × Int)) (T:List Int):Prop:=∀ h ∈ rng ws.length,kin ws ls T h=false
theorem rY {T:List Int} (sh:gI ws ls T) (st:∀ x ∈ ns,x ∈ T):∀ k,∀ x ∈ b5 ws ls ns k,x ∈ T
 | 0,x,hx=>st x hx
 | k+1,x,hx=>by
  have ih:=rY sh st k
  rcases bg2.mp (show x ∈ b5 ws ls ns k ++ nextOf ws ls (b5 ws ls ns k) from hx) with hx | hx
  ·exact ih x hx
  ·have hx:=bl1.mp hx
   by_cases e:x ∈ T
   ·exact e
   ·have:=x4 hx.2 ih e
    rw [sh x hx.1] at this; cases this
theorem U5 {T:List Int} (po:os.Perm (rng ws.length)) (sh:gI ws ls T) (st:∀ x ∈ ns,x ∈ T):∀ k,∀ x ∈ ns ++ aV ws ls os ns k,x ∈ T
 | 0,x,hx=>st x (by rw [show aV ws ls os ns 0 = [] from rfl,bf9] at hx; exact hx)
 | k+1,x,hx=>by
  have ih:=U5 po sh st k
  have hx:x ∈ ns ++ (aV ws ls os ns k ++ (dJ ws ls os ns k).toList):=hx
  rw [<- bi9] at hx
  rcases bg2.mp hx with hx | hx
  ·exact ih x hx
  ·cases e:dJ ws ls os ns k with
   | none=>rw [e] at hx; cases hx
   | some h=>
    rw [e] at hx
    have hx:x=h:=bf3.mp hx
    subst hx
    have h1:kin ws ls (ns ++ aV ws ls os ns k) x=true:=List.find?_some e
    have h2:x ∈ os:=List.mem_of_find?_eq_some e
    by_cases e2:x ∈ T
    ·exact e2
    ·have:=x4 h1 ih e2
     rw [sh x (po.mem_iff.mp h2)] at this; cases this
theorem U6 {k:Nat}{h:Int} (e:dJ ws ls os ns k=some h):h ∈ os/\h ∉ ns ++ aV ws ls os ns k:=
 ⟨List.mem_of_find?_eq_some e,bp3 (rM (List.find?_some e))⟩
theorem rZ (po:os.Perm (rng ws.length)) (hs:aY ws.length ns=true):∀ k,(ns ++ aV ws ls os ns k).Nodup/\∀ x ∈ ns ++ aV ws ls os ns k,x ∈ rng ws.length
 | 0=>by
  rw [show aV ws ls os ns 0 = [] from rfl,bf9]
  exact⟨(fU (dF hs).1).imp fun h=>Int.ne_of_lt h,fun x hx=>dE.mpr ((dF hs).2 x hx)⟩
 | k+1=>by
  obtain ⟨i1,i2⟩:=rZ po hs k
  cases e:dJ ws ls os ns k with
  | none=>
   have:aV ws ls os ns (k+1)=aV ws ls os ns k:=by
    show aV ws ls os ns k ++ (dJ ws ls os ns k).toList=_
    rw [e]; exact bf9 _
   rw [this]; exact⟨i1,i2⟩
  | some h=>
   obtain ⟨n1,n2⟩:=U6 e
   rw [rX e,<- bi9]
   refine⟨bj3.mpr ⟨i1,bh7 _ _,fun x hx y hy=>?_⟩,fun x hx=>?_⟩
   ·rw [bf3.mp hy]; intro z; subst z; exact n2 hx
   ·rcases bg2.mp hx with hx | hx
    ·exact i2 x hx
    ·rw [bf3.mp hx]; exact po.mem_iff.mp n1
theorem oT (po:os.Perm (rng ws.length)) (hs:aY ws.length ns=true) (k:Nat):ns.length+(aV ws ls os ns k).length<=ws.length:=by
 obtain ⟨i1,i2⟩:=rZ (ls:=ls) po hs k
 have:=i1.length_le_of_subset i2
 rw [fC,be2] at this
 exact this
theorem mI (hs:aY ws.length ns=true):∀ k,(b5 ws ls ns k).Nodup
 | 0=>(fU (dF hs).1).imp fun h=>Int.ne_of_lt h
 | k+1=>by
  show (b5 ws ls ns k ++ nextOf ws ls (b5 ws ls ns k)).Nodup
  refine bj3.mpr ⟨mI hs k,(aI3 ws.length).filter _,fun x hx y hy=>?_⟩
  intro z; subst z
  exact bp3 (rM (bl1.mp hy).2) hx
theorem aL9 (po:os.Perm (rng ws.length)) (hs:aY ws.length ns=true) {k m:Nat} (h1:fK ws ls os ns k) (h2:bS ws ls ns m):(ns ++ aV ws ls os ns k).Perm (b5 ws ls ns m):=by
 have s1:gI ws ls (ns ++ aV ws ls os ns k):=fun h hh=>by
  have:=List.find?_eq_none.mp h1.2 h (po.mem_iff.mpr hh)
  simpa using this
 have s2:gI ws ls (b5 ws ls ns m):=fun h hh=>by
  have:=List.filter_eq_nil_iff.mp (show (rng ws.length).filter (kin ws ls (b5 ws ls ns m)) = [] from h2.2) h hh
  simpa using this
 refine (List.perm_ext_iff_of_nodup (rZ po hs k).1 (mI hs m)).mpr fun x=>⟨fun hx=>?_,fun hx=>?_⟩
 ·refine U5 po s2 (fun y hy=>?_) k x hx
  have:∀ m,y ∈ b5 ws ls ns m:=fun m=>by
   induction m with
   | zero=>exact hy
   | succ m ih=>exact bi4 _ ih
  exact this m
 ·exact rY s1 (fun y hy=>bi4 _ hy) m x hx
end
def sA:bK:=fun xs Q=>∃ ws ls x os,xs = [b8 ws ls,x]/\ws.length<=40/\cY x os/\os.Perm (rng ws.length)/\Q (.bl true)
def U7:aK:=(b9 (q2 (jG 2 false) (aB rV (a6 (a5 1) a9)) (wP (aB hG (a6 (a5 0) a9)))))
theorem aM0 (n:Nat):(rng n).Pairwise (· <= ·):=by
 unfold rng
 rw [bn0]
 exact List.pairwise_lt_range.imp fun h=>by omega
theorem aM1:cI U7 ["web","numbers"] sA:=by
 rintro xs Q ⟨ws,ls,x,os,rfl,few,hx,po,q⟩
 have lo:=po.length_eq
 rw [fC] at lo
 refine⟨_,rfl,_,os,rfl,hx.seq,by omega,fun ms pm sm=>?_⟩
 obtain rfl:ms=rng ws.length:=wU (pm.trans po) sm (aM0 _)
 refine⟨_,rfl,ws,ls,rfl,_,rfl,by omega,by omega,?_⟩
 rw [T6]
 refine⟨.inr ⟨_,_,rfl,rfl⟩,vP 2 _ _,trivial,?_⟩
 show Q (.bl (bZ 3 (.lst (intz (rng ws.length))) (.lst (intz (rng ((ws.length:Int).toNat))))))
 rw [show ((ws.length:Int).toNat)=ws.length from rfl,vN,be7 rfl]
 exact q
def gJ:Option Int->PV
 | none=>.non
 | some h=>.int h
def oU:bK:=fun xs Q=>∃ ws ls ps S x os,xs = [b8 ws ls,.lst (iX ws.length ls),.dK ps,x]/\Wb ws ls/\DS ps S/\cY x os/\(∀ h ∈ os,h ∈ rng ws.length)/\Q (gJ (os.find? (kin ws ls S)))
def U8:aK:=(aH (eI (dN (a5 3)) (bO 4)
  (bQ (aR (aB mG (a6 (a5 0) (a6 (a5 1) (a6 (a5 2) (a6 (a5 4) a9)))))) (gT 4) bX))
 (b9 (qC .non)))
theorem aM2 {os:List Int}{p:Int->Bool}{i:Nat}{h:Int} (e:(os.take i).find? p=none) (hh:os[i]? = some h):(p h=true->os.find? p=some h)/\(p h=false->(os.take (i+1)).find? p=none):=by
 constructor
 ·intro hp
  have h1:os=os.take (i+1) ++ os.drop (i+1):=(List.take_append_drop _ _).symm
  rw [h1,List.find?_append,bm3,hh,List.find?_append,e]
  simp [hp]
 ·intro hp
  rw [bm3,hh,List.find?_append,e]
  simp [hp]
theorem aM3:cI U8 ["web","around","burning","order","hearth"] oU:=by
 rintro xs Q ⟨ws,ls,ps,S,x,os,rfl,wb,d,hx,inn,q⟩
 refine⟨_,rfl,_,hx.seq,oK hx,fun i ρ=>∃ y,ρ = [some (.sh (flat (b8 ws ls)) (b8 ws ls)),some (.sh (flat (.lst (iX ws.length ls))) (.lst (iX ws.length ls))),some (.sh (flat (.dK ps)) (.dK ps)),some (.sh (flat x) x),y]/\(os.take i).find? (kin ws ls S)=none,⟨none,rfl,rfl⟩,?_,?_⟩
 ·rintro i y ρ hy ⟨y0,rfl,fn⟩
  obtain ⟨h,rfl,hh⟩:=fB hy
  have hm:=dE.mp (inn h (bh1 hh))
  have ft:=aM2 fn hh
  refine⟨_,rfl,_,rfl,_,rfl,_,rfl,ws,ls,ps,S,h,rfl,wb,d,hm.1,hm.2,_,rfl,?_⟩
  cases hk:kin ws ls S h with
  | true=>
   refine aZ ⟨_,rfl,?_,?_⟩
   ·show Slot.nw (.sh (_ || true) _)
    rw [Bool.or_true]; trivial
   ·rw [ft.1 hk] at q; exact q
  | false=>exact aP ⟨some (.sh (_ || true) (.int h)),rfl,ft.2 hk⟩
 ·rintro ρ ⟨y,rfl,fn⟩
  rw [aW,bi3] at fn
  rw [fn] at q
  exact⟨trivial,q⟩
theorem lA {i:Nat}{h:Int}{g:Bool}{ρ:bP}{Q:bP->Prop} (q:Q (ρ.set i (some (.sh true (.int h))))):bO i (.int h) g ρ Q:=by
 show Q (ρ.set i (some (.sh (g || true) (.int h))))
 rw [Bool.or_true]; exact q
def aM4 (ns S:List Int):Int:=(ns.length:Int) - (((ns.filter fun x=>decide (x ∈ S)).length:Nat):Int)
def sB:bK:=fun xs Q=>∃ x ns y ms,xs = [x,y]/\cY x ns/\cY y ms/\ns.length<=10000/\ms.length<=1000/\Q (.tup (intz (ns.filter fun z=>!decide (z ∈ ms))))
def U9:aK:=(aH (bG 2 (aB iE (a6 (a5 1) a9)))
 (b9 (aB dW (a6 (cL (dN (a5 0)) [none,some 2] (bO 0) (aR (iN true (a5 0) (a5 1))) (a5 0)) a9))))
theorem aM5:cI U9 ["hearths","some","gone"] sB:=by
 rintro xs Q ⟨x,ns,y,ms,rfl,hx,hy,hl,hm,q⟩
 refine⟨_,rfl,y,ms,rfl,hy,hm,fun ps d=>⟨trivial,?_⟩⟩
 refine⟨_,rfl,_,hx.seq,oK hx,by rw [aW]; omega,fun i acc=>acc=intz ((ns.take i).filter fun z=>!decide (z ∈ ms)),rfl,?_,?_⟩
 ·rintro i z acc hz rfl
  obtain ⟨n,rfl,hn⟩:=fB hz
  have tk:=kA (p:=fun z=>!decide (z ∈ ms)) hn
  refine⟨_,rfl,_,rfl,_,.inl ⟨ps,Sum.inl n,rfl,rfl,rfl⟩,_,rfl,?_⟩
  show if (!(cA ps (Sum.inl n:aC)).isSome)=true then _ else _
  rw [d.has n]
  by_cases h:n ∈ ms
  ·rw [be7 h] at tk ⊢
   refine aP ?_
   show _=intz (List.filter _ (List.take (i+1) ns))
   rw [tk]; exact congrArg intz (bf9 _).symm
  ·rw [be8 h] at tk ⊢
   refine aZ ⟨_,rfl,trivial,?_⟩
   show _=intz (List.filter _ (List.take (i+1) ns))
   rw [tk,cR]; rfl
 ·rintro acc rfl
  rw [aW,bi3]
  exact⟨⟨_,_,rfl,rfl,bJ _,trivial,q⟩,fun ns z=>by cases z⟩
def aM6 (ws:List Int) (ls:List (Int × Int)) (S:List Int) (h:Int):Bool:=decide (aM4 (bE ls h) S < ws.getD h.toNat 0)
def stay (ws:List Int) (ls:List (Int × Int)) (S:List Int):List Int:=S.filter (aM6 ws ls S)
section
variable {ws : List Int} {ls : List (Int × Int)} {ns : List Int}
theorem aM7 (wb:Wb ws ls) {h x:Int} (hx:x ∈ bE ls h):x ∈ rng ws.length:=by
 unfold bE at hx
 obtain ⟨l,hl,hx⟩:=List.mem_flatMap.mp hx
 have:=wb.links l hl
 rcases bg2.mp hx with hx | hx
 ·split at hx
  ·rw [bf3.mp hx]; exact dE.mpr this.2
  ·cases hx
 ·split at hx
  ·rw [bf3.mp hx]; exact dE.mpr this.1
  ·cases hx
end
end Core
namespace Raw
open PySem PySem.W PyProof.Rows
section
variable {prog : Program} {w : World} {A : Around} {E : Value → Shared → Prop} {s : Shared} {T : String} {r d : Addr} {n : Nat} {P : Nat → Value → Prop} {OK : Heap → Prop}
theorem aM8 {R:Result->Shared->Prop} (K:KdlSrc prog w T r d n P OK) (hh:A.handled=none) (hok:OK s.heap) (hn:n<=sizeLine)
  (hR:∀ h' tk acc c,(∀ b o,b ≠ s.heap.objs.size->(s.heap.push { cls:=.type "list",data:=.seq ([]:List Value).toArray }).get? b=some o->h'.get? b=some o)->h'.get? s.heap.objs.size=some { cls:=.type "list",dict:=none,data:=.seq acc c,slots:=#[] }->ItemsOf P acc n->R (.ok (.ret (.ref s.heap.objs.size))) { s with heap:=h',toks:=tk }) :
  codeAny (model prog w) A (.builtin "proto.collect" ⟨[.ref r],[]⟩) R s:=by
 have lt:=K.there _ hok
 refine codeAny_builtin PySem.F.entry_proto_collect ?_
 rw [Around.under_plainId PySem.F.plain_proto_collect _]
 show wpAny _ A.in1 (newList [] >>= fun l=>again (.builtin "list.__iadd__" ⟨[l,.ref r],[]⟩)) _ _ s
 refine bd9 (bl5 ?_)
 refine be4 ⟨plainId_quiet PySem.F.plain_list_iadd _,codeAny_builtin PySem.F.entry_list_iadd ?_⟩
 rw [Around.under_plainId PySem.F.plain_list_iadd _]
 show wpAny _ A.in1 (Builtin.List.listExtendWith (.ref s.heap.objs.size) (.ref r) (.ref s.heap.objs.size)) _ _ _
 exact kdl_extend (s:={ s with heap:=s.heap.push { cls:=.type "list",data:=.seq ([]:List Value).toArray } }) (R:=R) K hh (K.keep _ _ hok fun b _ o e=>be1 _ e) s.heap.objs.size (bl7 lt.1) (bl7 lt.2) _ 0 (bf6 _ rfl) hR hn
theorem aM9 {Q:List Value->Shared->Prop} (K:KdlSrc prog w T r d n P OK) (hh:A.handled=none) (hok:OK s.heap) (hn:n<=sizeLine)
  (hQ:∀ h' tk acc,(∀ b o,s.heap.get? b=some o->h'.get? b=some o)->s.heap.objs.size<=h'.objs.size->ItemsOf P acc n->Q acc.toList { s with heap:=h',toks:=tk }) :
  wpAny (model prog w) A (collect (.ref r)) Q E s:=by
 unfold collect
 refine bd9 (wpAny_runValue (aM8 (s:=s) K hh hok hn fun h' tk acc c kp at1 it=>?_))
 show wpAny _ A (load s.heap.objs.size >>= _) _ _ _
 refine bd9 (wpAny_load at1 ?_)
 exact be4 (hQ h' tk acc (fun b o e=>kp b o (bh5 (bf8 e)) (be1 _ e)) (bj6 (bf8 at1)) it)
theorem aN0 {Q:Value->Shared->Prop}{G:List Int->Prop} (K:KdlSrc prog w T r d n P OK) (hh:A.handled=none) (hok:OK s.heap) (hn:n < 64)
  (hI:∀ acc,ItemsOf P acc n->∃ ns,IntsAre acc.toList ns/\G ns)
  (h:∀ h' tk a (out:Array Value) (ns ns':List Int) e,(∀ b o,s.heap.get? b=some o->h'.get? b=some o)->s.heap.objs.size<=a->h'.get? a=some (seqObj "list" out e)->IntsAre out.toList ns'->G ns->ns'.Perm ns->ns'.Pairwise (· <= ·)->Q (.ref a) { s with heap:=h',toks:=tk }) :
  wpAny (model prog w) A (call (.builtin "sorted") [.ref r]) Q E s:=by
 have hsl:n<=sizeLine:=bh6 (bj6 hn) (by decide)
 refine Calls.call_function_entry kind_sorted plain_sorted entry_sorted (args_sorted1 _) ?_
 unfold Builtin.«sorted»
 refine bd9 (m:=checkCount "sorted" 1 1 _) (be4 ?_)
 refine bd9 (aM9 (s:=s) K hh hok hsl fun h' tk acc kp hs it=>?_)
 obtain ⟨ns,hi,g⟩:=hI acc it
 have hz:acc.toList.length < 64:=by rw [bi0,it.1]; exact hn
 refine bd9 (wpAny_newList ?_ (bh6 (bj6 hz) (by decide)))
 have hoL:(h'.push (seqObj "list" acc.toList.toArray 0)).get? h'.objs.size=some (seqObj "list" acc.toList.toArray 0):=bf6 _ rfl
 show wpAny _ _ _ _ _ { s with heap:=h'.push (seqObj "list" acc.toList.toArray 0),toks:=tk }
 refine bd9 (bm0 (bk5 slot_list_sort ⟨_,hoL,rfl⟩ entry_list_sort (list_sort_tree hoL hi hz fun out ns' a1 a2 a3=>⟨_,rfl,?_⟩) (args_list_sort _)))
 obtain ⟨e,he⟩:=sortedHeap_at (vs:=acc.toList) (out:=out) hoL
 refine be4 ⟨_,rfl,h _ tk h'.objs.size out ns ns' e (fun b o hb=>?_) hs he a1 g a2 a3⟩
 have lt:=bf8 (kp b o hb)
 rw [sortedHeap_old (bh5 lt) (by rw [size_push']; exact Nat.lt_succ_of_lt lt)]
 exact be1 _ (kp b o hb)
end
end Raw
namespace L2
open PySem PySem.Spec PyProof.Rows
section
variable {X : Cx}
theorem aN1 (hc:X.calm=true):cU X (.builtin "sorted") (fun xs H Q=>∃ a kvs ns,xs = [.ref a]/\H a=some (.dK kvs)/\kvs.map (·.1)=ns.map Sum.inl/\ns.length < 64/\∀ l (ms:List Int),H l=none->ms.Perm ns->ms.Pairwise (· <= ·)->Q (.ref l) (upd H l (.lst (ms.map V.int)))):=by
 intro pins s σ H xs us Q I r h
 obtain ⟨a,kvs,ns,rfl,ha,hk,h64,q⟩:=h
 obtain ⟨u,rfl,ru⟩:=fX r
 cases ru
 obtain ⟨es,ep,rd,far,vk,z⟩:=as7 I ha
 have hl:=vk.length
 have hl2:=congrArg List.length hk
 rw [be5,be5] at hl hl2
 have hsz:es.toList.length=es.size:=bi0
 have e1:(kvs.map fun p=>kV p.1)=ns.map V.int:=by
  have:(kvs.map fun p=>kV p.1)=(kvs.map (·.1)).map kV:=by rw [bn3]; rfl
  rw [this,hk,bn3]; rfl
 rw [e1] at vk
 refine Raw.aN0 (G:=fun ms=>ms=ns) (Raw.F3 far) (I.ok.hd hc) rd (by omega) (fun acc it=>⟨ns,by rw [F5 it]; exact kJ vk,rfl⟩) fun h' tk l out ns1 ns' e kp hn he a1 g a2 a3=>?_
 subst g
 have hlen:ns'.length=ns1.length:=a2.length_eq
 refine⟨.ref l,upd H l (.lst (ns'.map V.int)),I.laid (t':=tk) kp hn ⟨?_,out.toList,e,nT a1,by simpa using he⟩,rfl,q _ ns' (I.hok.fresh hn) a2 a3⟩
 rw [be5,hlen]
 exact bj6 (nU (by omega))
end
end L2
namespace PP
open PySem L2 PyProof.Rows
section
variable {X : Cx} {a b e : Expr} {ta tb te : aE} {tr : cN} {pos p2 : Pos}
def x5:List PV->(PV->Prop)->Prop:=fun xs Q=>∃ (ps:List (aC × PV)) (ns:List Int),xs = [.dK ps]/\ps.map (·.1)=ns.map Sum.inl/\ns.length < 64/\∀ ms:List Int,ms.Perm ns->ms.Pairwise (· <= ·)->Q (.lst (intz ms))
theorem aN2:fP X x5 (fun xs H Q=>∃ a kvs ns,xs = [.ref a]/\H a=some (.dK kvs)/\kvs.map (·.1)=ns.map Sum.inl/\ns.length < 64/\∀ l (ms:List Int),H l=none->ms.Perm ns->ms.Pairwise (· <= ·)->Q (.ref l) (upd H l (.lst (ms.map V.int)))):=by
 rintro H vs xs Q Q' r ⟨ps,ns,rfl,e,hl,q⟩ k
 obtain ⟨v,rfl,r1⟩:=r.one
 cases r1 with
 | @dK a kvs _ m h e2 r2=>
  exact⟨a,kvs,ns,rfl,h,e2.trans e,hl,fun l ms hl' p o=>k _ _ _ (bM hl' _) (.lst hl' bD (Reps.intz ms)) (q ms p o)⟩
theorem aN3 (B:Bt X.mg) (hc:X.calm=true) (ha:QA X [e] tr) (hg:Gl X "sorted":=by rfl) (he:starEach [e] X.env=(false,eval e X.env) :: starEach [] X.env:=by rfl) (hpl:(backTo pos (starEach [] X.env)).any (·.1)=false:=by rfl):QE X (.Call (.Name "sorted" p2) [e] [] pos) (aB x5 tr):=
 k8 (aN1 hc) aN2 hg B.sorted PyProof.Rows.boot_sorted ha (he:=he) (hpl:=hpl)
end
end PP
namespace Core
open PySem L2 PP
def hU (k:Nat) (r:List Int):List (aC × PV):=r.map fun h=>((Sum.inl h:aC),PV.int (k:Int))
def jN (rs:List (List Int)):List (aC × PV):=(rs.mapIdx hU).flatten
theorem aN4 (rs:List (List Int)) (r:List Int):jN (rs ++ [r])=jN rs ++ hU rs.length r:=by
 unfold jN
 rw [List.mapIdx_append,List.flatten_append]
 simp
theorem V0 (k:Nat) (r:List Int):(hU k r).map (·.1)=r.map Sum.inl:=by
 unfold hU; rw [bn3]; rfl
theorem V1:∀ (rs:List (List Int)) (g:Nat->Nat),((rs.mapIdx fun i r=>hU (g i) r).flatten).map (·.1)=rs.flatten.map (Sum.inl:Int->aC)
 | [],_=>rfl
 | r :: t,g=>by
  rw [List.mapIdx_cons,List.flatten_cons,List.flatten_cons,bh3,bh3,V0,V1 t fun i=>g (i+1)]
theorem V2 (rs:List (List Int)):(jN rs).map (·.1)=rs.flatten.map (Sum.inl:Int->aC):=V1 rs fun i=>i
theorem aN5 {ps:List (aC × PV)}{h:Int}{v:PV}{S:List Int} (e:ps.map (·.1)=S.map Sum.inl) (hn:h ∉ S):cM ps (Sum.inl h:aC) v=ps ++ [(Sum.inl h,v)]:=by
 unfold cM
 rw [if_neg]
 intro z
 rw [List.any_eq_true] at z
 obtain ⟨p,hp,hq⟩:=z
 have:p.1 ∈ ps.map (·.1):=bi7.mpr ⟨p,hp,rfl⟩
 rw [e,bq3 hq] at this
 obtain ⟨y,hy,e2⟩:=bi7.mp this
 exact hn (Sum.inl.inj e2 ▸ hy)
theorem aN6 {k:Nat}{r:List Int}{i:Nat}{n:Int} (h:r[i]? = some n):hU k (r.take (i+1))=hU k (r.take i) ++ [(Sum.inl n,PV.int (k:Int))]:=by
 unfold hU
 rw [bm3,h,bh3]; rfl
theorem uV {ls:List (Int × Int)}{h x:Int}:x ∈ bE ls h ↔ ∃ l ∈ ls,(l.1=h/\l.2=x) ∨ (l.2=h/\l.1=x):=by
 unfold bE
 rw [List.mem_flatMap]
 constructor
 ·rintro ⟨l,hl,hx⟩
  refine⟨l,hl,?_⟩
  rcases bg2.mp hx with hx | hx
  ·split at hx
   ·rename_i e; exact .inl ⟨e,(bf3.mp hx).symm⟩
   ·cases hx
  ·split at hx
   ·rename_i e; exact .inr ⟨e,(bf3.mp hx).symm⟩
   ·cases hx
 ·rintro ⟨l,hl,⟨e1,e2⟩ | ⟨e1,e2⟩⟩
  ·exact⟨l,hl,bi4 _ (by rw [if_pos e1,e2]; exact List.mem_singleton_self _)⟩
  ·exact⟨l,hl,bh2 _ (by rw [if_pos e1,e2]; exact List.mem_singleton_self _)⟩
theorem V3 {h:Int}:∀ {ls:List (Int × Int)},(∀ l ∈ ls,l.1 < l.2)->ls.Pairwise oO->(bE ls h).Nodup
 | [],_,_=>.nil
 | l :: r,hl,hp=>by
  have ih:=V3 (h:=h) (ls:=r) (fun m hm=>hl m (bg0 _ hm)) (List.pairwise_cons.mp hp).2
  have h0:=hl l bf5
  have e:bE (l :: r) h=((if l.1=h then [l.2] else []) ++ (if l.2=h then [l.1] else [])) ++ bE r h:=rfl
  rw [e]
  refine bj3.mpr ⟨?_,ih,fun x hx y hy q=>?_⟩
  ·by_cases e1:l.1=h
   ·rw [if_pos e1,if_neg (by omega),bf9]; exact bh7 _ _
   ·rw [if_neg e1]
    split
    ·exact bh7 _ _
    ·exact .nil
  ·subst q
   obtain ⟨m,hm,c⟩:=uV.mp hy
   have h1:=hl m (bg0 _ hm)
   have h2:=(List.pairwise_cons.mp hp).1 m hm
   have c':(l.1=h/\l.2=x) ∨ (l.2=h/\l.1=x):=by
    rcases bg2.mp hx with hx | hx
    ·split at hx
     ·rename_i e; exact .inl ⟨e,(bf3.mp hx).symm⟩
     ·cases hx
    ·split at hx
     ·rename_i e; exact .inr ⟨e,(bf3.mp hx).symm⟩
     ·cases hx
   unfold oO at h2
   omega
theorem uT {ls:List (Int × Int)}{wts:List Int} (e:wts.length=ls.length):(ls.zip wts).map (·.2)=wts:=by
 rw [List.map_snd_zip]; omega
section
variable {ws : List Int} {ls : List (Int × Int)} {ns wts : List Int} {m : Nat}
def loose (ls:List (Int × Int)) (wts ns:List Int):List ((Int × Int) × Int):=(ls.zip wts).filter fun z=>!(decide (z.1.1 ∈ ns) && decide (z.1.2 ∈ ns))
end
end Core
set_option maxHeartbeats 1000000
set_option maxHeartbeats 1000000
set_option maxHeartbeats 1000000
set_option maxHeartbeats 1000000
namespace PP
open PySem L2 PyProof.Rows
abbrev dG:=(Str->Prop)->bK
def EX (K:PySem.W.Frag) (H0:Hp) (Ep:Str->Prop):XK:=fun c d H'=>d=none/\aD H0 H'/\∃ n C,c = .ref C/\PySem.W.nsIn K mainGlobals n=some (some (.ref C))/\Ep n
def V4 (K:PySem.W.Frag) (p:dG):Sp:=fun vs H Q E=>∃ xs Qp Ep,Reps K (fun _=>True) H vs xs/\p Ep xs Qp/\(∀ v H' x,aD H H'->aG K (fun a=>H a=none) H' v x->Qp x->Q v H')/\
 ∀ n C H',aD H H'->PySem.W.nsIn K mainGlobals n=some (some (.ref C))->Ep n->E (.ref C) none H'
structure bH (P:Program) (w:World) (K:PySem.W.Frag) (mg:Str->Option Value) (base:Heap) (k:Nat) (x:Str) (ps:List Str) (p:dG):Prop where
 ex:∃ f fd,cV P w K mg base (eC P w) k f fd ps (V4 K p)/\i3 K fd ps []/\PySem.W.keepIn K (.ref f)=true/\mg x=some (.ref f)
section
variable {X : Cx} {σ : L2.St} {H : Hp} {D : bS} {tr : cN} {Q' : VK} {a b c e : Expr} {es : List Expr} {pos p2 cp np hp : Pos} {t : aK} {te : aE} {tc : bY}
def eL (Ep:Str->Prop) (p:dG) (t:cN):aE:=aB (p Ep) t
theorem V5 {p:dG}{Ep:Str->Prop} (h:LE X (eL Ep p tr) σ H Q'):tU (V4 X.K p) [] (EX X.K X.H₀ Ep) (LA X tr) σ H Q':=by
 obtain ⟨W,ρ,Q,px,q,k⟩:=h
 refine⟨W,ρ,_,px,q,fun vs H1 xs s1 r1 q1=>⟨_,_,Ep,by rw [bf9]; exact r1.any,q1,fun v H' x s2 r2 q2=>k v H' x .fr (s1.trans s2) (r2.same (aD.refl _) fun _ z=>s1.free z) q2,fun n C H' s2 z1 z2=>⟨rfl,(px.same.trans s1).trans s2,n,C,rfl,z1,z2⟩⟩⟩
theorem fL {Ep:Str->Prop}{k j:Nat}{x:Str}{ps:List Str}{p:dG} (hX:mE X (EX X.K X.H₀ Ep)) (d:bH X.prog X.w X.K X.mg X.base k x ps p) (hr:c9 j X.A) (ha:QA X (e :: es) tr) (hkj:k<=j:=by decide) (hg:Gl X x:=by rfl) (hdb:(x == ("__debug__" : Str))=false:=by decide)
  (he:starEach (e :: es) X.env=(false,eval e X.env) :: starEach es X.env:=by rfl) (hpl:(backTo pos (starEach es X.env)).any (·.1)=false:=by rfl):QE X (.Call (.Name x p2) (e :: es) [] pos) (eL Ep p tr):=by
 obtain ⟨f,fd,F,b,kp,m⟩:=d.ex
 exact c7 (pJ F (hr.mono hkj) hg m kp b .nil hX.pass ha hdb he hpl) fun _ _ _=>V5
theorem oV {k j:Nat}{x:Str}{ps:List Str}{p:dG} (d:bH X.prog X.w X.K X.mg X.base k x ps p) (hr:c9 j X.A) (ha:QA X (e :: es) tr) (hkj:k<=j:=by decide) (hg:Gl X x:=by rfl) (hdb:(x == ("__debug__" : Str))=false:=by decide)
  (he:starEach (e :: es) X.env=(false,eval e X.env) :: starEach es X.env:=by rfl) (hpl:(backTo pos (starEach es X.env)).any (·.1)=false:=by rfl):QE X (.Call (.Name x p2) (e :: es) [] pos) (aB (p fun _=>False) tr):=by
 obtain ⟨f,fd,F,b,kp,m⟩:=d.ex
 refine c7 (pJ F (E:=EX X.K X.H₀ fun _=>False) (hr.mono hkj) hg m kp b .nil (fun _ _ _ _ _ _ _ h=>?_) ha hdb he hpl) fun _ _ _ h=>V5 (Ep:=fun _=>False) h
 obtain ⟨_,_,_,_,_,_,_,_,_,_,_,_,z⟩:=h
 exact z.elim
def lB (Ep:Str->Prop) (n:Str) (t:cN):aK:=fun _ ρ=>t ρ fun xs=>xs.length<=1000/\Ep n
theorem aN7 {Ep:Str->Prop}{n:Str}{C:Addr} (hn:PySem.W.nsIn X.K mainGlobals n=some (some (.ref C))) (h:LS X (lB Ep n tr) D σ H):P0 (EX X.K X.H₀ Ep) C (LA X tr) D σ H:=by
 obtain ⟨W,ρ,D',px,q,k⟩:=h
 exact⟨W,ρ,_,px,q,fun vs H1 xs s1 r z=>⟨by rw [r.length]; exact qR z.1,rfl,px.same.trans s1,n,C,rfl,hn,z.2⟩⟩
structure Xc (K:PySem.W.Frag) (mg:Str->Option Value) (base:Heap) (n:Str):Prop where
 ex:∃ C B newId initId bm,OwnCls n C bm newId mg base/\ExcBaseFacts B newId initId bm/\PySem.W.nsIn K mainGlobals n=some (some (.ref C))
theorem oW {Ep:Str->Prop}{n:Str} (hX:mE X (EX X.K X.H₀ Ep)) (x:Xc X.K X.mg X.base n) (ha:QA X (e :: es) tr) (hc:X.calm=true:=by rfl) (hg:Gl X n:=by rfl) (hd:(n == ("__debug__" : Str))=false:=by decide)
  (he:starEach (e :: es) X.env=(false,eval e X.env) :: starEach es X.env:=by rfl) (hpl:(backTo cp (starEach es X.env)).any (·.1)=false:=by rfl):QS X (.Raise (some (.Call (.Name n np) (e :: es) [] cp)) none pos) (lB Ep n tr):=by
 obtain ⟨C,B,newId,initId,bm,O,FB,hn⟩:=x.ex
 exact dC (aD2 hX hc O FB ha hg hd he hpl) fun _ _ _=>aN7 hn
abbrev jO:=jE->(Str->Prop)->bP->Prop
def LB (X:Cx) (t:jO):TB:=fun D Ex σ H=>∃ (W:Addr->Prop) (ρ:bP) (D':jE) (Ep:Str->Prop),PX X.K X.H₀ W σ ρ H/\t D' Ep ρ/\lU X W H D' D/\∀ n C H',aD H H'->PySem.W.nsIn X.K mainGlobals n=some (some (.ref C))->Ep n->Ex (.ref C) none H'
def QB (X:Cx) (sts:List Stmt) (t:jO):Prop:=PB X sts (LB X t)
theorem V6 {sts:List Stmt}{t t':TB} (h:PB X sts t) (m:∀ D Ex σ H,t' D Ex σ H->t D Ex σ H):PB X sts t':=fun pins s σ H D Ex I q=>h pins s σ H D Ex I (m D Ex σ H q)
def sC (p:dG) (t:cN):jO:=fun D Ep ρ=>t ρ fun xs=>p Ep (xs.map (·.1)) fun _=>D.nx ρ
def V7 (c:bY) (t u:jO):jO:=fun D Ep ρ=>c ρ fun b=>if b=true then t D Ep ρ else u D Ep ρ
theorem x6 {k j:Nat}{x:Str}{ps:List Str}{p:dG} (d:bH X.prog X.w X.K X.mg X.base k x ps p) (hr:c9 j X.A) (ha:∀ E,QA (X.wish E) (e :: es) tr) (hkj:k<=j:=by decide) (hg:Gl X x:=by rfl) (hdb:(x == ("__debug__" : Str))=false:=by decide)
  (he:starEach (e :: es) X.env=(false,eval e X.env) :: starEach es X.env:=by rfl) (hpl:(backTo cp (starEach es X.env)).any (·.1)=false:=by rfl) (hsw:swapsWith (.Call (.Name x p2) (e :: es) [] cp) none pos.line X.env=pure false:=by rfl):QB X [.Expr (.Call (.Name x p2) (e :: es) [] cp) pos] (sC p tr):=by
 obtain ⟨f,fd,F,b,kp,m⟩:=d.ex
 refine V6 (aD7 (t:=LA X tr) F (hr.mono hkj) hg m kp b (fun E=>ha E) hdb he hpl hsw) fun D Ex σ H h=>?_
 obtain ⟨W,ρ,D',Ep,px,q,k,ke⟩:=h
 exact⟨W,ρ,_,px,q,fun vs H1 xs s1 r q1=>⟨_,_,Ep,r.any,q1,fun v H' x s2 r2 q2=>k.nx W σ H' ρ (Ev.same (s1.trans s2)) (px.mono (s1.trans s2)) q2,fun n C H' s2 z1 z2=>ke n C H' (s1.trans s2) z1 z2⟩⟩
theorem aN8 {sa sb:List Stmt}{tb ub:jO} (hc:∀ E,QT (X.wish E) c tc) (ha:QB X sa tb) (hb:QB X sb ub):QB X [.If c sa sb pos] (V7 tc tb ub):=by
 refine V6 (aD8 (tc:=LT X tc) (fun E=>hc E) ha hb) fun D Ex σ H h=>?_
 obtain ⟨W,ρ,D',Ep,px,q,k,ke⟩:=h
 refine⟨W,ρ,_,px,q,fun b H1 s1 q1=>?_⟩
 have ke':∀ n C H',aD H1 H'->PySem.W.nsIn X.K mainGlobals n=some (some (.ref C))->Ep n->Ex (.ref C) none H':=fun n C H' s2 z1 z2=>ke n C H' (s1.trans s2) z1 z2
 cases b with
 | true=>exact aZ ⟨W,ρ,D',Ep,px.mono s1,by simpa using q1,k.step (Ev.same s1),ke'⟩
 | false=>exact aP ⟨W,ρ,D',Ep,px.mono s1,by simpa using q1,k.step (Ev.same s1),ke'⟩
def V8 (D:jE) (i:Nat):jE:={ nx:=fun ρ=>D.nx (ρ.set i none),rt:=D.rt,bk:=fun ρ=>D.bk (ρ.set i none),ct:=fun ρ=>D.ct (ρ.set i none) }
def mJ:List Str:=["BadWeb","BadSet","BadOrder","BadPrices","BadBoard","BadDeed","NotWood","NoPaper","NoSuch","TooMany","NoText","OddRound"]
def lC (n m:Str):Option Bool:=if mJ.contains n then some (n == m || m == "HearthError" || m == "ValueError") else none
def sD (m:Str) (i:Nat) (tb:jO) (ts:aK):aK:=fun D ρ=>tb D (fun n=>lC n m=some true/\ts (V8 D i) (ρ.set i (some (.sh true (.exc n))))) ρ
theorem aN9 {m:Str}{Ch:Addr}{i:Nat}{tb:jO}{ts:aK} (hs:∀ n C,lC n m=some true->PySem.W.nsIn X.K mainGlobals n=some (some (.ref C))->PySem.W.subIn X.K (.ref C) (.ref Ch)=some true) (h:LS X (sD m i tb ts) D σ H):P4 X.K Ch i (LB X tb) (LS X ts) D σ H:=by
 obtain ⟨W,ρ,D',px,q,k⟩:=h
 refine⟨W,ρ,D',_,px,q,k,fun n C H' s z1 z2 a C' oe hc na hcl=>?_⟩
 cases hc
 refine⟨hs n C z2.1 z1,W,_,V8 D' i,(px.mono (s.trans (bM na _))).setSh (g:=true) (.exc bD z1 hcl),z2.2,?_⟩
 have k':=k.step (Ev.same (W:=W) (s.trans (bM na (.frz oe (.own a)))))
 exact⟨fun W' σ' H2 ρ' ev px' q'=>k'.nx W' _ H2 _ ev px'.setNone q',k'.rt,fun W' σ' H2 ρ' ev px' q'=>k'.bk W' _ H2 _ ev px'.setNone q',fun W' σ' H2 ρ' ev px' q'=>k'.ct W' _ H2 _ ev px'.setNone q'⟩
structure sE (K:PySem.W.Frag) (mg:Str->Option Value) (m:Str):Prop where
 ex:∃ Ch,mg m=some (.ref Ch)/\wD K Ch/\∀ n C,lC n m=some true->PySem.W.nsIn K mainGlobals n=some (some (.ref C))->PySem.W.subIn K (.ref C) (.ref Ch)=some true
theorem V9 (i:Nat) {m n:Str}{b₀:Stmt}{suite body:List Stmt}{tb:jO}{ts:aK} (ct:sE X.K X.mg m) (hN:X.N.Nodup) (hb:QB X body tb) (hs:∀ a,eZ (X.suite a) (b₀ :: suite) ts) (hstk:X.stack=X.env :: X.outer/\X.env.frame=some X.env.locals:=by exact⟨rfl,rfl⟩) (hi:X.N[i]? = some n:=by rfl) (hl:X.env.scope.names.lookup n=some .local:=by rfl) (hg:Gl X m:=by rfl)
  (hd:(m == ("__debug__" : Str))=false:=by decide):QS X (.Try body [.ExceptHandler (some (.Name m np)) (some n) (b₀ :: suite) hp] [] [] pos) (sD m i tb ts):=by
 obtain ⟨Ch,hm,c,sub⟩:=ct.ex
 exact dC (aD9 (ts:=LS X ts) hstk hb hg hm c hN hi hl (fun a=>vW (hs a) fun _ _ _ ⟨W,ρ,D',px,q,k⟩=>⟨W,ρ,D',px,q,⟨k.nx,k.rt,k.bk,k.ct⟩⟩) hd) fun _ _ _=>aN9 sub
def gO:V->Value
 | .ref a=>.ref a
 | .ty n=>.type n
 | _=>.none
def aO0 (K:PySem.W.Frag):List V->Hp->VK->Prop:=fun xs H Q=>∃ v v2 b,xs = [v,v2]/\gO v2 ≠ .none/\((∃ a o C,v = .ref a/\H a=some (.frz o (.own a))/\o.cls = .ref C/\iU K C/\PySem.W.kitOne K (.ref C) (gO v2)=some b) ∨ (v = .non/\PySem.W.kitOne K (.type "NoneType") (gO v2)=some b))/\Q (.bl b) H
theorem aO1:cU X (.builtin "isinstance") (aO0 X.K):=by
 intro pins s σ H xs us Q I r h
 obtain ⟨v,v2,b,rfl,hv,hk,q⟩:=h
 obtain ⟨u,u',rfl,ru,ru'⟩:=nI r
 obtain rfl:u'=gO v2:=by
  cases v2 <;> first | exact ru' | exact absurd rfl hv
 rcases hk with ⟨a,o,C,rfl,hH,hc,F,e⟩ | ⟨rfl,e⟩
 ·obtain ⟨h1,_⟩:=I.hok a _ hH
  cases (show u=Value.ref a from ru)
  exact bk3 (aE6 F) I.kIn ⟨o,h1,hc⟩ e (fun z=>nomatch z) fun tk=>⟨.bl b,H,I.tok tk,rfl,q⟩
 ·cases (show u=Value.none from ru)
  exact bk3 PySem.W.kitx_none I.kIn trivial e (fun z=>nomatch z) fun tk=>⟨.bl b,H,I.tok tk,rfl,q⟩
def aO2 (m:Str):PV->Option Bool
 | .exc n=>lC n m
 | .non=>some false
 | _=>none
def lD (m:Str) (te:aE):aE:=fun ρ Q=>te ρ fun x _=>∃ b,aO2 m x=some b/\Q (.bl b) .fr
structure x8 (K:PySem.W.Frag) (m:Str) (v2:V):Prop where
 nn:gO v2 ≠ .none
 ex:∀ n C b,PySem.W.nsIn K mainGlobals n=some (some (.ref C))->lC n m=some b->iU K C/\PySem.W.kitOne K (.ref C) (gO v2)=some b
 no:PySem.W.kitOne K (.type "NoneType") (gO v2)=some false
theorem W0 {x:Str}{v2:V}{px:Pos} (B:Bt X.mg) (A:x8 X.K x v2) (hx:PE X (.Name x px) (tC v2)) (ha:QE X a te) (hg:Gl X "isinstance":=by rfl)
  (he:starEach [a,.Name x px] X.env=(false,eval a X.env) :: starEach [.Name x px] X.env:=by rfl) (he2:starEach [.Name x px] X.env=(false,eval (.Name x px) X.env) :: starEach [] X.env:=by rfl) (hpl:(backTo pos (starEach [.Name x px] X.env)).any (·.1)=false:=by rfl):QE X (.Call (.Name "isinstance" p2) [a,.Name x px] [] pos) (lD x te):=
 c7 (nK aO1 hg B.isinst PyProof.Rows.boot_isinstance (cP ha (cP hx dP he2) he) (he:=he) (hpl:=hpl)) fun σ H Q' h=>by
  obtain ⟨W,ρ,Q,px,q,k⟩:=h
  refine⟨W,ρ,_,px,q,?_⟩
  rintro v H1 y g s r ⟨b,e,q⟩
  refine⟨v,v2,b,rfl,A.nn,?_,k _ _ _ .fr s (.bl _) q⟩
  cases r with
  | exc h z c=>
   obtain ⟨F,kt⟩:=A.ex _ _ _ z e
   exact .inl ⟨_,_,_,rfl,h,c,F,kt⟩
  | non=>cases e; exact .inr ⟨rfl,A.no⟩
  | _=>cases e
end
section
variable {X : Cx} {a : Expr} {pos p2 px : Pos} {te : aE}
structure mK (K:PySem.W.Frag) (mg:Str->Option Value) (m:Str):Prop where
 ex:∃ C,mg m=some (.ref C)/\x8 K m (.ref C)
structure x9 (K:PySem.W.Frag) (mg:Str->Option Value):Prop where
 mg:mg "ValueError" = none
 is:x8 K "ValueError" (.ty "ValueError")
theorem xA {x:Str} (B:Bt X.mg) (A:mK X.K X.mg x) (ha:QE X a te) (hgx:Gl X x:=by rfl) (hdx:(x == ("__debug__" : Str))=false:=by decide) (hg:Gl X "isinstance":=by rfl)
  (he:starEach [a,.Name x px] X.env=(false,eval a X.env) :: starEach [.Name x px] X.env:=by rfl) (he2:starEach [.Name x px] X.env=(false,eval (.Name x px) X.env) :: starEach [] X.env:=by rfl) (hpl:(backTo pos (starEach [.Name x px] X.env)).any (·.1)=false:=by rfl):QE X (.Call (.Name "isinstance" p2) [a,.Name x px] [] pos) (lD x te):=by
 obtain ⟨C,m,i⟩:=A.ex
 exact W0 B i (ah3 hgx m rfl hdx) ha hg he he2 hpl
theorem aO3 (B:Bt X.mg) (A:x9 X.K X.mg) (ha:QE X a te) (hgx:Gl X "ValueError":=by rfl) (hg:Gl X "isinstance":=by rfl)
  (he:starEach [a,.Name "ValueError" px] X.env=(false,eval a X.env) :: starEach [.Name "ValueError" px] X.env:=by rfl) (he2:starEach [.Name "ValueError" px] X.env=(false,eval (.Name "ValueError" px) X.env) :: starEach [] X.env:=by rfl) (hpl:(backTo pos (starEach [.Name "ValueError" px] X.env)).any (·.1)=false:=by rfl):QE X (.Call (.Name "isinstance" p2) [a,.Name "ValueError" px] [] pos) (lD "ValueError" te):=
 W0 B A.is (y6 (v:=.ty "ValueError") hgx A.mg PyProof.Rows.Boot.«ValueError» rfl (by decide) (by decide)) ha hg he he2 hpl
end
structure kB (K:PySem.W.Frag) (C:Addr):Prop where
 cls:PySem.W.isClsIn K C=true
 ty:PySem.W.typeIn K (.ref C)=some (.type "type")
 ga:PySem.W.findIn K (.ref C) "__getattribute__" = some (some (.builtin "BaseException.__getattribute__"))
 gt:PySem.W.findIn K (.ref C) "__getattr__" = some none
 fc:PySem.W.findIn K (.ref C) "__class__" = some (some (.builtin "object.__class__"))
 fg:PySem.W.specialIn K (.builtin "object.__class__") "__get__" = some (some (.builtin "getset_descriptor.__get__"))
 ft:PySem.W.takesIn K (.builtin "object.__class__")=some true
 ob:PySem.W.mroIn K C (.type "object")=some true
 be:PySem.W.mroIn K C (.type "BaseException")=some true
theorem kB.exc {K:PySem.W.Frag}{C:Addr} (h:kB K C):iU K C:=⟨h.cls,h.ga,h.gt,h.fc,h.fg,h.ft,h.ob,h.be⟩
theorem xB {K:PySem.W.Frag}{h₀:Heap}{mg:Str->Option Value}{x:Str}{C:Addr}{bmB:List Value}{newId:String} (X:K.In h₀) (m:mg x=some (.ref C)) (q:PySem.W.excIn K C bmB newId=true):OwnCls x C bmB newId mg h₀:=by
 refine⟨m,?_⟩
 unfold PySem.W.excIn at q
 split at q
 case h_2=>cases q
 rename_i dd cd sl ho
 split at q
 case h_2=>cases q
 rename_i C' bm k0 k1 k2 k3 n k5 hm hs
 simp only [bg1,beq_iff_eq,Bool.not_eq_true'] at q
 obtain ⟨⟨⟨⟨⟨rfl,rfl⟩,dl⟩,ht⟩,hok⟩,hni⟩:=q
 obtain ⟨nm,bs,mro,ns,qn,hd,sn,sub,ab,col,del⟩:=cd
 dsimp only at hm dl hok hni
 subst hm dl
 obtain rfl:sl = #[k0,k1,k2,k3,some (.builtin n),k5]:=by
  obtain ⟨l⟩:=sl
  exact congrArg Array.mk hs
 exact⟨bm,ns,nm,qn,bs,hd,sn,sub,ab,col,dd,k0,k1,k2,k3,k5,_,X _ _ ho,.of_isNs (PySem.W.isNs_of_in X hok),PySem.W.nsMap_none_of_in X hok hni,PySem.W.tail_of_in X ht⟩
theorem sF {n m:Str}{b:Bool} (h:lC n m=some b):n ∈ mJ/\b=(n == m || m == "HearthError" || m == "ValueError"):=by
 unfold lC at h
 split at h
 ·rename_i z
  exact⟨by simpa using z,by cases h; rfl⟩
 ·cases h
theorem sG {K:PySem.W.Frag}{C D:Addr}{b:Bool} (hd:kB K D) (ne:(C == D)=false) (s:PySem.W.subIn K (.ref C) (.ref D)=some b):PySem.W.kitOne K (.ref C) (.ref D)=some b:=by
 have ne':(Value.ref C == Value.ref D)=false:=by
  rw [bq5] at ne ⊢
  exact fun z=>ne (Value.ref.inj z)
 have c:=hd.cls
 unfold PySem.W.isClsIn at c
 unfold PySem.W.kitOne PySem.W.kitCls
 rw [if_neg (by rw [ne']; decide)]
 dsimp only
 rw [if_pos (by rw [c,hd.ty]; decide)]
 exact s
theorem W5 {K:PySem.W.Frag}{C:Addr}:PySem.W.kitOne K (.ref C) (.ref C)=some true:=by
 unfold PySem.W.kitOne
 rw [if_pos (bl3 _)]
theorem xC {K:PySem.W.Frag}{C:Addr} (s:PySem.W.subIn K (.ref C) (.type "ValueError")=some true):PySem.W.kitOne K (.ref C) (.type "ValueError")=some true:=by
 unfold PySem.W.kitOne PySem.W.kitCls
 rw [if_neg (fun z=>by cases beq_iff_eq.mp z)]
 dsimp only
 rw [if_pos (by decide +kernel)]
 exact s
theorem W6 {K:PySem.W.Frag}{D:Addr} (hd:kB K D) (s:PySem.W.subIn K (.type "NoneType") (.ref D)=some false):PySem.W.kitOne K (.type "NoneType") (.ref D)=some false:=by
 have c:=hd.cls
 unfold PySem.W.isClsIn at c
 unfold PySem.W.kitOne PySem.W.kitCls
 rw [if_neg (fun z=>by cases beq_iff_eq.mp z)]
 dsimp only
 rw [if_pos (by rw [c,hd.ty]; decide)]
 exact s
theorem aO4 {K:PySem.W.Frag}:PySem.W.kitOne K (.type "NoneType") (.type "ValueError")=some false:=by
 have e:(if PySem.W.kitMeta "ValueError" = true then (fastBuiltinMro "NoneType").map (·.contains (Value.type "ValueError")) else none)=some false:=by decide +kernel
 unfold PySem.W.kitOne
 rw [if_neg (by decide)]
 exact e
theorem bH.of {P:Program}{w:World}{K:PySem.W.Frag}{mg:Str->Option Value}{base:Heap}{k:Nat}{x:Str}{ps N:List Str}{p:dG}{st:Stmt}{f:Addr}{fd:FuncData} (F:eR K x x st f fd) (m:mg x=some (.ref f)) (S:FnScope N ps (aX st))
  (hb:∀ (kV doc pm:Value) (an:Option Addr) (cdv ct:Value) (us:List Value),us.length=ps.length->bindArgs (PySem.W.fnOf x x (iK st) (dZ st) (aX st) .none kV doc pm an cdv ct) ⟨us,[]⟩=pure (ps.zip us))
  (t:(Str->Prop)->aK) (len:∀ Ep xs Q,p Ep xs Q->xs.length=ps.length) (rd:∀ Ep xs Q,p Ep xs Q->t Ep { nx:=fun _=>Q .non,rt:=Q } (eW N xs))
  (body:∀ (cdv:Value) (A:Around) (outer:List Env) (s:Shared) (H:Hp) (E:XK) (Ep:Str->Prop),c9 k (A.deeper (envOfC x (aX st) s.heap.objs.size f cdv))->mE (dB (eC P w) P w K mg base N x (aX st) f cdv A outer s H E) (EX K H Ep)->
   eZ (dB (eC P w) P w K mg base N x (aX st) f cdv A outer s H E) (dZ st) (t Ep)):bH P w K mg base (k+1) x ps p:=by
 refine⟨f,fd,F.okX S (fun vs H Q E h=>?_) (fun cdv A outer s H vs Q E hr h=>?_),F.binds hb,F.kp,m⟩
 ·obtain ⟨xs,Qp,Ep,r,q,_⟩:=h
  rw [r.length]; exact len Ep xs Qp q
 ·obtain ⟨xs,Qp,Ep,r,q,k,ke⟩:=h
  have ht:=body cdv A outer s H E Ep hr (aD1 fun c d H' z=>?_)
  ·refine⟨_,ht,fun _=>False,eW N xs,_,rG r,rd Ep xs Qp q,?_,?_,?_,?_⟩
   ·exact fun W' σ' H' ρ' e px q=>k _ _ _ px.same .non q
   ·exact fun v H' x s r q=>k _ _ _ s r q
   ·exact fun W' σ' H' ρ' e px q=>q
   ·exact fun W' σ' H' ρ' e px q=>q
  ·obtain ⟨rfl,s1,n,C,rfl,z1,z2⟩:=z
   exact ke n C H' s1 z1 z2
end PP
namespace Core
open PySem L2 PP
abbrev iF (t:(Str->Prop)->aK) (N:List Str) (p:dG):Prop:=∀ Ep xs Q,p Ep xs Q->t Ep { nx:=fun _=>Q .non,rt:=Q } (eW N xs)
def kC:dG:=fun Ep xs Q=>∃ ws ls x ns,xs = [b8 ws ls,x]/\cY x ns/\ns.length<=1000/\(aY ws.length ns=true->Q (.tup (intz ns)))/\(aY ws.length ns=false->Ep "BadSet")
def W7 (Ep:Str->Prop):aK:=(aH (bQ (eB (aR (aB rN (a6 (a5 0) (a6 (a5 1) a9))))) (lB Ep "BadSet" (a6 (qC (.str "a set is of rising hearths of the web")) a9)) bX)
 (b9 (aB dW (a6 (a5 1) a9))))
theorem aO5:iF W7 ["web","hearths"] kC:=by
 rintro Ep xs Q ⟨ws,ls,x,ns,rfl,hx,hl,q1,q2⟩
 refine⟨_,rfl,_,rfl,ws,ls,x,ns,rfl,hx,hl,_,rfl,?_⟩
 cases h:aY ws.length ns with
 | true=>exact aP ⟨_,rfl,⟨_,_,rfl,hx.seqT,bJ _,trivial,q1 h⟩,hx.noscr⟩
 | false=>exact aZ ⟨by decide,q2 h⟩
theorem xD {n:Nat}{ys:List Int} (h:aY n ys=true->False):aY n ys=false:=by
 cases e:aY n ys with
 | false=>rfl
 | true=>exact (h e).elim
theorem aO6 {n k:Nat}{s:List Int}{x:Int} (hx:x ∈ s):aY n (s.take k ++ [x] ++ s.drop k)=false:=xD fun e=>by
 have p:=fU (dF e).1
 rw [bi9,List.pairwise_append] at p
 rw [<- List.take_append_drop k s] at hx
 rcases bg2.mp hx with h | h
 ·exact absurd (p.2.2 x h x bf5) (Int.lt_irrefl x)
 ·exact absurd (List.rel_of_pairwise_cons p.2.1 h) (Int.lt_irrefl x)
theorem aO7 {n k:Nat}{s:List Int}{x:Int} (hx:x < 0 ∨ (n:Int)<=x):aY n (s.take k ++ [x] ++ s.drop k)=false:=xD fun e=>by
 have:=(dF e).2 x (by simp)
 omega
end Core
namespace PP
open PySem L2
mutual
theorem aG.thaw {K:PySem.W.Frag}{M M':Addr->Prop}{H:Hp}{a:Addr}{o:Obj}{kvs:List (List aC × V)}{u:HO} (h:H a=some (.frz o (.dT kvs))):∀ {v:V}{x:PV},flat x=true->aG K M H v x->aG K M' (upd H a u) v x
 | _,_,_,.non=>.non
 | _,_,_,.bl b=>.bl b
 | _,_,_,.int i=>.int i
 | _,_,_,.str x=>.str x
 | _,_,f,.tup e r=>.tup (by rw [aI (fun z=>by rw [z,h] at e; cases e)]; exact e) (Reps.thaw h (by unfold PP.flat at f; exact f) r)
 | _,_,f,.lst m e r=>by unfold PP.flat at f; cases f
 | _,_,f,.dK m e q r=>by unfold PP.flat at f; cases f
 | _,_,f,.dT m e q r=>by unfold PP.flat at f; cases f
 | _,_,_,.scr e=>.scr (e.elim (fun ⟨o',e'⟩=>.inl ⟨o',by rw [aI (fun z=>by rw [z,h] at e'; cases e')]; exact e'⟩) .inr)
 | _,_,f,.kt e r=>.kt e (Reps.thaw h (by unfold PP.flat at f; exact f) r)
 | _,_,_,.exc e n c=>.exc (by rw [aI (fun z=>by rw [z,h] at e; cases e)]; exact e) n c
theorem Reps.thaw {K:PySem.W.Frag}{M M':Addr->Prop}{H:Hp}{a:Addr}{o:Obj}{kvs:List (List aC × V)}{u:HO} (h:H a=some (.frz o (.dT kvs))):∀ {vs:List V}{xs:List PV},flats xs=true->Reps K M H vs xs->Reps K M' (upd H a u) vs xs
 | _,_,_,.nil=>.nil
 | _,_,f,.cons r t=>by
  unfold PP.flats at f
  rw [bg1] at f
  exact .cons (aG.thaw h f.1 r) (Reps.thaw h f.2 t)
end
theorem Reps.keys {K:PySem.W.Frag}{M:Addr->Prop}{H:Hp}:∀ (k:List aC),Reps K M H (k.map kV) (k.map kP)
 | []=>.nil
 | .inl i :: r=>.cons (.int i) (Reps.keys r)
 | .inr x :: r=>.cons (.str x) (Reps.keys r)
theorem W8 {α β:Type}{F:α->β->Prop}:∀ {l:List α}{m:List β}{i:Nat}{x:α},Paired F l m->l[i]? = some x->∃ y,m[i]? = some y/\F x y
 | _,_,_,_,.nil,e=>by simp at e
 | _,_,0,_,.cons r _,e=>by simp at e; subst e; exact⟨_,rfl,r⟩
 | _,_,i+1,x,.cons _ t,e=>by
  rw [bh4] at e
  obtain ⟨y,h1,h2⟩:=W8 t e
  exact⟨y,by rw [bh4]; exact h1,h2⟩
theorem W9:∀ {xs:List PV}{y:PV},flats xs=true->flat y=true->flats (xs ++ [y])=true
 | [],y,_,f=>by show (flat y && flats [])=true; rw [f]; rfl
 | x :: r,y,h,f=>by
  unfold flats at h
  rw [bg1] at h
  show (flat x && flats (r ++ [y]))=true
  rw [h.1,W9 h.2 f]; rfl
theorem aO8 {K:PySem.W.Frag}{H0:Hp}{W:Addr->Prop}{σ:St}{ρ:bP}{H1 H':Hp}{D a:Addr}{o:Obj}{kvs:List (List aC × V)}{acc:List V}{fr:List (Option Nat)} (px:PX K H0 W σ ρ H1) (ha:H1 a=some (.dT kvs)) (hD:upd H1 a (.frz o (.dT kvs)) D=none) (s:aD (upd H1 a (.frz o (.dT kvs))) H') (hl:H' D=some (.lst acc))
  (fl:∀ m,some m ∈ gE fr ρ->flat m.val=true):PX K (upd H1 a (.frz o (.dT kvs))) (gU D) (e8 fr σ) (gE fr ρ) H':=by
 refine⟨by unfold e8 gE; rw [be5,be5],s,fun b z=>by cases z; exact⟨hD,_,hl,rfl⟩,fun i m h=>?_,fun i j x y b h1=>?_⟩
 ·have fm:=fl m (bh1 h)
  unfold gE at h
  rw [bf4] at h
  cases ef:fr[i]? with
  | none=>rw [ef] at h; cases h
  | some o2=>
   rw [ef] at h
   cases o2 with
   | none=>cases h
   | some j=>
    have h:some ((ρ[j]?).join.map fun m=>Slot.sh false m.val)=some (some m):=h
    cases er:ρ[j]? with
    | none=>rw [er] at h; cases h
    | some o3=>
     rw [er] at h
     cases o3 with
     | none=>cases h
     | some m0=>
      cases h
      obtain ⟨v,ev,r⟩:=px.sl j m0 er
      refine⟨v,?_,?_⟩
      ·unfold e8
       rw [bf4,ef]
       show some ((σ[j]?).join)=_
       rw [ev]; rfl
      ·have r':aG K (fun _=>False) H1 v m0.val:=(qM (Hs:=H1) r).flat fm
       refine r'.keep ⟨fun _ _ z=>z.elim,fun _ _ z=>z.elim,fun _ _ z=>z.elim,fun b _ e=>s _ _ ?_,fun b _ _ e=>s _ _ ?_⟩
       ·rw [aI (fun z=>by rw [z,ha] at e; cases e)]; exact e
       ·rw [aI (fun z=>by rw [z,ha] at e; cases e)]; exact e
 ·unfold gE at h1
  rw [bf4] at h1
  cases ef:fr[i]? with
  | none=>rw [ef] at h1; cases h1
  | some o2=>
   rw [ef] at h1
   cases o2 with
   | none=>cases h1
   | some j=>
    have h1:some ((ρ[j]?).join.map fun m=>Slot.sh false m.val)=some (some (Slot.own x)):=h1
    cases er:ρ[j]? with
    | none=>rw [er] at h1; cases h1
    | some o3=>
     rw [er] at h1
     cases o3 with
     | none=>cases h1
     | some m0=>cases h1
section
variable {X : Cx} {σ : St} {H : Hp} {Q' : VK}
def sH (tl:aE) (fr:List (Option Nat)) (p:iM) (tc:bY) (te:aE):aE:=fun ρ Q=>tl ρ fun x _=>∃ ps:List (List aC × PV),x = .dT ps/\ps.length<=16000000/\(∀ m,some m ∈ gE fr ρ->flat m.val=true)/\∃ I:Nat->List PV->Prop,I 0 []/\
 (∀ i k acc,(ps.map (·.1))[i]? = some k->I i acc->p (.tup (k.map kP)) false (gE fr ρ) fun ρ2=>tc ρ2 fun b=>if b=true then te ρ2 fun y gy=>(Nw gy y/\flat y=true)/\I (i+1) (acc ++ [y]) else I (i+1) acc)/\∀ acc,I ps.length acc->Q (.lst acc) .fr
theorem aO9 {tl:aE}{fr:List (Option Nat)}{p:iM}{g:TG}{tc:bY}{te:aE}{own:Nat->Prop} (hg:m5 X.K own p g) (ho:∀ i,own i->fr[i]? = some none) (h:LE X (sH tl fr p tc te) σ H Q') :
  P7 X (pZ (P6 (LE X tl)) fr (fun _=>g) (fun H1=>LT (X.frm H1) tc) (fun H1=>LE (X.frm H1) te)) σ H Q':=by
 obtain ⟨W,ρ,Q,px,q,k⟩:=h
 refine⟨W,ρ,_,px,q,?_⟩
 rintro v H1 x g0 s r ⟨ps,rfl,hl,fl,I,i0,turn,fin⟩
 cases r with
 | @dT a kvs _ m ha ek rv=>
 refine⟨a,kvs,rfl,ha,fun o ys pk D hD=>?_⟩
 have px1:=px.mono s
 have lk:ys.length=ps.length:=by
  have:=pk.length
  rw [be5] at this
  rw [this]; exact oA ek
 have hDa:D ≠ a:=fun z=>by rw [z,bD] at hD; cases hD
 have hD1:H1 D=none:=by rw [aI hDa] at hD; exact hD
 have nofr:∀ o' v',X.H₀ a ≠ some (.frz o' v'):=fun o' v' e=>by have:=px1.same _ _ e; rw [ha] at this; cases this
 refine⟨fun i m acc H'=>m=ps.length - i/\i<=ps.length/\aD (upd H1 a (.frz o (.dT kvs))) H'/\H' D=some (.lst acc)/\∃ zs,Reps X.K (fun _=>False) H' acc zs/\flats zs=true/\zs.length<=i/\I i zs,⟨ps.length,by omega,bh8 _,bM hD _,bD,[],.nil,rfl,be6 _,i0⟩,?_⟩
 rintro i m acc H' ⟨rfl,hi,sm,hl',zs,rz,fz,hz,iz⟩
 refine⟨hl',?_⟩
 have fro:H' a=some (.frz o (.dT kvs)):=sm _ _ bD
 by_cases hlt:i < ps.length
 ·refine .inr ⟨⟨⟨_,fro⟩,by omega⟩,fun v2 H2 y=>?_⟩
  obtain ⟨rfl,hy⟩:=y
  obtain ⟨key,hk,q2,rfl,hq2⟩:=W8 pk hy
  rw [ek] at hk
  have rx:aG X.K (Ms (upd H1 a (.frz o (.dT kvs))) (gU D) false) H2 (.ref q2) (.tup (key.map kP)):=.tup (sm _ _ (by rw [aI (fun z=>by rw [z,ha] at hq2; cases hq2)]; exact hq2)) (Reps.keys key)
  have pxb:=aO8 (fr:=fr) px1 ha hD sm hl' fl
  refine hg (upd H1 a (.frz o (.dT kvs))) (gU D) _ _ H2 _ _ false _ _ pxb rx (turn i key zs hk iz) fun σ2 ρ2 px2 hown hlen q2=>⟨⟨hlen.symm,fun j w e=>?_⟩,?_⟩
  ·by_cases oj:own j
   ·have:=ho j oj
    unfold e8 at e
    rw [bf4,this] at e
    cases e
   ·rw [hown j oj]; exact e
  ·refine⟨gU D,ρ2,_,px2,q2,fun b H4 s4 q4=>?_⟩
   have hl4:=s4 _ _ hl'
   have sm4:=sm.trans s4
   cases b with
   | false=>exact aP ⟨ps.length - (i+1),by omega,rfl,hlt,sm4,hl4,zs,rz.same s4 fun _ z=>z,fz,by omega,by simpa using q4⟩
   | true=>
    refine aZ ⟨gU D,ρ2,_,px2.mono s4,by simpa using q4,?_⟩
    rintro w H5 y gy s5 ryy ⟨⟨nw,fy⟩,q5⟩
    have hl5:=s5 _ _ hl4
    have lr:=rz.length
    refine⟨hl5,i7 (by omega),ps.length - (i+1),by omega,rfl,hlt,fun b o' e=>?_,bD,zs ++ [y],?_,W9 fz fy,by rw [be2,bi8]; omega,q5⟩
    ·rw [aI (fun z=>by rw [z,hD] at e; cases e)]
     exact s5 _ _ (sm4 _ _ e)
    ·exact ((rz.same (s4.trans s5) fun _ z=>z).append (.cons (ryy.flat fy) .nil)).keep (.upd hl5 rfl fun b z=>z.elim)
 ·obtain rfl:i=ps.length:=by omega
  refine .inl ⟨⟨⟨_,fro⟩,lk.symm⟩,a,o,.dT kvs,fro,nofr,k _ _ _ .fr (fun b x e=>?_) (.lst (s.free hD1) (by rw [aI hDa]; exact hl') (Reps.thaw fro fz rz)) (fin zs iz)⟩
  have e1:=s _ _ e
  by_cases hb:b=a
  ·subst hb
   rw [ha] at e1; cases e1
   exact bD
  ·rw [aI hb]
   exact sm _ _ (by rw [aI hb]; exact e1)
end
section
variable {X : Cx} {scope : Scope} {N : List Str} {fr : List (Option Nat)} {x : Str} {tp pos : Pos} {iter elt c : Expr} {tl te : aE} {tcs : bY}
theorem aP0 (hi:QE X iter tl) (ht:∀ (s:Shared) (H:Hp) (C:Addr) (fp:List Addr),QT (bL X scope N s H C fp bV) c tcs) (he:∀ (s:Shared) (H:Hp) (C:Addr) (fp:List Addr),QE (bL X scope N s H C fp bV) elt te)
  (hc:X.calm=true:=by rfl) (S:cK X scope N fr:=by exact cK.of rfl rfl) (hN:N.Nodup:=by decide +kernel) (h0:N[0]? = some x:=by rfl) (hl:∀ (s:Shared) (H:Hp) (C:Addr) (fp:List Addr),(bL X scope N s H C fp bV).env.scope.names.lookup x=some .local:=by intro _ _ _ _; rfl) (hf:fr[0]? = some none:=by rfl)
  (hs:∀ x,foldedSetIterable iter X.env x=pure x:=by intro _; rfl):QE X (.ListComp elt [⟨.Name x tp,iter,[c],0⟩] scope pos) (sH tl fr (bO 0) tcs te):=
 c7 (aE9 (qA (gh:=fun _=>cG 0) (tch:=fun H=>LT (X.frm H) tcs) (teh:=fun H=>LE (X.frm H) te) hc S (aE8 hi) (oI he (fun s H C fp=>pW (ht s H C fp)) hN h0 hl) hs)) fun _ _ _=>aO9 (kT _ 0) (fun i e=>by subst e; exact hf)
end
theorem oX {us:List Value} (h:us.length=1):∃ a,us = [a]:=List.length_eq_one_iff.mp h
theorem xE {us:List Value} (h:us.length=2):∃ a b,us = [a,b]:=by
 cases us with
 | nil=>cases h
 | cons a r=>
  obtain ⟨b,rfl⟩:=oX (us:=r) (by simpa using h)
  exact⟨a,b,rfl⟩
theorem sI {us:List Value} (h:us.length=3):∃ a b c,us = [a,b,c]:=by
 cases us with
 | nil=>cases h
 | cons a r=>
  obtain ⟨b,c,rfl⟩:=xE (us:=r) (by simpa using h)
  exact⟨a,b,c,rfl⟩
theorem xF {us:List Value} (h:us.length=4):∃ a b c d,us = [a,b,c,d]:=by
 cases us with
 | nil=>cases h
 | cons a r=>
  obtain ⟨b,c,d,rfl⟩:=sI (us:=r) (by simpa using h)
  exact⟨a,b,c,d,rfl⟩
theorem X0 {us:List Value} (h:us.length=5):∃ a b c d e,us = [a,b,c,d,e]:=by
 cases us with
 | nil=>cases h
 | cons a r=>
  obtain ⟨b,c,d,e,rfl⟩:=xF (us:=r) (by simpa using h)
  exact⟨a,b,c,d,e,rfl⟩
section
variable {K : PySem.W.Frag} {H0 : Hp} {W W' : Addr → Prop} {σ : St} {ρ : bP} {H Hs : Hp}
theorem PX.grow {nw:Addr->Prop} (p:PX K H0 W σ ρ Hs) (s:aD Hs H) (h:∀ b,nw b->Hs b=none/\∃ o,H b=some o/\gQ o=true):PX K H0 (fun b=>W b ∨ nw b) σ ρ H:=by
 have off:∀ b o,Hs b=some o->¬ nw b:=fun b o e z=>by rw [(h b z).1] at e; cases e
 have kp:∀ g,i8 (Ms H0 W g) (Ms H0 (fun b=>W b ∨ nw b) g) Hs H:=fun g=>by
  have m:∀ b o,Ms H0 W g b->Hs b=some o->Ms H0 (fun b=>W b ∨ nw b) g b:=fun b o z e=>by
   cases g with
   | true=>exact⟨fun y=>y.elim z.1 (off b o e),z.2⟩
   | false=>exact fun y=>y.elim z (off b o e)
  exact⟨fun b _ z e=>⟨m b _ z e,s _ _ e⟩,fun b _ z e=>⟨m b _ z e,s _ _ e⟩,fun b _ z e=>⟨m b _ z e,s _ _ e⟩,fun _ _ e=>s _ _ e,fun _ _ _ e=>s _ _ e⟩
 refine⟨p.len,p.same.trans s,fun b z=>?_,fun j m e=>?_,p.dis⟩
 ·rcases z with z | z
  ·obtain ⟨h1,o,h2,h3⟩:=p.wm b z
   exact⟨h1,o,s _ _ h2,h3⟩
  ·exact⟨p.same.free (h b z).1,(h b z).2⟩
 ·obtain ⟨u,e1,q⟩:=p.sl j m e
  refine⟨u,e1,?_⟩
  cases m with
  | sh g y=>exact aG.keep (kp g) q
  | own y=>
   obtain ⟨b,e2,e3,q⟩:=q
   exact⟨b,e2,.inl e3,q.keep (kp true) fun o z=>s _ _ z⟩
theorem PX.name {i:Nat}{a:Addr}{x:PV} (p:PX K H0 W σ ρ H) (wa:W a) (r:gR K (Ms H0 W true) H a x) (free:∀ j y,ρ[j]? = some (some (.own y))->j ≠ i->σ[j]? ≠ some (some (.ref a))):PX K H0 W (σ.set i (some (.ref a))) (ρ.set i (some (.own x))) H:=by
 refine⟨by rw [bi5,bi5]; exact p.len,p.same,p.wm,fun j m h=>?_,fun j k y z b h1 h2 h3 h4=>?_⟩
 ·rcases dM h with ⟨rfl,hl,e⟩ | ⟨hne,h⟩
  ·cases e
   rw [p.len] at hl
   exact⟨_,bh9 hl,a,rfl,wa,r⟩
  ·obtain ⟨u,e,q⟩:=p.sl j m h
   exact⟨u,by rw [bg3 (Ne.symm hne)]; exact e,q⟩
 ·rcases dM h1 with ⟨e1,l1,_⟩ | ⟨n1,h1⟩
  ·rcases dM h2 with ⟨e2,_,_⟩ | ⟨n2,h2⟩
   ·rw [e1,e2]
   ·rw [e1,bh9 (by rw [<- p.len]; exact l1)] at h3
    rw [bg3 (Ne.symm n2)] at h4
    cases h3
    exact absurd h4 (free k z h2 n2)
  ·rw [bg3 (Ne.symm n1)] at h3
   rcases dM h2 with ⟨e2,l2,_⟩ | ⟨n2,h2⟩
   ·rw [e2,bh9 (by rw [<- p.len]; exact l2)] at h4
    cases h4
    exact absurd h3 (free j y h1 n1)
   ·rw [bg3 (Ne.symm n2)] at h4
    exact p.dis j k y z b h1 h2 h3 h4
end
section
variable {X : Cx} {e : Expr} {te : aE} {D : bS} {σ : St} {H : Hp} {pos : Pos}
def xG (i j:Nat) (te:aE):aK:=fun D ρ=>te ρ fun x g=>∃ xs ps,i ≠ j/\g = .fr/\x = .tup [.lst xs,.dT ps]/\flats xs=true/\flats (ps.map (·.2))=true/\D.nx ((ρ.set i (some (.own (.lst xs)))).set j (some (.own (.dT ps))))
theorem aP1 {i j:Nat} (h:LS X (xG i j te) D σ H):jT (LE X te) (jS X.K 2 (fD (cG i) (fD (cG j) jR))) D σ H:=by
 obtain ⟨W,ρ,D',px,q,k⟩:=h
 refine⟨W,ρ,_,px,q,?_⟩
 rintro v H1 x g s r ⟨xs,ps,hij,rfl,rfl,f1,f2,q⟩
 obtain ⟨t,us,rfl,ht,r2⟩:=r.sqT
 obtain ⟨u1,u2,rfl,ra,rb⟩:=r2.two
 cases ra with
 | @lst a ws _ ma ea rxs=>
 cases rb with
 | @dT b kvs _ mb eb ek rvs=>
 have hab:a ≠ b:=fun z=>by rw [z,eb] at ea; cases ea
 have p1:=px.grow (nw:=fun c=>c=a ∨ c=b) s (fun c z=>by
  rcases z with rfl | rfl
  ·exact⟨ma,_,ea,rfl⟩
  ·exact⟨mb,_,eb,rfl⟩)
 have off:∀ (l:Nat) (y:PV) (c:Addr),H c=none->ρ[l]? = some (some (.own y))->σ[l]? ≠ some (some (.ref c)):=fun l y c hc h1 h2=>by
  obtain ⟨u,e1,c',e2,e3,_⟩:=px.sl l _ h1
  rw [h2] at e1
  cases e1
  cases e2
  exact (px.new hc).1 e3
 have p2:=p1.name (i:=i) (a:=a) (x:=.lst xs) (.inr (.inl rfl)) ⟨ws,ea,rxs.flat f1⟩ fun l y h1 _=>off l y a ma h1
 have p3:=p2.name (i:=j) (a:=b) (x:=.dT ps) (.inr (.inr rfl)) ⟨kvs,eb,ek,rvs.flat f2⟩ fun l y h1 hlj h2=>by
  rcases dM h1 with ⟨e1,l1,_⟩ | ⟨n1,h1⟩
  ·rw [e1,bh9 (by rw [<- px.len]; exact l1)] at h2
   cases h2
   exact hab rfl
  ·rw [bg3 (Ne.symm n1)] at h2
   exact off l y b mb h1 h2
 refine⟨t,_,rfl,aO.of ht,rfl,_,_,rfl,_,_,rfl,rfl,?_⟩
 exact k.nx _ _ H1 _ (fun c o hc nc=>⟨s _ _ hc,fun z=>z.elim nc fun z=>by
  rcases z with rfl | rfl
  ·rw [show H c=none from ma] at hc; cases hc
  ·rw [show H c=none from mb] at hc; cases hc⟩) p3 q
theorem aP2 (i j:Nat) {x y:Str}{tp xp yp:Pos}{kt:Nat} (hN:X.N.Nodup) (he:QE X e te) (hx:X.N[i]? = some x:=by rfl) (hy:X.N[j]? = some y:=by rfl) (hlx:hV X.env.scope x:=by first | exact Or.inl rfl | exact Or.inr rfl) (hly:hV X.env.scope y:=by first | exact Or.inl rfl | exact Or.inr rfl)
  (hfx:X.fn x=true ∨ X.env.scope.names.lookup x=some .local:=by first | exact .inl rfl | exact .inr rfl) (hfy:X.fn y=true ∨ X.env.scope.names.lookup y=some .local:=by first | exact .inl rfl | exact .inr rfl) (hc:X.calm=true:=by rfl)
  (hs:swapsWithSole [.Tuple [.Name x xp,.Name y yp] kt tp] e pos.line X.env=pure false:=by rfl) (hw:swappedStores [.Tuple [.Name x xp,.Name y yp] kt tp] e X.env=pure none:=by rfl):QS X (.Assign [.Tuple [.Name x xp,.Name y yp] kt tp] e pos) (xG i j te):=by
 have g:PG X (.Tuple [.Name x xp,.Name y yp] kt tp) (jS X.K 2 (fD (cG i) (fD (cG j) jR))):=lM hc (gK (eQ hN hx hlx hfx) (gK (eQ hN hy hly hfy) lK))
 exact dC (yI he g hs hw) fun _ _ _=>aP1
end
section
variable {X : Cx} {e : Expr} {tk : aE} {D : bS} {σ : St} {H : Hp} {pos : Pos}
def xH (i:Nat) (tk:aE):aK:=fun D ρ=>∃ ps,ρ[i]? = some (some (.own (.dT ps)))/\tk ρ fun y _=>∃ k,y = .tup (k.map kP)/\(∃ j:Nat,(ps.map (·.1))[j]? = some k)/\∀ j:Nat,(ps.map (·.1))[j]? = some k->D.nx (ρ.set i (some (.own (.dT (ps.eraseIdx j)))))
theorem aP3 {i:Nat} (h:LS X (xH i tk) D σ H):kH (Q2 (eO i) (LE X tk)) D σ H:=by
 obtain ⟨W,ρ,D',px,⟨ps,hi,q⟩,k⟩:=h
 obtain ⟨v,ev,a,rfl,wa,kvs,ea,e1,r⟩:=px.sl i _ hi
 refine⟨_,ev,a,rfl,.inr ⟨kvs,.inl ea⟩,W,ρ,_,px,q,?_⟩
 rintro kv H2 y g s ry ⟨kk,rfl,is,q⟩
 obtain ⟨b,us,rfl,hb,rb⟩:=ry.sqT
 obtain rfl:=qZ rb
 have ea2:=s _ _ ea
 refine⟨kvs,kk,b,ea2,rfl,hb,by rw [e1]; exact is,fun j v hj=>?_⟩
 rw [e1] at hj
 refine k.nx W σ _ _ ((Ev.same s).trans (Ev.upd wa)) ((px.mono s).updT hi ev wa ⟨?_,?_⟩) (q j hj)
 ·rw [Raw.kY,Raw.kY,e1]
 ·rw [Raw.kY,Raw.kY]
  exact ((r.same s fun _ z=>z).eraseIdx j).keep (.upd ea2 rfl fun b m=>⟨iL wa m,m⟩)
theorem aP4 (i:Nat) {x:Str}{apos cpos xpos:Pos} (hu:X.A.units+1 < cLine) (he:QE X e tk) (hm:M1 X (.Name x xpos) "pop" apos e cpos:=by exact⟨rfl,rfl,rfl,rfl⟩) (hN:X.N[i]? = some x:=by rfl) (hv:eN X.env.scope x:=by first | exact Or.inl rfl | exact Or.inr (Or.inl rfl) | exact Or.inr (Or.inr rfl)) (hd:(x == ("__debug__" : Str))=false:=by decide) (hcd:(x == ("__classdict__" : Str))=false:=by decide)
  (hsw:swapsWith (.Call (.Attribute (.Name x xpos) "pop" apos) [e] [] cpos) none pos.line X.env=pure false:=by rfl):QS X (.Expr (.Call (.Attribute (.Name x xpos) "pop" apos) [e] [] cpos) pos) (xH i tk):=
 dC (jQ (aF3 hu (fW hN hv hd hcd) he hm) hsw) fun _ _ _=>aP3
end
def spS (K:PySem.W.Frag) (p:bK):Sp:=fun vs H Q _=>∃ xs Qp,Reps K (fun _=>True) H vs xs/\p xs Qp/\∀ v H' x,aD H H'->aG K (fun _=>True) H' v x->Qp x->Q v H'
structure mL (P:Program) (w:World) (K:PySem.W.Frag) (mg:Str->Option Value) (base:Heap) (k:Nat) (x:Str) (ps:List Str) (p:bK):Prop where
 ex:∃ f fd,cV P w K mg base dL k f fd ps (spS K p)/\i3 K fd ps []/\PySem.W.keepIn K (.ref f)=true/\mg x=some (.ref f)
def mM (X:Cx) (last:TS):List aK->TS
 | []=>last
 | t :: r=>tG (LS X t) (mM X last r)
def oY (i:Nat) (rs:PV->Prop):List aK->aK
 | []=>fun _ ρ=>∃ m,ρ[i]? = some (some m)/\rs m.val
 | t :: r=>fun D ρ=>t { D with nx:=oY i rs r D } ρ
section
variable {X : Cx} {i : Nat}
theorem X1 {rs:PV->Prop}{D':jE}{D:bS} (hrs:∀ v H' x,aD X.H₀ H'->aG X.K (fun _=>True) H' v x->rs x->D.rt v H'):∀ (ts:List aK) {W:Addr->Prop}{ρ:bP}{H:Hp}{σ:St},PX X.K X.H₀ W σ ρ H->oY i rs ts D' ρ->lU X W H D' D->mM X (lI (eO i)) ts D σ H
 | [],W,ρ,H,σ,px,q,k=>by
  obtain ⟨m,e,q⟩:=q
  obtain ⟨v,ev,r⟩:=px.sl i m e
  exact⟨v,ev,hrs v H m.val px.same ((qM (Hs:=H) r).same (aD.refl _) fun _ _=>trivial) q⟩
 | t :: r,W,ρ,H,σ,px,q,k=>⟨W,ρ,{ D' with nx:=oY i rs r D' },px,q,⟨fun W' σ' H' ρ' e px' q'=>X1 hrs r px' q' (k.step e),k.rt,k.bk,k.ct⟩⟩
theorem aP5 (i:Nat) {x:Str}{p2 pos:Pos} (hN:X.N[i]? = some x:=by rfl) (hv:eN X.env.scope x:=by first | exact Or.inl rfl | exact Or.inr (Or.inl rfl) | exact Or.inr (Or.inr rfl)) (hd:(x == ("__debug__" : Str))=false:=by decide) (hcd:(x == ("__classdict__" : Str))=false:=by decide) :
  dA X [.Return (some (.Name x p2)) pos] (mM X (lI (eO i)) []):=lH (lJ (fW hN hv hd hcd))
theorem sJ {st:Stmt}{sts:List Stmt}{t:aK}{ts:List aK}{last:TS} (h1:QS X st t) (h2:dA X sts (mM X last ts)):dA X (st :: sts) (mM X last (t :: ts)):=nC h1 h2
variable {tr : cN} {e : Expr} {es : List Expr} {pos p2 : Pos}
def xI (p:bK) (t:cN):aE:=fun ρ Q=>t ρ fun xs=>p (xs.map (·.1)) fun z=>Q z .rd
theorem aP6 {k j:Nat}{x:Str}{ps:List Str}{p:bK} (d:mL X.prog X.w X.K X.mg X.base k x ps p) (hr:c9 j X.A) (ha:QA X (e :: es) tr) (hkj:k<=j:=by decide) (hg:Gl X x:=by rfl) (hdb:(x == ("__debug__" : Str))=false:=by decide)
  (he:starEach (e :: es) X.env=(false,eval e X.env) :: starEach es X.env:=by rfl) (hpl:(backTo pos (starEach es X.env)).any (·.1)=false:=by rfl):QE X (.Call (.Name x p2) (e :: es) [] pos) (xI p tr):=by
 obtain ⟨f,fd,F,b,kp,m⟩:=d.ex
 refine c7 (pJ F (hr.mono hkj) hg m kp b .nil C2 ha hdb he hpl) fun σ H Q' h=>?_
 obtain ⟨W,ρ,Q,px,q,k⟩:=h
 exact⟨W,ρ,_,px,q,fun vs H1 xs s1 r1 q1=>⟨_,_,by rw [bf9]; exact r1.any,q1,fun v H' x s2 r2 q2=>k v H' x .rd (s1.trans s2) (r2.same (aD.refl _) fun _ _=>trivial) q2⟩⟩
end
theorem mL.of {P:Program}{w:World}{K:PySem.W.Frag}{mg:Str->Option Value}{base:Heap}{k:Nat}{x:Str}{ps N:List Str}{p:bK}{st:Stmt}{f:Addr}{fd:FuncData} (F:eR K x x st f fd) (m:mg x=some (.ref f)) (S:FnScope N ps (aX st))
  (hb:∀ (kV doc pm:Value) (an:Option Addr) (cdv ct:Value) (us:List Value),us.length=ps.length->bindArgs (PySem.W.fnOf x x (iK st) (dZ st) (aX st) .none kV doc pm an cdv ct) ⟨us,[]⟩=pure (ps.zip us))
  (len:∀ xs Q,p xs Q->xs.length=ps.length) (i:Nat) (ts:List aK) (rd:∀ xs Q,p xs Q->oY i Q ts { nx:=fun _=>Q .non,rt:=Q } (eW N xs))
  (body:∀ (cdv:Value) (A:Around) (outer:List Env) (s:Shared) (H:Hp) (E:XK),c9 k (A.deeper (PyProof.Rows.envOfC x (aX st) s.heap.objs.size f cdv))->
   dA (dB dL P w K mg base N x (aX st) f cdv A outer s H E).nox (dZ st) (mM (dB dL P w K mg base N x (aX st) f cdv A outer s H E).nox (lI (eO i)) ts)):mL P w K mg base (k+1) x ps p:=by
 refine⟨f,fd,F.ok S (fun vs H Q E h=>?_) (fun cdv A outer s H vs Q E hr h=>?_),F.binds hb,F.kp,m⟩
 ·obtain ⟨xs,Qp,r,q,_⟩:=h
  rw [r.length]; exact len xs Qp q
 ·obtain ⟨xs,Qp,r,q,k⟩:=h
  refine⟨_,body cdv A outer s H E hr,X1 (rs:=Qp) (fun v H' x s' r' q'=>k v H' x s' r' q') ts (rG r) (rd xs Qp q) ⟨?_,?_,?_,?_⟩⟩
  ·exact fun W' σ' H' ρ' e px q=>k _ _ _ px.same .non q
  ·exact fun v H' x s' r' q'=>k _ _ _ s' (r'.same (aD.refl _) fun _ _=>trivial) q'
  ·exact fun W' σ' H' ρ' e px q=>q
  ·exact fun W' σ' H' ρ' e px q=>q
end PP
namespace Core
open PySem L2 PP
def kD:bK:=fun xs Q=>∃ c k:Int,xs = [.int c,.int k]/\0<=k/\k<=1000/\∀ z:Int,0<=z->Q (.int z)
def X2:aK:=(aH (bG 2 (cH (vU (fI (fI (cH (a5 0) (qC (.int 1000000007))) (vU (a5 1) (a5 1))) (qC (.int 1))) (qC (.int 48271))) (qC (.int 2147483647))))
 (b9 (eY (cH (vU (a5 2) (a5 2)) (qC (.int 2147483647))) (qC (.int 8)))))
theorem aP7:cI X2 ["cell","k","turn"] kD:=by
 rintro xs Q ⟨c,k,rfl,k0,k1,q⟩
 refine⟨_,rfl,_,_,rfl,rfl,(by show (0:Int) < 1000000007; decide),_,rfl,_,rfl,_,_,rfl,rfl,.inl ⟨by show -(2 ^ 64) < k; omega,by show k < 2 ^ 64; omega⟩,_,_,rfl,rfl,_,_,rfl,rfl,_,_,rfl,rfl,.inr ⟨by decide,by decide⟩,_,_,rfl,rfl,(by show (0:Int) < 2147483647; decide),trivial,?_⟩
 dsimp only
 have t0:0<=(c % 1000000007+k * k+1) * 48271 % 2147483647:=bl2 _ (by decide)
 have t1:(c % 1000000007+k * k+1) * 48271 % 2147483647 < 2147483647:=bn5 _ (by decide)
 generalize (c % 1000000007+k * k+1) * 48271 % 2147483647=t at t0 t1
 refine⟨_,rfl,_,rfl,_,_,rfl,rfl,.inl ⟨by show -(2 ^ 64) < t; omega,by show t < 2 ^ 64; omega⟩,_,_,rfl,rfl,(by show (0:Int) < 2147483647; decide),_,_,rfl,rfl,⟨by decide,by decide⟩,trivial,q _ ?_⟩
 have:=bl2 (t * t) (show (2147483647:Int) ≠ 0 by decide)
 omega
def NN (zs:List Int):Prop:=∀ z ∈ zs,(0:Int)<=z
def mO:bK:=fun xs Q=>∃ (w:Int) (ws ds:List Int),xs = [.int w,.lst (intz ws),.lst (intz ds)]/\ws.length<=1000/\ds.length=ws.length/\NN ws/\NN ds/\∀ zs,zs.length=ws.length->NN zs->Q (.lst (intz zs))
def X3:List aK:=[(bQ (aR (fR (a5 0) (qC (.int 1)))) (b9 (cL (dN (a5 1)) [none] (bO 0) fH (qC (.int 2)))) bX),
 (bQ (aR (fR (a5 0) (qC (.int 2)))) (b9 (aB gC (a6 (a5 2) a9))) bX),
 (bQ (aR (fR (a5 0) (qC (.int 3)))) (b9 (cL (dN (a5 2)) [none] (bO 0) fH (aB kR (a6 (qC (.int 0)) (a6 (kU (a5 0) (qC (.int 1))) a9))))) bX),
 (bQ (aR (fR (a5 0) (qC (.int 4)))) (b9 (cL (dN (a5 2)) [none] (bO 0) fH (eY (fI (a5 0) (qC (.int 1))) (qC (.int 2))))) bX)]
theorem NN.app {zs:List Int}{z:Int} (h:NN zs) (hz:0<=z):NN (zs ++ [z]):=fun y hy=>by
 rcases bg2.mp hy with hy | hy
 ·exact h y hy
 ·rw [bf3.mp hy]; exact hz
theorem aP8:∀ xs Q,mO xs Q->oY 1 Q X3 { nx:=fun _=>Q .non,rt:=Q } (eW ["way","wants","degrees"] xs):=by
 rintro xs Q ⟨w,ws,ds,rfl,hl,hd,nw,nd,q⟩
 have inv:∀ {i:Nat}{acc:List PV}{z:Int},(∃ zs,acc=intz zs/\zs.length=i/\NN zs)->0<=z->∃ zs,acc ++ [PV.int z]=intz zs/\zs.length=i+1/\NN zs:=fun {i acc z} h hz=>by
  obtain ⟨zs,rfl,h1,h2⟩:=h
  exact⟨zs ++ [z],by rw [cR]; rfl,by rw [be2,h1]; rfl,h2.app hz⟩
 refine⟨_,rfl,.inl ⟨_,_,rfl,rfl,_,rfl,?_⟩⟩
 cases h1:(if false=true then !decide (w=1) else decide (w=1)) with
 | true=>
  refine aZ ⟨_,rfl,_,rfl,(fun z=>by cases z),by rw [aW]; omega,fun i acc=>∃ zs,acc=intz zs/\zs.length=i/\NN zs,⟨[],rfl,rfl,fun _ h=>nomatch h⟩,?_,?_⟩
  ·rintro i y acc hy h
   obtain ⟨n,rfl,hn⟩:=fB hy
   exact⟨trivial,inv h (by decide)⟩
  ·rintro acc ⟨zs,rfl,h2,h3⟩
   exact⟨trivial,q zs (by rw [h2,aW]) h3⟩
 | false=>
 refine aP ⟨_,rfl,.inl ⟨_,_,rfl,rfl,_,rfl,?_⟩⟩
 cases h2:(if false=true then !decide (w=2) else decide (w=2)) with
 | true=>exact aZ ⟨_,rfl,_,_,rfl,rfl,bJ _,trivial,q ds hd nd⟩
 | false=>
 refine aP ⟨_,rfl,.inl ⟨_,_,rfl,rfl,_,rfl,?_⟩⟩
 cases h3:(if false=true then !decide (w=3) else decide (w=3)) with
 | true=>
  refine aZ ⟨_,rfl,_,rfl,(fun z=>by cases z),by rw [aW]; omega,fun i acc=>∃ zs,acc=intz zs/\zs.length=i/\NN zs,⟨[],rfl,rfl,fun _ h=>nomatch h⟩,?_,?_⟩
  ·rintro i y acc hy h
   obtain ⟨n,rfl,hn⟩:=fB hy
   exact⟨_,rfl,_,_,rfl,rfl,_,_,rfl,trivial,inv h (by split <;> omega)⟩
  ·rintro acc ⟨zs,rfl,h2,h3⟩
   exact⟨trivial,q zs (by rw [h2,aW,hd]) h3⟩
 | false=>
 refine aP ⟨_,rfl,.inl ⟨_,_,rfl,rfl,_,rfl,?_⟩⟩
 cases h4:(if false=true then !decide (w=4) else decide (w=4)) with
 | true=>
  refine aZ ⟨_,rfl,_,rfl,(fun z=>by cases z),by rw [aW]; omega,fun i acc=>∃ zs,acc=intz zs/\zs.length=i/\NN zs,⟨[],rfl,rfl,fun _ h=>nomatch h⟩,?_,?_⟩
  ·rintro i y acc hy h
   obtain ⟨n,rfl,hn⟩:=fB hy
   have n0:0<=n:=nd n (bh1 hn)
   exact⟨_,rfl,_,_,rfl,rfl,_,_,rfl,rfl,⟨by decide,by decide⟩,trivial,inv h (by omega)⟩
  ·rintro acc ⟨zs,rfl,h2,h3⟩
   exact⟨trivial,q zs (by rw [h2,aW,hd]) h3⟩
 | false=>exact aP ⟨_,rfl,q ws rfl nw⟩
abbrev DK (n:Int) (ps:List (List aC × PV)):Prop:=DL n ps ps.length
theorem DL.dk {n:Int}{ps:List (List aC × PV)}{i:Nat} (h:DL n ps i):DK n ps:=⟨h.key,be6 _,h.fl,h.nd⟩
theorem DK.nil (n:Int):DK n []:=⟨(fun _ h=>nomatch h),be6 _,rfl,.nil⟩
theorem xJ:∀ (m:Nat) (l:List Nat),l.Nodup->(∀ x ∈ l,x < m)->l.length<=m
 | 0,[],_,_=>be6 _
 | 0,x :: _,_,h=>absurd (h x bf5) (Nat.not_lt_zero _)
 | m+1,l,nd,h=>by
  by_cases hm:m ∈ l
  ·have h1:=xJ m (l.erase m) (nd.erase m) fun x hx=>by
    obtain ⟨h2,h3⟩:=(nd.mem_erase_iff).mp hx
    have:=h x h3
    omega
   rw [List.length_erase_of_mem hm] at h1
   omega
  ·have h1:=xJ m l nd fun x hx=>by
    have:=h x hx
    have:x ≠ m:=fun z=>hm (z ▸ hx)
    omega
   omega
theorem DK.few {n:Int}{ps:List (List aC × PV)} (h:DK n ps) (hn:n<=8):ps.length < 64:=by
 obtain ⟨ls,_,e2,e3,e4⟩:=DL.links h.key
 have nd:ls.Nodup:=by
  have:=h.nd
  rw [e4] at this
  exact (bn0.mp this).imp fun h e=>h (congrArg fV e)
 have:=xJ 56 (ls.map fun l=>(l.1 * 8+l.2).toNat) (by
  refine bn0.mpr (nd.imp_of_mem fun {a b} ha hb hab e=>hab ?_)
  have:=e2 a ha
  have:=e2 b hb
  exact Prod.ext (by omega) (by omega)) fun x hx=>by
   obtain ⟨l,hl,rfl⟩:=bi7.mp hx
   have:=e2 l hl
   omega
 rw [be5,e3] at this
 omega
def sK:bK:=fun xs Q=>∃ c n:Int,xs = [.int c,.int n]/\0<=n/\n<=40/\∀ ws ps,(ws.length:Int)=n->NN ws->DK n ps->Q (.tup [.lst (intz ws),.dT ps])
def X4:aK:=(aH (dQ 2 (eG a9))
 (aH (dQ 3 (qC (.dT [])))
 (aH (eI (gD (a5 1)) (bO 4)
  (aH (jY 2 (cH (a5 0) (qC (.int 7))))
  (bG 0 (eY (a5 0) (qC (.int 7))))))
 (aH (eI (gD (a5 1)) (bO 5)
  (eI (qX (fI (a5 5) (qC (.int 1))) (a5 1)) (bO 6)
   (aH (bQ (aR (fR (cH (a5 0) (qC (.int 2))) (qC (.int 1)))) (oC 3 (eS (a6 (a5 5) (a6 (a5 6) a9))) (qC (.bl true))) bX)
   (bG 0 (eY (a5 0) (qC (.int 2)))))))
 (qS 2 (qS 3 (b9 (v9 (a6 (a5 2) (a6 (a5 3) a9))))))))))
theorem aP9:cI X4 ["cell","many","wants","links","hearth","one","other"] sK:=by
 rintro xs Q ⟨c,n,rfl,n0,n1,q⟩
 refine⟨by decide,rfl,rfl,rfl,rfl,rfl,?_⟩
 refine⟨_,rfl,n,rfl,by omega,by omega,fun i ρ=>∃ (c:Int) (y:Option Slot) (ws:List Int),ρ = [si c,si n,some (.own (.lst (intz ws))),some (.own (.dT [])),y,none,none]/\ws.length=i/\NN ws,⟨c,none,[],rfl,rfl,fun _ h=>nomatch h⟩,?_,?_⟩
 ·rintro i y ρ hy ⟨c,y0,ws,rfl,hl,hp⟩
  obtain ⟨rfl,hi⟩:=gZ hy
  refine lA ?_
  refine⟨_,rfl,_,rfl,_,_,rfl,rfl,(by show (0:Int) < 7; decide),trivial,by rw [aW]; omega,?_⟩
  refine⟨_,rfl,_,_,rfl,rfl,⟨by decide,by decide⟩,trivial,c / 7,si (0+(i:Int)),ws ++ [c % 7],?_,by rw [be2,hl]; rfl,hp.app (bl2 _ (by decide))⟩
  rw [cR]; rfl
 rintro ρ ⟨c,y0,ws,rfl,hl,hp⟩
 rw [dO] at hl
 have wl:(ws.length:Int)=n:=by omega
 refine⟨_,rfl,n,rfl,by omega,by omega,fun i ρ=>∃ (c:Int) (y z:Option Slot) (ps:List (List aC × PV)),ρ = [si c,si n,some (.own (.lst (intz ws))),some (.own (.dT ps)),y0,y,z]/\DL n ps (i * 40),⟨c,none,none,[],rfl,⟨(fun _ h=>nomatch h),bh8 _,rfl,.nil⟩⟩,?_,?_⟩
 ·rintro i y ρ hy ⟨c,y1,z1,ps,rfl,dl⟩
  obtain ⟨rfl,hi⟩:=gZ hy
  refine lA ?_
  refine⟨_,rfl,_,_,rfl,rfl,_,rfl,_,n,rfl,rfl,⟨by omega,by omega,by omega,by omega⟩,fun j ρ=>∃ (c:Int) (z:Option Slot) (ps:List (List aC × PV)),ρ = [si c,si n,some (.own (.lst (intz ws))),some (.own (.dT ps)),y0,si (0+(i:Int)),z]/\DL n ps (i * 40+j),⟨c,z1,ps,rfl,dl⟩,?_,?_⟩
  ·rintro j y ρ hy ⟨c,z2,ps,rfl,dl⟩
   obtain ⟨rfl,hj⟩:=gZ hy
   refine lA ?_
   have dl1:DL n ps (i * 40+(j+1)):=⟨dl.key,by have:=dl.len; omega,dl.fl,dl.nd⟩
   refine⟨_,rfl,_,_,rfl,rfl,(by show (0:Int) < 2; decide),.inl ⟨_,_,rfl,rfl,_,rfl,?_⟩⟩
   cases h:(if false=true then !decide (c % 2=1) else decide (c % 2=1)) with
   | true=>
    refine aZ ⟨_,rfl,_,rfl,_,rfl,by show 2<=1000; decide,rfl,fV (0+(i:Int),0+(i:Int)+1+(j:Int)),rfl,trivial,by have:=dl.len; omega,?_⟩
    refine⟨_,rfl,_,_,rfl,rfl,⟨by decide,by decide⟩,trivial,c / 2,si (0+(i:Int)+1+(j:Int)),_,rfl,?_⟩
    exact dl.put _ ⟨by show (0:Int)<=0+(i:Int); omega,by show (0:Int)+(i:Int) < 0+(i:Int)+1+(j:Int); omega,by show (0:Int)+(i:Int)+1+(j:Int) < n; omega⟩
   | false=>exact aP ⟨_,rfl,_,_,rfl,rfl,⟨by decide,by decide⟩,trivial,c / 2,si (0+(i:Int)+1+(j:Int)),ps,rfl,dl1⟩
  ·rintro ρ ⟨c,z2,ps,rfl,dl⟩
   rw [dO] at dl
   exact⟨c,si (0+(i:Int)),z2,ps,rfl,⟨dl.key,by have:=dl.len; omega,dl.fl,dl.nd⟩⟩
 ·rintro ρ ⟨c,y1,z1,ps,rfl,dl⟩
  refine⟨_,rfl,_,rfl,_,rfl,_,rfl,by show 2<=1000; decide,?_,trivial,q ws ps wl hp dl.dk⟩
  intro p hp
  simp only [be9,bf1,bi6] at hp
  rcases hp with rfl | rfl <;> trivial
theorem hJ.seqTF {x:PV}{ns:List Int} (h:hJ x ns):seqT x=some (intz ns):=by rcases h with rfl | rfl <;> rfl
theorem DK.put {n:Int}{ps:List (List aC × PV)} (h:DK n ps) (l:Int × Int) (hl:0<=l.1/\l.1 < l.2/\l.2 < n):DK n (cM ps (fV l) (.bl true)):=(DL.put h l hl).dk
theorem DK.cut {n:Int}{ps:List (List aC × PV)} (h:DK n ps) (j:Nat):DK n (ps.eraseIdx j):=
 ⟨fun p hp=>h.key p (List.mem_of_mem_eraseIdx hp),be6 _,by
  rw [Raw.kY]
  have:∀ (j:Nat) {xs:List PV},flats xs=true->flats (xs.eraseIdx j)=true:=by
   intro j
   induction j with
   | zero=>
    intro xs h
    cases xs with
    | nil=>rfl
    | cons x r=>unfold flats at h; rw [bg1] at h; exact h.2
   | succ j ih=>
    intro xs h
    cases xs with
    | nil=>rfl
    | cons x r=>
     unfold flats at h
     rw [bg1] at h
     show (flat x && flats (r.eraseIdx j))=true
     rw [h.1,ih h.2]; rfl
  exact this j h.fl,(h.nd).sublist ((List.eraseIdx_sublist ps j).map _)⟩
def sL:bK:=fun xs Q=>∃ x ns,∃ n wy:Int,xs = [x,.int n,.int wy]/\hJ x ns/\ns.length<=63/\0<=n/\n<=8/\∀ ws ls,l8 n ws ls->Q (b8 ws ls)
def xK:aK:=(aH (eI (dN (a5 0)) (bO 5)
  (bQ (aR (jH (a5 1) (qC (.int 0)))) (aH (bG 6 (aB kD (a6 (a5 5) (a6 (qC (.int 0)) a9))))
   (aH (bG 7 (cH (a5 6) (a5 1)))
   (aH (bG 8 (cH (eY (a5 6) (qC (.int 64))) (a5 1)))
   (bQ (aR (fR (cH (eY (a5 6) (qC (.int 4096))) (qC (.int 4))) (qC (.int 0)))) (qU 3 (a5 7) (cH (eY (a5 6) (qC (.int 16384))) (qC (.int 5)))) (bQ (gB (aR (m8 (a5 7) (a5 8))) (aR (iN false (eS (a6 (aB lX (a6 (a5 7) (a6 (a5 8) a9))) (a6 (aB kR (a6 (a5 7) (a6 (a5 8) a9))) a9))) (a5 4)))) (xH 4 (eS (a6 (aB lX (a6 (a5 7) (a6 (a5 8) a9))) (a6 (aB kR (a6 (a5 7) (a6 (a5 8) a9))) a9)))) (bQ (aR (m8 (a5 7) (a5 8))) (oC 4 (eS (a6 (aB lX (a6 (a5 7) (a6 (a5 8) a9))) (a6 (aB kR (a6 (a5 7) (a6 (a5 8) a9))) a9))) (qC (.bl true))) bX)))))) bX))
 (aH (bG 9 (cL (gD (a5 1)) [none,some 4] (bO 0) fH (aB cW (a6 (sH (a5 1) [none,some 0] (bO 0) (aR (q2 (eV false) (a5 1) (a5 0))) (a5 0)) a9))))
 (b9 (eS (a6 (aB dW (a6 (xI mO (a6 (a5 2) (a6 (a5 3) (a6 (a5 9) a9)))) a9)) (a6 (aB dW (a6 (aB rQ (a6 (aB rR (a6 (a5 4) a9)) a9)) a9)) a9))))))
def X5:aK:=(aH (dQ 3 (cL (gD (a5 1)) [none] (bO 0) fH (fI (qC (.int 1)) (cH (a5 0) (qC (.int 2))))))
 (aH (dQ 4 (qC (.dT [])))
 (aH (bQ (gB (aR (jH (aB cW (a6 (a5 0) a9)) (qC (.int 0)))) (aR (fR (cH (cQ (a5 0) (qC (.int 0))) (qC (.int 2))) (qC (.int 1))))) (aH (xG 3 4 (aB sK (a6 (eY (cQ (a5 0) (qC (.int 0))) (qC (.int 2))) (a6 (a5 1) a9))))
  (bG 0 (vT (a5 0) (vS (qC (.int 1))) vR))) bX)
 xK)))
theorem NN.set {zs:List Int}{z:Int} (h:NN zs) (hz:0<=z) (j:Nat):NN (zs.set j z):=fun y hy=>by
 rcases List.mem_or_eq_of_mem_set hy with hy | rfl
 ·exact h y hy
 ·exact hz
theorem X6 {x:PV}{ns:List Int}{n wy:Int}{g:Bool}{ws:List Int}{ps:List (List aC × PV)}{Q:PV->Prop} (hx:hJ x ns) (hg:(Slot.sh g x).tag = .rd->flat x=true) (n0:0<=n) (n1:n<=8) (wl:(ws.length:Int)=n) (nw:NN ws) (dk:DK n ps) (q:∀ ws ls,l8 n ws ls->Q (b8 ws ls)) :
  xK { nx:=fun _=>Q .non,rt:=Q } [some (.sh g x),si n,si wy,some (.own (.lst (intz ws))),some (.own (.dT ps)),none,none,none,none,none]:=by
 refine⟨_,rfl,_,hx.seq,hg,fun i ρ=>∃ (a b c d:Option Slot) (ws:List Int) (ps:List (List aC × PV)),ρ = [some (.sh g x),si n,si wy,some (.own (.lst (intz ws))),some (.own (.dT ps)),a,b,c,d,none]/\(ws.length:Int)=n/\NN ws/\DK n ps,⟨none,none,none,none,ws,ps,rfl,wl,nw,dk⟩,?_,?_⟩
 ·rintro i y ρ hy ⟨a,b,c,d,ws,ps,rfl,wl,nw,dk⟩
  obtain ⟨cell,rfl,hc⟩:=fB hy
  generalize qW _ _=gg
  have few:=dk.few n1
  refine⟨_,rfl,_,_,rfl,rfl,_,rfl,?_⟩
  by_cases h1:(0:Int) < n
  ·dsimp only
   rw [be7 h1]
   refine aZ ⟨_,rfl,cell,0,rfl,by decide,by decide,fun t t0=>⟨trivial,?_⟩⟩
   refine⟨_,rfl,_,rfl,_,_,rfl,rfl,h1,trivial,?_⟩
   refine⟨_,rfl,_,_,rfl,rfl,⟨by decide,by decide⟩,_,rfl,_,_,rfl,rfl,h1,trivial,?_⟩
   dsimp only
   generalize hone:t % n=one
   generalize hoth:t / 64 % n=oth
   have o1:0<=one/\one < n:=by rw [<- hone]; exact⟨bl2 _ (by omega),bn5 _ h1⟩
   have o2:0<=oth/\oth < n:=by rw [<- hoth]; exact⟨bl2 _ (by omega),bn5 _ h1⟩
   have lk:one ≠ oth->0<=(if oth < one then oth else one)/\(if oth < one then oth else one) < (if oth > one then oth else one)/\(if oth > one then oth else one) < n:=fun ne=>by
    split <;> split <;> omega
   refine⟨_,rfl,_,_,rfl,rfl,⟨by decide,by decide⟩,_,_,rfl,rfl,(by show (0:Int) < 4; decide),.inl ⟨_,_,rfl,rfl,_,rfl,?_⟩⟩
   cases h2:(if false=true then !decide (t / 4096 % 4=0) else decide (t / 4096 % 4=0)) with
   | true=>
    refine aZ ⟨_,rfl,_,_,rfl,rfl,⟨by decide,by decide⟩,_,_,rfl,rfl,(by show (0:Int) < 5; decide),_,rfl,_,rfl,one,one.toNat,rfl,?_,trivial,?_⟩
    ·rw [aW]; unfold i4; rw [if_pos o1.1,if_pos (by omega)]
    ·refine⟨some (.sh (gg || true) (.int cell)),si t,si one,si oth,ws.set one.toNat (t / 16384 % 5),ps,?_,by rw [bi5]; exact wl,nw.set (bl2 _ (by decide)) _,dk⟩
     rw [show intz (ws.set one.toNat (t / 16384 % 5))=(intz ws).set one.toNat (.int (t / 16384 % 5)) from List.map_set ..]
     rfl
   | false=>
    refine aP ⟨_,rfl,_,rfl,.inl ⟨_,_,rfl,rfl,_,rfl,?_⟩⟩
    show if (!decide (one=oth))=true then _ else _
    have third:(bQ (aR (m8 (a5 7) (a5 8))) (oC 4 (eS (a6 (aB lX (a6 (a5 7) (a6 (a5 8) a9))) (a6 (aB kR (a6 (a5 7) (a6 (a5 8) a9))) a9))) (qC (.bl true))) bX) { nx:=fun ρ=>∃ (a b c d:Option Slot) (ws:List Int) (ps:List (List aC × PV)),ρ = [some (.sh g x),si n,si wy,some (.own (.lst (intz ws))),some (.own (.dT ps)),a,b,c,d,none]/\(ws.length:Int)=n/\NN ws/\DK n ps,rt:=Q,ct:=fun ρ=>∃ (a b c d:Option Slot) (ws:List Int) (ps:List (List aC × PV)),ρ = [some (.sh g x),si n,si wy,some (.own (.lst (intz ws))),some (.own (.dT ps)),a,b,c,d,none]/\(ws.length:Int)=n/\NN ws/\DK n ps,bk:=(aH (bG 9 (cL (gD (a5 1)) [none,some 4] (bO 0) fH (aB cW (a6 (sH (a5 1) [none,some 0] (bO 0) (aR (q2 (eV false) (a5 1) (a5 0))) (a5 0)) a9)))) (b9 (eS (a6 (aB dW (a6 (xI mO (a6 (a5 2) (a6 (a5 3) (a6 (a5 9) a9)))) a9)) (a6 (aB dW (a6 (aB rQ (a6 (aB rR (a6 (a5 4) a9)) a9)) a9)) a9))))) { nx:=fun _=>Q .non,rt:=Q } }
      [some (.sh g x),si n,si wy,some (.own (.lst (intz ws))),some (.own (.dT ps)),some (.sh (gg || true) (.int cell)),si t,si one,si oth,none]:=by
     refine⟨_,rfl,_,rfl,.inl ⟨_,_,rfl,rfl,_,rfl,?_⟩⟩
     show if (!decide (one=oth))=true then _ else _
     by_cases h3:one=oth
     ·rw [be7 h3]
      exact aP ⟨some (.sh (gg || true) (.int cell)),si t,si one,si oth,ws,ps,rfl,wl,nw,dk⟩
     ·rw [be8 h3]
      refine aZ ⟨_,rfl,_,rfl,_,rfl,_,_,rfl,_,rfl,_,rfl,_,_,rfl,by show 2<=1000; decide,rfl,fV (if oth < one then oth else one,if oth > one then oth else one),rfl,trivial,by omega,?_⟩
      exact⟨some (.sh (gg || true) (.int cell)),si t,si one,si oth,ws,_,rfl,wl,nw,dk.put _ (lk h3)⟩
    by_cases h3:one=oth
    ·rw [be7 h3]
     exact aP (aP third)
    ·rw [be8 h3]
     refine aZ ⟨_,rfl,_,rfl,_,_,rfl,_,rfl,_,rfl,_,_,rfl,by show 2<=1000; decide,rfl,_,rfl,_,.inr ⟨ps,fV (if oth < one then oth else one,if oth > one then oth else one),rfl,rfl,rfl⟩,_,rfl,?_⟩
     cases hv:(cA ps (fV (if oth < one then oth else one,if oth > one then oth else one))).isSome with
     | false=>exact aP third
     | true=>
      have is:∃ j:Nat,(ps.map (·.1))[j]? = some (fV (if oth < one then oth else one,if oth > one then oth else one)):=by
       rw [<- rO] at hv
       obtain ⟨p,hp,e⟩:=List.any_eq_true.mp hv
       have e:=bq3 e
       obtain ⟨j,hj,ej⟩:=bo7 hp
       exact⟨j,by rw [bf4,be3 hj,ej]; exact congrArg some e⟩
      refine aZ ⟨_,rfl,_,rfl,_,rfl,_,_,rfl,_,rfl,_,rfl,_,_,rfl,by show 2<=1000; decide,rfl,fV (if oth < one then oth else one,if oth > one then oth else one),rfl,is,fun j hj=>?_⟩
      exact⟨some (.sh (gg || true) (.int cell)),si t,si one,si oth,ws,_,rfl,wl,nw,dk.cut j⟩
  ·dsimp only
   rw [be8 h1]
   exact aP ⟨some (.sh (gg || true) (.int cell)),b,c,d,ws,ps,rfl,wl,nw,dk⟩
 rintro ρ ⟨a,b,c,d,ws,ps,rfl,wl,nw,dk⟩
 have few:=dk.few n1
 refine⟨_,rfl,n,rfl,by omega,by omega,by rw [dO]; omega,fun i acc=>∃ ds,acc=intz ds/\ds.length=i/\NN ds,⟨[],rfl,rfl,fun _ h=>nomatch h⟩,?_,?_⟩
 ·rintro i y acc hy ⟨ds,rfl,dl,dn⟩
  obtain ⟨rfl,hi⟩:=gZ hy
  refine⟨_,rfl,ps,rfl,by omega,?_,fun j acc=>True,trivial,?_,?_⟩
  ·intro m hm
   have hm:some m ∈ [none,some (Slot.sh false (.int (0+(i:Int))))]:=hm
   simp only [be9,bf1,bi6,Option.some.injEq,reduceCtorEq,false_or] at hm
   rw [hm]; rfl
  ·rintro j k acc hk _
   have hk':k ∈ ps.map (·.1):=bh1 hk
   obtain ⟨p,hp,rfl⟩:=bi7.mp hk'
   obtain ⟨l,e,_⟩:=dk.key p hp
   rw [e]
   refine⟨_,rfl,_,rfl,_,[l.1,l.2],rfl,rfl,_,rfl,?_⟩
   show if decide (0+(i:Int) ∈ [l.1,l.2])=true then _ else _
   cases decide (0+(i:Int) ∈ [l.1,l.2]) with
   | true=>exact aZ ⟨_,rfl,⟨trivial,rfl⟩,trivial⟩
   | false=>exact aP trivial
  ·rintro acc _
   refine⟨_,_,rfl,rfl,trivial,ds ++ [(acc.length:Int)],by rw [cR]; rfl,by rw [be2,dl]; rfl,dn.app (by omega)⟩
 rintro acc ⟨ds,rfl,dl,dn⟩
 rw [dO] at dl
 obtain ⟨ls,e1,e2,e3,e4⟩:=DL.links dk.key
 have lnd:ls.Nodup:=by
  have:=dk.nd
  rw [e4] at this
  exact (bn0.mp this).imp fun h e=>h (congrArg fV e)
 refine⟨trivial,_,rfl,_,rfl,_,rfl,wy,ws,ds,rfl,by omega,by omega,nw,dn,fun zs zl zn=>⟨⟨_,_,rfl,rfl,bJ _,_,rfl,ps,rfl,ls.map two,?_,by rw [be5]; omega,?_,fun us pz so=>?_⟩,fun ns z=>by cases z⟩⟩
 ·show [PV.lst (ps.map fun p=>PV.tup (p.1.map kP))]=_
  rw [e1,rS]
 ·intro y hy z
  obtain ⟨l,_,rfl⟩:=bi7.mp hy
  cases z
 obtain ⟨ls',rfl,pl⟩:=aI4 pz
 rw [<- rS]
 exact⟨⟨_,_,rfl,rfl,oJ _,by show 2<=1000; decide,aI6 _ _,trivial,q zs ls' (l8.perm (by omega) e2 (by omega) lnd zn pl so)⟩,fun ns z=>by cases z⟩
theorem aQ0:cI X5 ["flow","many","way","wants","links","cell","turn","one","other","degrees"] sL:=by
 rintro xs Q ⟨x,ns,n,wy,rfl,hx,hns,n0,n1,q⟩
 refine⟨_,rfl,n,rfl,by omega,by omega,by rw [dO]; omega,fun i acc=>∃ ws,acc=intz ws/\ws.length=i/\NN ws,⟨[],rfl,rfl,fun _ h=>nomatch h⟩,?_,?_⟩
 ·rintro i y acc hy ⟨ws,rfl,wl,nw⟩
  obtain ⟨rfl,hi⟩:=gZ hy
  have e0:=bl2 (0+(i:Int)) (show (2:Int) ≠ 0 by decide)
  refine⟨_,rfl,_,_,rfl,rfl,(by show (0:Int) < 2; decide),_,_,rfl,rfl,trivial,ws ++ [1+(0+(i:Int)) % 2],by rw [cR]; rfl,by rw [be2,wl]; rfl,nw.app (by omega)⟩
 rintro acc ⟨ws,rfl,wl,nw⟩
 rw [dO] at wl
 refine⟨rfl,bJ _,rfl,rfl,?_⟩
 have last:xK { nx:=fun _=>Q .non,rt:=Q } [some (.sh (flat x) x),si n,si wy,some (.own (.lst (intz ws))),some (.own (.dT [])),none,none,none,none,none]:=
  X6 hx (aI9 hx) n0 n1 (by omega) nw (DK.nil n) q
 refine⟨_,rfl,_,_,rfl,hx.len,_,_,rfl,rfl,_,rfl,?_⟩
 by_cases h1:(0:Int) < (ns.length:Int)
 ·dsimp only
  rw [be7 h1]
  have g0:ns[0]? = some (ns[0]'(by omega)):=be3 (by omega)
  have i0:L2.atI (intz ns) (0:Int)=some (.int (ns[0]'(by omega))):=pK (xs:=intz ns) (j:=0) (by rw [bf4,g0]; rfl)
  refine aZ ⟨_,rfl,_,_,_,hx.seq,rfl,i0,_,_,rfl,rfl,(by show (0:Int) < 2; decide),.inl ⟨_,_,rfl,rfl,_,rfl,?_⟩⟩
  cases h2:(if false=true then !decide (ns[0]'(by omega) % 2=1) else decide (ns[0]'(by omega) % 2=1)) with
  | true=>
   refine aZ ⟨_,rfl,_,_,_,hx.seq,rfl,i0,_,_,rfl,rfl,⟨by decide,by decide⟩,_,rfl,_,n,rfl,n0,by omega,fun ws2 ps wl2 nw2 dk=>⟨_,_,by decide,rfl,rfl,bJ _,dk.fl,?_⟩⟩
   refine⟨_,rfl,_,rfl,_,hx.seqTF,bJ _,trivial,?_⟩
   have hc:hJ (vQ x (iP (intz ns) (some 1) none)) (ns.drop 1):=by
    rcases hx with rfl | rfl
    ·exact .inr (by show PV.lst (iP (intz ns) (some 1) none)=_; rw [wS ns (by decide)]; rfl)
    ·exact .inr (by show PV.lst (iP (intz ns) (some 1) none)=_; rw [wS ns (by decide)]; rfl)
   exact X6 (g:=true) hc (fun z=>by cases z) n0 n1 wl2 nw2 dk q
  | false=>exact aP last
 ·dsimp only
  rw [be8 h1]
  exact aP (aP last)
def sM:bK:=fun xs Q=>∃ c n:Int,xs = [.int c,.int n]/\0<=n/\n<=40/\∀ S,aY n.toNat S=true->Q (.tup (intz S))
def X7:aK:=(aH (bQ (aR (fR (cH (a5 0) (qC (.int 2))) (qC (.int 1)))) (b9 (aB dW (a6 (cL (gD (a5 1)) [none,some 0] (bO 0) (aR (fR (cH (aA3 (a5 1) (fI (a5 0) (qC (.int 1)))) (qC (.int 2))) (qC (.int 1)))) (a5 0)) a9))) bX)
 (b9 (aB dW (a6 (cL (gD (a5 1)) [none,some 0] (bO 0) (aR (r6 (cH (aB kD (a6 (a5 1) (a6 (a5 0) a9))) (qC (.int 8))) (fI (qC (.int 1)) (cH (eY (a5 1) (qC (.int 2))) (qC (.int 7)))))) (a5 0)) a9))))
def iY (i:Nat) (S:List Int):Prop:=S.Pairwise (· < ·)/\∀ x ∈ S,0<=x/\x < (i:Int)
theorem iY.more {i:Nat}{S:List Int} (h:iY i S):iY (i+1) S:=⟨h.1,fun x hx=>by have:=h.2 x hx; omega⟩
theorem iY.app {i:Nat}{S:List Int} (h:iY i S):iY (i+1) (S ++ [(0:Int)+(i:Int)]):=by
 refine⟨List.pairwise_append.mpr ⟨h.1,bh7 _ _,fun a ha b hb=>?_⟩,fun x hx=>?_⟩
 ·rw [bf3.mp hb]
  have:=h.2 a ha
  omega
 ·rcases bg2.mp hx with hx | hx
  ·have:=h.2 x hx; omega
  ·rw [bf3.mp hx]; omega
theorem iY.set {i:Nat}{S:List Int} (h:iY i S):aY i S=true:=by
 unfold aY
 rw [wE h.1,bp7,bm8]
 intro b hb
 obtain ⟨x,hx,rfl⟩:=bi7.mp hb
 have:=h.2 x hx
 unfold inB
 simp only [id,bg1,bj2]
 exact this
theorem aQ1:cI X7 ["cell","many"] sM:=by
 rintro xs Q ⟨c,n,rfl,n0,n1,q⟩
 refine⟨_,rfl,_,_,rfl,rfl,(by show (0:Int) < 2; decide),.inl ⟨_,_,rfl,rfl,_,rfl,?_⟩⟩
 cases h1:(if false=true then !decide (c % 2=1) else decide (c % 2=1)) with
 | true=>
  refine aZ ⟨_,rfl,n,rfl,by omega,by omega,by rw [dO]; omega,fun i acc=>∃ S,acc=intz S/\iY i S,⟨[],rfl,.nil,fun _ h=>nomatch h⟩,?_,?_⟩
  ·rintro i y acc hy ⟨S,rfl,hS⟩
   obtain ⟨rfl,hi⟩:=gZ hy
   refine⟨_,rfl,_,rfl,_,_,rfl,rfl,_,_,rfl,rfl,(by show (0:Int)<=0+(i:Int)+1; omega),_,_,rfl,rfl,(by show (0:Int) < 2; decide),.inl ⟨_,_,rfl,rfl,_,rfl,?_⟩⟩
   dsimp only
   generalize (if false=true then _ else _)=b
   cases b with
   | true=>exact aZ ⟨_,rfl,trivial,S ++ [(0:Int)+(i:Int)],by rw [cR]; rfl,hS.app⟩
   | false=>exact aP ⟨S,rfl,hS.more⟩
  ·rintro acc ⟨S,rfl,hS⟩
   rw [dO] at hS
   exact⟨⟨_,_,rfl,rfl,bJ _,trivial,q S hS.set⟩,fun ns z=>by cases z⟩
 | false=>
  refine aP ⟨_,rfl,n,rfl,by omega,by omega,by rw [dO]; omega,fun i acc=>∃ S,acc=intz S/\iY i S,⟨[],rfl,.nil,fun _ h=>nomatch h⟩,?_,?_⟩
  ·rintro i y acc hy ⟨S,rfl,hS⟩
   obtain ⟨rfl,hi⟩:=gZ hy
   refine⟨_,rfl,_,rfl,c,_,rfl,by omega,by omega,fun z z0=>⟨_,_,rfl,rfl,(by show (0:Int) < 8; decide),_,rfl,_,_,rfl,rfl,⟨by decide,by decide⟩,_,_,rfl,rfl,(by show (0:Int) < 7; decide),_,_,rfl,rfl,_,_,rfl,rfl,_,rfl,?_⟩⟩
   dsimp only
   generalize decide ((_:Int) < _)=b
   cases b with
   | true=>exact aZ ⟨_,rfl,trivial,S ++ [(0:Int)+(i:Int)],by rw [cR]; rfl,hS.app⟩
   | false=>exact aP ⟨S,rfl,hS.more⟩
  ·rintro acc ⟨S,rfl,hS⟩
   rw [dO] at hS
   exact⟨⟨_,_,rfl,rfl,bJ _,trivial,q S hS.set⟩,fun ns z=>by cases z⟩
def sN:bK:=fun xs Q=>∃ ws ls h,xs = [b8 ws ls,.int h]/\(∀ l ∈ ls,l.1 ≠ l.2)/\ls.length<=1700/\Q (.lst (intz (bE ls h)))
def X8:aK:=(b9 (cL (dN (cQ (a5 0) (qC (.int 1)))) [none,none,some 1] (o8 0 1) (aR (q2 (eV false) (a5 2) (eS (a6 (a5 0) (a6 (a5 1) a9))))) (kU (fI (a5 0) (a5 1)) (a5 2))))
theorem aQ2:cI X8 ["web","hearth"] sN:=by
 rintro xs Q ⟨ws,ls,h,rfl,hne,hl,q⟩
 refine⟨_,rfl,_,_,_,rfl,rfl,rfl,bC ls,rfl,(fun z=>oJ ls),by rw [S7]; omega,fun i acc=>acc=intz (bE (ls.take i) h),rfl,?_,?_⟩
 ·rintro i y acc hy rfl
  obtain ⟨l,rfl,hi⟩:=wQ hy
  have tk:=F8 hi h
  have ne:=hne l (bh1 hi)
  refine⟨_,_,rfl,_,rfl,_,rfl,_,rfl,by show 2<=1000; decide,rfl,h,[l.1,l.2],rfl,rfl,_,rfl,?_⟩
  show if decide (h ∈ [l.1,l.2])=true then _ else _
  by_cases h1:l.1=h
  ·rw [if_pos h1,if_neg (by rw [<- h1]; exact Ne.symm ne)] at tk
   rw [be7 (by rw [<- h1]; exact bf5)]
   refine aZ ⟨_,rfl,_,rfl,_,_,rfl,rfl,_,rfl,_,_,rfl,rfl,trivial,?_⟩
   dsimp only
   rw [tk,cR,show l.1+l.2 - h=l.2 by omega]
   simp
  ·by_cases h2:l.2=h
   ·rw [if_neg h1,if_pos h2] at tk
    rw [be7 (by rw [<- h2]; simp)]
    refine aZ ⟨_,rfl,_,rfl,_,_,rfl,rfl,_,rfl,_,_,rfl,rfl,trivial,?_⟩
    dsimp only
    rw [tk,cR,show l.1+l.2 - h=l.1 by omega]
    simp
   ·rw [if_neg h1,if_neg h2] at tk
    rw [be8 (by simp; exact⟨Ne.symm h1,Ne.symm h2⟩)]
    refine aP ?_
    dsimp only
    rw [tk]; simp
 ·rintro acc rfl
  rw [S7,bi3]
  exact⟨trivial,q⟩
end Core
namespace PP
open PySem L2
section
variable {X : Cx} {a b e : Expr} {ta tb : aE} {tr : cN} {D : bS} {σ : St} {H : Hp} {pos p2 p3 p4 : Pos}
def sO (i:Nat):aK:=fun D ρ=>∃ xs,ρ[i]? = some (some (.own (.lst xs)))/\D.nx (ρ.set i (some (.own (.lst xs.reverse))))
theorem Reps.rev {K:PySem.W.Frag}{M:Addr->Prop}{H:Hp}:∀ {us:List V}{xs:List PV},Reps K M H us xs->Reps K M H us.reverse xs.reverse
 | _,_,.nil=>.nil
 | _,_,.cons (v:=v) (x:=x) (vs:=vs) (xs:=xs) r t=>by
  rw [List.reverse_cons,List.reverse_cons]
  exact (Reps.rev t).append (.cons r .nil)
theorem aQ3 {i:Nat} (h:LS X (sO i) D σ H):kH (A1 X.K "list" A5 (eO i)) D σ H:=by
 obtain ⟨W,ρ,D',px,⟨xs,hi,q⟩,k⟩:=h
 obtain ⟨v,ev,a,rfl,wa,us,ea,r⟩:=px.sl i _ hi
 refine⟨_,ev,kO (aU.of ea),a,us,rfl,rfl,ea,?_⟩
 exact k.nx W σ _ _ (Ev.upd wa) (px.updL hi ev wa (r.rev.keep (.upd ea rfl fun b m=>⟨iL wa m,m⟩))) q
theorem aQ4 (i:Nat) {x:Str}{apos cpos xpos:Pos} (hN:X.N[i]? = some x:=by rfl) (hv:eN X.env.scope x:=by first | exact Or.inl rfl | exact Or.inr (Or.inl rfl) | exact Or.inr (Or.inr rfl)) (hd:(x == ("__debug__" : Str))=false:=by decide) (hcd:(x == ("__classdict__" : Str))=false:=by decide)
  (hbase:attributeBase (.Name x xpos) "reverse" X.env (eval (.Name x xpos) X.env)=eval (.Name x xpos) X.env:=by rfl) (hline:(apos.endLine == cpos.line)=true:=by rfl)
  (hsw:swapsWith (.Call (.Attribute (.Name x xpos) "reverse" apos) [] [] cpos) none pos.line X.env=pure false:=by rfl):QS X (.Expr (.Call (.Attribute (.Name x xpos) "reverse" apos) [] [] cpos) pos) (sO i):=
 dC (jQ (ao8 bm4 PySem.F.slot_list_reverse PySem.F.type_list_reverse ap2 (fW hN hv hd hcd) hbase hline) hsw) fun _ _ _=>aQ3
def mP (i:Nat) (ta tb:aE):aK:=fun D ρ=>∃ xs,ρ[i]? = some (some (.own (.lst xs)))/\ta ρ fun x _=>∃ k:Nat,x = .int k/\k<=xs.length/\xs.length < 16000000/\tb ρ fun y g=>Nw g y/\D.nx (ρ.set i (some (.own (.lst (xs.take k ++ y :: xs.drop k)))))
theorem aQ5 {i:Nat} (h:LS X (mP i ta tb) D σ H):kH (nQ X.K "list" Q3 (eO i) (gM (LE X ta) (gM (LE X tb) iJ))) D σ H:=by
 obtain ⟨W,ρ,D',px,⟨xs,hi,q⟩,k⟩:=h
 obtain ⟨v,ev,a,rfl,wa,us,ea,r⟩:=px.sl i _ hi
 refine⟨_,ev,kO (aU.of ea),W,ρ,_,px,q,?_⟩
 rintro w H1 x g s rx ⟨j,rfl,hj,hl,q⟩
 cases rx
 refine⟨W,ρ,_,px.mono s,q,?_⟩
 rintro w H2 y g s2 ry ⟨n,q⟩
 have ea2:=s2 _ _ (s _ _ ea)
 have s3:=s.trans s2
 refine⟨a,us,w,j,rfl,rfl,ea2,by rw [r.length]; exact hj,i7 (by rw [r.length]; omega),?_⟩
 refine k.nx W σ _ _ ((Ev.same s3).trans (Ev.upd wa)) ((px.mono s3).updL hi ev wa ?_) q
 have r2:=r.same s3 fun _ z=>z
 exact ((r2.take j).append (.cons (Nw.rep (px.mono s) n ry) (r2.drop j))).keep (.upd ea2 rfl fun b m=>⟨iL wa m,m⟩)
theorem X9 (i:Nat) {x:Str}{apos cpos xpos:Pos} (ha:QE X a ta) (hb:QE X b tb) (hN:X.N[i]? = some x:=by rfl) (hv:eN X.env.scope x:=by first | exact Or.inl rfl | exact Or.inr (Or.inl rfl) | exact Or.inr (Or.inr rfl)) (hd:(x == ("__debug__" : Str))=false:=by decide) (hcd:(x == ("__classdict__" : Str))=false:=by decide)
  (hbase:attributeBase (.Name x xpos) "insert" X.env (eval (.Name x xpos) X.env)=eval (.Name x xpos) X.env:=by rfl)
  (hfew:((backTo cpos (starEach [a,b] X.env)).all (fun x=>!x.1) && (backToKw cpos (keywordEach [] X.env)).all (fun x=>x.1.isSome) && decide (([a,b]:List Expr).length+([]:List Keyword).length+(if ([]:List Keyword).isEmpty then 0 else 1) < 30))=true:=by rfl)
  (hline:(apos.endLine == cpos.line)=true:=by rfl) (hs:starEach [a,b] X.env=(false,eval a X.env) :: starEach [b] X.env:=by rfl) (hs2:starEach [b] X.env=(false,eval b X.env) :: starEach [] X.env:=by rfl) (hplain:(backTo cpos (starEach [b] X.env)).any (·.1)=false:=by rfl)
  (hsw:swapsWith (.Call (.Attribute (.Name x xpos) "insert" apos) [a,b] [] cpos) none pos.line X.env=pure false:=by rfl) :
  QS X (.Expr (.Call (.Attribute (.Name x xpos) "insert" apos) [a,b] [] cpos) pos) (mP i ta tb):=
 dC (jQ (lP bm4 PySem.F.slot_list_insert PySem.F.type_list_insert aF4 (fW hN hv hd hcd) (cP ha (cP hb dP hs2) hs) hbase hfew hline hs hplain) hsw) fun _ _ _=>aQ5
end
end PP
namespace Core
open PySem L2 PP
def sP:bK:=fun xs Q=>∃ (s:List Int) (n:Nat) (c:Int),xs = [.tup (intz s),.int n,.int c]/\aY n s=true/\s.length<=40/\∀ ys,ys.length<=41->aY n ys=false->Q (.tup (intz ys))
def Y0:aK:=(aH (dQ 3 (aB gC (a6 (a5 0) a9)))
 (aH (bG 4 (cH (eY (a5 2) (qC (.int 1009))) (aA2 (qC (.int 10)) (qC (.int 30)))))
 (aH (bG 5 (cH (eY (a5 2) (qC (.int 4))) (fI (aB cW (a6 (a5 3) a9)) (qC (.int 1)))))
 (aH (bQ (gB (aR (fR (cH (a5 2) (qC (.int 4))) (qC (.int 0)))) (aR (jH (aB cW (a6 (a5 3) a9)) (qC (.int 0))))) (mP 3 (a5 5) (cQ (a5 3) (cH (eY (a5 2) (qC (.int 64))) (aB cW (a6 (a5 3) a9))))) (bQ (gB (aR (fR (cH (a5 2) (qC (.int 4))) (qC (.int 1)))) (aR (jH (aB cW (a6 (a5 3) a9)) (qC (.int 1))))) (sO 3) (mP 3 (a5 5) (cQ (eG (a6 (jZ (qC (.int 1))) (a6 (a5 1) (a6 (kU (jZ (qC (.int 1))) (a5 4)) (a6 (fI (a5 1) (a5 4)) a9))))) (cH (eY (a5 2) (qC (.int 64))) (qC (.int 4)))))))
 (b9 (aB dW (a6 (a5 3) a9)))))))
theorem aQ6 {n:Nat}{s:List Int} (h:1 < s.length) (hs:aY n s=true):aY n s.reverse=false:=xD fun e=>by
 have p:=fU (dF hs).1
 have p2:=fU (dF e).1
 rw [List.pairwise_reverse] at p2
 cases s with
 | nil=>exact absurd h (by decide)
 | cons a r=>
  cases r with
  | nil=>exact absurd h (by show ¬ 1 < 1; decide)
  | cons b r=>
   have h1:=List.rel_of_pairwise_cons p (bf5 (a:=b))
   have h2:=List.rel_of_pairwise_cons p2 (bf5 (a:=b))
   omega
theorem aQ7:cI Y0 ["some","many","cell","odd","far","spot"] sP:=by
 rintro xs Q ⟨s,n,c,rfl,hs,hl,q⟩
 refine⟨_,rfl,_,_,rfl,rfl,bJ _,rfl,bJ _,?_⟩
 refine⟨_,rfl,_,_,rfl,rfl,⟨by decide,by decide⟩,_,_,rfl,rfl,⟨by decide,by decide,by decide⟩,_,_,rfl,rfl,(by show (0:Int) < 10 ^ (30:Int).toNat; decide),trivial,?_⟩
 dsimp only
 have f0:0<=c / 1009 % 10 ^ (30:Int).toNat:=bl2 _ (by decide)
 generalize c / 1009 % 10 ^ (30:Int).toNat=f at f0
 refine⟨_,rfl,_,_,rfl,rfl,⟨by decide,by decide⟩,_,rfl,_,_,rfl,rfl,_,_,rfl,rfl,_,_,rfl,rfl,by omega,trivial,?_⟩
 dsimp only
 rw [aW]
 have k0:0<=c / 4 % ((s.length:Int)+1):=bl2 _ (by omega)
 have k1:c / 4 % ((s.length:Int)+1) < (s.length:Int)+1:=bn5 _ (by omega)
 generalize c / 4 % ((s.length:Int)+1)=k at k0 k1
 obtain ⟨k,rfl⟩:∃ m:Nat,k=m:=⟨k.toNat,by omega⟩
 have fin:∀ ys:List Int,ys.length<=41->aY n ys=false->b9 (aB dW (a6 (a5 3) a9)) { nx:=fun _=>Q .non,rt:=Q } [some (.sh (flat (.tup (intz s))) (.tup (intz s))),si n,si c,some (.own (.lst (intz ys))),si f,si k]:=fun ys h1 h2=>
  ⟨_,rfl,⟨_,_,rfl,rfl,bJ _,trivial,q ys h1 h2⟩,fun ns z=>by cases z⟩
 have ins:∀ x:Int,aY n (s.take k ++ [x] ++ s.drop k)=false->b9 (aB dW (a6 (a5 3) a9)) { nx:=fun _=>Q .non,rt:=Q } [some (.sh (flat (.tup (intz s))) (.tup (intz s))),si n,si c,some (.own (.lst ((intz s).take k ++ PV.int x :: (intz s).drop k))),si f,si k]:=fun x hx=>by
  have e:(intz s).take k ++ PV.int x :: (intz s).drop k=intz (s.take k ++ [x] ++ s.drop k):=by
   unfold intz
   rw [bh3,bh3,List.map_take,List.map_drop,bi9]
   rfl
  rw [e]
  refine fin _ ?_ hx
  rw [be2,be2,bj0,bk4]
  show _+1+_<=41
  omega
 have third:mP 3 (a5 5) (cQ (eG (a6 (jZ (qC (.int 1))) (a6 (a5 1) (a6 (kU (jZ (qC (.int 1))) (a5 4)) (a6 (fI (a5 1) (a5 4)) a9))))) (cH (eY (a5 2) (qC (.int 64))) (qC (.int 4)))) { nx:=b9 (aB dW (a6 (a5 3) a9)) { nx:=fun _=>Q .non,rt:=Q },rt:=Q }
   [some (.sh (flat (.tup (intz s))) (.tup (intz s))),si n,si c,some (.own (.lst (intz s))),si f,si k]:=by
  have j0:0<=c / 64 % 4:=bl2 _ (by decide)
  have j1:c / 64 % 4 < 4:=bn5 _ (by decide)
  have odd:∃ x:Int,(x < 0 ∨ (n:Int)<=x)/\L2.atI [PV.int (-1),PV.int n,PV.int (-1 - f),PV.int (n+f)] (c / 64 % 4)=some (.int x):=by
   generalize c / 64 % 4=j at j0 j1
   rcases (show j=0 ∨ j=1 ∨ j=2 ∨ j=3 by omega) with rfl | rfl | rfl | rfl
   ·exact⟨-1,by omega,rfl⟩
   ·exact⟨n,by omega,rfl⟩
   ·exact⟨-1 - f,by omega,rfl⟩
   ·exact⟨n+f,by omega,rfl⟩
  obtain ⟨x,hx,at4⟩:=odd
  refine⟨_,rfl,_,rfl,k,rfl,by rw [aW]; omega,by rw [aW]; omega,?_⟩
  refine⟨_,rfl,_,rfl,_,rfl,_,rfl,_,_,rfl,rfl,_,rfl,_,rfl,_,_,rfl,rfl,(by show 4<=1000; decide),rfl,?_⟩
  refine⟨_,rfl,_,_,rfl,rfl,⟨by decide,by decide⟩,_,_,rfl,rfl,(by show (0:Int) < 4; decide),?_⟩
  exact⟨_,_,_,rfl,rfl,at4,trivial,ins x (aO7 hx)⟩
 have second:bQ (gB (aR (fR (cH (a5 2) (qC (.int 4))) (qC (.int 1)))) (aR (jH (aB cW (a6 (a5 3) a9)) (qC (.int 1))))) (sO 3) (mP 3 (a5 5) (cQ (eG (a6 (jZ (qC (.int 1))) (a6 (a5 1) (a6 (kU (jZ (qC (.int 1))) (a5 4)) (a6 (fI (a5 1) (a5 4)) a9))))) (cH (eY (a5 2) (qC (.int 64))) (qC (.int 4))))) { nx:=b9 (aB dW (a6 (a5 3) a9)) { nx:=fun _=>Q .non,rt:=Q },rt:=Q }
   [some (.sh (flat (.tup (intz s))) (.tup (intz s))),si n,si c,some (.own (.lst (intz s))),si f,si k]:=by
  refine⟨_,rfl,_,_,rfl,rfl,(by show (0:Int) < 4; decide),.inl ⟨_,_,rfl,rfl,_,rfl,?_⟩⟩
  cases h1:(if false=true then !decide (c % 4=1) else decide (c % 4=1)) with
  | false=>exact aP (aP third)
  | true=>
   refine aZ ⟨_,rfl,_,_,rfl,rfl,_,_,rfl,rfl,_,rfl,?_⟩
   rw [aW]
   by_cases h2:(1:Int) < (s.length:Int)
   ·dsimp only
    rw [be7 h2]
    refine aZ ⟨_,rfl,?_⟩
    have e:(intz s).reverse=intz s.reverse:=(List.map_reverse).symm
    rw [e]
    exact fin _ (by rw [List.length_reverse]; omega) (aQ6 (by omega) hs)
   ·dsimp only
    rw [be8 h2]
    exact aP third
 refine⟨_,rfl,_,_,rfl,rfl,(by show (0:Int) < 4; decide),.inl ⟨_,_,rfl,rfl,_,rfl,?_⟩⟩
 cases h1:(if false=true then !decide (c % 4=0) else decide (c % 4=0)) with
 | false=>exact aP (aP second)
 | true=>
  refine aZ ⟨_,rfl,_,_,rfl,rfl,_,_,rfl,rfl,_,rfl,?_⟩
  rw [aW]
  by_cases h2:(0:Int) < (s.length:Int)
  ·dsimp only
   rw [be7 h2]
   have j0:0<=c / 64 % (s.length:Int):=bl2 _ (by omega)
   have j1:c / 64 % (s.length:Int) < (s.length:Int):=bn5 _ h2
   have g:∃ x,x ∈ s/\L2.atI (intz s) (c / 64 % (s.length:Int))=some (.int x):=by
    generalize c / 64 % (s.length:Int)=j at j0 j1
    have e:=be3 (l:=s) (i:=j.toNat) (by omega)
    refine⟨_,bh1 e,?_⟩
    have:=pK (xs:=intz s) (j:=j.toNat) (by rw [bf4,e]; rfl)
    rwa [show ((j.toNat:Nat):Int)=j by omega] at this
   obtain ⟨x,hx,ax⟩:=g
   refine aZ ⟨_,rfl,_,rfl,k,rfl,by rw [aW]; omega,by rw [aW]; omega,?_⟩
   refine⟨_,rfl,_,rfl,_,_,rfl,rfl,⟨by decide,by decide⟩,_,rfl,_,_,rfl,rfl,_,_,rfl,rfl,by rw [aW]; exact h2,?_⟩
   rw [aW]
   exact⟨_,_,_,rfl,rfl,ax,S5 _ _,ins x (aO6 hx)⟩
  ·dsimp only
   rw [be8 h2]
   exact aP second
end Core
namespace PP
open PySem L2
section
variable {X : Cx} {te : aE} {pos p2 : Pos} {scope : Scope} {N : List Str} {fr : List (Option Nat)} {x : Str} {tp : Pos} {iter elt : Expr} {ti : eU}
theorem aQ8 {ifs:List Expr}{tcs:bY} (he:∀ (s:Shared) (H:Hp) (C:Addr) (fp:List Addr),QE (bL X scope N s H C fp bV) elt te) (hi:∀ (s:Shared) (H:Hp) (C:Addr) (fp:List Addr),jA (bL X scope N s H C fp bV) ifs (LT (bL X scope N s H C fp bV) tcs))
  (hN:N.Nodup) (h0:N[0]? = some x) (hl:∀ (s:Shared) (H:Hp) (C:Addr) (fp:List Addr),(bL X scope N s H C fp bV).env.scope.names.lookup x=some .cell) (ho:scope.names.lookup x=some .cell) (s:Shared) (H:Hp) :
  kM X scope N (.Name x tp) ifs elt s H (cG 0) (LT (X.frm H) tcs) (LE (X.frm H) te):=
 ⟨fun C fp=>eQ (X:=bL X scope N s H C fp bV) hN h0 (.inr (hl s H C fp)) (.inl (show (scope.names.lookup x == some NameKind.cell)=true by rw [ho]; rfl)),fun C fp=>hi s H C fp,fun C fp=>he s H C fp⟩
theorem aQ9 {i:Nat}{z:Str}{zp:Pos} (nd:X.N.Nodup) (hi:QI X (.Name x tp) iter ti) (he:∀ (s:Shared) (H:Hp) (C:Addr) (fp:List Addr),QE (bL X scope N s H C fp bV) elt te)
  (hz:X.N[i]? = some z:=by rfl) (hzl:X.env.scope.names.lookup z=some .local:=by rfl) (hsw:swapsWith (.ListComp elt [⟨.Name x tp,iter,[],0⟩] scope p2) (some (.Name z zp)) pos.line X.env=pure true:=by rfl)
  (hc:X.calm=true:=by rfl) (S:cK X scope N fr:=by exact cK.of rfl rfl) (hN:N.Nodup:=by decide +kernel) (h0:N[0]? = some x:=by rfl) (hl:∀ (s:Shared) (H:Hp) (C:Addr) (fp:List Addr),(bL X scope N s H C fp bV).env.scope.names.lookup x=some .cell:=by intro _ _ _ _; rfl) (ho:scope.names.lookup x=some .cell:=by rfl) (hf:fr[0]? = some none:=by rfl)
  (hs:∀ x,foldedSetIterable iter X.env x=pure x:=by intro _; rfl):QS X (.Assign [.Name z zp] (.ListComp elt [⟨.Name x tp,iter,[],0⟩] scope p2) pos) (bG i (cL ti fr (bO 0) fH te)):=
 dC (uK (gh:=fun _=>cG 0) (tch:=fun H=>LT (X.frm H) fH) (teh:=fun H=>LE (X.frm H) te) hc S hi (aQ8 he (fun _ _ _ _=>wB) hN h0 hl ho) nd hz hzl hsw hs) fun D σ H h=>m6 (kT _ 0) (fun i e=>by subst e; exact hf) (vC h)
end
end PP
namespace Core
open PySem L2 PP
def mQ (f:List Int->List (Int × Int)->List Int->(PV->Prop)->Prop):dG:=fun Ep xs Q=>∃ ws ls x ns,xs = [b8 ws ls,x]/\Wb ws ls/\cY x ns/\ns.length<=1000/\(aY ws.length ns=true->f ws ls ns Q)/\(aY ws.length ns=false->Ep "BadSet")
def sQ:dG:=mQ fun ws ls ns Q=>∀ m,bS ws ls ns m->Q (.lst (tups (ns :: after ws ls ns m)))
def sR:dG:=mQ fun ws ls ns Q=>∀ m,bS ws ls ns m->Q (.dK (jN (ns :: after ws ls ns m)))
def mR:dG:=mQ fun ws ls ns Q=>∀ ms m,bS ws ls ns m->ms.Perm (b5 ws ls ns m)->ms.Pairwise (· <= ·)->Q (.tup (intz ms))
def Y1 (Ep:Str->Prop):aK:=(aH (dQ 2 (eG (a6 (eL Ep kC (a6 (a5 0) (a6 (a5 1) a9))) a9)))
 (aH (dQ 3 (aB iE (a6 (cQ (a5 2) (qC (.int 0))) a9)))
 (aH (bG 4 (aB oM (a6 (a5 0) a9)))
 (aH (bG 5 (aB oN (a6 (a5 0) (a6 (a5 4) (a6 (a5 3) a9)))))
 (aH (lW (vG (a5 5))
  (aH (jY 2 (a5 5))
  (aH (vL 3 (aB iE (a6 (a5 5) a9)))
  (bG 5 (aB oN (a6 (a5 0) (a6 (a5 4) (a6 (a5 3) a9))))))))
 (gT 2))))))
theorem aR0:iF Y1 ["web","seeds","told","burning","around","lit"] sQ:=by
 rintro Ep xs Q ⟨ws,ls,x,ns,rfl,wb,hx,hl,q,qe⟩
 have few:=wb.few
 refine⟨_,rfl,_,rfl,ws,ls,x,ns,rfl,hx,hl,fun hs=>?_,qe⟩
 have q:=q hs
 have ln:=gH hs
 refine⟨by show 1<=1000; decide,?_,rfl,?_,?_⟩
 ·show (flat (.tup (intz ns)) && true)=true
  rw [Q8]; rfl
 ·show (flat (.tup (intz ns)) && true)=true
  rw [Q8]; rfl
 refine⟨_,rfl,_,_,_,rfl,rfl,rfl,_,ns,rfl,.inl rfl,by omega,fun ps d=>⟨rfl,d.fl,?_⟩⟩
 refine⟨_,rfl,ws,ls,rfl,wb,trivial,?_⟩
 refine⟨_,rfl,_,rfl,_,rfl,ws,ls,ps,ns,rfl,wb,d,trivial,?_⟩
 refine⟨fun n ρ=>∃ k ps,ρ = [some (.sh (flat (b8 ws ls)) (b8 ws ls)),some (.sh (flat x) x),some (.own (.lst (tups (ns :: after ws ls ns k)))),some (.own (.dK ps)),some (.sh true (.lst (iX ws.length ls))),some (.sh true (.tup (intz (nextOf ws ls (b5 ws ls ns k)))))]/\
   n=eJ ws (b5 ws ls ns k)/\DS ps (b5 ws ls ns k)/\∀ j < k,nextOf ws ls (b5 ws ls ns j) ≠ [],⟨_,0,ps,rfl,rfl,d,fun _ z=>absurd z (Nat.not_lt_zero _)⟩,?_⟩
 rintro n ρ ⟨k,ps,rfl,rfl,d,ne⟩
 refine⟨_,rfl,_,rfl,?_⟩
 cases hn:nextOf ws ls (b5 ws ls ns k) with
 | nil=>exact aP ⟨_,rfl,trivial,q k ⟨ne,hn⟩⟩
 | cons y yr=>
  refine aZ ?_
  rw [<- hn]
  have cs:=wG ws ls (b5 ws ls ns k)
  have nl:1<=(nextOf ws ls (b5 ws ls ns k)).length:=by rw [hn]; exact Nat.succ_le_succ (bh8 _)
  have nle:=aF6 ws ls (b5 ws ls ns k)
  have sl:=wO (ls:=ls) hs k
  have dl:=d.len
  have ke:=Q6 k ne
  refine⟨_,rfl,_,rfl,trivial,?_,?_⟩
  ·rw [S4,bi2]
   unfold after
   rw [be5,bo5]; omega
  refine⟨_,rfl,_,rfl,_,_,rfl,.inl rfl,by omega,fun mp dm=>⟨mp,rfl,.inl rfl,?_,?_⟩⟩
  ·have:=dm.len; omega
  have D7:DS (iA ps mp) (b5 ws ls ns (k+1)):=d.merge dm
  refine⟨_,rfl,_,rfl,_,rfl,ws,ls,_,_,rfl,wb,D7,trivial,?_⟩
  refine⟨_,?_,k+1,iA ps mp,?_,rfl,D7,fun j hj=>?_⟩
  ·show eJ ws (b5 ws ls ns k ++ nextOf ws ls (b5 ws ls ns k)) < _
   omega
  ·rw [Q4,<- List.cons_append]
   unfold tups
   rw [bh3]; rfl
  ·by_cases e:j=k
   ·rw [e,hn]; exact fun z=>nomatch z
   ·exact ne j (by omega)
def Y2 (Ep:Str->Prop):aK:=(aH (dQ 2 (qC (.dK [])))
 (aH (eI (wY (eL Ep sQ (a6 (a5 0) (a6 (a5 1) a9)))) (o8 3 4)
  (eI (dN (a5 4)) (bO 5)
   (oB 2 (a5 5) (a5 3))))
 (gT 2)))
theorem aR1:iF Y2 ["web","seeds","ranks","rank","lit","hearth"] sR:=by
 rintro Ep xs Q ⟨ws,ls,x,ns,rfl,wb,hx,hl,q,qe⟩
 have few:=wb.few
 refine⟨rfl,rfl,_,rfl,_,rfl,ws,ls,x,ns,rfl,wb,hx,hl,fun hs m en=>⟨_,.inl rfl,fun z=>(by cases z),?_⟩,qe⟩
 have q:=q hs
 have fl:=wI ws ls ns m
 have sl:=wO (ls:=ls) hs m
 have nd:=mI (ls:=ls) hs m
 generalize hrs:ns :: after ws ls ns m=rs at fl
 rw [<- fl] at sl nd
 refine⟨fun i ρ=>∃ y z u,ρ = [some (.sh (flat (b8 ws ls)) (b8 ws ls)),some (.sh (flat x) x),some (.own (.dK (jN (rs.take i)))),y,z,u],⟨none,none,none,rfl⟩,?_,?_⟩
 ·rintro i y ρ hy ⟨y0,z0,u0,rfl⟩
  obtain ⟨y,hy2,rfl⟩:=aL1 hy
  obtain ⟨r,rfl,hr⟩:=aG8 hy2
  have tk:rs.take (i+1)=rs.take i ++ [r]:=by rw [bm3,hr]; rfl
  have il:(rs.take i).length=i:=by
   have:=(bf0.mp hr).1
   rw [bj0]; omega
  have nd2:((rs.take i).flatten ++ r).Nodup/\((rs.take i).flatten ++ r).length<=rs.flatten.length:=by
   have e:rs.flatten=((rs.take i).flatten ++ r) ++ (rs.drop (i+1)).flatten:=by
    rw [<- List.flatten_singleton (l:=r),<- List.flatten_append,<- tk,<- List.flatten_append,List.take_append_drop]
   rw [e] at nd ⊢
   exact⟨(bj3.mp nd).1,by rw [be2 (as:=(rs.take i).flatten ++ r)]; omega⟩
  refine⟨_,_,rfl,_,rfl,_,rfl,fun z=>(by cases z),fun j ρ=>∃ u,ρ = [some (.sh (flat (b8 ws ls)) (b8 ws ls)),some (.sh (flat x) x),some (.own (.dK (jN (rs.take i) ++ hU i (r.take j)))),some (.sh true (.int (i:Int))),some (.sh true (.tup (intz r))),u],⟨u0,?_⟩,?_,?_⟩
  ·rw [show hU i (r.take 0) = [] from rfl,bf9]
   rfl
  ·rintro j y ρ hy ⟨u1,rfl⟩
   obtain ⟨n,rfl,hn⟩:=fB hy
   have ke:(jN (rs.take i) ++ hU i (r.take j)).map (·.1)=((rs.take i).flatten ++ r.take j).map (Sum.inl:Int->aC):=by
    rw [bh3,bh3,V2,V0]
   have nn:n ∉ (rs.take i).flatten ++ r.take j:=by
    have:=nd2.1
    rw [<- List.take_append_drop j r,List.drop_eq_getElem_cons (bf0.mp hn).1,(bf0.mp hn).2,<- bi9] at this
    exact fun z=>(bj3.mp this).2.2 n z n bf5 rfl
   have le:(jN (rs.take i) ++ hU i (r.take j)).length<=40:=by
    have e1:=congrArg List.length ke
    have e2:=nd2.2
    rw [be5,be5,be2,be2,bj0] at e1
    rw [be2] at e2
    rw [be2]
    omega
   refine⟨_,rfl,_,rfl,_,rfl,Sum.inl n,rfl,trivial,by omega,si n,?_⟩
   rw [aN5 ke nn,aN6 hn,bi9]
   rfl
  ·rintro ρ ⟨u,rfl⟩
   refine⟨some (.sh true (.int i)),some (.sh true (.tup (intz r))),u,?_⟩
   rw [aW,bi3,tk,aN4,il]
 ·rintro ρ ⟨y,z,u,rfl⟩
  rw [wX,S4,bi3,<- hrs]
  exact⟨_,rfl,trivial,q m en⟩
def Y3 (Ep:Str->Prop):aK:=(b9 (aB dW (a6 (aB x5 (a6 (eL Ep sR (a6 (a5 0) (a6 (a5 1) a9))) a9)) a9)))
theorem aR2:iF Y3 ["web","seeds"] mR:=by
 rintro Ep xs Q ⟨ws,ls,x,ns,rfl,wb,hx,hl,q,qe⟩
 have few:=wb.few
 refine⟨_,rfl,_,rfl,ws,ls,x,ns,rfl,wb,hx,hl,fun hs m en=>?_,qe⟩
 have sl:=wO (ls:=ls) hs m
 refine⟨_,b5 ws ls ns m,rfl,?_,by omega,fun ms hp ho=>⟨⟨_,_,rfl,rfl,bJ _,trivial,q hs ms m en hp ho⟩,fun ns z=>by cases z⟩⟩
 rw [V2,wI]
theorem Y4 (n:Nat):∀ (a b:List (List Int)),((((tups a).zip (tups b)).all fun p=>bZ (n+1) p.1 p.2) && (tups a).length == (tups b).length)=decide (a=b)
 | [],[]=>rfl
 | [],_ :: _=>by simp [tups]
 | _ :: _,[]=>by simp [tups]
 | x :: a,y :: b=>by
  have ih:=Y4 n a b
  have e:∀ (z:List Int) (c:List (List Int)),tups (z :: c)=PV.tup (intz z) :: tups c:=fun _ _=>rfl
  rw [e,e]
  simp only [br8,bn9,bi2,L8] at ih ⊢
  by_cases h:x=y
  ·subst h
   have:((tups a).length+1 == (tups b).length+1)=((tups a).length == (tups b).length):=by simp
   rw [this,be7 rfl,bp7,ih]
   simp
  ·rw [be8 h,br3,br3]
   simp [h]
theorem aR3 (n:Nat) (a b:List (List Int)):bZ (n+2) (.lst (tups a)) (.lst (tups b))=decide (a=b):=Y4 n a b
theorem Y5 (n:Nat):∀ (a b:List (List Int)),dI (n+2) (.lst (tups a)) (.lst (tups b))=true
 | [],_=>by unfold dI tups; simp
 | _ :: _,[]=>by unfold dI tups; simp
 | x :: a,y :: b=>by
  have ih:=Y5 n a b
  show (((PV.tup (intz x) :: tups a).zip (PV.tup (intz y) :: tups b)).all fun p=>dI (n+1) p.1 p.2)=true
  rw [br8,bn9,L9,bp7]
  exact ih
section
variable {ws : List Int} {ls : List (Int × Int)}
def cne (ws:List Int) (ls:List (Int × Int)) (S:List Int):Bool:=!decide (S = []) && decide (stay ws ls S=S)
theorem aR4 {a b:Int × Int} (e:two a=two b):a=b:=by
 unfold two at e
 injection e with e1 e2
 injection e2 with e2 _
 exact Prod.ext e1 e2
end
end Core
namespace PP
open PySem L2
section
variable {X : Cx} {a b : Expr} {ta tb : aE} {pos : Pos}
def Y6 (K:PySem.W.Frag):R2:=fun x y H Q=>∃ p us ns,∃ rs:List (List Int),y = .ref p/\H p=some (.lst us)/\aG K (fun _=>True) H x (.tup (intz ns))/\Reps K (fun _=>True) H us (rs.map fun r=>PV.tup (intz r))/\Q (.bl (decide (ns ∈ rs))) H
theorem aR5 {K:PySem.W.Frag}{M M':Addr->Prop}{H:Hp}{v:V}{m n:List Int} (r1:aG K M H v (.tup (intz m))) (r2:aG K M' H v (.tup (intz n))):m=n:=by
 obtain ⟨p,us,rfl,h1,q1⟩:=r1.sqT
 obtain ⟨p2,ws,e,h2,q2⟩:=r2.sqT
 cases e
 rw [h1] at h2
 cases h2
 have:=(q1.ofInts).symm.trans q2.ofInts
 exact (List.map_inj_right fun _ _ e=>by cases e; rfl).mp this
open Classical in
theorem aR6 (hu:X.A.units+3 < cLine):cB X (compareOp .In) (Y6 X.K):=by
 intro pins s σ H x y v u Q I rx ry h
 obtain ⟨p,us,ns,rs,rfl,hp,rn,rr,q⟩:=h
 cases ry
 obtain ⟨its,r,pl,hz⟩:=I.list (aU.of (K:=X.K) hp)
 obtain ⟨px,ws,rfl,hx,qx⟩:=rn.sqT
 have lr:=r.length
 have lp:=rr.length
 rw [be5] at lp
 let f:Value->Bool:=fun w=>decide (∃ v',b4 v' w/\aG X.K (fun _=>True) H v' (.tup (intz ns)))
 have key:∀ j (w:Value),its[j]? = some w->∃ m,rs[j]? = some m/\SeqAt.EqAt X.A.in1 s w v (decide (m=ns))/\(f w=decide (m=ns)):=fun j w hw=>by
  have hj:=(bf0.mp hw).1
  have h1:j < us.length:=by omega
  obtain ⟨w',hw',rw'⟩:=r.get (be3 h1)
  rw [hw] at hw'
  cases hw'
  obtain ⟨m',hm',rm⟩:=rr.get (be3 h1)
  rw [bf4] at hm'
  cases hm:rs[j]? with
  | none=>rw [hm] at hm'; cases hm'
  | some m=>
   rw [hm] at hm'
   cases hm'
   refine⟨m,hm,?_,?_⟩
   ·have:=N5 I 2 (A:=X.A.in1) (by show X.A.units+1+2 < cLine; omega) rm rn rw' rx (by exact L9 1 m ns)
    rw [L8 1] at this
    exact this
   ·have:(∃ v',b4 v' w/\aG X.K (fun _=>True) H v' (.tup (intz ns))) ↔ m=ns:=by
     refine⟨fun ⟨v',h1',h2'⟩=>?_,fun e=>⟨_,rw',by rw [<- e]; exact rm⟩⟩
     obtain ⟨p1,w1,e1,_,_⟩:=rm.sqT
     obtain ⟨p2,w2,e2,_,_⟩:=h2'.sqT
     rw [e1] at rw' rm
     rw [e2] at h1' h2'
     cases rw'
     cases h1'
     exact aR5 rm h2'
    show decide _=decide _
    exact br1.mpr this
 refine SeqAt.in_listAt f pl.isList (fun w hw=>?_) ⟨.bl _,H,I,rfl,?_⟩
 ·have hw:w ∈ its:=by simpa using hw
  obtain ⟨j,hj⟩:=List.getElem?_of_mem hw
  obtain ⟨m,_,h1,h2⟩:=key j w hj
  rw [h2]; exact h1
 ·have:its.toArray.any f=decide (ns ∈ rs):=by
   rw [show its.toArray.any f=its.any f by simp,bm7,List.any_eq_true,bj2]
   refine⟨fun ⟨w,hw,e⟩=>?_,fun h=>?_⟩
   ·obtain ⟨j,hj⟩:=List.getElem?_of_mem hw
    obtain ⟨m,hm,_,h2⟩:=key j w hj
    rw [h2,bj2] at e
    rw [<- e]; exact bh1 hm
   ·obtain ⟨j,hj⟩:=List.getElem?_of_mem h
    have hl:=(bf0.mp hj).1
    obtain ⟨m,hm,_,h2⟩:=key j its[j] (be3 (by omega))
    rw [hj] at hm
    cases hm
    exact⟨its[j]'(by omega),bp2 _,by rw [h2]; exact be7 rfl⟩
  rw [this]
  exact q
def xL:PV->Tg->PV->Tg->PK->Prop:=fun x _ y _ Q=>∃ ns,∃ rs:List (List Int),x = .tup (intz ns)/\y = .lst (rs.map fun r=>PV.tup (intz r))/\Q (.bl (decide (ns ∈ rs))) .fr
theorem aR7:e9 X xL (Y6 X.K):=by
 rintro W Hs H u v x y g g' Q Q' s n r1 r2 ⟨ns,rs,rfl,rfl,q⟩ k
 obtain ⟨p,us,rfl,_,h,r⟩:=r2.sqL
 exact⟨p,us,ns,rs,rfl,h,r1.same (aD.refl _) (fun _ _=>trivial),r.same (aD.refl _) (fun _ _=>trivial),k _ _ _ .fr (aD.refl _) (.bl _) q⟩
end
end PP
namespace Core
open PySem L2 PP
def far (ns S:List Int):Bool:=decide (((S.filter fun x=>decide (x ∈ ns)).length:Int)=0)
def sS:dG:=fun Ep xs Q=>∃ ws ls x ns y os,xs = [b8 ws ls,x,y]/\Wb ws ls/\cY x ns/\ns.length<=1000/\cY y os/\os.Perm (rng ws.length)/\(aY ws.length ns=true->∀ k,fK ws ls os ns k->Q (.lst (intz (aV ws ls os ns k))))/\(aY ws.length ns=false->Ep "BadSet")
def Y7 (Ep:Str->Prop):aK:=(aH (dQ 3 (aB iE (a6 (eL Ep kC (a6 (a5 0) (a6 (a5 1) a9))) a9)))
 (aH (bQ (eB (aR (aB sA (a6 (a5 0) (a6 (a5 2) a9))))) (lB Ep "BadOrder" (a6 (qC (.str "each hearth stands in an order once")) a9)) bX)
 (aH (bG 4 (aB oM (a6 (a5 0) a9)))
 (aH (dQ 5 (eG a9))
 (aH (bG 6 (aB oU (a6 (a5 0) (a6 (a5 4) (a6 (a5 3) (a6 (a5 2) a9))))))
 (aH (lW (aR (aA4 (a5 6) (qC .non)))
  (aH (jY 5 (a5 6))
  (aH (oB 3 (a5 6) (qC (.bl true)))
  (bG 6 (aB oU (a6 (a5 0) (a6 (a5 4) (a6 (a5 3) (a6 (a5 2) a9)))))))))
 (gT 5)))))))
theorem aR8:iF Y7 ["web","seeds","order","burning","around","kindled","hearth"] sS:=by
 rintro Ep xs Q ⟨ws,ls,x,ns,y,os,rfl,wb,hx,hl,hy,po,q,qe⟩
 refine⟨_,rfl,_,rfl,ws,ls,x,ns,rfl,hx,hl,fun hs=>?_,qe⟩
 have q:=q hs
 have few:=wb.few
 have ln:=gH hs
 have lo:=po.length_eq
 rw [fC] at lo
 have inn:∀ h ∈ os,h ∈ rng ws.length:=fun h hh=>po.mem_iff.mp hh
 refine⟨_,ns,rfl,.inl rfl,by omega,fun ps d=>⟨rfl,d.fl,?_⟩⟩
 refine⟨_,rfl,_,rfl,ws,ls,y,os,rfl,few,hy,po,_,rfl,aP ?_⟩
 refine⟨_,rfl,ws,ls,rfl,wb,trivial,?_⟩
 refine⟨by decide,rfl,rfl,rfl,?_⟩
 refine⟨_,rfl,_,rfl,_,rfl,_,rfl,ws,ls,ps,ns,y,os,rfl,wb,d,hy,inn,trivial,?_⟩
 have f0:os.find? (kin ws ls ns)=dJ ws ls os ns 0:=by
  show _=os.find? (kin ws ls (ns ++ []))
  rw [bf9]
 rw [f0]
 refine⟨fun n ρ=>∃ k ps,ρ = [some (.sh (flat (b8 ws ls)) (b8 ws ls)),some (.sh (flat x) x),some (.sh (flat y) y),some (.own (.dK ps)),some (.sh true (.lst (iX ws.length ls))),some (.own (.lst (intz (aV ws ls os ns k)))),some (.sh true (gJ (dJ ws ls os ns k)))]/\
   n+(aV ws ls os ns k).length=ws.length/\DS ps (ns ++ aV ws ls os ns k)/\∀ j < k,dJ ws ls os ns j ≠ none,⟨ws.length,0,ps,rfl,rfl,by rw [show aV ws ls os ns 0 = [] from rfl,bf9]; exact d,fun _ z=>absurd z (Nat.not_lt_zero _)⟩,?_⟩
 rintro n ρ ⟨k,ps,rfl,hn,d,ne⟩
 refine⟨_,rfl,rfl,_,rfl,?_⟩
 cases hf:dJ ws ls os ns k with
 | none=>exact aP ⟨_,rfl,trivial,q k ⟨ne,hf⟩⟩
 | some h=>
  have e1:=rX hf
  have l1:=oT (ls:=ls) po hs (k+1)
  have l0:=oT (ls:=ls) po hs k
  have dl:=d.len
  rw [be2] at dl
  rw [e1,be2,bi8] at l1
  refine aZ ⟨_,rfl,_,rfl,trivial,by rw [aW]; omega,?_⟩
  refine⟨ps,rfl,_,rfl,Sum.inl h,rfl,trivial,by omega,?_⟩
  have D7:DS (cM ps (Sum.inl h:aC) (.bl true)) (ns ++ aV ws ls os ns (k+1)):=by
   rw [e1,<- bi9]; exact d.put h _ rfl
  refine⟨_,rfl,_,rfl,_,rfl,_,rfl,ws,ls,_,_,y,os,rfl,wb,D7,hy,inn,trivial,?_⟩
  refine⟨n - 1,by omega,k+1,_,?_,by rw [e1,be2,bi8]; omega,D7,fun j hj=>?_⟩
  ·rw [show intz (aV ws ls os ns (k+1))=intz (aV ws ls os ns k) ++ [PV.int h] by rw [e1,cR]; rfl]; rfl
  ·by_cases e:j=k
   ·rw [e,hf]; exact fun z=>nomatch z
   ·exact ne j (by omega)
def oZ:dG:=mQ fun ws ls ns Q=>∀ k,fK ws ls (rng ws.length) ns k->Q (.tup (intz (aV ws ls (rng ws.length) ns k)))
def Y8 (Ep:Str->Prop):aK:=(b9 (aB dW (a6 (eL Ep sS (a6 (a5 0) (a6 (a5 1) (a6 (wP (aB hG (a6 (a5 0) a9))) a9)))) a9)))
theorem aR9:iF Y8 ["web","seeds"] oZ:=by
 rintro Ep xs Q ⟨ws,ls,x,ns,rfl,wb,hx,hl,q,qe⟩
 have few:=wb.few
 refine⟨_,rfl,_,rfl,_,rfl,ws,ls,rfl,_,rfl,by omega,by omega,?_⟩
 rw [T6]
 exact⟨ws,ls,x,ns,_,rng ws.length,rfl,wb,hx,hl,.inr rfl,br6 _,fun hs k en=>⟨⟨_,_,rfl,rfl,bJ _,trivial,q hs k en⟩,(fun ns e=>by cases e)⟩,qe⟩
def lE:bK:=fun xs Q=>∃ ws ls B h,xs = [b8 ws ls,.lst (intz B),.int h]/\(∀ l ∈ ls,l.1 ≠ l.2)/\ls.length<=1700/\0<=h/\h < (ws.length:Int)/\Q (.bl (kin ws ls B h))
def Y9:aK:=(aH (bQ (aR (q2 (eV false) (a5 2) (a5 1))) (b9 (qC (.bl false))) bX)
 (b9 (vV (aB cW (a6 (cL (dN (aB sN (a6 (a5 0) (a6 (a5 2) a9)))) [none,some 1] (bO 0) (aR (q2 (eV false) (a5 0) (a5 1))) (a5 0)) a9)) (cQ (cQ (a5 0) (qC (.int 0))) (a5 2)))))
theorem aS0:cI Y9 ["web","burning","hearth"] lE:=by
 rintro xs Q ⟨ws,ls,B,h,rfl,hne,hl,h0,h1,q⟩
 have gw:ws[h.toNat]? = some (ws.getD h.toNat 0):=by
  rw [bf7,be3 (by omega)]; rfl
 have ix:L2.atI (intz ws) h=some (.int (ws.getD h.toNat 0)):=by
  have:=pK (xs:=intz ws) (j:=h.toNat) (by rw [bf4,gw]; rfl)
  rwa [show ((h.toNat:Nat):Int)=h by omega] at this
 unfold kin at q
 refine⟨_,rfl,_,rfl,h,B,rfl,rfl,_,rfl,?_⟩
 show if decide (h ∈ B)=true then _ else _
 cases hb:decide (h ∈ B) with
 | true=>rw [hb] at q; exact aZ ⟨trivial,q⟩
 | false=>
  rw [hb] at q
  refine aP ⟨_,rfl,_,rfl,ws,ls,h,rfl,hne,hl,_,rfl,(fun z=>by cases z),?_,fun j acc=>acc=intz (((bE ls h).take j).filter fun x=>decide (x ∈ B)),rfl,?_,?_⟩
  ·rw [aW]; have:=qG ls h; omega
  ·rintro j z acc hz rfl
   obtain ⟨n,rfl,hn⟩:=fB hz
   have tk:=kA (p:=fun z=>decide (z ∈ B)) hn
   refine⟨_,rfl,_,rfl,n,B,rfl,rfl,_,rfl,?_⟩
   show if decide (n ∈ B)=true then _ else _
   cases hm:decide (n ∈ B) with
   | true=>
    rw [hm] at tk
    refine aZ ⟨_,rfl,trivial,?_⟩
    dsimp only
    rw [tk,cR]; rfl
   | false=>
    rw [hm] at tk
    refine aP ?_
    dsimp only
    rw [tk]; exact congrArg intz (bf9 _).symm
  ·rintro acc rfl
   rw [aW,bi3]
   refine⟨_,_,rfl,rfl,_,rfl,_,_,_,rfl,rfl,rfl,_,rfl,_,_,_,rfl,rfl,ix,_,_,rfl,rfl,trivial,?_⟩
   rw [aW]
   exact q
end Core
namespace PP
open PySem L2
section
variable {X : Cx} {a b : Expr} {ta tb : aE} {pos : Pos}
def xM:PV->Tg->PV->Tg->PK->Prop:=fun x _ y _ Q=>∃ (i:Int) (o:Option Int),x = .int i/\y=Core.gJ o/\Q (.bl (!decide (o=some i))) .fr
theorem aS1:e9 X xM tO:=by
 rintro W Hs H u v x y g g' Q Q' s n r1 r2 ⟨i,o,rfl,rfl,q⟩ k
 cases r1
 cases o with
 | none=>
  cases r2
  exact⟨rfl,k _ _ _ .fr (aD.refl _) (.bl true) q⟩
 | some j=>
  cases r2
  have e:decide (V.int i=V.int j)=decide (some j=some i):=br1.mpr ⟨fun z=>by cases z; rfl,fun z=>by cases z; rfl⟩
  refine⟨rfl,?_⟩
  rw [e]
  exact k _ _ _ .fr (aD.refl _) (.bl _) q
theorem aS2 (ha:QE X a ta) (hb:QE X b tb):QT X (.Compare a [.NotEq] [b] pos) (aR (q2 xM ta tb)):=iB zA aS1 ha hb (fE _)
end
end PP
namespace Core
open PySem L2 PP
def cS (ws:List Int) (ls:List (Int × Int)):List Int->List Int->Bool
 | _,[]=>true
 | B,h :: R=>inB ws.length h && (kin ws ls B h && cS ws ls (B ++ [h]) R)
section
variable {ws : List Int} {ls : List (Int × Int)} {B R ns : List Int} {i : Nat} {h : Int}
theorem mS:∀ {R B:List Int},cS ws ls B (R ++ [h])=(cS ws ls B R && (inB ws.length h && kin ws ls (B ++ R) h))
 | [],B=>by
  show (inB ws.length h && (kin ws ls B h && true))=(true && (inB ws.length h && kin ws ls (B ++ []) h))
  rw [Bool.and_true,bp7,bf9]
 | a :: R,B=>by
  show (inB ws.length a && (kin ws ls B a && cS ws ls (B ++ [a]) (R ++ [h])))=(inB ws.length a && (kin ws ls B a && cS ws ls (B ++ [a]) R) && (inB ws.length h && kin ws ls (B ++ a :: R) h))
  rw [mS,bi9,Bool.and_assoc,Bool.and_assoc]; rfl
theorem xN {T:List Int} (sh:gI ws ls T):∀ {R B:List Int},cS ws ls B R=true->(∀ x ∈ B,x ∈ T)->∀ x ∈ B ++ R,x ∈ T
 | [],B,_,st,x,hx=>st x (by rw [bf9] at hx; exact hx)
 | a :: R,B,g,st,x,hx=>by
  have g:(inB ws.length a && (kin ws ls B a && cS ws ls (B ++ [a]) R))=true:=g
  rw [bg1,bg1] at g
  have aT:a ∈ T:=Classical.byContradiction fun e=>by
   have:=x4 g.2.1 st e
   have ib:=g.1
   unfold inB at ib
   rw [bg1,bj2,bj2] at ib
   rw [sh a (dE.mpr ib)] at this; cases this
  refine xN sh g.2.2 (fun y hy=>(bg2.mp hy).elim (st y) fun z=>by rw [bf3.mp z]; exact aT) x ?_
  rw [bi9]; exact hx
theorem Z0:∀ {R B:List Int},cS ws ls B R=true->B.Nodup->(∀ x ∈ B,x ∈ rng ws.length)->(B ++ R).Nodup/\∀ x ∈ B ++ R,x ∈ rng ws.length
 | [],B,_,nd,st=>by rw [bf9]; exact⟨nd,st⟩
 | a :: R,B,g,nd,st=>by
  have g:(inB ws.length a && (kin ws ls B a && cS ws ls (B ++ [a]) R))=true:=g
  rw [bg1,bg1] at g
  have ib:=g.1
  unfold inB at ib
  rw [bg1,bj2,bj2] at ib
  have an:a ∉ B:=bp3 (rM g.2.1)
  have:=Z0 g.2.2 (bj3.mpr ⟨nd,bh7 _ _,fun x hx y hy z=>an (by rw [bf3.mp hy] at z; rw [<- z]; exact hx)⟩) fun x hx=>(bg2.mp hx).elim (st x) fun z=>by rw [bf3.mp z]; exact dE.mpr ib
  rw [bi9] at this; exact this
theorem sT (hs:aY ws.length ns=true) (g:cS ws ls ns R=true):(ns ++ R).Nodup/\∀ x ∈ ns ++ R,x ∈ rng ws.length:=
 Z0 g ((fU (dF hs).1).imp fun h=>Int.ne_of_lt h) fun x hx=>dE.mpr ((dF hs).2 x hx)
theorem aS3 (hs:aY ws.length ns=true) (g:cS ws ls ns R=true) (sh:gI ws ls (ns ++ R)) {m:Nat} (h2:bS ws ls ns m):(ns ++ R).Perm (b5 ws ls ns m):=by
 have s2:gI ws ls (b5 ws ls ns m):=fun h hh=>by
  have:=List.filter_eq_nil_iff.mp (show (rng ws.length).filter (kin ws ls (b5 ws ls ns m)) = [] from h2.2) h hh
  simpa using this
 refine (List.perm_ext_iff_of_nodup (sT hs g).1 (mI hs m)).mpr fun x=>⟨fun hx=>?_,fun hx=>?_⟩
 ·refine xN s2 g (fun y hy=>?_) x hx
  have:∀ m,y ∈ b5 ws ls ns m:=fun m=>by
   induction m with
   | zero=>exact hy
   | succ m ih=>exact bi4 _ ih
  exact this m
 ·exact rY sh (fun y hy=>bi4 _ hy) m x hx
end
def sU:bK:=fun xs Q=>∃ ws ls ns,∃ c:Int,xs = [b8 ws ls,.tup (intz ns),.int c]/\Wb ws ls/\(∀ l ∈ ls,l.1 ≠ l.2)/\aY ws.length ns=true/\∀ R,cS ws ls ns R=true->gI ws ls (ns ++ R)->R.length<=40->Q (.lst (intz R))
def Z1:aK:=(aH (dQ 3 (eG a9))
 (aH (bG 4 (cL (gD (aB cW (a6 (cQ (a5 0) (qC (.int 0))) a9))) [none,some 0,some 1] (bO 0) (aR (aB lE (a6 (a5 1) (a6 (aB gC (a6 (a5 2) a9)) (a6 (a5 0) a9))))) (a5 0)))
 (aH (lW (aR (q2 (jG 2 true) (a5 4) (eG a9)))
  (aH (jY 3 (cQ (a5 4) (cH (aB kD (a6 (a5 2) (a6 (aB cW (a6 (a5 3) a9)) a9))) (aB cW (a6 (a5 4) a9)))))
  (bG 4 (cL (gD (aB cW (a6 (cQ (a5 0) (qC (.int 0))) a9))) [none,some 0,some 3,some 1] (bO 0) (aR (aB lE (a6 (a5 1) (a6 (mH (aB gC (a6 (a5 3) a9)) (a5 2)) (a6 (a5 0) a9))))) (a5 0)))))
 (gT 3))))
theorem aS4:cI Z1 ["web","seeds","cell","row","able"] sU:=by
 rintro xs Q ⟨ws,ls,ns,c,rfl,wb,ne,hs,q⟩
 have few:=wb.few
 have sl:=gH hs
 refine⟨by decide,rfl,rfl,rfl,?_⟩
 refine⟨_,rfl,_,_,_,rfl,rfl,rfl,_,_,rfl,rfl,_,rfl,by rw [aW]; omega,by rw [aW]; omega,by rw [dO,aW]; omega,fun i acc=>acc=intz (((rng ws.length).take i).filter (kin ws ls ns)),rfl,?_,?_⟩
 ·rintro i y acc hy rfl
  obtain ⟨rfl,hi⟩:=gZ hy
  have hi':i < ws.length:=by rw [aW,bl4] at hi; exact hi
  have tk:=kA (p:=kin ws ls ns) (wJ hi')
  have e0:(0:Int)+(i:Int)=(i:Int):=by omega
  refine⟨_,rfl,_,rfl,_,_,rfl,rfl,bJ _,_,rfl,ws,ls,ns,_,rfl,ne,wb.most,by omega,by omega,_,rfl,?_⟩
  show if kin ws ls ns ((0:Int)+(i:Int))=true then _ else _
  rw [e0]
  cases h:kin ws ls ns (i:Int) with
  | true=>
   refine aZ ⟨_,rfl,trivial,?_⟩
   rw [h,if_pos rfl] at tk
   show _=intz (List.filter _ (List.take (i+1) _))
   rw [tk,cR]; rfl
  | false=>
   refine aP ?_
   rw [h,if_neg (by decide),bf9] at tk
   show _=intz (List.filter _ (List.take (i+1) _))
   rw [tk]
 rintro acc rfl
 rw [dO,aW,bl4,bl8 (by rw [fC]; exact be6 _)]
 refine⟨trivial,?_⟩
 refine⟨fun n ρ=>∃ R:List Int,ρ = [some (.sh (flat (b8 ws ls)) (b8 ws ls)),some (.sh (flat (.tup (intz ns))) (.tup (intz ns))),si c,some (.own (.lst (intz R))),some (.sh true (.lst (intz ((rng ws.length).filter (kin ws ls (ns ++ R))))))]/\n=ws.length - R.length/\cS ws ls ns R=true,⟨_,[],by rw [bf9]; rfl,rfl,rfl⟩,?_⟩
 rintro n ρ ⟨R,rfl,rfl,g⟩
 have go:=sT hs g
 have gl:ns.length+R.length<=ws.length:=by
  have:=go.1.length_le_of_subset go.2
  rw [fC,be2] at this; exact this
 have Am:∀ h ∈ (rng ws.length).filter (kin ws ls (ns ++ R)),h ∈ rng ws.length/\kin ws ls (ns ++ R) h=true:=fun h hh=>bl1.mp hh
 have Al:((rng ws.length).filter (kin ws ls (ns ++ R))).length<=ws.length:=by have:=bp0 (kin ws ls (ns ++ R)) (rng ws.length); rw [fC] at this; exact this
 have sh0:(rng ws.length).filter (kin ws ls (ns ++ R)) = []->gI ws ls (ns ++ R):=fun e h hh=>by
  have:=List.filter_eq_nil_iff.mp e h hh
  simpa using this
 generalize (rng ws.length).filter (kin ws ls (ns ++ R))=A at Am Al sh0
 refine⟨_,rfl,by decide,rfl,.inr ⟨_,_,rfl,rfl⟩,vP 2 A [],_,rfl,?_⟩
 show if (!bZ 3 (.lst (intz A)) (.lst (intz [])))=true then _ else _
 rw [vN]
 by_cases hA:A = []
 ·rw [be7 hA]
  exact aP ⟨_,rfl,trivial,q R g (sh0 hA) (by omega)⟩
 rw [be8 hA]
 refine aZ ?_
 have la:0 < A.length:=by cases A; exact absurd rfl hA; exact Nat.zero_lt_succ _
 refine⟨_,rfl,_,rfl,_,rfl,_,rfl,_,_,rfl,rfl,_,_,rfl,by omega,by rw [aW]; omega,fun z z0=>?_⟩
 refine⟨_,rfl,_,_,rfl,rfl,_,_,rfl,rfl,by rw [aW]; omega,?_⟩
 dsimp only
 rw [aW]
 have j0:0<=z % (A.length:Int):=bl2 _ (by omega)
 have j1:z % (A.length:Int) < (A.length:Int):=bn5 _ (by omega)
 generalize z % (A.length:Int)=j at j0 j1
 have hi:L2.atI (intz A) j=some (.int (A.getD j.toNat 0)):=wN j0 j1
 have hm:A.getD j.toNat 0 ∈ A:=by
  rw [bf7,be3 (by omega)]
  exact bp2 _
 generalize A.getD j.toNat 0=h at hi hm
 obtain ⟨h1,h2⟩:=Am h hm
 have g2:cS ws ls ns (R ++ [h])=true:=by
  rw [mS,g,h2]
  unfold inB
  rw [be7 (dE.mp h1).1,be7 (dE.mp h1).2]; rfl
 have gl2:ns.length+(R ++ [h]).length<=ws.length:=by
  have go:=sT hs g2
  have:=go.1.length_le_of_subset go.2
  rw [fC,be2] at this; exact this
 rw [be2,bi8] at gl2
 refine⟨_,_,_,rfl,rfl,hi,trivial,by rw [aW]; omega,?_⟩
 rw [show intz R ++ [PV.int h]=intz (R ++ [h]) from (cR R [h]).symm]
 refine⟨_,rfl,_,_,_,rfl,rfl,rfl,_,_,rfl,rfl,_,rfl,by rw [aW]; omega,by rw [aW]; omega,by rw [dO,aW]; omega,fun i acc=>acc=intz (((rng ws.length).take i).filter (kin ws ls (ns ++ (R ++ [h])))),rfl,?_,?_⟩
 ·rintro i y acc hy rfl
  obtain ⟨rfl,hi⟩:=gZ hy
  have hi':i < ws.length:=by rw [aW,bl4] at hi; exact hi
  have tk:=kA (p:=kin ws ls (ns ++ (R ++ [h]))) (wJ hi')
  have e0:(0:Int)+(i:Int)=(i:Int):=by omega
  refine⟨_,rfl,_,rfl,_,_,rfl,rfl,bJ _,_,rfl,_,_,rfl,rfl,bJ _,bJ _,by rw [aW,aW,be2]; show _+(_+1)<=_; omega,_,rfl,ws,ls,ns ++ (R ++ [h]),0+(i:Int),?_,ne,wb.most,by omega,by omega,_,rfl,?_⟩
  ·rw [<- cR]; rfl
  show if kin ws ls (ns ++ (R ++ [h])) ((0:Int)+(i:Int))=true then _ else _
  rw [e0]
  cases hk:kin ws ls (ns ++ (R ++ [h])) (i:Int) with
  | true=>
   refine aZ ⟨_,rfl,trivial,?_⟩
   rw [hk,if_pos rfl] at tk
   show _=intz (List.filter _ (List.take (i+1) _))
   rw [tk,cR]; rfl
  | false=>
   refine aP ?_
   rw [hk,if_neg (by decide),bf9] at tk
   show _=intz (List.filter _ (List.take (i+1) _))
   rw [tk]
 rintro acc rfl
 rw [dO,aW,bl4,bl8 (by rw [fC]; exact be6 _)]
 exact⟨trivial,ws.length - (R.length+1),by omega,R ++ [h],rfl,by rw [be2,bi8],g2⟩
def never (ws:List Int) (h:Int):List Int:=ws.set h.toNat (ws.length:Int)
section
variable {ws : List Int} {ls : List (Int × Int)} {ns : List Int} {h : Int}
theorem cT:(never ws h).length=ws.length:=bi5
theorem Z2 (wb:Wb ws ls):Wb (never ws h) ls:=⟨by rw [cT]; exact wb.few,wb.most,by rw [cT]; exact wb.links⟩
theorem aS5 (h0:0<=h) (h1:h < (ws.length:Int)) {x:Int} (x0:0<=x):(never ws h).getD x.toNat 0=if x=h then (ws.length:Int) else ws.getD x.toNat 0:=by
 unfold never
 rw [bf7,List.getElem?_set]
 by_cases e:x=h
 ·subst e
  rw [if_pos rfl,if_pos rfl,if_pos (by omega)]; rfl
 ·rw [if_neg (by omega),if_neg e,bf7]
theorem sV (wb:Wb ws ls) (ne:∀ l ∈ ls,l.1 ≠ l.2) (nd:(bE ls h).Nodup) (h0:0<=h) (h1:h < (ws.length:Int)):(bE ls h).length < ws.length:=by
 have n1:h ∉ bE ls h:=fun z=>by
  obtain ⟨l,hl,c⟩:=uV.mp z
  have:=ne l hl
  omega
 have:(h :: bE ls h).length<=(rng ws.length).length:=(List.nodup_cons.mpr ⟨n1,nd⟩).length_le_of_subset fun x hx=>by
  rcases be9.mp hx with e | hx
  ·rw [e]; exact dE.mpr ⟨h0,h1⟩
  ·exact aM7 wb hx
 rw [fC,bi2] at this
 omega
theorem sW (h0:0<=h) (h1:h < (ws.length:Int)) (lt:(bE ls h).length < ws.length) (S:List Int) {x:Int} (hx:x ∈ rng ws.length):kin (never ws h) ls S x=(!decide (some h=some x) && kin ws ls S x):=by
 unfold kin
 rw [aS5 h0 h1 (dE.mp hx).1]
 by_cases e:x=h
 ·subst e
  have:((bE ls x).filter fun z=>decide (z ∈ S)).length<=(bE ls x).length:=bp0 _ _
  rw [if_pos rfl,be7 rfl,be8 (show ¬ (ws.length:Int)<=(((bE ls x).filter fun z=>decide (z ∈ S)).length:Int) by omega),bo2]; rfl
 ·rw [if_neg e,be8 (fun z=>e (bg9 z).symm)]; rfl
end
def mU:bK:=fun xs Q=>∃ ws ls h,xs = [b8 ws ls,.int h]/\0<=h/\h < (ws.length:Int)/\Q (b8 (never ws h) ls)
def Z3:aK:=(aH (dQ 2 (aB gC (a6 (cQ (a5 0) (qC (.int 0))) a9)))
 (aH (qU 2 (a5 1) (aB hG (a6 (a5 0) a9)))
 (b9 (eS (a6 (aB dW (a6 (a5 2) a9)) (a6 (cQ (a5 0) (qC (.int 1))) a9))))))
theorem aS6:cI Z3 ["web","hearth","wants"] mU:=by
 rintro xs Q ⟨ws,ls,h,rfl,h0,h1,q⟩
 refine⟨_,rfl,_,_,_,rfl,rfl,rfl,_,_,rfl,rfl,bJ _,rfl,bJ _,?_⟩
 refine⟨_,rfl,ws,ls,rfl,_,rfl,_,rfl,_,h.toNat,rfl,?_,trivial,?_⟩
 ·unfold i4
  rw [aW,if_pos h0,if_pos h1]
 rw [show (intz ws).set h.toNat (.int (ws.length:Int))=intz (never ws h) from (List.map_set).symm]
 refine⟨_,rfl,⟨_,_,rfl,rfl,bJ _,_,rfl,_,_,_,rfl,rfl,rfl,by show 2<=1000; decide,Q7 (never ws h) ls,trivial,q⟩,fun ns e=>by cases e⟩
def mV:dG:=fun Ep xs Q=>∃ ws ls x ns h,xs = [b8 ws ls,x,.int h]/\Wb ws ls/\cY x ns/\ns.length<=1000/\(aY ws.length ns=true->(inB ws.length h=true->h ∉ ns->∀ ms m,bS (never ws h) ls ns m->ms.Perm (b5 (never ws h) ls ns m)->ms.Pairwise (· <= ·)->Q (.tup (intz ms)))/\((inB ws.length h=false ∨ h ∈ ns)->Ep "NoSuch"))/\(aY ws.length ns=false->Ep "BadSet")
def Z4 (Ep:Str->Prop):aK:=(aH (bG 3 (eL Ep kC (a6 (a5 0) (a6 (a5 1) a9))))
 (aH (bQ (i9 (eB (aR (aB mF (a6 (a5 0) (a6 (a5 2) a9))))) (aR (q2 (eV false) (a5 2) (a5 3)))) (lB Ep "NoSuch" (a6 (qC (.str "this is no hearth that could kindle")) a9)) bX)
 (b9 (eL Ep mR (a6 (aB mU (a6 (a5 0) (a6 (a5 2) a9))) (a6 (a5 3) a9))))))
theorem aS7:iF Z4 ["web","seeds","hearth","chosen"] mV:=by
 rintro Ep xs Q ⟨ws,ls,x,ns,h,rfl,wb,hx,hl,q,qe⟩
 refine⟨_,rfl,_,rfl,ws,ls,x,ns,rfl,hx,hl,fun hs=>⟨trivial,?_⟩,qe⟩
 obtain ⟨q0,q1⟩:=q hs
 have few:=wb.few
 have ln:=gH hs
 refine⟨_,rfl,_,rfl,ws,ls,h,rfl,_,rfl,?_⟩
 cases hb:inB ws.length h with
 | false=>exact aZ (aZ ⟨by show 1<=1000; decide,q1 (.inl hb)⟩)
 | true=>
  refine aP ⟨_,rfl,_,rfl,h,ns,rfl,rfl,_,rfl,?_⟩
  show if decide (h ∈ ns)=true then _ else _
  by_cases hm:h ∈ ns
  ·rw [be7 hm]
   exact aZ ⟨by show 1<=1000; decide,q1 (.inr hm)⟩
  ·rw [be8 hm]
   have ib:=hb
   unfold inB at ib
   rw [bg1,bj2,bj2] at ib
   refine aP ⟨_,rfl,_,rfl,ws,ls,h,rfl,ib.1,ib.2,_,rfl,never ws h,ls,_,ns,rfl,Z2 wb,.inl rfl,by omega,fun _ ms m en pm so=>⟨trivial,q0 hb hm ms m en pm so⟩,fun z=>?_⟩
   rw [cT,hs] at z; cases z
def aS8 (Ep:Str->Prop):aK:=(b9 (aB sB (a6 (eL Ep mR (a6 (a5 0) (a6 (a5 1) a9))) (a6 (a5 1) a9))))
theorem Z5 {ws:List Int}{ls:List (Int × Int)}{ns:List Int} (hs:aY ws.length ns=true):∀ m,∀ x ∈ b5 ws ls ns m,x ∈ rng ws.length:=fun m=>by
 induction m with
 | zero=>exact fun x hx=>dE.mpr ((dF hs).2 x hx)
 | succ m ih=>
  intro x hx
  rcases bg2.mp (show x ∈ b5 ws ls ns m ++ nextOf ws ls (b5 ws ls ns m) from hx) with hx | hx
  ·exact ih x hx
  ·exact (bl1.mp hx).1
theorem xO {ws:List Int}{ls:List (Int × Int)}{ns:List Int} (hs:aY ws.length ns=true) (m:Nat):(b5 ws ls ns m).length<=ws.length:=by
 have:=(mI (ls:=ls) hs m).length_le_of_subset (Z5 hs m)
 rw [fC] at this; exact this
def aS9:aK:=(aH (dQ 3 (eG a9))
 (aH (bG 4 (qC (.bl true)))
 (aH (lW (aR (a5 4))
  (aH (bG 4 (qC (.bl false)))
  (eI (gD (aB cW (a6 (cQ (a5 0) (qC (.int 0))) a9))) (bO 5)
   (bQ (gB (eB (aR (a5 4))) (gB (aR (q2 xM (a5 5) (a5 2))) (aR (aB lE (a6 (a5 0) (a6 (mH (a5 1) (a5 3)) (a6 (a5 5) a9))))))) (aH (jY 3 (a5 5))
    (bG 4 (qC (.bl true)))) bX))))
 (gT 3))))
end Core
namespace Raw
open PySem PySem.W PySem.Calls PyProof.Rows
theorem xP {xs:List Nat} (a:xs.Pairwise (· < ·)) {i k:Nat} (hk:k < xs.length) (h:i<=k):xs.getD i 0<=xs.getD k 0:=by
 rcases Nat.lt_or_ge i k with z | z
 ·have:=List.pairwise_iff_getElem.mp a i k (by omega) hk z
  rw [bf7,bf7,be3 (by omega),be3 hk]
  exact bj6 this
 ·rw [Nat.le_antisymm h z]; exact be6 _
theorem aT0 {xs:Array Nat}{i j:Nat} (h:i < xs.size):xs.getD i j=xs.toList.getD i 0:=by
 rw [bf7,Array.getElem?_toList,bn8,bo9 h]; rfl
theorem xQ {xs:Array Nat}{j:Nat} (a:xs.toList.Pairwise (· < ·)):∀ (fuel lo hi:Nat),lo<=hi->hi<=xs.size->hi - lo<=fuel->(∀ i,i < lo->xs.toList.getD i 0 < j)->(∀ i,hi<=i->i < xs.size->j<=xs.toList.getD i 0)->
  SetTable.below.go xs j fuel lo hi<=xs.size/\(∀ i,i < SetTable.below.go xs j fuel lo hi->xs.toList.getD i 0 < j)/\∀ i,SetTable.below.go xs j fuel lo hi<=i->i < xs.size->j<=xs.toList.getD i 0
 | 0,lo,hi,h1,h2,h3,h4,h5=>by
  have e:lo=hi:=by omega
  subst e
  exact⟨h2,h4,h5⟩
 | fuel+1,lo,hi,h1,h2,h3,h4,h5=>by
  have sz:xs.toList.length=xs.size:=bi0
  unfold SetTable.below.go
  by_cases lt:lo < hi
  ·rw [if_pos lt]
   dsimp only
   have m1:lo<=(lo+hi) / 2:=by omega
   have m2:(lo+hi) / 2 < hi:=by omega
   rw [aT0 (by omega)]
   by_cases c:xs.toList.getD ((lo+hi) / 2) 0 < j
   ·rw [if_pos c]
    exact xQ a fuel _ _ (by omega) h2 (by omega) (fun i hi'=>Nat.lt_of_le_of_lt (xP a (by omega) (by omega)) c) h5
   ·rw [if_neg c]
    exact xQ a fuel _ _ (by omega) (by omega) (by omega) h4 fun i h6 h7=>bh6 (bp1 c) (xP a (by omega) h6)
  ·rw [if_neg lt]
   have e:lo=hi:=by omega
   subst e
   exact⟨h2,h4,h5⟩
theorem aT1 {xs:Array Nat}{j:Nat} (a:xs.toList.Pairwise (· < ·)):SetTable.below xs j<=xs.size/\(∀ i,i < SetTable.below xs j->xs.toList.getD i 0 < j)/\∀ i,SetTable.below xs j<=i->i < xs.size->j<=xs.toList.getD i 0:=
 xQ a xs.size 0 xs.size (bh8 _) (be6 _) (by omega) (fun i h=>absurd h (Nat.not_lt_zero _)) fun i h1 h2=>absurd h2 (by omega)
theorem aT2 {α:Type} (xs:Array α) (p:Nat) (x:α):(SetTable.insertAt xs p x).toList=xs.toList.take p ++ x :: xs.toList.drop p:=by
 unfold SetTable.insertAt
 simp
 exact bl8 (by simp)
theorem aT3 {xs:Array Nat}{j:Nat} (a:xs.toList.Pairwise (· < ·)) (ne:xs[SetTable.below xs j]? ≠ some j):(SetTable.insertAt xs (SetTable.below xs j) j).toList.Pairwise (· < ·):=by
 obtain ⟨b1,b2,b3⟩:=aT1 (j:=j) a
 have sz:xs.toList.length=xs.size:=bi0
 rw [aT2]
 refine List.pairwise_append.mpr ⟨a.sublist (List.take_sublist _ _),List.pairwise_cons.mpr ⟨fun x hx=>?_,a.sublist (List.drop_sublist _ _)⟩,fun x hx y hy=>?_⟩
 ·obtain ⟨i,hi,e⟩:=bo7 hx
  rw [bk4] at hi
  rw [List.getElem_drop] at e
  have h1:=b3 (SetTable.below xs j) (be6 _) (by omega)
  have h2:=xP a (i:=SetTable.below xs j) (k:=SetTable.below xs j+i) (by omega) (by omega)
  have h3:xs.toList.getD (SetTable.below xs j+i) 0=x:=by rw [bf7,be3 (by omega),e]; rfl
  rcases Nat.lt_or_ge j x with z | z
  ·exact z
  ·exfalso
   have h4:xs.toList.getD (SetTable.below xs j) 0=j:=by omega
   rw [bf7,be3 (by omega)] at h4
   refine ne ?_
   rw [<- Array.getElem?_toList,be3 (by omega)]
   exact congrArg some h4
 ·have hx':x < j:=by
   obtain ⟨i,hi,e⟩:=bo7 hx
   rw [bj0] at hi
   rw [List.getElem_take] at e
   have:=b2 i (by omega)
   rw [bf7,be3 (by omega),e] at this
   exact this
  rcases be9.mp hy with e | hy
  ·rw [e]; exact hx'
  ·obtain ⟨i,hi,e⟩:=bo7 hy
   rw [bk4] at hi
   rw [List.getElem_drop] at e
   have:=b3 (SetTable.below xs j+i) (by omega) (by omega)
   rw [bf7,be3 (by omega),e] at this
   exact bf2 hx' this
structure iG (b:Bool) (t:SetTable):Prop where
 asc:t.place.toList.Pairwise (· < ·)
 dm:t.dummies = #[]
 led:t.led=b
theorem Z6 (j:Nat):SetTable.has #[] j=false:=by
 unfold SetTable.has
 simp
theorem Z7 {t:SetTable} (dm:t.dummies = #[]) {h:Int}{j:Nat}{d:Option Nat}:∀ (fuel:Nat) (p:SetTable.Probe),p.dummy=none->SetTable.probe.go t (fun _=>h+1) h fuel p=some (.empty j d)->d=none/\t.slot j = .empty
 | 0,p,_,e=>by cases e
 | fuel+1,p,hp,e=>by
  unfold SetTable.probe.go at e
  have adv:∀ p:SetTable.Probe,p.dummy=none->(t.advance p).dummy=none:=fun p hp=>by
   unfold SetTable.advance
   split <;> exact hp
  cases hs:t.slot p.j with
  | empty=>
   rw [hs] at e
   cases e
   exact⟨hp,hs⟩
  | dummy=>
   exfalso
   unfold SetTable.slot at hs
   dsimp only at hs
   rw [dm,Z6] at hs
   split at hs <;> cases hs
  | live i=>
   rw [hs] at e
   dsimp only at e
   rw [if_neg (by simp; omega)] at e
   exact Z7 dm fuel _ (adv p hp) e
theorem aT4 {t:SetTable} (dm:t.dummies = #[]) {h:Int}{sl:Nat}{d:Bool} (e:t.freeSlot h=some (sl,d)):t.slot sl = .empty:=by
 unfold SetTable.freeSlot at e
 split at e
 ·rename_i j dummy hm
  obtain ⟨e1,e2⟩:=Z7 dm _ _ rfl hm
  subst e1
  cases e
  exact e2
 ·cases e
theorem sX {b:Bool}{t:SetTable} (h:iG b t) (n:Nat):iG b (t.standIn n):=⟨by
 show (Array.range n).toList.Pairwise (· < ·)
 rw [Array.toList_range]; exact List.pairwise_lt_range,rfl,h.led⟩
theorem aT5 {b:Bool}{t:SetTable} (h:iG b t) {j:Nat} (hs:t.slot j = .empty):iG b (t.put j).1:=by
 refine⟨?_,?_,h.led⟩
 ·refine aT3 h.asc fun e=>?_
  unfold SetTable.slot at hs
  dsimp only at hs
  rw [if_pos (by rw [e]; exact bl3 _)] at hs
  cases hs
 ·show (if SetTable.has t.dummies j then SetTable.eraseAt t.dummies (SetTable.below t.dummies j) else t.dummies) = #[]
  rw [h.dm,Z6]; rfl
theorem aT6 {b:Bool}{t:SetTable} (h:iG b t) (es:Array (Int × Value)) (k:Int) (x:Value):iG b (layNew t es k x).2.1:=by
 unfold layNew
 split
 ·rename_i sl wd e
  have p:=aT5 h (aT4 h.dm e)
  show iG b (SetTable.orStandIn _ _)
  unfold SetTable.orStandIn
  split
  ·exact p
  ·exact sX p _
 ·exact sX h _
theorem aT7 {b:Bool}{t:SetTable} (h:iG b t) (es:Array (Int × Value)) (n:Nat):iG b (relayAll t es n).2.1:=by
 unfold relayAll
 split
 ·rename_i t' order e
  dsimp only
  split
  ·show iG b t'
   unfold SetTable.relaid SetTable.laid at e
   cases hc:SetTable.layClean (SetTable.sizeAbove n - 1) (es.map (·.1)) with
   | none=>rw [hc] at e; cases e
   | some owner=>
    rw [hc] at e
    cases e
    refine⟨?_,rfl,h.led⟩
    show (List.map _ _).Pairwise (· < ·)
    refine bn0.mpr (List.Pairwise.filterMap _ (R:=(· < ·)) ?_ List.pairwise_lt_range)
    intro i i' hlt x hx y hy
    cases ho:owner.getD i none with
    | none=>rw [ho] at hx; cases hx
    | some v=>
     rw [ho] at hx
     cases ho2:owner.getD i' none with
     | none=>rw [ho2] at hy; cases hy
     | some v2=>
      rw [ho2] at hy
      cases hx; cases hy
      exact hlt
  ·exact sX h _
 ·exact sX h _
theorem Z8 {us vs:List Value} (p:us.Perm vs):∀ {ns:List Int},IntsAre vs ns->∃ ms,IntsAre us ms/\ms.Perm ns:=by
 induction p with
 | nil=>intro ns h; exact⟨ns,h,br6 _⟩
 | cons x _ ih=>
  intro ns h
  cases h with
  | cons n t r=>
   obtain ⟨ms,h1,h2⟩:=ih r
   exact⟨n :: ms,.cons n t h1,h2.cons n⟩
 | swap x y l=>
  intro ns h
  cases h with
  | cons n t r=>
   cases r with
   | cons n' t' r=>
    exact⟨n' :: n :: _,.cons n' t' (.cons n t r),List.Perm.swap _ _ _⟩
 | trans _ _ ih1 ih2=>
  intro ns h
  obtain ⟨ms,h1,h2⟩:=ih2 h
  obtain ⟨ms',h3,h4⟩:=ih1 h1
  exact⟨ms',h3,h4.trans h2⟩
theorem Z9:∀ {us:List Value}{ns:List Int},IntsAre us ns->∀ (k:Int) (t:Nat),IntsAre (us ++ [.int k t]) (ns ++ [k])
 | _,_,.nil,k,t=>.cons k t .nil
 | _,_,.cons n u r,k,t=>.cons n u (Z9 r k t)
theorem sY:∀ {us:List Value}{ns:List Int},IntsAre us ns->∀ k:Int,k ∈ ns ↔ ∃ t,Value.int k t ∈ us
 | _,_,.nil,k=>⟨(fun h=>nomatch h),(fun ⟨_,h⟩=>nomatch h)⟩
 | _,_,.cons n u r,k=>by
  constructor
  ·intro h
   rcases be9.mp h with e | h
   ·exact⟨u,by rw [e]; exact bf5⟩
   ·obtain ⟨t,ht⟩:=(sY r k).mp h
    exact⟨t,bg0 _ ht⟩
  ·rintro ⟨t,h⟩
   rcases be9.mp h with e | h
   ·cases e; exact bf5
   ·exact bg0 _ ((sY r k).mpr ⟨t,h⟩)
abbrev p5 (es:Array (Int × Value)) (ep:Nat) (t:SetTable):Obj:={ cls:=.type "set",dict:=none,data:=.set es ep t,slots:=#[] }
section
variable {prog : Program} {w : World} {A : Around} {E : Value → Shared → Prop} {s : Shared}
def aT8 (prog:Program) (w:World) (es:Array (Int × Value)) (t:SetTable) (ms:List Int):Prop:=ElemsOf (intKind prog w) es.toList/\IntsAre (es.toList.map (·.2)) ms/\es.size < scanBound/\t.fits es.size=true/\iG (!w.params.followText "set-order") t
def aa0 (prog:Program) (w:World) (h:Heap) (a:Addr) (ms:List Int):Prop:=∃ es ep t,h.get? a=some (p5 es ep t)/\aT8 prog w es t ms
theorem aa1 {h:Heap}{a:Addr}{es es':Array (Int × Value)}{ep:Nat}{t t':SetTable} (ho:h.get? a=some (p5 es ep t)):(h.update a (Obj.putSet es' t')).get? a=some (p5 es' (ep+1) t'):=by
 have:=bs0 (Obj.putSet es' t') ho (by rw [putSet_of es' t' (rfl:(p5 es ep t).data=_)]; rfl)
 rw [putSet_of es' t' (rfl:(p5 es ep t).data=_)] at this
 exact this
theorem add_int {a:Addr}{ms:List Int}{k:Int}{u:Nat}{Q:Bool->Shared->Prop} (hS:aa0 prog w s.heap a ms) (room:ms.length+1 < scanBound)
  (h:∀ b h' ms',Heap.SameBut a s.heap h'->aa0 prog w h' a ms'->(k ∈ ms->ms'.Perm ms)->(k ∉ ms->ms'.Perm (ms ++ [k]))->Q b { s with heap:=h' }) :
  wpAny (model prog w) A (setAddHashed a (.int k u) ((intKind prog w).hash k)) Q E s:=by
 obtain ⟨es,ep,t,ho,hel,hi,hb,hf,tk⟩:=hS
 have key:(intKind prog w).is k (.int k u)=true:=intKind_is _ _ _ _
 have ln:ms.length=es.size:=by
  have:=IntsAre.length hi
  rw [be5,bi0] at this
  exact this.symm
 have isk:∀ v,(intKind prog w).is k v=true->∃ u,v = .int k u:=fun v hv=>Value.isInt_shape hv
 unfold setAddHashed setAddHashedIn
 refine bm0 (bd9 (wpAny_setState_of ho rfl hf ?_))
 dsimp only
 rw [byScan_of (knd:=intKind prog w) (x:=.int k u) rfl hb hel,if_pos rfl]
 unfold setAddByScan
 refine bd9 (bd9 (wpAny_rule ?_))
 refine bd9 (wpAny_setScan_of key ho rfl hf hel ?_)
 cases hr:List.findIdx? (fun e=>(intKind prog w).is k e.2) es.toList with
 | some j=>
  dsimp only
  obtain ⟨hj,hp,_⟩:=List.findIdx?_eq_some_iff_getElem.mp hr
  have km:k ∈ ms:=by
   obtain ⟨u',e⟩:=isk _ hp
   exact (sY hi k).mpr ⟨u',by rw [<- e]; exact bi7.mpr ⟨_,bp2 hj,rfl⟩⟩
  have e:s={ s with heap:=s.heap }:=by cases s; rfl
  rw [e]
  exact be4 (be4 (h _ s.heap ms (Heap.SameBut.refl a s.heap) ⟨es,ep,t,ho,hel,hi,hb,hf,tk⟩ (fun _=>br6 _) fun n=>absurd km n))
 | none=>
  dsimp only
  have km:k ∉ ms:=fun z=>by
   obtain ⟨u',hm⟩:=(sY hi k).mp z
   obtain ⟨e,he,e2⟩:=bi7.mp hm
   have:=List.findIdx?_eq_none_iff.mp hr e he
   rw [e2,intKind_is _ _ _ _] at this; cases this
  have lp:=layNew_perm t es ((intKind prog w).hash k) (.int k u)
  have lf:=layNew_fits t es ((intKind prog w).hash k) (.int k u)
  have lk:=aT6 tk es ((intKind prog w).hash k) (.int k u)
  generalize hL:layNew t es ((intKind prog w).hash k) (.int k u)=L at lp lf lk ⊢
  obtain ⟨es1,t1,wd,gave⟩:=L
  dsimp only at lp lf lk ⊢
  rw [Array.toList_push] at lp
  have el1:ElemsOf (intKind prog w) es1.toList:=(hel.push key rfl).perm lp
  have sz1:es1.size=es.size+1:=by rw [<- bi0,lp.length_eq,be2,bi0]; rfl
  obtain ⟨ms1,i1,p1⟩:∃ ms1,IntsAre (es1.toList.map (·.2)) ms1/\ms1.Perm (ms ++ [k]):=Z8 (lp.map (·.2)) (by rw [bh3]; exact Z9 hi k u)
  have hb1:es1.size < scanBound:=by omega
  have gw:∀ (b:Bool) (s₁:Shared) (Q':Unit->Shared->Prop),Q' () s₁->wpAny (model prog w) A (match b with | true=>rule "set.scan.the-table-gave-way" | false=>pure ()) Q' E s₁:=fun b s₁ Q' hq=>by
   cases b
   ·exact be4 hq
   ·exact wpAny_rule hq
  refine bd9 (gw _ _ _ ?_)
  split <;> (
   show wpAny _ _ (storeSet a es1 t1 >>= _) _ _ _
   simp only [↓reduceIte]
   refine bd9 (wpAny_storeSet_of ho rfl ?_ (fits_of_scanBound hb1))
   have ho1:=aa1 (es':=es1) (t':=t1) ho
   have sb1:=bo6 s.heap a (Obj.putSet es1 t1)
   split
   ·have rp:=relayAll_perm t1 es1 (SetTable.grown es1.size)
    have rf:=relayAll_fits t1 es1 (SetTable.grown es1.size)
    have rk:=aT7 lk es1 (SetTable.grown es1.size)
    generalize relayAll t1 es1 (SetTable.grown es1.size)=L at rp rf rk ⊢
    obtain ⟨es2,t2,gave2⟩:=L
    dsimp only at rp rf rk ⊢
    have sz2:es2.size=es1.size:=by rw [<- bi0,rp.length_eq,bi0]
    obtain ⟨ms2,i2,p2⟩:=Z8 (rp.map (·.2)) i1
    refine bd9 (gw _ _ _ ?_)
    refine bd9 (wpAny_storeSet_of ho1 rfl ?_ (fits_of_scanBound (by omega)))
    exact be4 (be4 (h _ _ ms2 (sb1.trans (bo6 _ a _)) ⟨es2,_,t2,aa1 ho1,el1.perm rp,i2,by omega,rf,rk⟩ (fun z=>absurd z km) fun _=>p2.trans p1))
   ·exact be4 (be4 (h _ _ ms1 sb1 ⟨es1,_,t1,ho1,el1,i1,hb1,lf,lk⟩ (fun z=>absurd z km) fun _=>p1)))
end
end Raw
namespace Core
open PySem L2 PP
section
variable {ws : List Int} {ls : List (Int × Int)} {A T : List Int} {m : Nat}
theorem aT9 (en:bS ws ls A m):gI ws ls (b5 ws ls A m):=fun h hh=>by
 have:=List.filter_eq_nil_iff.mp (show (rng ws.length).filter (kin ws ls (b5 ws ls A m)) = [] from en.2) h hh
 simpa using this
end
theorem aU0 {n:Nat}{ks:List Int} (up:ks.Pairwise (· < ·)) (inn:∀ x ∈ ks,0<=x/\x < (n:Int)):aY n ks=true:=by
 have nd:ks.Nodup:=up.imp fun h=>Int.ne_of_lt h
 have:=nd.length_le_of_subset fun x hx=>dE.mpr (inn x hx)
 rw [fC] at this
 have u:wT (n:Int) ks:=⟨up,inn,by omega⟩
 exact u.set
section
variable {ws : List Int} {ls : List (Int × Int)} {ns S : List Int}
theorem aa2:∀ k,(∀ j < k,nextOf ws ls (b5 ws ls ns j) ≠ [])->k<=(b5 ws ls ns k).length
 | 0,_=>bh8 _
 | k+1,h=>by
  have ih:=aa2 k fun j hj=>h j (by omega)
  have:=List.length_pos_iff.mpr (h k (by omega))
  show k+1<=(b5 ws ls ns k ++ nextOf ws ls (b5 ws ls ns k)).length
  rw [be2]; omega
theorem sZ (ws:List Int) (ls:List (Int × Int)) (ns:List Int):∃ m,bS ws ls ns m:=by
 have key:∀ k,(∃ m,bS ws ls ns m) ∨ ∀ j < k,nextOf ws ls (b5 ws ls ns j) ≠ []:=fun k=>by
  induction k with
  | zero=>exact .inr fun j hj=>(by omega)
  | succ k ih=>
   rcases ih with h | h
   ·exact .inl h
   ·by_cases e:nextOf ws ls (b5 ws ls ns k) = []
    ·exact .inl ⟨k,h,e⟩
    ·exact .inr fun j hj=>if z:j=k then z ▸ e else h j (by omega)
 rcases key (ns.length+eJ ws ns+1) with h | h
 ·exact h
 ·have:=aa2 _ h
  have:=wH ws ls ns (ns.length+eJ ws ns+1)
  omega
end
end Core
namespace PP
open PySem L2
section
variable {X : Cx} {a b e o : Expr} {ta tb te to : aE} {tr : cN} {pos p2 apos cpos : Pos} {σ : St} {H : Hp} {Q' : VK}
open Classical in
def aa3 (K:PySem.W.Frag):V->List V->Hp->VK->Prop:=fun x vs H Q=>∃ (p:Addr) (ns:List Int) (i:Int),x = .ref p/\vs = [.int i]/\aU K H p (ns.map V.int)/\i ∈ ns/\ns.length<=16000000/\Q (.int (ns.idxOf i:Nat)) H
theorem aU1:j7 X "list.index" (aa3 X.K):=by
 intro pins s σ H x vs v us Q I rx rv h
 obtain ⟨p,ns,i,rfl,rfl,hp,hi,hl,q⟩:=h
 cases rx
 obtain ⟨u,rfl,t,rfl⟩:=fX rv
 obtain ⟨its,r,pl,hz⟩:=I.list hp
 have ia:=kJ r
 have hlen:=ia.length
 have hj:ns.idxOf i < ns.length:=bq0.mpr hi
 obtain ⟨⟨cls,dd,data,sl⟩,ho,hc,n,hd⟩:=id pl.isList
 simp only at hc hd
 subst hc hd
 refine call_meets PySem.F.slot_list_index ⟨_,ho,rfl⟩ PySem.F.entry_list_index (PySem.F.args_list_index_2 _ _)
  (SeqAt.list_indexAt p its.toArray n dd sl (.int i t) (PyProof.Rows.isInt i) (ns.idxOf i) (by simpa [hlen] using hj) (by omega) ?_ ?_) ⟨ho,fun y hy=>(PyProof.Rows.eq_isInt i t ia y (by simpa using hy)).at _ _,⟨.int _,H,I.tok _,⟨_,rfl⟩,q⟩⟩
 ·show PyProof.Rows.isInt i its[ns.idxOf i]=true
  rw [PyProof.Rows.isInt_at i ia _ (by omega) hj]
  simpa using List.getElem_idxOf hj
 ·intro j hjs hlt
  show PyProof.Rows.isInt i its[j]=false
  rw [PyProof.Rows.isInt_at i ia j (by simpa using hjs) (by omega)]
  exact bq8 hlt _
def p6 (to te:aE):aE:=fun ρ Q=>to ρ fun x _=>∃ ns:List Int,x = .lst (intz ns)/\te ρ fun y _=>∃ i:Int,y = .int i/\i ∈ ns/\ns.length<=16000000/\Q (.int (ns.idxOf i:Nat)) .fr
theorem aU2 (h:LE X (p6 to te) σ H Q'):nQ X.K "list" (aa3 X.K) (LE X to) (gM (LE X te) iJ) σ H Q':=by
 obtain ⟨W,ρ,Q,px,q,k⟩:=h
 refine⟨W,ρ,_,px,q,?_⟩
 rintro v H1 x g s1 r1 ⟨ns,rfl,q1⟩
 obtain ⟨a,us,rfl,m,ea,r⟩:=r1.sqL
 obtain rfl:=r.ofInts
 refine⟨kO (aU.of ea),W,ρ,_,px.mono s1,q1,?_⟩
 rintro w H2 y gy s2 r2 ⟨i,rfl,hi,hl,q2⟩
 cases r2
 exact⟨a,ns,i,rfl,rfl,aU.of (s2 _ _ ea),hi,hl,k _ _ _ .fr (s1.trans s2) (.int _) q2⟩
theorem xR (ho:QE X o to) (he:QE X e te) (hbase:attributeBase o "index" X.env (eval o X.env)=eval o X.env:=by rfl)
  (hfew:((backTo cpos (starEach [e] X.env)).all (fun x=>!x.1) && (backToKw cpos (keywordEach [] X.env)).all (fun x=>x.1.isSome) && decide (([e]:List Expr).length+([]:List Keyword).length+(if ([]:List Keyword).isEmpty then 0 else 1) < 30))=true:=by rfl)
  (hline:(apos.endLine == cpos.line)=true:=by rfl) (hs:starEach [e] X.env=(false,eval e X.env) :: starEach [] X.env:=by rfl) (hplain:(backTo cpos (starEach [] X.env)).any (·.1)=false:=by rfl) :
  QE X (.Call (.Attribute o "index" apos) [e] [] cpos) (p6 to te):=
 c7 (lP bm4 PySem.F.slot_list_index PySem.F.type_list_index aU1 ho (cP he dP hs) hbase hfew hline hs hplain) fun _ _ _=>aU2
end
end PP
namespace Core
open PySem L2 PP
theorem aa4 {motive:List Int->Prop} (z:motive []) (sn:∀ L x,motive L->motive (L ++ [x])):∀ L,motive L:=fun L=>by
 have:∀ R:List Int,motive R.reverse:=by
  intro R
  induction R with
  | nil=>exact z
  | cons x r ih=>rw [List.reverse_cons]; exact sn _ _ ih
 have:=this L.reverse
 rwa [List.reverse_reverse] at this
theorem aa5 {ws:List Int}{ls:List (Int × Int)}{S T:List Int} (e:∀ x,x ∈ S ↔ x ∈ T) (h:Int):kin ws ls S h=kin ws ls T h:=by
 unfold kin
 have:(fun x=>decide (x ∈ S))=fun x=>decide (x ∈ T):=funext fun x=>br1.mpr (e x)
 rw [this,br1.mpr (e h)]
noncomputable def bd7 (ws:List Int) (ls:List (Int × Int)) (ns L A:List Int):List Int:=L.filter (kin ws ls (ns ++ A))
theorem aa6 {ws:List Int}{ls:List (Int × Int)}{ns:List Int}:∀ {R:List Int},cS ws ls ns R=true->∀ i,cS ws ls ns (R.take i)=true:=by
 intro R
 refine aa4 (motive:=fun R=>cS ws ls ns R=true->∀ i,cS ws ls ns (R.take i)=true) (fun _ i=>by simp [cS]) ?_ R
 intro R h ih g i
 rw [mS,bg1] at g
 by_cases hi:i<=R.length
 ·rw [List.take_append_of_le_length hi]; exact ih g.1 i
 ·rw [bl8 (by rw [be2]; show R.length+1<=i; omega),mS,bg1]; exact g
def uO (ws:List Int) (ls:List (Int × Int)) (ns R:List Int):Prop:=cS ws ls ns R=true/\gI ws ls (ns ++ R)
end Core
namespace L2
open PySem PySem.Spec PyProof.Rows PP
section
variable {prog : Program} {w : World} {A : Around} {R : Result → Shared → Prop} {I S : Addr} {n : Nat} {l : Addr} {its : Array Value} {s0 : Shared} {bt : Nat → Nat → Bool}
abbrev at_ (s:Shared) (h:Heap) (k:Nat):Shared:={ s with heap:=h,toks:=k }
end
end L2
namespace HT
open PySem PyProof.Rows
section
open PySem.SeqAt
open PySem.AutoSeq1 (wpAny_loadPart')
open PySem.MeetsSeq PySem.MeetsSeq2 PySem.MeetsSeq3
theorem aU3 {M:Model}{A:Around}{E:Value->Shared->Prop}{s:Shared}{β:Type} (f:Nat->β->Sem (ForInStep β)) (I:List Nat->β->Shared->Prop) (Q:β->Shared->Prop) {r:Std.Legacy.Range}{init:β}
  (turn:∀ a cJ b s',I (a :: cJ) b s'->wpAny M A (f a b) (fun st s''=>match st with | .yield b'=>I cJ b' s'' | .done b'=>Q b' s'') E s') (fin:∀ b s',I [] b s'->Q b s')
  (h:I (List.range' r.start r.size r.step) init s):wpAny M A (forIn r init f) Q E s:=by
 rw [Std.Legacy.Range.forIn_eq_forIn_range']
 exact wpAny_forIn_list f I Q turn fin _ _ h
theorem aU4 (l:Addr) (items:Array Value) (n:Nat) (dd:Option Addr) (sl:Array (Option Value)) (x:Value) (e:Value->Bool) (j:Nat) (hj:j < items.size)
  (hit:e items[j]=true) (hno:∀ m (hm:m < items.size),m < j->e items[m]=false) :
  Meets (Builtin.«tuple.index» ⟨[.ref l,x],[]⟩)
   (fun A R s=>s.heap.get? l=some { cls:=.type "tuple",dict:=dd,data:=.seq items n,slots:=sl }/\(∀ y,y ∈ items->SeqAt.EqAt A.in1 s y x (e y))/\R (.ok (.ret (.int j s.toks))) { s with toks:=s.toks+1 }):=
 .of_wp fun prog w A R s h=>by
  obtain ⟨hp,g,d,tk,os⟩:=s; obtain ⟨hl,he,h⟩:=h
  wp_walk using wpAny_loadPart' hl,aU3 _ (fun cJ b s'=>b.1=none/\s'=⟨hp,g,d,tk,os⟩/\∃ i,i<=j/\cJ=List.range' i (items.size - i)) _
  case turn=>
   rintro a cJ b s' ⟨hb,rfl,i,hi,hr⟩
   rw [show items.size - i=(items.size - i - 1)+1 by omega,List.range'_succ] at hr
   injection hr with h1 h2
   subst h1
   have hs:a < items.size:=by omega
   rw [show items[a]? = some items[a] from bo9 hs]
   refine bd9 (he _ (Array.getElem_mem hs) prog w _ _ ?_)
   by_cases ej:a=j
   ·subst ej
    rw [hit]
    wp_walk
    exact⟨_,rfl,h⟩
   ·rw [hno a hs (by omega)]
    wp_walk
    exact⟨rfl,rfl,a+1,by omega,by rw [h2,show items.size - a - 1=items.size - (a+1) by omega]⟩
  case fin=>
   rintro ⟨b1,b2⟩ s' ⟨hb,rfl,i,hi,hr⟩
   exfalso
   have:=congrArg List.length hr
   rw [List.length_range'] at this
   have:0=items.size - i:=this
   omega
  case h=>
   refine⟨rfl,rfl,0,by omega,?_⟩
   simp [Std.Legacy.Range.size]
end
end HT
namespace L2
open PySem PySem.Spec PyProof.Rows
section
variable {X : Cx} {o e : Expr} {es : List Expr} {to : TE} {t : TA} {name : Str} {apos cpos : Pos} {id : String} {r : V → List V → Hp → VK → Prop}
theorem aU5 {pins:List (Addr × Obj)}{σ:St}{H:Hp}{s:Shared}{p:Addr}{us:List V} (I:a8 X pins σ H s) (h:H p=some (.tup us)) :
  s.TypeIs (.ref p) "tuple"/\∀ a,(Value.ref p) = .ref a->∃ ob,s.heap.get? a=some ob/\ob.dict=none:=by
 obtain ⟨z,its,r,⟨ob,e,c,n,d⟩,nd⟩:=(show bR X.prog X.w H s.heap p (.tup us) from I.hok p _ h)
 exact⟨⟨ob,e,c⟩,fun a q=>by cases q; exact⟨ob,e,nd _ e⟩⟩
def tBT (r:V->List V->Hp->VK->Prop) (to:TE) (t:TA):TE:=fun σ H Q=>to σ H fun x H1=>(∃ p us,x = .ref p/\H1 p=some (.tup us))/\t σ H1 fun xs H2=>r x xs H2 Q
theorem aU6 (slot:Slot "tuple" name id) (hty:typeOf (.builtin id)=pure (.type "method_descriptor")) (hm:u3 X id r) (ho:PE X o to) (ha:PA X (e :: es) t)
  (hbase:attributeBase o name X.env (eval o X.env)=eval o X.env:=by rfl)
  (hfew:((backTo cpos (starEach (e :: es) X.env)).all (fun x=>!x.1) && (backToKw cpos (keywordEach [] X.env)).all (fun x=>x.1.isSome) && decide ((e :: es).length+([]:List Keyword).length+(if ([]:List Keyword).isEmpty then 0 else 1) < 30))=true:=by rfl)
  (hline:(apos.endLine == cpos.line)=true:=by rfl) (hs:starEach (e :: es) X.env=(false,eval e X.env) :: starEach es X.env:=by rfl) (hplain:(backTo cpos (starEach es X.env)).any (·.1)=false:=by rfl) :
  PE X (.Call (.Attribute o name apos) (e :: es) [] cpos) (tBT r to t):=by
 intro pins s σ H Q I h
 refine wpAny_Call_method_late hbase hfew hline rfl (aS (ho pins s σ H _ I h) fun v s1 ⟨x,H1,I1,r1,ty,q1⟩=>?_)
 obtain ⟨p,us,rfl,hp⟩:=ty
 obtain rfl:v=Value.ref p:=r1
 obtain ⟨h1,h2⟩:=aU5 I1 hp
 refine⟨"tuple",id,PySem.F.plainAttrs_tuple,slot,hty,h1,h2,?_⟩
 have hA:=ha cpos pins s1 σ H1 _ I1 q1
 rw [hs] at hA ⊢
 refine bq6 (by show (false || (backTo cpos (starEach es X.env)).any (·.1))=false; rw [hplain] <;> rfl) (bs8 ?_)
 exact aS hA fun us s2 ⟨vs,H2,I2,r2,q2⟩=>hm pins s2 σ H2 (.ref p) vs (.ref p) us Q I2 rfl r2 q2
end
end L2
namespace PP
open PySem L2
section
variable {X : Cx} {a b e o : Expr} {ta tb te to : aE} {pos p2 apos cpos : Pos} {σ : St} {H : Hp} {Q' : VK}
def aa7 (K:PySem.W.Frag):V->List V->Hp->VK->Prop:=fun x vs H Q=>∃ (p:Addr) (ns:List Int) (i:Int),x = .ref p/\vs = [.int i]/\aO K H p (ns.map V.int)/\i ∈ ns/\Q (.int (ns.idxOf i:Nat)) H
theorem aU7:j7 X "tuple.index" (aa7 X.K):=by
 intro pins s σ H x vs v us Q I rx rv h
 obtain ⟨p,ns,i,rfl,rfl,hp,hi,q⟩:=h
 cases rx
 obtain ⟨u,rfl,t,rfl⟩:=fX rv
 obtain ⟨its,r,pl,hz⟩:=I.tuple hp
 have ia:=kJ r
 have hlen:=ia.length
 have hj:ns.idxOf i < ns.length:=bq0.mpr hi
 obtain ⟨⟨cls,dd,data,sl⟩,ho,hc,n,hd⟩:=id pl
 simp only at hc hd
 subst hc hd
 refine call_meets PySem.F.slot_tuple_index ⟨_,ho,rfl⟩ PySem.F.entry_tuple_index (PySem.F.args_tuple_index_2 _ _)
  (HT.aU4 p its.toArray n dd sl (.int i t) (PyProof.Rows.isInt i) (ns.idxOf i) (by simpa [hlen] using hj) ?_ ?_) ⟨ho,fun y hy=>(PyProof.Rows.eq_isInt i t ia y (by simpa using hy)).at _ _,⟨.int _,H,I.tok _,⟨_,rfl⟩,q⟩⟩
 ·show PyProof.Rows.isInt i its[ns.idxOf i]=true
  rw [PyProof.Rows.isInt_at i ia _ (by omega) hj]
  simpa using List.getElem_idxOf hj
 ·intro j hjs hlt
  show PyProof.Rows.isInt i its[j]=false
  rw [PyProof.Rows.isInt_at i ia j (by simpa using hjs) (by omega)]
  exact bq8 hlt _
def t4 (to te:aE):aE:=fun ρ Q=>to ρ fun x _=>∃ ns:List Int,x = .tup (intz ns)/\te ρ fun y _=>∃ i:Int,y = .int i/\i ∈ ns/\Q (.int (ns.idxOf i:Nat)) .fr
theorem aU8 (h:LE X (t4 to te) σ H Q'):tBT (aa7 X.K) (LE X to) (gM (LE X te) iJ) σ H Q':=by
 obtain ⟨W,ρ,Q,px,q,k⟩:=h
 refine⟨W,ρ,_,px,q,?_⟩
 rintro v H1 x g s1 r1 ⟨ns,rfl,q1⟩
 obtain ⟨a,us,rfl,ea,r⟩:=r1.sqT
 obtain rfl:=r.ofInts
 refine⟨⟨a,_,rfl,ea⟩,W,ρ,_,px.mono s1,q1,?_⟩
 rintro w H2 y gy s2 r2 ⟨i,rfl,hi,q2⟩
 cases r2
 exact⟨a,ns,i,rfl,rfl,aO.of (s2 _ _ ea),hi,k _ _ _ .fr (s1.trans s2) (.int _) q2⟩
theorem aa8 (ho:QE X o to) (he:QE X e te) (hbase:attributeBase o "index" X.env (eval o X.env)=eval o X.env:=by rfl)
  (hfew:((backTo cpos (starEach [e] X.env)).all (fun x=>!x.1) && (backToKw cpos (keywordEach [] X.env)).all (fun x=>x.1.isSome) && decide (([e]:List Expr).length+([]:List Keyword).length+(if ([]:List Keyword).isEmpty then 0 else 1) < 30))=true:=by rfl)
  (hline:(apos.endLine == cpos.line)=true:=by rfl) (hs:starEach [e] X.env=(false,eval e X.env) :: starEach [] X.env:=by rfl) (hplain:(backTo cpos (starEach [] X.env)).any (·.1)=false:=by rfl) :
  QE X (.Call (.Attribute o "index" apos) [e] [] cpos) (t4 to te):=
 c7 (aU6 PySem.F.slot_tuple_index PySem.F.type_tuple_index aU7 ho (cP he dP hs) hbase hfew hline hs hplain) fun _ _ _=>aU8
theorem aU9 {ta tb:aE} (hu:X.A.units+3 < cLine) (ha:QE X a ta) (hb:QE X b tb) (hm:behindInMarks .In b=false:=by rfl):QT X (.Compare a [.In] [b] pos) (aR (q2 xL ta tb)):=iB (aR6 hu) aR7 ha hb hm
end
end PP
namespace Core
open PySem L2 PP
def FB (L:List (List Int)) (f:List Int->Int) (r:List Int):Prop:=∃ i,L[i]? = some r/\(∀ (j:Nat) (s:List Int),j < i->L[j]? = some s->f s < f r)/\∀ s ∈ L,f s<=f r
theorem aV0 (ls:List (Int × Int)):tups (ls.map two)=bC ls:=(rS ls).symm
section
variable {ws : List Int} {ls : List (Int × Int)} {ns R : List Int} {h : Int}
noncomputable def cC (ws:List Int) (ls:List (Int × Int)) (ns:List Int):List Int:=b5 ws ls ns (Classical.choose (sZ ws ls ns))
theorem t5:bS ws ls ns (Classical.choose (sZ ws ls ns)):=Classical.choose_spec (sZ ws ls ns)
theorem xS {m:Nat} (en:bS ws ls ns m):b5 ws ls ns m=cC ws ls ns:=by unfold cC; rw [aF7 en t5]
theorem aV1:gI ws ls (cC ws ls ns):=aT9 t5
theorem aV2 {T:List Int} (sh:gI ws ls T) (sub:∀ x ∈ ns,x ∈ T):∀ x ∈ cC ws ls ns,x ∈ T:=rY sh sub _
theorem p9 (hs:aY ws.length ns=true) {k:Nat} (en:fK ws ls (rng ws.length) ns k):(ns ++ aV ws ls (rng ws.length) ns k).Perm (cC ws ls ns):=aL9 (br6 _) hs en t5
theorem aa9 (hs:aY ws.length ns=true):∀ x ∈ ns,x ∈ cC ws ls ns:=fun x hx=>by
 unfold cC
 generalize Classical.choose (sZ ws ls ns)=m
 induction m with
 | zero=>exact hx
 | succ m ih=>exact bi4 _ ih
theorem ab0 (hs:aY ws.length ns=true) (g:cS ws ls ns R=true):∀ x ∈ ns ++ R,x ∈ cC ws ls ns:=xN aV1 g (aa9 hs)
theorem xT (hs:aY ws.length ns=true):(cC ws ls ns).Nodup:=mI hs _
theorem ab1 (kn:∀ S x,x ∈ rng ws.length->kin (never ws h) ls S x=(!decide (some h=some x) && kin ws ls S x)):∀ R:List Int,cS ws ls ns R=true->h ∉ R->cS (never ws h) ls ns R=true:=by
 refine aa4 (fun _ _=>rfl) ?_
 intro R x ih g hn
 rw [mS,bg1,bg1] at g
 obtain ⟨g1,g2,g3⟩:=g
 rw [mS,ih g1 (fun z=>hn (bi4 _ z)),cT,g2]
 have xr:x ∈ rng ws.length:=by unfold inB at g2; simp at g2; exact dE.mpr g2
 rw [kn _ x xr,g3,be8 (fun z=>hn (by rw [bg9 z]; exact bh2 _ (bf3.mpr rfl)))]
 rfl
theorem aV3 (kn:∀ S x,x ∈ rng ws.length->kin (never ws h) ls S x=(!decide (some h=some x) && kin ws ls S x)) (hs:aY ws.length ns=true) (g:cS ws ls ns R=true) {x:Int} (hx:x ∈ R) (ne:x ≠ h) (out:x ∉ cC (never ws h) ls ns):R.idxOf h < R.idxOf x:=by
 refine Nat.lt_of_not_le fun le=>out ?_
 have xl:R.idxOf x < R.length:=bq0.mpr hx
 have hn:h ∉ R.take (R.idxOf x+1):=fun z=>by
  obtain ⟨j,hj,e⟩:=bo7 z
  rw [List.getElem_take] at e
  rw [bj0] at hj
  have hjl:j < R.length:=by omega
  have ji:R.idxOf h<=j:=bp1 fun w=>by
   have:=bq8 w hjl
   rw [e] at this
   simp at this
  have ej:j=R.idxOf x:=by omega
  subst ej
  exact ne ((List.getElem_idxOf xl).symm.trans e)
 have g2:=ab1 kn _ (aa6 g (R.idxOf x+1)) hn
 refine ab0 (by rw [cT]; exact hs) g2 x (bh2 _ ?_)
 rw [List.mem_take_iff_getElem]
 exact⟨R.idxOf x,by omega,List.getElem_idxOf xl⟩
theorem aV4 (kn:∀ S x,x ∈ rng ws.length->kin (never ws h) ls S x=(!decide (some h=some x) && kin ws ls S x)) (hs:aY ws.length ns=true) (g:cS ws ls ns R=true) (hR:h ∈ R):ns.length+R.idxOf h<=(cC (never ws h) ls ns).length:=by
 have hl:R.idxOf h < R.length:=bq0.mpr hR
 have hn:h ∉ R.take (R.idxOf h):=fun z=>by
  obtain ⟨j,hj,e⟩:=bo7 z
  rw [List.getElem_take] at e
  rw [bj0] at hj
  have:=bq8 (show j < R.idxOf h by omega) (show j < R.length by omega)
  rw [e] at this
  simp at this
 have g1:=aa6 g (R.idxOf h)
 have g2:=ab1 kn _ g1 hn
 have nd:=(sT hs g1).1
 have:=nd.length_le_of_subset (ab0 (by rw [cT]; exact hs) g2)
 rw [be2,bj0] at this
 omega
end
def dH (ws:List Int) (ls:List (Int × Int)) (ns L:List Int):Prop:=L.Pairwise (· <= ·)/\(ns ++ L).Perm (cC ws ls ns)
section
variable {ws : List Int} {ls : List (Int × Int)} {ns L : List Int}
theorem dH.uniq {L':List Int} (h:dH ws ls ns L) (h':dH ws ls ns L'):L=L':=wU ((List.perm_append_left_iff ns).mp (h.2.trans h'.2.symm)) h.1 h'.1
theorem dH.mem (h:dH ws ls ns L) (hs:aY ws.length ns=true) {x:Int}:x ∈ L ↔ x ∈ cC ws ls ns/\x ∉ ns:=by
 have nd:=h.2.nodup_iff.mpr (xT hs)
 have n3:=(bj3.mp nd).2.2
 rw [<- h.2.mem_iff,bg2]
 exact⟨fun z=>⟨.inr z,fun w=>n3 x w x z rfl⟩,fun ⟨z,w⟩=>z.elim (fun y=>absurd y w) id⟩
theorem dH.len (h:dH ws ls ns L) (hs:aY ws.length ns=true):ns.length+L.length<=ws.length:=by
 have:=h.2.length_eq
 rw [be2] at this
 have l2:(cC ws ls ns).length<=ws.length:=xO hs _
 omega
theorem dH.inn (h:dH ws ls ns L) (hs:aY ws.length ns=true) {x:Int} (hx:x ∈ L):0<=x/\x < (ws.length:Int):=dE.mp (Z5 hs _ x ((h.mem hs).mp hx).1)
theorem dH.of (hs:aY ws.length ns=true) {ms:List Int} (p:ms.Perm (cC ws ls ns)) (so:ms.Pairwise (· <= ·)):dH ws ls ns (ms.filter fun z=>!decide (z ∈ ns)):=by
 refine⟨so.filter _,?_⟩
 have nm:ms.Nodup:=p.nodup_iff.mpr (xT hs)
 have nn:ns.Nodup:=(fU (dF hs).1).imp fun h e=>by omega
 refine (List.perm_ext_iff_of_nodup ?_ (xT hs)).mpr fun x=>?_
 ·refine bj3.mpr ⟨nn,nm.filter _,fun a ha b hb e=>?_⟩
  have:=(bl1.mp hb).2
  rw [<- e,be7 ha] at this
  cases this
 ·rw [bg2,bl1,p.mem_iff]
  refine⟨fun z=>z.elim (aa9 hs x) fun w=>w.1,fun z=>?_⟩
  by_cases c:x ∈ ns
  ·exact .inl c
  ·exact .inr ⟨z,by rw [be8 c]; rfl⟩
end
def kE:dG:=mQ fun ws ls ns Q=>∀ L,dH ws ls ns L->Q (.tup (intz L))
abbrev ab2 (Ep:Str->Prop):aK:=aS8 Ep
theorem aV5:iF ab2 ["web","seeds"] kE:=by
 rintro Ep xs Q ⟨ws,ls,x,ns,rfl,wb,hx,hl,q,qe⟩
 have few:=wb.few
 refine⟨_,rfl,_,rfl,ws,ls,x,ns,rfl,wb,hx,hl,fun hs ms m en pm so=>?_,qe⟩
 have ln:=gH hs
 have sf:=xO (ls:=ls) hs m
 have ml:=pm.length_eq
 rw [xS en] at pm
 exact⟨_,rfl,_,ms,_,ns,rfl,.inl rfl,hx,by omega,by omega,trivial,q hs _ (dH.of hs pm so)⟩
noncomputable def dY (ws:List Int) (ls:List (Int × Int)) (ns L:List Int) (a:Int):List (Int × Int):=(L.filter fun o=>!decide (o=a) && !decide (o ∈ cC (never ws a) ls ns)).map fun o=>(a,o)
noncomputable def cZ (ws:List Int) (ls:List (Int × Int)) (ns L:List Int):List (Int × Int):=L.flatMap (dY ws ls ns L)
def lF:dG:=mQ fun ws ls ns Q=>∀ L,dH ws ls ns L->Q (.lst (bC (cZ ws ls ns L)))
def ab3 (Ep:Str->Prop):aK:=(aH (bG 2 (eL Ep kE (a6 (a5 0) (a6 (a5 1) a9))))
 (aH (dQ 3 (eG a9))
 (aH (eI (dN (a5 2)) (bO 4)
  (aH (bG 5 (aB iE (a6 (eL Ep mV (a6 (a5 0) (a6 (a5 1) (a6 (a5 4) a9)))) a9)))
  (qT 3 (cL (dN (a5 2)) [none,some 4,some 5] (bO 0) (gB (aR (m8 (a5 0) (a5 1))) (aR (iN true (a5 0) (a5 2)))) (eS (a6 (a5 1) (a6 (a5 0) a9)))))))
 (gT 3))))
theorem ab4 {ws:List Int}{ls:List (Int × Int)}{ns L:List Int}{i:Nat}{a:Int} (h:L[i]? = some a):(L.take (i+1)).flatMap (dY ws ls ns L)=(L.take i).flatMap (dY ws ls ns L) ++ dY ws ls ns L a:=by
 rw [bm3,h,List.flatMap_append]
 show _ ++ (dY ws ls ns L a ++ [])=_
 rw [bf9]
theorem xU {ws:List Int}{ls:List (Int × Int)}{ns L:List Int} (a:Int):(dY ws ls ns L a).length<=L.length:=by
 unfold dY
 rw [be5]
 exact bp0 _ _
theorem pA {ws:List Int}{ls:List (Int × Int)}{ns L:List Int}:∀ A:List Int,(A.flatMap (dY ws ls ns L)).length<=A.length * L.length
 | []=>bh8 _
 | a :: A=>by
  have:=pA (ws:=ws) (ls:=ls) (ns:=ns) (L:=L) A
  have:=xU (ws:=ws) (ls:=ls) (ns:=ns) (L:=L) a
  rw [List.flatMap_cons,be2,bi2,Nat.succ_mul]
  omega
theorem aV6:iF ab3 ["web","seeds","later","pairs","one","still"] lF:=by
 rintro Ep xs Q ⟨ws,ls,x,ns,rfl,wb,hx,hl,q,qe⟩
 have few:=wb.few
 refine⟨_,rfl,_,rfl,ws,ls,x,ns,rfl,wb,hx,hl,fun hs L lc=>⟨trivial,?_⟩,qe⟩
 have ll:=lc.len hs
 refine⟨by decide,rfl,rfl,rfl,?_⟩
 refine⟨_,rfl,_,rfl,(fun z=>by cases z),fun i ρ=>∃ y4 y5:Option Slot,ρ = [some (.sh (flat (b8 ws ls)) (b8 ws ls)),some (.sh (flat x) x),some (.sh true (.tup (intz L))),some (.own (.lst (bC ((L.take i).flatMap (dY ws ls ns L))))),y4,y5],⟨none,none,rfl⟩,?_,?_⟩
 ·rintro i y ρ hy ⟨y4,y5,rfl⟩
  obtain ⟨a,rfl,hi⟩:=fB hy
  have il:=(bf0.mp hi).1
  have aL:=bh1 hi
  have ab:=lc.inn hs aL
  have am:=(lc.mem hs).mp aL
  have ib:inB ws.length a=true:=by unfold inB; rw [be7 ab.1,be7 ab.2]; rfl
  refine lA ?_
  refine⟨_,rfl,_,rfl,_,rfl,ws,ls,x,ns,a,rfl,wb,hx,hl,fun _=>⟨fun _ _ ms m en pm so=>?_,fun z=>?_⟩,fun z=>by rw [hs] at z; cases z⟩
  ·rw [xS en] at pm
   have ml:=pm.length_eq
   have cl:(cC (never ws a) ls ns).length<=(never ws a).length:=xO (by rw [cT]; exact hs) _
   rw [cT] at cl
   refine⟨_,ms,rfl,.inl rfl,by omega,fun ps ds=>⟨trivial,?_⟩⟩
   have bl:=pA (ws:=ws) (ls:=ls) (ns:=ns) (L:=L) (L.take i)
   have b40:(L.take i).length * L.length<=40 * 40:=Nat.mul_le_mul (by rw [bj0]; omega) (by omega)
   refine⟨_,rfl,?_⟩
   refine⟨_,rfl,_,rfl,(fun z=>by cases z),by rw [aW]; omega,fun j acc=>acc=bC (((L.take j).filter fun o=>!decide (o=a) && !decide (o ∈ cC (never ws a) ls ns)).map fun o=>(a,o)),rfl,?_,?_⟩
   ·rintro j y acc hy rfl
    obtain ⟨o,rfl,ho⟩:=fB hy
    have tk:=kA (p:=fun o=>!decide (o=a) && !decide (o ∈ cC (never ws a) ls ns)) ho
    have pm2:decide (o ∈ ms)=decide (o ∈ cC (never ws a) ls ns):=br1.mpr pm.mem_iff
    refine⟨_,rfl,_,rfl,.inl ⟨_,_,rfl,rfl,_,rfl,?_⟩⟩
    show if (!decide (o=a))=true then _ else _
    by_cases h1:o=a
    ·rw [be7 h1]
     rw [be7 h1,Bool.not_true,br3,if_neg (by decide),bf9] at tk
     refine aP (aP ?_)
     dsimp only
     rw [tk]
    ·rw [be8 h1]
     refine aZ ⟨_,rfl,_,rfl,_,.inl ⟨ps,Sum.inl o,rfl,rfl,rfl⟩,_,rfl,?_⟩
     show if (!(cA ps (Sum.inl o:aC)).isSome)=true then _ else _
     rw [ds.has o,pm2]
     by_cases h2:o ∈ cC (never ws a) ls ns
     ·rw [be7 h2]
      rw [be7 h2,Bool.not_true,bo2,if_neg (by decide),bf9] at tk
      refine aP ?_
      dsimp only
      rw [tk]
     ·rw [be8 h2]
      rw [be8 h1,be8 h2,if_pos (by decide)] at tk
      refine aZ ⟨_,rfl,_,rfl,by show 2<=1000; decide,rfl,trivial,?_⟩
      dsimp only
      rw [tk,bh3]
      unfold bC
      rw [bh3]; rfl
   ·rintro acc rfl
    rw [aW,bi3]
    have ml2:=xU (ws:=ws) (ls:=ls) (ns:=ns) (L:=L) a
    refine⟨_,.inr rfl,.inl trivial,?_,?_⟩
    ·show (bC _).length+(bC (dY ws ls ns L a)).length<=16000000
     unfold bC
     rw [be5,be5]
     omega
    ·have e:bC ((L.take (i+1)).flatMap (dY ws ls ns L))=bC ((L.take i).flatMap (dY ws ls ns L)) ++ bC (dY ws ls ns L a):=by
      rw [ab4 hi]
      unfold bC
      rw [bh3]
     dsimp only
     rw [e]
     exact⟨_,_,rfl⟩
  ·exfalso
   rcases z with z | z
   ·rw [ib] at z; cases z
   ·exact am.2 z
 ·rintro ρ ⟨y4,y5,rfl⟩
  rw [aW,bi3]
  exact⟨_,rfl,trivial,q hs L lc⟩
section
variable {ws : List Int} {ls : List (Int × Int)} {ns R : List Int} {h : Int}
theorem aV7 (kn:∀ S x,x ∈ rng ws.length->kin (never ws h) ls S x=(!decide (some h=some x) && kin ws ls S x)) (hs:aY ws.length ns=true) (hn:h ∉ ns):h ∉ cC (never ws h) ls ns:=fun z=>by
 have mT:∀ x,x ∈ (rng ws.length).filter (fun x=>!decide (x=h)) ↔ x ∈ rng ws.length/\x ≠ h:=fun x=>by rw [bl1]; simp
 have:=aV2 (ws:=never ws h) (ls:=ls) (ns:=ns) (T:=(rng ws.length).filter fun x=>!decide (x=h)) (fun x hx=>?_) (fun x hx=>(mT x).mpr ⟨dE.mpr ((dF hs).2 x hx),fun e=>hn (e ▸ hx)⟩) h z
 ·exact ((mT h).mp this).2 rfl
 ·rw [cT] at hx
  rw [kn _ x hx]
  by_cases e:x=h
  ·rw [be7 (by rw [e])]; rfl
  ·unfold kin
   rw [be7 ((mT x).mpr ⟨hx,e⟩)]
   simp
end
def kF:dG:=fun Ep xs Q=>∃ ws ls x ns a b,xs = [b8 ws ls,x,.int a,.int b]/\Wb ws ls/\(∀ l ∈ ls,l.1 ≠ l.2)/\(∀ k,(bE ls k).Nodup)/\ws.length<=40/\cY x ns/\ns.length<=1000/\
 (aY ws.length ns=true->∀ L,dH ws ls ns L->(a ∈ L->b ∈ L->a ≠ b->∀ k,fK (never ws b) ls (rng ws.length) ns k->
  (a ∈ aV (never ws b) ls (rng ws.length) ns k->∀ N2:List Int,aY ws.length N2=true->N2.Perm (ns ++ (aV (never ws b) ls (rng ws.length) ns k ++ [b]))->∀ k2,fK ws ls (rng ws.length) N2 k2->Q (.tup (intz (aV (never ws b) ls (rng ws.length) ns k ++ [b] ++ aV ws ls (rng ws.length) N2 k2))))/\
  (a ∉ aV (never ws b) ls (rng ws.length) ns k->Q .non))/\(¬ (a ∈ L/\b ∈ L/\a ≠ b)->Ep "NoSuch"))/\(aY ws.length ns=false->Ep "BadSet")
def ab5 (Ep:Str->Prop):aK:=(aH (bG 4 (eL Ep kE (a6 (a5 0) (a6 (a5 1) a9))))
 (aH (bQ (i9 (aR (q2 (eV true) (a5 2) (a5 4))) (i9 (aR (q2 (eV true) (a5 3) (a5 4))) (aR (fR (a5 2) (a5 3))))) (lB Ep "NoSuch" (a6 (qC (.str "these are no two hearths that kindle")) a9)) bX)
 (aH (bG 5 (eL Ep oZ (a6 (aB mU (a6 (a5 0) (a6 (a5 3) a9))) (a6 (a5 1) a9))))
 (aH (bQ (aR (q2 (eV true) (a5 2) (a5 5))) (b9 (qC .non)) bX)
 (aH (bG 6 (rW (a5 5) (eS (a6 (a5 3) a9))))
 (b9 (rW (a5 6) (eL Ep oZ (a6 (a5 0) (a6 (aB rV (a6 (rW (aB dW (a6 (a5 1) a9)) (a5 6)) a9)) a9))))))))))
theorem aV8:iF ab5 ["web","seeds","one","other","later","ahead","row"] kF:=by
 rintro Ep xs Q ⟨ws,ls,x,ns,a,b,rfl,wb,lne,nnd,few,hx,hl,q,qe⟩
 refine⟨_,rfl,_,rfl,ws,ls,x,ns,rfl,wb,hx,hl,fun hs L lc=>⟨trivial,?_⟩,qe⟩
 obtain ⟨q0,q1⟩:=q hs L lc
 have ll:=lc.len hs
 have no : ¬ (a ∈ L/\b ∈ L/\a ≠ b)->1<=1000/\Ep "NoSuch":=fun z=>⟨by decide,q1 z⟩
 refine⟨_,rfl,_,rfl,a,L,rfl,rfl,_,rfl,?_⟩
 show if (!decide (a ∈ L))=true then _ else _
 by_cases ha:a ∈ L
 case neg=>rw [be8 ha]; exact aZ (aZ (no fun z=>ha z.1))
 rw [be7 ha]
 refine aP ⟨_,rfl,_,rfl,b,L,rfl,rfl,_,rfl,?_⟩
 show if (!decide (b ∈ L))=true then _ else _
 by_cases hb:b ∈ L
 case neg=>rw [be8 hb]; exact aZ (aZ (no fun z=>hb z.2.1))
 rw [be7 hb]
 refine aP ⟨_,rfl,_,rfl,.inl ⟨_,_,rfl,rfl,_,rfl,?_⟩⟩
 show if decide (a=b)=true then _ else _
 by_cases hab:a=b
 case pos=>rw [be7 hab]; exact aZ (no fun z=>z.2.2 hab)
 rw [be8 hab]
 refine aP ?_
 have bb:=lc.inn hs hb
 have bm:=(lc.mem hs).mp hb
 have kn:∀ S x,x ∈ rng ws.length->kin (never ws b) ls S x=(!decide (some b=some x) && kin ws ls S x):=fun S x hx=>sW bb.1 bb.2 (sV wb lne (nnd b) bb.1 bb.2) S hx
 have hsn:aY (never ws b).length ns=true:=by rw [cT]; exact hs
 refine⟨_,rfl,_,rfl,ws,ls,b,rfl,bb.1,bb.2,_,rfl,never ws b,ls,x,ns,rfl,Z2 wb,hx,hl,fun _ k en=>⟨trivial,?_⟩,fun z=>by rw [hsn] at z; cases z⟩
 have en':fK (never ws b) ls (rng ws.length) ns k:=by have:=en; rw [cT] at this; exact this
 obtain ⟨q2,q3⟩:=q0 ha hb hab k en'
 have co:=p9 hsn en
 rw [cT] at co ⊢
 have ok:=rZ (ws:=never ws b) (ls:=ls) (ns:=ns) (os:=rng ws.length) (by rw [cT]) hsn k
 rw [cT] at ok
 have bA:b ∉ aV (never ws b) ls (rng ws.length) ns k:=fun z=>aV7 kn hs bm.2 (co.mem_iff.mp (bh2 _ z))
 generalize aV (never ws b) ls (rng ws.length) ns k=A at *
 have nd2:(ns ++ (A ++ [b])).Nodup:=by
  rw [<- bi9]
  refine bj3.mpr ⟨ok.1,bh7 _ _,fun x hx y hy e=>?_⟩
  rw [bf3.mp hy] at e
  rw [e] at hx
  rcases bg2.mp hx with z | z
  ·exact bm.2 z
  ·exact bA z
 have in2:∀ x ∈ ns ++ (A ++ [b]),x ∈ rng ws.length:=fun x hx=>by
  rw [<- bi9] at hx
  rcases bg2.mp hx with z | z
  ·exact ok.2 x z
  ·rw [bf3.mp z]; exact dE.mpr bb
 have l2:=nd2.length_le_of_subset in2
 rw [fC,be2,be2] at l2
 have l2:ns.length+(A.length+1)<=ws.length:=l2
 refine⟨_,rfl,_,rfl,a,A,rfl,rfl,_,rfl,?_⟩
 show if (!decide (a ∈ A))=true then _ else _
 by_cases haA:a ∈ A
 case neg=>rw [be8 haA]; exact aZ ⟨trivial,q3 haA⟩
 rw [be7 haA]
 refine aP ?_
 refine⟨_,rfl,_,rfl,by show 1<=1000; decide,rfl,intz A,intz [b],rfl,rfl,bJ _,bJ _,by rw [aW,aW]; show A.length+1<=_; omega,?_⟩
 rw [<- cR]
 refine⟨trivial,?_⟩
 refine⟨_,rfl,_,rfl,_,rfl,⟨_,_,rfl,hx.seqT,bJ _,?_⟩,hx.noscr⟩
 refine⟨_,rfl,intz ns,intz (A ++ [b]),rfl,rfl,bJ _,bJ _,by rw [aW,aW,be2]; show ns.length+(A.length+1)<=_; omega,?_⟩
 rw [<- cR]
 refine⟨_,ns ++ (A ++ [b]),rfl,rfl,by rw [be2,be2]; show ns.length+(A.length+1) < _; omega,fun ms pm so=>?_⟩
 have ms1:aY ws.length ms=true:=aU0 ((so.and (pm.nodup_iff.mpr nd2)).imp fun {u v} z=>by have:=z.1; have:=z.2; omega) fun x hx=>dE.mp (in2 x (pm.mem_iff.mp hx))
 have ml:=gH ms1
 refine⟨ws,ls,_,ms,rfl,wb,.inr rfl,by omega,fun _ k2 en2=>?_,fun z=>by rw [ms1] at z; cases z⟩
 have l3:=oT (ws:=ws) (ls:=ls) (ns:=ms) (os:=rng ws.length) (br6 _) ms1 k2
 refine⟨intz (A ++ [b]),intz (aV ws ls (rng ws.length) ms k2),rfl,rfl,bJ _,bJ _,by rw [aW,aW,be2]; show A.length+1+_<=_; omega,?_⟩
 rw [<- cR]
 exact⟨trivial,q2 haA ms ms1 pm k2 en2⟩
section
variable {ws : List Int} {ls : List (Int × Int)} {os ns : List Int}
theorem ab6 (po:os.Perm (rng ws.length)) (nd:ns.Nodup) (ir:∀ x ∈ ns,x ∈ rng ws.length):∀ k,(ns ++ aV ws ls os ns k).Nodup/\∀ x ∈ ns ++ aV ws ls os ns k,x ∈ rng ws.length
 | 0=>by
  rw [show aV ws ls os ns 0 = [] from rfl,bf9]
  exact⟨nd,ir⟩
 | k+1=>by
  obtain ⟨i1,i2⟩:=ab6 po nd ir k
  cases e:dJ ws ls os ns k with
  | none=>
   have:aV ws ls os ns (k+1)=aV ws ls os ns k:=by
    show aV ws ls os ns k ++ (dJ ws ls os ns k).toList=_
    rw [e]; exact bf9 _
   rw [this]; exact⟨i1,i2⟩
  | some h=>
   obtain ⟨n1,n2⟩:=U6 e
   rw [rX e,<- bi9]
   refine⟨bj3.mpr ⟨i1,bh7 _ _,fun x hx y hy=>?_⟩,fun x hx=>?_⟩
   ·rw [bf3.mp hy]; intro z; subst z; exact n2 hx
   ·rcases bg2.mp hx with hx | hx
    ·exact i2 x hx
    ·rw [bf3.mp hx]; exact po.mem_iff.mp n1
theorem ab7 (po:os.Perm (rng ws.length)) (nd:ns.Nodup) (ir:∀ x ∈ ns,x ∈ rng ws.length) (k:Nat):ns.length+(aV ws ls os ns k).length<=ws.length:=by
 obtain ⟨i1,i2⟩:=ab6 (ls:=ls) po nd ir k
 have:=i1.length_le_of_subset i2
 rw [fC,be2] at this
 exact this
theorem xV {A B:List Int} (e:∀ x,x ∈ A ↔ x ∈ B):∀ k,aV ws ls os A k=aV ws ls os B k
 | 0=>rfl
 | k+1=>by
  have ih:=xV e k
  show aV ws ls os A k ++ (os.find? (kin ws ls (A ++ aV ws ls os A k))).toList=aV ws ls os B k ++ (os.find? (kin ws ls (B ++ aV ws ls os B k))).toList
  have:kin ws ls (A ++ aV ws ls os A k)=kin ws ls (B ++ aV ws ls os B k):=funext fun h=>aa5 (fun x=>by rw [bg2,bg2,e x,ih]) h
  rw [this,ih]
theorem aV9 {A B:List Int} (e:∀ x,x ∈ A ↔ x ∈ B) {k:Nat} (h:fK ws ls os A k):fK ws ls os B k:=by
 have f:∀ j,dJ ws ls os A j=dJ ws ls os B j:=fun j=>by
  unfold dJ
  have:kin ws ls (A ++ aV ws ls os A j)=kin ws ls (B ++ aV ws ls os B j):=funext fun h=>aa5 (fun x=>by rw [bg2,bg2,e x,xV e]) h
  rw [this]
 exact⟨fun j hj=>by rw [<- f j]; exact h.1 j hj,by rw [<- f k]; exact h.2⟩
end
def jP:bK:=fun xs Q=>∃ ws ls ns o wz,xs = [b8 ws ls,.lst (intz ns),gJ o]/\Wb ws ls/\(∀ l ∈ ls,l.1 ≠ l.2)/\ns.Nodup/\(∀ x ∈ ns,x ∈ rng ws.length)/\wz.length=ws.length/\(∀ S x,x ∈ rng ws.length->kin wz ls S x=(!decide (o=some x) && kin ws ls S x))/\∀ k,fK wz ls (rng ws.length) ns k->Q (.lst (intz (aV wz ls (rng ws.length) ns k)))
abbrev ab8:aK:=aS9
theorem aW0:cI ab8 ["web","burning","barred","row","going","hearth"] jP:=by
 rintro xs Q ⟨ws,ls,ns,o,wz,rfl,wb,hne,nd0,ir0,hz,kz,q⟩
 have few:=wb.few
 have po:(rng ws.length).Perm (rng wz.length):=by rw [hz]
 have hsz:∀ x ∈ ns,x ∈ rng wz.length:=by rw [hz]; exact ir0
 refine⟨by decide,rfl,rfl,rfl,trivial,?_⟩
 refine⟨fun n ρ=>∃ (k:Nat) (g:Bool) (y:Option Slot),ρ = [some (.sh (flat (b8 ws ls)) (b8 ws ls)),some (.sh (flat (.lst (intz ns))) (.lst (intz ns))),some (.sh (flat (gJ o)) (gJ o)),some (.own (.lst (intz (aV wz ls (rng ws.length) ns k)))),some (.sh true (.bl g)),y]/\n+(aV wz ls (rng ws.length) ns k).length=ws.length+(if g=true then 1 else 0)/\(∀ j < k,dJ wz ls (rng ws.length) ns j ≠ none)/\(g=false->dJ wz ls (rng ws.length) ns k=none),
  ⟨ws.length+1,0,true,none,rfl,rfl,fun _ z=>absurd z (Nat.not_lt_zero _),fun z=>by cases z⟩,?_⟩
 rintro n ρ ⟨k,g,y,rfl,hn,nn,hg⟩
 have l0:=ab7 (ls:=ls) po nd0 hsz k
 refine⟨_,rfl,_,rfl,?_⟩
 cases g with
 | false=>exact aP ⟨_,rfl,trivial,q k ⟨nn,hg rfl⟩⟩
 | true=>
  refine aZ ⟨trivial,?_⟩
  refine⟨_,rfl,_,_,_,rfl,rfl,rfl,_,_,rfl,rfl,_,rfl,by rw [aW]; omega,by rw [aW]; omega,fun i ρ=>∃ y:Option Slot,ρ = [some (.sh (flat (b8 ws ls)) (b8 ws ls)),some (.sh (flat (.lst (intz ns))) (.lst (intz ns))),some (.sh (flat (gJ o)) (gJ o)),some (.own (.lst (intz (aV wz ls (rng ws.length) ns k ++ (((rng ws.length).take i).find? (kin wz ls (ns ++ aV wz ls (rng ws.length) ns k))).toList)))),some (.sh true (.bl (((rng ws.length).take i).find? (kin wz ls (ns ++ aV wz ls (rng ws.length) ns k))).isSome)),y],⟨y,?_⟩,?_,?_⟩
  ·show [_,_,_,_,_,_] = [_,_,_,some (Slot.own (.lst (intz (aV wz ls (rng ws.length) ns k ++ [])))),_,_]
   rw [bf9]; rfl
  ·rintro i z ρ hz ⟨y0,rfl⟩
   obtain ⟨rfl,hi⟩:=gZ hz
   have hi:i < ws.length:=by rw [aW,bl4] at hi; exact hi
   refine lA ?_
   rw [Int.zero_add]
   have tk:(rng ws.length).take (i+1)=(rng ws.length).take i ++ [(i:Int)]:=by
    rw [bm3]
    have:(rng ws.length)[i]? = some ((i:Nat):Int):=by unfold rng; rw [bf4,List.getElem?_range hi]; rfl
    rw [this]; rfl
   have fd:((rng ws.length).take (i+1)).find? (kin wz ls (ns ++ aV wz ls (rng ws.length) ns k))=(((rng ws.length).take i).find? (kin wz ls (ns ++ aV wz ls (rng ws.length) ns k))).or ([(i:Int)].find? (kin wz ls (ns ++ aV wz ls (rng ws.length) ns k))):=by rw [tk,List.find?_append]
   refine⟨_,rfl,_,rfl,?_⟩
   cases hf:((rng ws.length).take i).find? (kin wz ls (ns ++ aV wz ls (rng ws.length) ns k)) with
   | some h=>
    rw [hf] at fd
    refine aP (aP ⟨si (i:Int),?_⟩)
    rw [fd]; rfl
   | none=>
    rw [hf] at fd
    have kzi:=kz (ns ++ aV wz ls (rng ws.length) ns k) i (dE.mpr ⟨by omega,by omega⟩)
    refine aZ ⟨_,rfl,_,rfl,i,o,rfl,rfl,_,rfl,?_⟩
    have no:kin wz ls (ns ++ aV wz ls (rng ws.length) ns k) (i:Int)=false->∃ y0,[some (Slot.sh (flat (b8 ws ls)) (b8 ws ls)),some (.sh (flat (.lst (intz ns))) (.lst (intz ns))),some (.sh (flat (gJ o)) (gJ o)),some (.own (.lst (intz (aV wz ls (rng ws.length) ns k ++ [])))),some (.sh true (.bl false)),si (i:Int)] = [some (.sh (flat (b8 ws ls)) (b8 ws ls)),some (.sh (flat (.lst (intz ns))) (.lst (intz ns))),some (.sh (flat (gJ o)) (gJ o)),some (.own (.lst (intz (aV wz ls (rng ws.length) ns k ++ (((rng ws.length).take (i+1)).find? (kin wz ls (ns ++ aV wz ls (rng ws.length) ns k))).toList)))),some (.sh true (.bl (((rng ws.length).take (i+1)).find? (kin wz ls (ns ++ aV wz ls (rng ws.length) ns k))).isSome)),y0]:=fun hk=>by
     have : [(i:Int)].find? (kin wz ls (ns ++ aV wz ls (rng ws.length) ns k))=none:=by rw [bl9,hk]; rfl
     rw [this] at fd
     refine⟨si (i:Int),?_⟩
     rw [fd]; rfl
    cases ho:decide (o=some (i:Int)) with
    | true=>
     rw [ho] at kzi
     exact aP (aP (no kzi))
    | false=>
    rw [ho,Bool.not_false,bp7] at kzi
    refine aZ ?_
    refine⟨_,rfl,_,rfl,_,rfl,_,_,rfl,rfl,bJ _,bJ _,by rw [aW,aW,be2]; show _+(_+0)<=_; omega,?_⟩
    refine⟨_,rfl,ws,ls,ns ++ aV wz ls (rng ws.length) ns k,i,?_,hne,wb.most,by omega,by omega,_,rfl,?_⟩
    ·show [b8 ws ls,PV.lst (intz ns ++ intz (aV wz ls (rng ws.length) ns k ++ [])),PV.int i] = [b8 ws ls,PV.lst (intz (ns ++ aV wz ls (rng ws.length) ns k)),PV.int i]
     rw [bf9,cR]
    rw [<- kzi]
    cases hk:kin wz ls (ns ++ aV wz ls (rng ws.length) ns k) (i:Int) with
    | false=>exact aP (no hk)
    | true=>
     have : [(i:Int)].find? (kin wz ls (ns ++ aV wz ls (rng ws.length) ns k))=some (i:Int):=by rw [bl9,hk]
     rw [this] at fd
     refine aZ ⟨_,rfl,_,rfl,trivial,by rw [aW,be2]; show _+0 < _; omega,trivial,si (i:Int),?_⟩
     rw [fd]
     show [_,_,_,some (Slot.own (.lst (intz (aV wz ls (rng ws.length) ns k ++ []) ++ [PV.int i]))),_,_] = [_,_,_,some (Slot.own (.lst (intz (aV wz ls (rng ws.length) ns k ++ [(i:Int)])))),_,_]
     rw [bf9,cR]; rfl
  ·rintro ρ ⟨y,rfl⟩
   rw [dO,aW,bl4,bl8 (by rw [fC]; exact be6 _)]
   have ef:(rng ws.length).find? (kin wz ls (ns ++ aV wz ls (rng ws.length) ns k))=dJ wz ls (rng ws.length) ns k:=rfl
   rw [ef]
   rw [if_pos rfl] at hn
   cases hf:dJ wz ls (rng ws.length) ns k with
   | none=>
    refine⟨n - 1,by omega,k,false,y,?_,?_,nn,fun _=>hf⟩
    ·show [_,_,_,some (Slot.own (.lst (intz (aV wz ls (rng ws.length) ns k ++ [])))),_,_]=_
     rw [bf9]; rfl
    ·show _=ws.length+0
     omega
   | some h=>
    have e1:=rX hf
    have l1:=ab7 (ls:=ls) po nd0 hsz (k+1)
    rw [e1,be2,bi8] at l1
    refine⟨n - 1,by omega,k+1,true,y,?_,?_,fun j hj=>?_,fun z=>by cases z⟩
    ·rw [e1]; rfl
    ·rw [e1,be2,bi8,if_pos rfl]; omega
    ·by_cases e:j=k
     ·rw [e,hf]; exact fun z=>nomatch z
     ·exact nn j (by omega)
def mW:dG:=fun Ep xs Q=>∃ ws ls x ns h,xs = [b8 ws ls,x,.int h]/\Wb ws ls/\cY x ns/\ns.length<=1000/\(aY ws.length ns=true->∀ L,dH ws ls ns L->(h ∈ L->Q (.int (((cC (never ws h) ls ns).length:Int) - (ns.length:Int))))/\(h ∉ L->Ep "NoSuch"))/\(aY ws.length ns=false->Ep "BadSet")
def ab9 (Ep:Str->Prop):aK:=(aH (bQ (aR (q2 (eV true) (a5 2) (eL Ep kE (a6 (a5 0) (a6 (a5 1) a9))))) (lB Ep "NoSuch" (a6 (qC (.str "this is no hearth that kindles")) a9)) bX)
 (b9 (kU (aB cW (a6 (eL Ep mV (a6 (a5 0) (a6 (a5 1) (a6 (a5 2) a9)))) a9)) (aB cW (a6 (a5 1) a9)))))
theorem aW1:iF ab9 ["web","seeds","hearth"] mW:=by
 rintro Ep xs Q ⟨ws,ls,x,ns,h,rfl,wb,hx,hl,q,qe⟩
 refine⟨_,rfl,_,rfl,_,rfl,ws,ls,x,ns,rfl,wb,hx,hl,fun hs L lc=>?_,qe⟩
 obtain ⟨q0,q1⟩:=q hs L lc
 have ln:=gH hs
 refine⟨h,_,rfl,rfl,_,rfl,?_⟩
 show if (!decide (h ∈ L))=true then _ else _
 by_cases hm:h ∈ L
 ·rw [be7 hm]
  have hb:=lc.inn hs hm
  refine aP ⟨_,rfl,_,rfl,_,rfl,ws,ls,x,ns,h,rfl,wb,hx,hl,fun _=>⟨fun _ _ ms m en pm so=>?_,fun z=>?_⟩,fun z=>by rw [hs] at z; cases z⟩
  ·rw [xS en] at pm
   refine⟨_,_,rfl,rfl,_,rfl,_,_,rfl,hx.len,_,_,rfl,rfl,trivial,?_⟩
   have:=q0 hm
   rw [<- pm.length_eq] at this
   dsimp only
   rw [aW]; exact this
  ·exfalso
   rcases z with z | z
   ·unfold inB at z
    rw [be7 hb.1,be7 hb.2] at z; cases z
   ·exact ((lc.mem hs).mp hm).2 z
 ·rw [be8 hm]
  exact aZ ⟨by show 1<=1000; decide,q1 hm⟩
def t6:bK:=fun xs Q=>∃ ws ls ns L,xs = [b8 ws ls,.tup (intz ns),.lst (intz L)]/\Wb ws ls/\(∀ l ∈ ls,l.1 ≠ l.2)/\(∀ k,(bE ls k).Nodup)/\aY ws.length ns=true/\dH ws ls ns L/\Q (.lst (bC (cZ ws ls ns L)))
def ac0:aK:=(aH (dQ 3 (eG a9))
 (aH (eI (dN (a5 2)) (bO 4)
  (aH (bG 5 (aB jP (a6 (a5 0) (a6 (aB gC (a6 (a5 1) a9)) (a6 (a5 4) a9)))))
  (qT 3 (cL (dN (aB qV (a6 (a5 2) a9))) [none,some 4,some 5] (bO 0) (gB (aR (m8 (a5 0) (a5 1))) (aR (q2 (eV true) (a5 0) (a5 2)))) (eS (a6 (a5 1) (a6 (a5 0) a9)))))))
 (gT 3)))
theorem aW2:cI ac0 ["web","seeds","some","due","one","row"] t6:=by
 rintro xs Q ⟨ws,ls,ns,L,rfl,wb,lne,nnd,hs,lc,q⟩
 have few:=wb.few
 have ll:=lc.len hs
 refine⟨by decide,rfl,rfl,rfl,?_⟩
 refine⟨_,rfl,_,rfl,(fun z=>?_),fun i ρ=>∃ y4 y5:Option Slot,ρ = [some (.sh (flat (b8 ws ls)) (b8 ws ls)),some (.sh (flat (.tup (intz ns))) (.tup (intz ns))),some (.sh (flat (.lst (intz L))) (.lst (intz L))),some (.own (.lst (bC ((L.take i).flatMap (dY ws ls ns L))))),y4,y5],⟨none,none,rfl⟩,?_,?_⟩
 ·cases z
 ·rintro i y ρ hy ⟨y4,y5,rfl⟩
  obtain ⟨a,rfl,hi⟩:=fB hy
  have il:=(bf0.mp hi).1
  have aL:=bh1 hi
  have ab:=lc.inn hs aL
  have am:=(lc.mem hs).mp aL
  have kn:∀ S x,x ∈ rng ws.length->kin (never ws a) ls S x=(!decide (some a=some x) && kin ws ls S x):=fun S x hx=>sW ab.1 ab.2 (sV wb lne (nnd a) ab.1 ab.2) S hx
  have hsn:aY (never ws a).length ns=true:=by rw [cT]; exact hs
  refine lA ?_
  refine⟨_,rfl,_,rfl,_,_,rfl,rfl,bJ _,_,rfl,ws,ls,ns,some a,never ws a,rfl,wb,lne,(fU (dF hs).1).imp fun h e=>by omega,fun x hx=>dE.mpr ((dF hs).2 x hx),cT,kn,fun k en=>⟨trivial,?_⟩⟩
  have en2:fK (never ws a) ls (rng (never ws a).length) ns k:=by rw [cT]; exact en
  have co:=p9 hsn en2
  rw [cT] at co
  have rowm:∀ o ∈ L,(o ∈ aV (never ws a) ls (rng ws.length) ns k ↔ o ∈ cC (never ws a) ls ns):=fun o ho=>by
   rw [<- co.mem_iff,bg2]
   exact⟨.inr,fun z=>z.elim (fun w=>absurd w ((lc.mem hs).mp ho).2) id⟩
  generalize aV (never ws a) ls (rng ws.length) ns k=row at rowm
  have bl:=pA (ws:=ws) (ls:=ls) (ns:=ns) (L:=L) (L.take i)
  have b40:(L.take i).length * L.length<=40 * 40:=Nat.mul_le_mul (by rw [bj0]; omega) (by omega)
  refine⟨_,rfl,_,rfl,L,rfl,by omega,fun ms pm so=>?_⟩
  obtain rfl:ms=L:=wU pm so lc.1
  refine⟨_,rfl,(fun z=>by cases z),by rw [aW]; omega,fun j acc=>acc=bC (((ms.take j).filter fun o=>!decide (o=a) && !decide (o ∈ cC (never ws a) ls ns)).map fun o=>(a,o)),rfl,?_,?_⟩
  ·rintro j y acc hy rfl
   obtain ⟨o,rfl,ho⟩:=fB hy
   have tk:=kA (p:=fun o=>!decide (o=a) && !decide (o ∈ cC (never ws a) ls ns)) ho
   have pm2:decide (o ∈ row)=decide (o ∈ cC (never ws a) ls ns):=br1.mpr (rowm o (bh1 ho))
   refine⟨_,rfl,_,rfl,.inl ⟨_,_,rfl,rfl,_,rfl,?_⟩⟩
   show if (!decide (o=a))=true then _ else _
   by_cases h1:o=a
   ·rw [be7 h1]
    rw [be7 h1,Bool.not_true,br3,if_neg (by decide),bf9] at tk
    refine aP (aP ?_)
    dsimp only
    rw [tk]
   ·rw [be8 h1]
    refine aZ ⟨_,rfl,_,rfl,o,row,rfl,rfl,_,rfl,?_⟩
    show if (!decide (o ∈ row))=true then _ else _
    rw [pm2]
    by_cases h2:o ∈ cC (never ws a) ls ns
    ·rw [be7 h2]
     rw [be7 h2,Bool.not_true,bo2,if_neg (by decide),bf9] at tk
     refine aP ?_
     dsimp only
     rw [tk]
    ·rw [be8 h2]
     rw [be8 h1,be8 h2,if_pos (by decide)] at tk
     refine aZ ⟨_,rfl,_,rfl,by show 2<=1000; decide,rfl,trivial,?_⟩
     dsimp only
     rw [tk,bh3]
     unfold bC
     rw [bh3]; rfl
  ·rintro acc rfl
   rw [aW,bi3]
   have ml2:=xU (ws:=ws) (ls:=ls) (ns:=ns) (L:=ms) a
   refine⟨_,.inr rfl,.inl trivial,?_,?_⟩
   ·show (bC _).length+(bC (dY ws ls ns ms a)).length<=16000000
    unfold bC
    rw [be5,be5]
    omega
   ·have e:bC ((ms.take (i+1)).flatMap (dY ws ls ns ms))=bC ((ms.take i).flatMap (dY ws ls ns ms)) ++ bC (dY ws ls ns ms a):=by
     rw [ab4 hi]
     unfold bC
     rw [bh3]
    dsimp only
    rw [e]
    exact⟨_,_,rfl⟩
 ·rintro ρ ⟨y4,y5,rfl⟩
  rw [aW,bi3]
  exact⟨_,rfl,trivial,q⟩
def pB:bK:=fun xs Q=>∃ ws ls ns a b,xs = [b8 ws ls,.tup (intz ns),.int a,.int b]/\Wb ws ls/\(∀ l ∈ ls,l.1 ≠ l.2)/\(∀ k,(bE ls k).Nodup)/\ws.length<=40/\aY ws.length ns=true/\(∀ L,dH ws ls ns L->¬ (a ∈ L/\b ∈ L/\a ≠ b))/\Q (.bl true)
def ac1:aK:=(aH (bG 4 (qC (.bl false)))
 (aH (sD "HearthError" 5 (sC kF (a6 (a5 0) (a6 (a5 1) (a6 (a5 2) (a6 (a5 3) a9))))) (bG 4 (lD "NoSuch" (a5 5))))
 (gT 4)))
theorem aW3:cI ac1 ["web","seeds","one","other","caught","e"] pB:=by
 rintro xs Q ⟨ws,ls,ns,a,b,rfl,wb,lne,nnd,few,hs,no,q⟩
 have ln:=gH hs
 refine⟨trivial,_,rfl,_,rfl,_,rfl,_,rfl,ws,ls,_,ns,a,b,rfl,wb,lne,nnd,few,.inl rfl,by omega,fun _ L lc=>⟨fun ha hb hab=>absurd ⟨ha,hb,hab⟩ (no L lc),fun _=>?_⟩,fun z=>by rw [hs] at z; cases z⟩
 exact⟨by decide,_,rfl,true,(by decide),trivial,_,rfl,trivial,q⟩
def pC:bK:=fun xs Q=>∃ ws ls ns o b,xs = [b8 ws ls,.tup (intz ns),gJ o,b]/\Wb ws ls/\(∀ l ∈ ls,l.1 ≠ l.2)/\(∀ k,(bE ls k).Nodup)/\ws.length<=40/\ns.length<=1000/\aY ws.length ns=false/\(o ≠ none->∃ c:Int,b = .int c)/\Q (.bl true)
def ac2:aK:=(aH (bG 4 (eG a9))
 (aH (sD "HearthError" 5 (V7 (aR (M3 (a5 2) (qC .non))) (sC lF (a6 (a5 0) (a6 (a5 1) a9))) (sC kF (a6 (a5 0) (a6 (a5 1) (a6 (a5 2) (a6 (a5 3) a9)))))) (bG 4 (eG (a6 (lD "BadSet" (a5 5)) (a6 (lD "NoSuch" (a5 5)) (a6 (lD "ValueError" (a5 5)) a9))))))
 (b9 (q2 (jG 2 false) (a5 4) (eG (a6 (qC (.bl true)) (a6 (qC (.bl false)) (a6 (qC (.bl true)) a9))))))))
theorem aW4:cI ac2 ["web","seeds","one","other","signs","e"] pC:=by
 rintro xs Q ⟨ws,ls,ns,o,b,rfl,wb,lne,nnd,few,ln,hs,hb,q⟩
 refine⟨by decide,rfl,trivial,?_⟩
 cases o with
 | none=>
  refine⟨_,rfl,rfl,_,rfl,aZ ?_⟩
  refine⟨_,rfl,_,rfl,ws,ls,_,ns,rfl,wb,.inl rfl,ln,(fun z=>by rw [hs] at z; cases z),fun _=>?_⟩
  exact⟨by decide,_,rfl,true,(by decide),_,rfl,false,(by decide),_,rfl,true,(by decide),by show 3<=1000; decide,rfl,trivial,_,rfl,by show 3<=1000; decide,rfl,.inr ⟨_,_,rfl,rfl⟩,by decide,trivial,q⟩
 | some a=>
  obtain ⟨c,rfl⟩:=hb (fun z=>by cases z)
  refine⟨_,rfl,rfl,_,rfl,aP ?_⟩
  refine⟨_,rfl,_,rfl,_,rfl,_,rfl,ws,ls,_,ns,a,c,rfl,wb,lne,nnd,few,.inl rfl,ln,(fun z=>by rw [hs] at z; cases z),fun _=>?_⟩
  exact⟨by decide,_,rfl,true,(by decide),_,rfl,false,(by decide),_,rfl,true,(by decide),by show 3<=1000; decide,rfl,trivial,_,rfl,by show 3<=1000; decide,rfl,.inr ⟨_,_,rfl,rfl⟩,by decide,trivial,q⟩
theorem xW {ws:List Int}{ls:List (Int × Int)}{ns L:List Int}{a b:Int}:(a,b) ∈ cZ ws ls ns L ↔ a ∈ L/\b ∈ L/\b ≠ a/\b ∉ cC (never ws a) ls ns:=by
 unfold cZ dY
 rw [List.mem_flatMap]
 refine⟨fun ⟨c,hc,hm⟩=>?_,fun ⟨h1,h2,h3,h4⟩=>⟨a,h1,bi7.mpr ⟨b,bl1.mpr ⟨h2,by simp [h3,h4]⟩,rfl⟩⟩⟩
 obtain ⟨d,hd,e⟩:=bi7.mp hm
 obtain ⟨d1,d2⟩:=bl1.mp hd
 cases e
 simp at d2
 exact⟨hc,d1,d2.1,d2.2⟩
def t7:bK:=fun xs Q=>∃ ws ls ns L a b,xs = [b8 ws ls,.tup (intz ns),.int a,.int b,.lst (bC (cZ ws ls ns L))]/\Wb ws ls/\(∀ l ∈ ls,l.1 ≠ l.2)/\(∀ k,(bE ls k).Nodup)/\ws.length<=40/\aY ws.length ns=true/\dH ws ls ns L/\a ∈ L/\b ∈ L/\a ≠ b/\Q (.bl true)
def ac3 (K:PySem.W.Frag):aK:=(aH (bG 6 (aB jP (a6 (a5 0) (a6 (aB gC (a6 (a5 1) a9)) (a6 (a5 3) a9)))))
 (aH (bG 7 (mH (a5 6) (eG (a6 (a5 3) a9))))
 (aH (bG 7 (mH (a5 7) (aB jP (a6 (a5 0) (a6 (mH (aB gC (a6 (a5 1) a9)) (a5 7)) (a6 (qC .non) a9))))))
 (aH (bQ (i9 (eB (aR (iO K "tuple" (a5 5)))) (i9 (aR (q2 (jG 2 true) (aB gC (a6 (a5 5) a9)) (a5 7))) (eB (aR (r6 (t4 (a5 5) (a5 2)) (t4 (a5 5) (a5 3))))))) (b9 (qC (.bl false))) bX)
 (b9 (fR (aB (mW fun _=>False) (a6 (a5 0) (a6 (a5 1) (a6 (a5 3) a9)))) (aB cW (a6 (a5 6) a9))))))))
def ac4 (K:PySem.W.Frag):aK:=(aH (bG 5 (aB (kF fun _=>False) (a6 (a5 0) (a6 (a5 1) (a6 (a5 2) (a6 (a5 3) a9))))))
 (aH (bQ (aR (q2 xL (eS (a6 (a5 3) (a6 (a5 2) a9))) (a5 4))) (b9 (M3 (a5 5) (qC .non))) bX)
 (ac3 K)))
theorem aW5 {K:PySem.W.Frag} (kt:PySem.W.kitOne K (.type "tuple") (.type "tuple")=some true) {ws:List Int}{ls:List (Int × Int)}{ns L A N2:List Int}{a b:Int}{k k2:Nat}{y4:Option Slot}{Q:PV->Prop} (wb:Wb ws ls) (lne:∀ l ∈ ls,l.1 ≠ l.2) (nnd:∀ k,(bE ls k).Nodup) (few:ws.length<=40) (hs:aY ws.length ns=true) (lc:dH ws ls ns L) (hb:b ∈ L)
  (en:fK (never ws b) ls (rng ws.length) ns k) (eA:A=aV (never ws b) ls (rng ws.length) ns k) (haA:a ∈ A) (n2:aY ws.length N2=true) (pm:N2.Perm (ns ++ (A ++ [b]))) (en2:fK ws ls (rng ws.length) N2 k2) (q:Q (.bl true)) :
  ac3 K { nx:=fun _=>Q .non,rt:=Q } [some (.sh (flat (b8 ws ls)) (b8 ws ls)),some (.sh (flat (.tup (intz ns))) (.tup (intz ns))),si a,si b,y4,some (.sh true (.tup (intz (A ++ [b] ++ aV ws ls (rng ws.length) N2 k2)))),none,none]:=by
 have ln:=gH hs
 have bb:=lc.inn hs hb
 have bm:=(lc.mem hs).mp hb
 have kn:∀ S x,x ∈ rng ws.length->kin (never ws b) ls S x=(!decide (some b=some x) && kin ws ls S x):=fun S x hx=>sW bb.1 bb.2 (sV wb lne (nnd b) bb.1 bb.2) S hx
 have hsn:aY (never ws b).length ns=true:=by rw [cT]; exact hs
 have nd2:(ns ++ (A ++ [b])).Nodup:=pm.nodup_iff.mp ((fU (dF n2).1).imp fun h e=>by omega)
 have in2:∀ x ∈ ns ++ (A ++ [b]),x ∈ rng ws.length:=fun x hx=>dE.mpr ((dF n2).2 x (pm.mem_iff.mpr hx))
 have l2:=nd2.length_le_of_subset in2
 rw [fC,be2,be2] at l2
 have l2:ns.length+(A.length+1)<=ws.length:=l2
 have bA:b ∉ A:=fun z=>(bj3.mp (bj3.mp nd2).2.1).2.2 b z b (bf3.mpr rfl) rfl
 have co:=p9 hsn (by rw [cT]; exact en)
 rw [cT,<- eA] at co
 refine⟨_,rfl,_,rfl,_,_,rfl,rfl,bJ _,_,rfl,ws,ls,ns,some b,never ws b,rfl,wb,lne,(fU (dF hs).1).imp fun h e=>by omega,fun x hx=>dE.mpr ((dF hs).2 x hx),cT,kn,fun k' en'=>⟨trivial,?_⟩⟩
 obtain rfl:=U4 en en'
 rw [<- eA]
 refine⟨_,rfl,_,rfl,by show 1<=1000; decide,rfl,intz A,intz [b],rfl,rfl,bJ _,bJ _,by rw [aW,aW]; show A.length+1<=_; omega,?_⟩
 rw [<- cR]
 refine⟨trivial,?_⟩
 refine⟨_,rfl,_,rfl,_,rfl,_,_,rfl,rfl,bJ _,_,rfl,intz ns,intz (A ++ [b]),rfl,rfl,bJ _,bJ _,by rw [aW,aW,be2]; show ns.length+(A.length+1)<=_; omega,?_⟩
 rw [<- cR]
 refine⟨ws,ls,ns ++ (A ++ [b]),none,ws,rfl,wb,lne,nd2,in2,rfl,fun S x hx=>(bp7 _).symm,fun k3 en3=>?_⟩
 have same:∀ x,x ∈ ns ++ (A ++ [b]) ↔ x ∈ N2:=fun x=>pm.mem_iff.symm
 obtain rfl:=U4 en2 (aV9 same en3)
 rw [xV same]
 have l3:=oT (ws:=ws) (ls:=ls) (ns:=N2) (os:=rng ws.length) (br6 _) n2 k2
 generalize aV ws ls (rng ws.length) N2 k2=Z at l3
 refine⟨intz (A ++ [b]),intz Z,rfl,rfl,bJ _,bJ _,by rw [aW,aW,be2]; show A.length+1+_<=_; omega,?_⟩
 rw [<- cR]
 refine⟨trivial,?_⟩
 have aF:a ∈ A ++ [b] ++ Z:=bi4 _ (bi4 _ haA)
 have bF:b ∈ A ++ [b] ++ Z:=bi4 _ (bh2 _ (bf3.mpr rfl))
 have ia:(A ++ [b] ++ Z).idxOf a < A.length:=by
  rw [bi9,List.idxOf_append,if_pos haA]
  exact bq0.mpr haA
 have ib:A.length<=(A ++ [b] ++ Z).idxOf b:=by
  rw [bi9,List.idxOf_append,if_neg bA]
  omega
 refine⟨_,rfl,_,_,rfl,kt,_,rfl,aP ?_⟩
 refine⟨_,rfl,_,_,rfl,rfl,bJ _,_,rfl,.inr ⟨_,_,rfl,rfl⟩,vP 2 _ _,_,rfl,?_⟩
 show if (!bZ 3 (.lst (intz (A ++ [b] ++ Z))) (.lst (intz (A ++ [b] ++ Z))))=true then _ else _
 rw [vN 2,be7 rfl]
 refine aP ?_
 refine⟨_,rfl,_,rfl,_,rfl,a,rfl,aF,_,rfl,_,rfl,_,rfl,b,rfl,bF,_,_,rfl,rfl,_,rfl,?_⟩
 dsimp only
 rw [be7 (show (((A ++ [b] ++ Z).idxOf a:Nat):Int) < (((A ++ [b] ++ Z).idxOf b:Nat):Int) by omega)]
 refine aP ?_
 refine⟨_,rfl,_,rfl,_,rfl,ws,ls,_,ns,b,rfl,wb,.inl rfl,by omega,fun _ L' lc'=>⟨fun _=>?_,fun z=>absurd (lc.uniq lc' ▸ hb) z⟩,fun z=>by rw [hs] at z; cases z⟩
 have cl:=co.length_eq
 rw [be2] at cl
 refine⟨_,rfl,_,_,rfl,rfl,.inl ⟨_,_,rfl,rfl,trivial,?_⟩⟩
 show Q (.bl (decide (((cC (never ws b) ls ns).length:Int) - (ns.length:Int)=((intz A).length:Int))))
 rw [aW,be7 (by omega)]
 exact q
theorem aW6 {K:PySem.W.Frag} (kt:PySem.W.kitOne K (.type "tuple") (.type "tuple")=some true):cI (ac4 K) ["web","seeds","one","other","due","found","ahead","row"] t7:=by
 rintro xs Q ⟨ws,ls,ns,L,a,b,rfl,wb,lne,nnd,few,hs,lc,ha,hb,hab,q⟩
 have ln:=gH hs
 have bb:=lc.inn hs hb
 have am:=(lc.mem hs).mp ha
 have hsn:aY (never ws b).length ns=true:=by rw [cT]; exact hs
 refine⟨_,rfl,_,rfl,_,rfl,_,rfl,ws,ls,_,ns,a,b,rfl,wb,lne,nnd,few,.inl rfl,by omega,fun _ L' lc'=>⟨fun _ _ _ k en=>⟨fun haA N2 n2 pm k2 en2=>⟨trivial,?_⟩,fun haA=>⟨trivial,?_⟩⟩,fun z=>absurd ⟨lc.uniq lc' ▸ ha,lc.uniq lc' ▸ hb,hab⟩ z⟩,fun z=>by rw [hs] at z; cases z⟩
 all_goals
  have co:=p9 hsn (by rw [cT]; exact en)
  rw [cT] at co
  have inA:a ∈ aV (never ws b) ls (rng ws.length) ns k ↔ a ∈ cC (never ws b) ls ns:=by
   rw [<- co.mem_iff,bg2]
   exact⟨.inr,fun z=>z.elim (fun w=>absurd w am.2) id⟩
  have din:decide ([b,a] ∈ (cZ ws ls ns L).map two)=decide ((b,a) ∈ cZ ws ls ns L):=br1.mpr ⟨fun z=>by
   obtain ⟨l,hl,e⟩:=bi7.mp z
   have:l=(b,a):=aR4 e
   rw [<- this]; exact hl,fun z=>bi7.mpr ⟨_,z,rfl⟩⟩
  refine⟨_,rfl,_,rfl,by show 2<=1000; decide,rfl,_,rfl,[b,a],(cZ ws ls ns L).map two,rfl,by rw [<- rS]; rfl,_,rfl,?_⟩
  rw [din]
 ·rw [be8 (fun z=>(xW.mp z).2.2.2 (inA.mp haA))]
  exact aP (aW5 kt wb lne nnd few hs lc hb en rfl haA n2 pm en2 q)
 ·rw [be7 (xW.mpr ⟨hb,ha,hab,fun z=>haA (inA.mpr z)⟩)]
  exact aZ ⟨_,rfl,rfl,trivial,q⟩
def t8:bK:=fun xs Q=>∃ P:List (Int × Int),xs = [.lst (bC P),.lst (bC P)]/\Q (.bl true)
def ac5 (K:PySem.W.Frag):aK:=(aH (bQ (i9 (eB (aR (iO K "list" (a5 0)))) (aR (q2 (jG 2 true) (a5 0) (a5 1)))) (b9 (qC (.bl false))) bX)
 (aH (eI (dN (a5 0)) (bO 2)
  (bQ (i9 (eB (aR (iO K "tuple" (a5 2)))) (i9 (eB (aR (aB oP (a6 (cQ (a5 2) (qC (.int 0))) a9)))) (eB (aR (aB oP (a6 (cQ (a5 2) (qC (.int 1))) a9)))))) (b9 (qC (.bl false))) bX))
 (b9 (qC (.bl true)))))
theorem ac6 (P:List (Int × Int)):dI 3 (.lst (bC P)) (.lst (bC P))=true/\bZ 3 (.lst (bC P)) (.lst (bC P))=true:=by
 have h1:=Y5 1 (P.map two) (P.map two)
 have h2:=aR3 1 (P.map two) (P.map two)
 rw [aV0] at h1 h2
 rw [be7 rfl] at h2
 exact⟨h1,h2⟩
theorem aW7 {K:PySem.W.Frag} (kl:PySem.W.kitOne K (.type "list") (.type "list")=some true) (kt:PySem.W.kitOne K (.type "tuple") (.type "tuple")=some true):cI (ac5 K) ["found","due","pair"] t8:=by
 rintro xs Q ⟨P,rfl,q⟩
 obtain ⟨o1,o2⟩:=ac6 P
 refine⟨_,rfl,_,_,rfl,kl,_,rfl,aP ⟨_,rfl,_,rfl,.inr ⟨_,_,rfl,rfl⟩,o1,_,rfl,?_⟩⟩
 show if (!bZ 3 (.lst (bC P)) (.lst (bC P)))=true then _ else _
 rw [o2]
 refine aP ?_
 refine⟨_,rfl,_,rfl,(fun z=>by cases z),fun i ρ=>∃ y,ρ = [some (.sh (flat (.lst (bC P))) (.lst (bC P))),some (.sh (flat (.lst (bC P))) (.lst (bC P))),y],⟨none,rfl⟩,?_,?_⟩
 ·rintro i y ρ hy ⟨y2,rfl⟩
  obtain ⟨l,rfl,hl⟩:=wQ hy
  refine⟨_,rfl,_,_,rfl,kt,_,rfl,aP ?_⟩
  refine⟨_,rfl,_,_,_,rfl,rfl,rfl,_,rfl,_,rfl,aP ?_⟩
  refine⟨_,rfl,_,_,_,rfl,rfl,rfl,_,rfl,_,rfl,aP ?_⟩
  exact⟨_,rfl⟩
 ·rintro ρ ⟨y,rfl⟩
  exact⟨trivial,q⟩
def xX:bK:=T7
def ac7:aK:=(aH (eI (qX (jZ (qC (.int 1))) (fI (a5 1) (qC (.int 1)))) (bO 10)
  (aH (bG 11 (kU (cH (a5 2) (fI (a5 1) (qC (.int 2)))) (qC (.int 1))))
  (bQ (gB (aR (q2 (eV false) (a5 10) (a5 6))) (gB (aR (q2 (eV false) (a5 11) (a5 6))) (aR (m8 (a5 10) (a5 11))))) (bQ (eB (aR (aB t7 (a6 (a5 3) (a6 (a5 4) (a6 (a5 10) (a6 (a5 11) (a6 (a5 7) a9)))))))) (b9 (qC (.bl false))) bX) (bQ (eB (aR (aB pB (a6 (a5 3) (a6 (a5 4) (a6 (a5 10) (a6 (a5 11) a9))))))) (b9 (qC (.bl false))) bX))))
 (b9 (qC (.bl true))))
theorem aW8 {ws:List Int}{ls:List (Int × Int)}{ns L:List Int}{c:Int}{y0 y5 y8 y9 y10 y11:Option Slot}{Q:PV->Prop} (wb:Wb ws ls) (lne:∀ l ∈ ls,l.1 ≠ l.2) (nnd:∀ k,(bE ls k).Nodup) (few:ws.length<=40) (hs:aY ws.length ns=true) (lc:dH ws ls ns L) (q:Q (.bl true)) :
  ac7 { nx:=fun _=>Q .non,rt:=Q } [y0,si (ws.length:Nat),si c,some (.sh true (b8 ws ls)),some (.sh true (.tup (intz ns))),y5,some (.sh true (.lst (intz L))),some (.sh true (.lst (bC (cZ ws ls ns L)))),y8,y9,y10,y11]:=by
 refine⟨_,rfl,_,rfl,_,_,rfl,rfl,_,_,rfl,rfl,⟨by omega,by omega,by omega,by omega⟩,fun i ρ=>∃ y10 y11,ρ = [y0,si (ws.length:Nat),si c,some (.sh true (b8 ws ls)),some (.sh true (.tup (intz ns))),y5,some (.sh true (.lst (intz L))),some (.sh true (.lst (bC (cZ ws ls ns L)))),y8,y9,y10,y11],⟨y10,y11,rfl⟩,?_,?_⟩
 ·rintro i y ρ hy ⟨y10,y11,rfl⟩
  obtain ⟨rfl,hi⟩:=gZ hy
  refine lA ?_
  generalize (-1:Int)+(i:Int)=a
  refine⟨_,rfl,_,rfl,_,_,rfl,rfl,_,_,rfl,rfl,(by show (0:Int) < (ws.length:Int)+2; omega),_,_,rfl,rfl,trivial,?_⟩
  dsimp only
  generalize c % ((ws.length:Int)+2) - 1=b
  have no : ¬ (a ∈ L/\b ∈ L/\a ≠ b)->(bQ (eB (aR (aB pB (a6 (a5 3) (a6 (a5 4) (a6 (a5 10) (a6 (a5 11) a9))))))) (b9 (qC (.bl false))) bX) { nx:=fun ρ=>∃ y10 y11,ρ = [y0,si (ws.length:Nat),si c,some (.sh true (b8 ws ls)),some (.sh true (.tup (intz ns))),y5,some (.sh true (.lst (intz L))),some (.sh true (.lst (bC (cZ ws ls ns L)))),y8,y9,y10,y11],rt:=Q,ct:=fun ρ=>∃ y10 y11,ρ = [y0,si (ws.length:Nat),si c,some (.sh true (b8 ws ls)),some (.sh true (.tup (intz ns))),y5,some (.sh true (.lst (intz L))),some (.sh true (.lst (bC (cZ ws ls ns L)))),y8,y9,y10,y11],bk:=(b9 (qC (.bl true))) { nx:=fun _=>Q .non,rt:=Q } } [y0,si (ws.length:Nat),si c,some (.sh true (b8 ws ls)),some (.sh true (.tup (intz ns))),y5,some (.sh true (.lst (intz L))),some (.sh true (.lst (bC (cZ ws ls ns L)))),y8,y9,si a,si b]:=fun z=>
   ⟨_,rfl,_,rfl,_,rfl,_,rfl,ws,ls,ns,a,b,rfl,wb,lne,nnd,few,hs,fun L' lc'=>lc.uniq lc' ▸ z,_,rfl,aP ⟨_,_,rfl⟩⟩
  refine⟨_,rfl,_,rfl,a,L,rfl,rfl,_,rfl,?_⟩
  show if decide (a ∈ L)=true then _ else _
  by_cases ha:a ∈ L
  case neg=>rw [be8 ha]; exact aP (aP (no fun z=>ha z.1))
  rw [be7 ha]
  refine aZ ⟨_,rfl,_,rfl,b,L,rfl,rfl,_,rfl,?_⟩
  show if decide (b ∈ L)=true then _ else _
  by_cases hb:b ∈ L
  case neg=>rw [be8 hb]; exact aP (aP (no fun z=>hb z.2.1))
  rw [be7 hb]
  refine aZ ⟨_,rfl,_,rfl,.inl ⟨_,_,rfl,rfl,_,rfl,?_⟩⟩
  show if (!decide (a=b))=true then _ else _
  by_cases hab:a=b
  case pos=>rw [be7 hab]; exact aP (no fun z=>z.2.2 hab)
  rw [be8 hab]
  exact aZ ⟨_,rfl,_,rfl,_,rfl,_,rfl,_,rfl,ws,ls,ns,L,a,b,rfl,wb,lne,nnd,few,hs,lc,ha,hb,hab,_,rfl,aP ⟨_,_,rfl⟩⟩
 ·rintro ρ ⟨y10,y11,rfl⟩
  exact⟨trivial,q⟩
def ac8:aK:=(aH (bG 9 (aB sU (a6 (a5 3) (a6 (a5 4) (a6 (a5 2) a9)))))
 (aH (bQ (aR (jH (aB cW (a6 (cL (dN (a5 7)) [none,some 9] (bO 0) (aR (jH (p6 (a5 1) (cQ (a5 0) (qC (.int 0)))) (p6 (a5 1) (cQ (a5 0) (qC (.int 1)))))) (a5 0)) a9)) (qC (.int 0)))) (b9 (qC (.bl false))) bX)
 (aH (bQ (aR (jH (aB cW (a6 (cL (dN (a5 6)) [none,some 3,some 4,some 9] (bO 0) (aR (jH (p6 (a5 3) (a5 0)) (aB (mW fun _=>False) (a6 (a5 1) (a6 (a5 2) (a6 (a5 0) a9)))))) (a5 0)) a9)) (qC (.int 0)))) (b9 (qC (.bl false))) bX)
 ac7)))
theorem aW9 {ws:List Int}{ls:List (Int × Int)}{ns L:List Int}{c:Int}{y0 y5 y8:Option Slot}{Q:PV->Prop} (wb:Wb ws ls) (lne:∀ l ∈ ls,l.1 ≠ l.2) (nnd:∀ k,(bE ls k).Nodup) (few:ws.length<=40) (hs:aY ws.length ns=true) (lc:dH ws ls ns L) (q:Q (.bl true)) :
  ac8 { nx:=fun _=>Q .non,rt:=Q } [y0,si (ws.length:Nat),si c,some (.sh true (b8 ws ls)),some (.sh true (.tup (intz ns))),y5,some (.sh true (.lst (intz L))),some (.sh true (.lst (bC (cZ ws ls ns L)))),y8,none,none,none]:=by
 have ln:=gH hs
 have ll:=lc.len hs
 have kn:∀ {h:Int},h ∈ L->∀ S x,x ∈ rng ws.length->kin (never ws h) ls S x=(!decide (some h=some x) && kin ws ls S x):=fun {h} hh S x hx=>by
  have hb:=lc.inn hs hh
  exact sW hb.1 hb.2 (sV wb lne (nnd h) hb.1 hb.2) S hx
 refine⟨_,rfl,_,rfl,_,rfl,ws,ls,ns,c,rfl,wb,lne,hs,fun R g sh r40=>⟨trivial,?_⟩⟩
 have inR:∀ x ∈ L,x ∈ R:=fun x hx=>by
  have:=(aS3 hs g sh t5).mem_iff.mpr ((lc.mem hs).mp hx).1
  rcases bg2.mp this with z | z
  ·exact absurd z ((lc.mem hs).mp hx).2
  ·exact z
 have ml:=pA (ws:=ws) (ls:=ls) (ns:=ns) (L:=L) L
 have b40:L.length * L.length<=40 * 40:=Nat.mul_le_mul (by omega) (by omega)
 have pl:(bC (cZ ws ls ns L)).length=(cZ ws ls ns L).length:=be5 _
 have mlen:(cZ ws ls ns L).length<=1600:=bh6 ml b40
 refine⟨_,rfl,_,rfl,(fun z=>by cases z),by rw [pl]; omega,fun i acc=>acc = [],rfl,?_,?_⟩
 ·rintro i y acc hy rfl
  obtain ⟨l,rfl,hl⟩:=wQ hy
  obtain ⟨m1,m2,m3,m4⟩:=xW.mp (show (l.1,l.2) ∈ cZ ws ls ns L from bh1 hl)
  have lt:=aV3 (kn m1) hs g (inR l.2 m2) m3 m4
  refine⟨_,rfl,R,rfl,_,rfl,_,_,_,rfl,rfl,rfl,l.1,rfl,inR l.1 m1,by omega,_,rfl,R,rfl,_,rfl,_,_,_,rfl,rfl,rfl,l.2,rfl,inR l.2 m2,by omega,_,_,rfl,rfl,_,rfl,?_⟩
  dsimp only
  rw [be8 (by omega)]
  exact aP rfl
 rintro acc rfl
 refine⟨_,_,rfl,rfl,_,_,rfl,rfl,_,rfl,aP ?_⟩
 refine⟨_,rfl,_,rfl,(fun z=>by cases z),by rw [aW]; omega,fun i acc=>acc = [],rfl,?_,?_⟩
 ·rintro i y acc hy rfl
  obtain ⟨h,rfl,hh⟩:=fB hy
  have hL:=bh1 hh
  have le:=aV4 (kn hL) hs g (inR h hL)
  refine⟨_,rfl,R,rfl,_,rfl,h,rfl,inR h hL,by omega,_,rfl,_,rfl,_,rfl,ws,ls,_,ns,h,rfl,wb,.inl rfl,by omega,fun _ L' lc'=>⟨fun _=>?_,fun z=>absurd (lc.uniq lc' ▸ hL) z⟩,fun z=>by rw [hs] at z; cases z⟩
  refine⟨_,_,rfl,rfl,_,rfl,?_⟩
  dsimp only
  rw [be8 (by omega)]
  exact aP rfl
 rintro acc rfl
 refine⟨_,_,rfl,rfl,_,_,rfl,rfl,_,rfl,aP ?_⟩
 exact aW8 wb lne nnd few hs lc q
def ac9:aK:=(aH (bG 6 (aB qV (a6 (aB jP (a6 (a5 3) (a6 (aB gC (a6 (a5 4) a9)) (a6 (qC .non) a9)))) a9)))
 (aH (bG 7 (aB t6 (a6 (a5 3) (a6 (a5 4) (a6 (a5 6) a9)))))
 (aH (dQ 8 (aB (lF fun _=>False) (a6 (a5 3) (a6 (a5 4) a9))))
 (aH (bQ (eB (aR (aB t8 (a6 (a5 8) (a6 (a5 7) a9))))) (b9 (qC (.bl false))) bX)
 (aH (jY 8 (eS (a6 (qC (.int 0)) (a6 (qC (.int 0)) a9))))
 (aH (bQ (aR (q2 (jG 2 true) (aB (lF fun _=>False) (a6 (a5 3) (a6 (aB gC (a6 (a5 4) a9)) a9))) (a5 7))) (b9 (qC (.bl false))) bX)
 ac8))))))
theorem aX0 {ws:List Int}{ls:List (Int × Int)}{ns:List Int}{c:Int}{y0 y5:Option Slot}{Q:PV->Prop} (wb:Wb ws ls) (lne:∀ l ∈ ls,l.1 ≠ l.2) (nnd:∀ k,(bE ls k).Nodup) (few:ws.length<=40) (hs:aY ws.length ns=true) (q:Q (.bl true)) :
  ac9 { nx:=fun _=>Q .non,rt:=Q } [y0,si (ws.length:Nat),si c,some (.sh true (b8 ws ls)),some (.sh true (.tup (intz ns))),y5,none,none,none,none,none,none]:=by
 have ln:=gH hs
 refine⟨_,rfl,_,rfl,_,_,rfl,rfl,bJ _,ws,ls,ns,none,ws,rfl,wb,lne,(fU (dF hs).1).imp fun h e=>by omega,fun x hx=>dE.mpr ((dF hs).2 x hx),rfl,fun S x hx=>(bp7 _).symm,fun k en=>?_⟩
 have co:=p9 hs en
 have l1:=oT (ws:=ws) (ls:=ls) (ns:=ns) (os:=rng ws.length) (br6 _) hs k
 refine⟨_,rfl,by omega,fun L pm so=>⟨trivial,?_⟩⟩
 have lc:dH ws ls ns L:=⟨so,(List.Perm.append_left ns pm).trans co⟩
 have ll:=lc.len hs
 obtain ⟨o1,o2⟩:=ac6 (cZ ws ls ns L)
 have ml:=pA (ws:=ws) (ls:=ls) (ns:=ns) (L:=L) L
 have b40:L.length * L.length<=40 * 40:=Nat.mul_le_mul (by omega) (by omega)
 have pl:(bC (cZ ws ls ns L)).length=(cZ ws ls ns L).length:=be5 _
 have mlen:(cZ ws ls ns L).length<=1600:=bh6 ml b40
 refine⟨_,rfl,_,rfl,_,rfl,ws,ls,ns,L,rfl,wb,lne,nnd,hs,lc,trivial,?_⟩
 refine⟨_,rfl,_,rfl,ws,ls,_,ns,rfl,wb,.inl rfl,by omega,fun _ L1 lc1=>?_,fun z=>by rw [hs] at z; cases z⟩
 obtain rfl:=lc.uniq lc1
 refine⟨rfl,oJ _,?_⟩
 refine⟨_,rfl,_,rfl,_,rfl,_,rfl,aP ?_⟩
 refine⟨_,rfl,by show 2<=1000; decide,rfl,trivial,by rw [pl]; omega,?_⟩
 refine⟨_,rfl,_,rfl,_,_,rfl,rfl,bJ _,ws,ls,_,ns,rfl,wb,.inr rfl,by omega,fun _ L2 lc2=>?_,fun z=>by rw [hs] at z; cases z⟩
 obtain rfl:=lc.uniq lc2
 refine⟨_,rfl,.inr ⟨_,_,rfl,rfl⟩,o1,_,rfl,?_⟩
 show if (!bZ 3 (.lst (bC (cZ ws ls ns L))) (.lst (bC (cZ ws ls ns L))))=true then _ else _
 rw [o2]
 exact aP (aW9 wb lne nnd few hs lc q)
def ad0:aK:=(aH (bG 1 (cH (aB kZ (a6 (a5 0) (a6 (qC (.int 0)) a9))) (qC (.int 8))))
 (aH (bG 2 (aB kZ (a6 (a5 0) (a6 (qC (.int 2)) a9))))
 (aH (bG 3 (aB sL (a6 (vT (a5 0) (vS (qC (.int 3))) vR) (a6 (a5 1) (a6 (cH (aB kZ (a6 (a5 0) (a6 (qC (.int 1)) a9))) (qC (.int 8))) a9)))))
 (aH (bG 4 (aB sM (a6 (eY (aB kZ (a6 (a5 0) (a6 (qC (.int 1)) a9))) (qC (.int 8))) (a6 (a5 1) a9))))
 (aH (bG 5 (aB sP (a6 (a5 4) (a6 (a5 1) (a6 (a5 2) a9)))))
 (aH (bQ (i9 (eB (aR (aB pC (a6 (a5 3) (a6 (a5 5) (a6 (qC .non) (a6 (qC .non) a9))))))) (eB (aR (aB pC (a6 (a5 3) (a6 (a5 5) (a6 (qC (.int 0)) (a6 (cH (a5 2) (fI (a5 1) (qC (.int 1)))) a9)))))))) (b9 (qC (.bl false))) bX)
 ac9))))))
theorem aX1:cI ad0 ["script","many","cell","web","seeds","odd","some","due","found","row","one","other"] xX:=by
 rintro xs Q ⟨ns,rfl,hl,q⟩
 refine⟨_,rfl,_,ns,0,rfl,.inl rfl,by decide,_,_,rfl,rfl,(by show (0:Int) < 8; decide),trivial,?_⟩
 dsimp only
 have m0:0<=ns.getD (0:Int).toNat 0 % 8:=bl2 _ (by decide)
 have m1:ns.getD (0:Int).toNat 0 % 8 < 8:=bn5 _ (by decide)
 generalize ns.getD (0:Int).toNat 0 % 8=M at m0 m1
 refine⟨_,rfl,_,ns,2,rfl,.inl rfl,by decide,trivial,?_⟩
 generalize ns.getD (2:Int).toNat 0=c
 have hc:hJ (vQ (.scr ns) (iP (intz ns) (some 3) none)) (ns.drop 3):=.inr (by show PV.lst (iP (intz ns) (some 3) none)=_; rw [wS ns (by decide)]; rfl)
 refine⟨_,rfl,_,rfl,_,rfl,bJ _,_,rfl,_,rfl,_,ns,1,rfl,.inl rfl,by decide,_,_,rfl,rfl,(by show (0:Int) < 8; decide),_,_,M,_,rfl,hc,by rw [bk4]; omega,by omega,by omega,fun ws ls w=>⟨trivial,?_⟩⟩
 have wl:=w.many
 have wb:Wb ws ls:=w.wb (by omega)
 have ne:∀ l ∈ ls,l.1 ≠ l.2:=fun l hl=>by have:=w.inn l hl; omega
 have nnd:∀ k,(bE ls k).Nodup:=fun k=>V3 (fun l hl=>(w.inn l hl).2.1) w.ord
 have few:ws.length<=40:=wb.few
 obtain rfl:M=(ws.length:Int):=wl.symm
 refine⟨_,rfl,_,ns,1,rfl,.inl rfl,by decide,_,_,rfl,rfl,⟨by decide,by decide⟩,_,rfl,_,_,rfl,m0,by omega,fun S hS=>⟨trivial,?_⟩⟩
 rw [bl4] at hS
 have sl:=gH hS
 refine⟨_,rfl,_,rfl,_,rfl,S,ws.length,c,rfl,hS,by omega,fun ys yl yn=>⟨trivial,?_⟩⟩
 refine⟨_,rfl,_,rfl,ws,ls,ys,none,_,rfl,wb,ne,nnd,few,by omega,yn,fun z=>absurd rfl z,_,rfl,aP ?_⟩
 refine⟨_,rfl,_,rfl,_,rfl,_,rfl,_,_,rfl,rfl,_,_,rfl,rfl,(by show (0:Int) < (ws.length:Int)+1; omega),ws,ls,ys,some 0,_,rfl,wb,ne,nnd,few,by omega,yn,fun _=>⟨_,rfl⟩,_,rfl,aP ?_⟩
 exact aX0 wb ne nnd few hS q
end Core
namespace K_k47
open PySem PySem.W L2 PP Core
theorem _root_.L2.FnScope.au {N P:List Str}{s:Scope} (a:s.kind=.function:=by rfl) (b:s.isCoroutine=false:=by rfl) (c:s.isGenerator=false:=by rfl) (d:N.Nodup:=by decide +kernel) (e:N.take P.length=P:=by rfl) (f:∀ x∈P,s.names.lookup x=some .local∨s.names.lookup x=some .cell:=by decide +kernel) (g:∀ y∈s.names,y.2≠.free:=by decide +kernel):FnScope N P s:=⟨a,b,c,d,e,f,g⟩
def b6 (i:Nat):Stmt:=PySem.Challenge.pw_kindleweb_k47_whole_who_must_be_ahead.main.body.getD i (.Pass ⟨0,0,0,0⟩)
structure FK (K:Frag) (n:Str) (i:Nat) (f:Addr) (d:FuncData):Prop where
 a:nsIn K mainGlobals n=some (some (.ref f))
 F:eR K n n (b6 i) f d
structure FM (K:Frag) (mg:Str->Option Value) (n:Str) (i:Nat) (f:Addr) (d:FuncData):Prop where
 F:eR K n n (b6 i) f d
 m:mg n=some (.ref f)
theorem FK.M {K:Frag}{mg:Str->Option Value}{n:Str}{i:Nat}{f:Addr}{d:FuncData}{h:Heap} (z:FK K n i f d) (X:K.In h) (G:h.Ns mainGlobals mg):FM K mg n i f d:=⟨z.F,mg_of X G z.a⟩
abbrev Hb (x:Str) (ps:List Str) (i:Nat):Prop:=∀ (kV doc pm:Value) (an:Option Addr) (cdv ct:Value) (us:List Value),us.length=ps.length->bindArgs (fnOf x x (iK (b6 i)) (dZ (b6 i)) (aX (b6 i)) .none kV doc pm an cdv ct) ⟨us,[]⟩=pure (ps.zip us)
theorem mX {A:Around}{k:Nat} (hr:c9 k A):A.units+3 < cLine:=by have:=hr.units; omega
section
variable {P : Program} {w : World} {K : Frag} {mg : Str → Option Value} {base : Heap} {f : Addr} {fd : FuncData} {k i : Nat} {x : Str} {ps N : List Str}
theorem Df.au {p:bK} (F:FM K mg x i f fd) (S:FnScope N ps (aX (b6 i))) (body:∀ (cdv:Value) (A:Around) (outer:List Env) (s:Shared) (H:Hp) (E:XK),c9 k (A.deeper (PyProof.Rows.envOfC x (aX (b6 i)) s.heap.objs.size f cdv))->∃ t,eZ (dB dL P w K mg base N x (aX (b6 i)) f cdv A outer s H E).nox (dZ (b6 i)) t/\∀ xs Q,p xs Q->t { nx:=fun _=>Q .non,rt:=Q } (eW N xs)) (hb:Hb x ps i:=by intro _ _ _ _ _ _ us hl; first | (obtain ⟨_,rfl⟩:=oX hl; rfl) | (obtain ⟨_,_,rfl⟩:=xE hl; rfl) | (obtain ⟨_,_,_,rfl⟩:=sI hl; rfl) | (obtain ⟨_,_,_,_,rfl⟩:=xF hl; rfl) | (obtain ⟨_,_,_,_,_,rfl⟩:=X0 hl; rfl)) (len:∀ xs Q,p xs Q->xs.length=ps.length:=by intro xs Q h; repeat (first | (obtain ⟨rfl,_⟩:=h; rfl) | (obtain ⟨_,h⟩:=h))):Df P w K mg base (k+1) x ps p:=
 Df.of F.F F.m S hb len body
theorem bH.au {p:dG} (F:FM K mg x i f fd) (S:FnScope N ps (aX (b6 i))) (t:(Str->Prop)->aK) (rd:∀ Ep xs Q,p Ep xs Q->t Ep { nx:=fun _=>Q .non,rt:=Q } (eW N xs)) (body:∀ (cdv:Value) (A:Around) (outer:List Env) (s:Shared) (H:Hp) (E:XK) (Ep:Str->Prop),c9 k (A.deeper (PyProof.Rows.envOfC x (aX (b6 i)) s.heap.objs.size f cdv))->mE (dB (eC P w) P w K mg base N x (aX (b6 i)) f cdv A outer s H E) (EX K H Ep)->eZ (dB (eC P w) P w K mg base N x (aX (b6 i)) f cdv A outer s H E) (dZ (b6 i)) (t Ep)) (hb:Hb x ps i:=by intro _ _ _ _ _ _ us hl; first | (obtain ⟨_,rfl⟩:=oX hl; rfl) | (obtain ⟨_,_,rfl⟩:=xE hl; rfl) | (obtain ⟨_,_,_,rfl⟩:=sI hl; rfl) | (obtain ⟨_,_,_,_,rfl⟩:=xF hl; rfl) | (obtain ⟨_,_,_,_,_,rfl⟩:=X0 hl; rfl)) (len:∀ Ep xs Q,p Ep xs Q->xs.length=ps.length:=by intro Ep xs Q h; repeat (first | (obtain ⟨rfl,_⟩:=h; rfl) | (obtain ⟨_,h⟩:=h))):bH P w K mg base (k+1) x ps p:=
 bH.of F.F F.m S hb t len rd body
end
section
variable {P : Program} {w : World} {K : Frag} {mg : Str → Option Value} {base : Heap} {f : Addr} {fd : FuncData}
theorem nd2:(["ahead","behind"]:List Str).Nodup:=by decide +kernel
abbrev ad1:Stmt:=b6 6
theorem scR:FnScope ["things"] ["things"] (aX ad1):=.au
theorem xY {ns:List Int}{i:Nat}{x y:V} (h1:(ns.map V.int)[i]? = some x) (h2:((ns.map V.int).drop 1)[i]? = some y):∃ p q:Int,x = .int p/\y = .int q/\(ns.zip (ns.drop 1))[i]? = some (p,q):=by
 rw [bf4] at h1
 rw [<- List.map_drop,bf4] at h2
 cases e1:ns[i]? with
 | none=>rw [e1] at h1; cases h1
 | some p=>
  cases e2:(ns.drop 1)[i]? with
  | none=>rw [e2] at h2; cases h2
  | some q=>
   rw [e1] at h1; rw [e2] at h2
   exact⟨p,q,(bg9 h1).symm,(bg9 h2).symm,List.getElem?_zip_eq_some.mpr ⟨e1,e2⟩⟩
theorem aX2 (B:Bt mg) (F:eR K "rises" "rises" ad1 f fd):cV P w K mg base dL 1 f fd ["things"] (T3 K):=by
 refine F.ok scR (fun vs H Q E h=>?_) (fun cdv A outer s H vs Q E hr h=>?_)
 ·obtain ⟨a,ns,rfl,_⟩:=h
  rfl
 obtain ⟨a,ns,rfl,hS,hn,q⟩:=h
 have lz:((ns.map V.int).drop 1).length<=sizeLine:=bj6 (i7 (by rw [bk4,be5]; omega))
 have lz2:((ns.map V.int).drop 1).length<=(ns.map V.int).length:=by rw [bk4]; omega
 have lz3:(ns.zip (ns.drop 1)).length=((ns.map V.int).drop 1).length:=by rw [List.length_zip,bk4,bk4,be5]; omega
 rcases hS with hS | hS
 ·refine⟨_,lH (lJ (nK (uZ rfl) rfl B.all PyProof.Rows.boot_all (cP (C5 (N:=["ahead","behind"]) (fr:=[none,none]) rfl (cK.of rfl rfl) (au0 rfl B.zip (cP (pv 0) (cP (tY G4 (pv 0) (tX nA) tW) dP)))
   ⟨fun _ _ _ _=>show PG _ _ (jS K 2 (fD (cG 0) (fD (cG 1) jR))) from lM rfl (gK (eQ (i:=0) nd2 rfl (Or.inl rfl) (.inr rfl)) (gK (eQ (i:=1) nd2 rfl (Or.inl rfl) (.inr rfl)) lK)),fun _ _ _ _=>pV,fun _ _ _ _=>tP pH (pv 0) (pv 1) (fE _)⟩) dP))),?_⟩
  refine⟨_,rfl,_,rfl,1,rfl,a,_,rfl,hS,fun p hp=>?_,fun e=>?_⟩
  ·have s1:=bM hp (.tup (eD (ns.map V.int) (some 1) none))
   have hb:aO K (upd H p (.tup (eD (ns.map V.int) (some 1) none))) p ((ns.map V.int).drop 1):=aO.of (by rw [bD,v4])
   refine⟨a,p,_,_,rfl,s1.tup hS,hb,v3 (G3 (s1.tup hS) hb lz2) (fun i acc _=>acc=((ns.zip (ns.drop 1)).take i).map fun (p:Int × Int)=>V.bl (decide (p.1 < p.2))) lz (fun _ _=>rfl) (fun _ _ _ _ _ h=>h) (fun i x acc D H' hi hR c hP=>?_) (fun D acc H' hD sm hDa hlen hP=>?_)⟩
   ·obtain ⟨T,x1,y1,rfl,hT,h1,h2⟩:=hR
    obtain ⟨m,k,rfl,rfl,hz⟩:=xY h1 h2
    refine⟨T,_,rfl,aO.of hT,rfl,_,_,rfl,_,_,rfl,rfl,((Wk.refl _).set (i:=0) rfl).set (i:=1) rfl,qI ⟨_,rfl,_,rfl,_,_,rfl,rfl,c.yes (aD.refl _) ?_⟩⟩
    rw [rL hz,hP]
   ·refine⟨D,(ns.zip (ns.drop 1)).map fun (p:Int × Int)=>decide (p.1 < p.2),rfl,aU.of ?_,q _ (s1.trans sm)⟩
    rw [hDa,hP,<- lz3,bi3,bn3]; rfl
  ·have hb:aO K H a ((ns.map V.int).drop 1):=by
    have:(ns.map V.int).drop 1=ns.map V.int:=by rw [<- v4]; exact e
    rw [this]; exact hS
   refine⟨a,a,_,_,rfl,hS,hb,v3 (G3 hS hb lz2) (fun i acc _=>acc=((ns.zip (ns.drop 1)).take i).map fun (p:Int × Int)=>V.bl (decide (p.1 < p.2))) lz (fun _ _=>rfl) (fun _ _ _ _ _ h=>h) (fun i x acc D H' hi hR c hP=>?_) (fun D acc H' hD sm hDa hlen hP=>?_)⟩
   ·obtain ⟨T,x1,y1,rfl,hT,h1,h2⟩:=hR
    obtain ⟨m,k,rfl,rfl,hz⟩:=xY h1 h2
    refine⟨T,_,rfl,aO.of hT,rfl,_,_,rfl,_,_,rfl,rfl,((Wk.refl _).set (i:=0) rfl).set (i:=1) rfl,qI ⟨_,rfl,_,rfl,_,_,rfl,rfl,c.yes (aD.refl _) ?_⟩⟩
    rw [rL hz,hP]
   ·refine⟨D,(ns.zip (ns.drop 1)).map fun (p:Int × Int)=>decide (p.1 < p.2),rfl,aU.of ?_,q _ sm⟩
    rw [hDa,hP,<- lz3,bi3,bn3]; rfl
 ·refine⟨_,lH (lJ (nK (uZ rfl) rfl B.all PyProof.Rows.boot_all (cP (C5 (N:=["ahead","behind"]) (fr:=[none,none]) rfl (cK.of rfl rfl) (au6 rfl B.zip (cP (pv 0) (cP (tY zY (pv 0) (tX nA) tW) dP)))
   ⟨fun _ _ _ _=>show PG _ _ (jS K 2 (fD (cG 0) (fD (cG 1) jR))) from lM rfl (gK (eQ (i:=0) nd2 rfl (Or.inl rfl) (.inr rfl)) (gK (eQ (i:=1) nd2 rfl (Or.inl rfl) (.inr rfl)) lK)),fun _ _ _ _=>pV,fun _ _ _ _=>tP pH (pv 0) (pv 1) (fE _)⟩) dP))),?_⟩
  refine⟨_,rfl,_,rfl,1,rfl,a,_,rfl,hS,fun p hp=>?_⟩
  have s1:=bM hp (.lst (eD (ns.map V.int) (some 1) none))
  have hb:aU K (upd H p (.lst (eD (ns.map V.int) (some 1) none))) p ((ns.map V.int).drop 1):=aU.of (by rw [bD,v4])
  refine⟨a,p,_,_,rfl,s1.seq hS,hb,v3 (au7 (s1.seq hS) hb lz2) (fun i acc _=>acc=((ns.zip (ns.drop 1)).take i).map fun (p:Int × Int)=>V.bl (decide (p.1 < p.2))) lz (fun _ _=>rfl) (fun _ _ _ _ _ h=>h) (fun i x acc D H' hi hR c hP=>?_) (fun D acc H' hD sm hDa hlen hP=>?_)⟩
  ·obtain ⟨T,x1,y1,rfl,hT,h1,h2⟩:=hR
   obtain ⟨m,k,rfl,rfl,hz⟩:=xY h1 h2
   refine⟨T,_,rfl,aO.of hT,rfl,_,_,rfl,_,_,rfl,rfl,((Wk.refl _).set (i:=0) rfl).set (i:=1) rfl,qI ⟨_,rfl,_,rfl,_,_,rfl,rfl,c.yes (aD.refl _) ?_⟩⟩
   rw [rL hz,hP]
  ·refine⟨D,(ns.zip (ns.drop 1)).map fun (p:Int × Int)=>decide (p.1 < p.2),rfl,aU.of ?_,q _ (s1.trans sm)⟩
   rw [hDa,hP,<- lz3,bi3,bn3]; rfl
abbrev ad2:Stmt:=b6 8
theorem t9:FnScope ["web","around","one","other"] ["web"] (aX ad2):=.au
theorem aX3 (F:eR K "near_lists" "near_lists" ad2 f fd):cV P w K mg base dL 1 f fd ["web"] T4:=by
 refine F.ok t9 (fun vs H Q E h=>?_) (fun cdv A outer s H vs Q E hr h=>?_)
 ·obtain ⟨v,ws,ls,rfl,_⟩:=h
  rfl
 obtain ⟨v,ws,ls,rfl,W,hn,hm,hin,q⟩:=h
 refine⟨_,nC (ar4 (i:=1) (N:=["want"]) (fr:=[none]) rfl (cK.of rfl rfl) (yN (nM u5 (pv 0) nA (fun _ _=>rfl)))
   ⟨fun _ _ _ _=>eQ (i:=0) (bh7 _ _) rfl (Or.inl rfl) (.inr rfl),fun _ _ _ _=>pV,fun _ _ _ _=>zF dP⟩ t9.nd rfl rfl rfl)
  (nC (yS PassesOwn.never rfl (yN (nM u5 (pv 0) nA (fun _ _=>rfl))) (lM (n:=2) rfl (gK (eQ (i:=2) t9.nd rfl (Or.inl rfl) (.inr rfl)) (gK (eQ (i:=3) t9.nd rfl (Or.inl rfl) (.inr rfl)) lK)) )
   (nC (jQ (lP bm4 PySem.F.slot_list_append PySem.F.type_list_append pL (nM u4 (pv 1) (pv 2) (fun _ _=>rfl)) (cP (pv 3) dP)))
   (lH (jQ (lP bm4 PySem.F.slot_list_append PySem.F.type_list_append pL (nM u4 (pv 1) (pv 3) (fun _ _=>rfl)) (cP (pv 2) dP))))))
  (lH (lJ (pv 1)))),?_⟩
 obtain ⟨a,p,q',ys,rfl,ha,hp,hq,hL⟩:=W.at_
 have lw:(ws.map V.int).length=ws.length:=be5 _
 refine⟨_,rfl,a,_,_,_,rfl,rfl,aO.of ha,rfl,p,rfl,⟨_,aO.of hp⟩,ar6 (ar5 (aO.of hp)) (fun i acc H'=>∃ bs:List Addr,acc=bs.map V.ref/\bs.length=i/\bs.Nodup/\∀ b ∈ bs,H b=none/\H' b=some (.lst [])) (by rw [lw]; exact bj6 (nU hn))
  (fun D hD=>⟨[],rfl,rfl,List.nodup_nil,fun _ z=>nomatch z⟩) (fun i x acc D H' hx c hPv=>?_) (fun D acc H' hD sm hDa hlen hPv=>?_)⟩
 ·obtain ⟨bs,rfl,hbl,nd,hb⟩:=hPv
  refine⟨wk0 (n:=none),qI ⟨bh8 _,fun r hr'=>?_⟩⟩
  have hrD:r ≠ D:=fun z=>by rw [z,c.acc] at hr'; cases hr'
  have hrH:H r=none:=c.same.free hr'
  refine c.yes (bM hr' _) ⟨bs ++ [r],by simp,by simp [hbl],?_,fun b hm=>?_⟩
  ·refine bj3.mpr ⟨nd,bh7 _ _,fun b hb1 b' hb2 e=>?_⟩
   rw [bf3.mp hb2] at e
   rw [e] at hb1
   rw [(hb r hb1).2] at hr'; cases hr'
  ·rcases bg2.mp hm with hm | hm
   ·have hbD:b ≠ D:=fun z=>by
     rw [z] at hm
     have:=(hb D hm).2
     rw [c.acc] at this
     have:bs.map V.ref = []:=by injection this with e1; injection e1
     have:bs = []:=List.map_eq_nil_iff.mp this
     rw [this] at hm; simp at hm
    refine⟨(hb b hm).1,?_⟩
    rw [aI hbD,aI (cF (hb b hm).2 hr')]
    exact (hb b hm).2
   ·rw [bf3.mp hm]
    exact⟨hrH,by rw [aI hrD,bD]⟩
 ·obtain ⟨bs,rfl,hbl,nd,hb⟩:=hPv
  rw [lw] at hbl
  have R0:jC H H' D bs (fun k=>bE (ls.take 0) k):=by
   refine⟨hD,fun b hm=>⟨(hb b hm).1,fun z=>?_⟩,nd,hDa,fun k b hk=>(hb b (bh1 hk)).2,sm⟩
   rw [z] at hm
   have:=(hb D hm).2
   rw [hDa] at this
   have:bs.map V.ref = []:=by injection this with e1; injection e1
   have:bs = []:=List.map_eq_nil_iff.mp this
   rw [this] at hm; simp at hm
  have lL:=hL.length
  refine⟨_,rfl,a,_,_,_,rfl,rfl,aO.of (sm _ _ ha),rfl,q',rfl,⟨_,aO.of (sm _ _ hq)⟩,aj5 (K:=K) (a:=q') (xs:=ys) (fun i σ H2=>∃ x y:Option V,σ = [some (.ref a),some (.ref D),x,y]/\jC H H2 D bs (fun k=>bE (ls.take i) k))
   ⟨none,none,rfl,R0⟩ (fun i σ H2 _ ⟨_,_,_,R⟩=>aO.of (R.same _ _ hq)) ?_ ?_⟩
  ·rintro i y σ H2 hi ⟨x1,x2,rfl,R⟩
   obtain ⟨l,b,hl,rfl,hbt⟩:=hL.get hi
   have hlm:l ∈ ls:=bh1 hl
   obtain ⟨⟨h1,h2⟩,h3,h4⟩:=hin l hlm
   have k1:l.1.toNat < bs.length:=by omega
   have k2:l.2.toNat < bs.length:=by omega
   have e1:bs[l.1.toNat]? = some (bs[l.1.toNat]):=be3 k1
   have e2:bs[l.2.toNat]? = some (bs[l.2.toNat]):=be3 k2
   refine⟨b,_,rfl,aO.of (R.same _ _ hbt),rfl,_,_,rfl,_,_,rfl,rfl,?_⟩
   refine⟨_,rfl,_,rfl,D,_,_,.ref bs[l.1.toNat],rfl,rfl,aU.of R.row,qH h1 (by rw [bf4,e1]; rfl),kO (aU.of (R.rows _ _ e1)),_,rfl,_,_,_,rfl,rfl,R.rows _ _ e1,?_,?_⟩
   ·rw [be5]
    have:=qG (ls.take i) (l.1.toNat:Nat)
    rw [bj0] at this
    exact i7 (by omega)
   ·have R1:=R.app e1 l.2
    refine⟨_,rfl,_,rfl,D,_,_,.ref bs[l.2.toNat],rfl,rfl,aU.of R1.row,qH h3 (by rw [bf4,e2]; rfl),kO (aU.of (R1.rows _ _ e2)),_,rfl,_,_,_,rfl,rfl,R1.rows _ _ e2,?_,?_⟩
    ·rw [be5]
     have:=qG (ls.take i) (l.2.toNat:Nat)
     rw [bj0] at this
     split
     ·rw [be2,bi8]; exact i7 (by omega)
     ·exact i7 (by omega)
    ·have R2:=R1.app e2 l.1
     refine⟨_,_,rfl,R2.congr fun k hk=>?_⟩
     rw [F8 hl]
     have c1:(k=l.1.toNat) ↔ l.1=(k:Int):=by omega
     have c2:(k=l.2.toNat) ↔ l.2=(k:Int):=by omega
     by_cases d1:k=l.1.toNat
     ·by_cases d2:k=l.2.toNat
      ·rw [if_pos d2,if_pos d1,if_pos (c1.mp d1),if_pos (c2.mp d2)]; simp
      ·rw [if_neg d2,if_pos d1,if_pos (c1.mp d1),if_neg (fun z=>d2 (c2.mpr z))]; simp
     ·by_cases d2:k=l.2.toNat
      ·rw [if_pos d2,if_neg d1,if_neg (fun z=>d1 (c1.mpr z)),if_pos (c2.mp d2)]; simp
      ·rw [if_neg d2,if_neg d1,if_neg (fun z=>d1 (c1.mpr z)),if_neg (fun z=>d2 (c2.mpr z))]; simp
  ·
   rintro σ H2 ⟨x1,x2,rfl,R⟩
   refine⟨_,rfl,q D bs H2 hbl ?_⟩
   rw [lL,bi3] at R
   exact R
theorem aX4:FnScope ["web"] ["web"] (aX (b6 7)):=.au
theorem aX5 (B:Bt mg) (F:FM K mg "hearths_in" 7 f fd)  : Df P w K mg base 1 "hearths_in" ["web"] hG:=
 Df.au F aX4 (fun cdv A outer s H E hr=>by
  exact⟨(Q9),(aM (bI (dS B (a7 (dD (qv 0) aN) aA)))),aF8⟩)
theorem ad3:FnScope ["hearths","inside","hearth"] ["hearths"] (aX (b6 13)):=.au
theorem aX6 (B:Bt mg) (F:FM K mg "marked" 13 f fd)  : Df P w K mg base 1 "marked" ["hearths"] iE:=
 Df.au F ad3 (fun cdv A outer s H E hr=>by
  have nd:=ad3.nd
  have hu:=j8 hr
  exact⟨(R9),(aJ (fA (i:=1) nd M8)
   (aJ (gY 2 nd (dX (qv 0))
    (aM (w5 hu (i:=1) (qv 2) cX)))
   (aM (iR 1)))),aG3⟩)
theorem aX7:FnScope ["hearths","inside"] ["hearths","inside"] (aX (b6 14)):=.au
theorem aX8 (B:Bt mg) (F:FM K mg "count_inside" 14 f fd)  : Df P w K mg base 1 "count_inside" ["hearths","inside"] rP:=
 Df.au F aX7 (fun cdv A outer s H E hr=>by
  have hu:=j8 hr
  exact⟨(S0),(aM (bI (dS B (a7 (iT (N:=["hearth","inside"]) (fr:=[none,some 1]) (dX (qv 0)) (fun _ _ _ _=>(M6 hu (qv 0) (qv 1))) (fun _ _ _ _=>(qv 0))) aA)))),aG4⟩)
theorem aX9:FnScope ["script","k"] ["script","k"] (aX (b6 34)):=.au
theorem aY0 (B:Bt mg) (F:FM K mg "_law_cell_at" 34 f fd)  : Df P w K mg base 1 "_law_cell_at" ["script","k"] kZ:=
 Df.au F aX9 (fun cdv A outer s H E hr=>by
  exact⟨(S6),(aJ (bU (vZ (qv 1) (dS B (a7 (qv 0) aA))) (aM (bI (dD (qv 0) (qv 1)))) cE)
   (aM (bI aN))),aG9⟩)
theorem aY1:FnScope ["found"] ["found"] (aX (b6 35)):=.au
theorem aY2 (B:Bt mg) (F:FM K mg "_law_whole" 35 f fd)  : Df P w K mg base 1 "_law_whole" ["found"] oP:=
 Df.au F aY1 (fun cdv A outer s H E hr=>by
  exact⟨(S8 K),(aM (bI (rB (aC0 B (qv 0)) (rA (aB4 (aC1 B (qv 0))))))),aH0 (oR K).ii (oR K).ib⟩)
theorem ad4:FnScope ["cell","k","turn"] ["cell","k"] (aX (b6 36)):=.au
theorem aY3 (B:Bt mg) (F:FM K mg "_law_stir" 36 f fd)  : Df P w K mg base 1 "_law_stir" ["cell","k"] kD:=
 Df.au F ad4 (fun cdv A outer s H E hr=>by
  have nd:=ad4.nd
  exact⟨(X2),(aJ (bN (i:=2) nd (cO (vX (gF (gF (cO (qv 0) aN) (vX (qv 1) (qv 1))) aN) aN) aN))
   (aM (bI (fS (cO (vX (qv 2) (qv 2)) aN) aN)))),aP7⟩)
theorem aY4:FnScope ["way","wants","degrees"] ["way","wants","degrees"] (aX (b6 37)):=.au
theorem aY5 (B:Bt mg) (F:FM K mg "_law_wants" 37 f fd)  : mL P w K mg base 1 "_law_wants" ["way","wants","degrees"] mO:=
 mL.of F.F F.m aY4 (fun _ _ _ _ _ _ us hl=>by obtain ⟨_,_,_,rfl⟩:=sI hl; rfl) (fun xs Q h=>by unfold mO at h; repeat (first | (obtain ⟨rfl,_⟩:=h; rfl) | (obtain ⟨_,h⟩:=h))) 1 X3 aP8 (fun cdv A outer s H E hr=>by
  exact (sJ (bU (gV (qv 0) aN) (aM (bI (rH (N:=["want"]) (fr:=[none]) (dX (qv 1)) (fun _ _ _ _=>aN)))) cE)
   (sJ (bU (gV (qv 0) aN) (aM (bI (iC B (a7 (qv 2) aA)))) cE)
   (sJ (bU (gV (qv 0) aN) (aM (bI (rH (N:=["degree"]) (fr:=[none]) (dX (qv 2)) (fun _ _ _ _=>(rD B rfl (a7 aN (a7 (oE (qv 0) aN) aA))))))) cE)
   (sJ (bU (gV (qv 0) aN) (aM (bI (rH (N:=["degree"]) (fr:=[none]) (dX (qv 2)) (fun _ _ _ _=>(fS (gF (qv 0) aN) aN))))) cE)
   (aP5 1))))))
theorem ad5:FnScope ["cell","many","wants","links","hearth","one","other"] ["cell","many"] (aX (b6 38)):=.au
theorem aY6 (B:Bt mg) (F:FM K mg "_law_by_digits" 38 f fd)  : Df P w K mg base 1 "_law_by_digits" ["cell","many"] sK:=
 Df.au F ad5 (fun cdv A outer s H E hr=>by
  have nd:=ad5.nd
  have hu:=j8 hr
  exact⟨(X4),(aJ (fA (i:=2) nd (gG aA))
   (aJ (fA (i:=3) nd M9)
   (aJ (gY 4 nd (iS rfl B.range (qv 1))
    (aJ (mC 2 (cO (qv 0) aN))
    (aM (bN (i:=0) nd (fS (qv 0) aN)))))
   (aJ (gY 5 nd (iS rfl B.range (qv 1))
    (aM (gY 6 nd (N3 rfl B.range (gF (qv 5) aN) (qv 1))
     (aJ (bU (gV (cO (qv 0) aN) aN) (aM (N1 hu (i:=3) (gW (a7 (qv 5) (a7 (qv 6) aA))) cX)) cE)
     (aM (bN (i:=0) nd (fS (qv 0) aN)))))))
   (aM (N0 2 (N0 3 (bI (aB5 (a7 (qv 2) (a7 (qv 3) aA))))))))))),aP9⟩)
theorem aY7:FnScope ["web","hearth"] ["web","hearth"] (aX (b6 41)):=.au
theorem aY8 (B:Bt mg) (F:FM K mg "_law_near" 41 f fd)  : Df P w K mg base 1 "_law_near" ["web","hearth"] sN:=
 Df.au F aY7 (fun cdv A outer s H E hr=>by
  exact⟨(X8),(aM (bI (aL7 (N:=["one","other","hearth"]) (fr:=[none,none,some 1]) (dX (dD (qv 0) aN)) (fun _ _ _ _=>(kW (qv 2) (gW (a7 (qv 0) (a7 (qv 1) aA))))) (fun _ _ _ _=>(oE (gF (qv 0) (qv 1)) (qv 2)))))),aQ2⟩)
theorem ad6:FnScope ["some","many","cell","odd","far","spot"] ["some","many","cell"] (aX (b6 49)):=.au
theorem aY9 (B:Bt mg) (F:FM K mg "_law_odd_set" 49 f fd)  : Df P w K mg base 1 "_law_odd_set" ["some","many","cell"] sP:=
 Df.au F ad6 (fun cdv A outer s H E hr=>by
  have nd:=ad6.nd
  exact⟨(Y0),(aJ (fA (i:=3) nd (iC B (a7 (qv 0) aA)))
   (aJ (bN (i:=4) nd (cO (fS (qv 2) aN) (aA5 aN aN)))
   (aJ (bN (i:=5) nd (cO (fS (qv 2) aN) (gF (dS B (a7 (qv 3) aA)) aN)))
   (aJ (bU (fT (iQ (gV (cO (qv 2) aN) aN) (k7 (k6 (dS B (a7 (qv 3) aA)) aN)))) (aM (X9 3 (qv 5) (dD (qv 3) (cO (fS (qv 2) aN) (dS B (a7 (qv 3) aA)))))) (aM (bU (fT (iQ (gV (cO (qv 2) aN) aN) (k7 (k6 (dS B (a7 (qv 3) aA)) aN)))) (aM (aQ4 3)) (aM (X9 3 (qv 5) (dD (gG (a7 (w9 aN) (a7 (qv 1) (a7 (oE (w9 aN) (qv 4)) (a7 (gF (qv 1) (qv 4)) aA))))) (cO (fS (qv 2) aN) aN)))))))
   (aM (bI (gX B (a7 (qv 3) aA)))))))),aQ7⟩)
theorem aZ0:FnScope ["web","number"] ["web","number"] (aX (b6 9)):=.au
theorem aZ1 (B:Bt mg) (F:FM K mg "is_hearth" 9 f fd) (d_hearths_in:Df P w K mg base 1 "hearths_in" ["web"] hG):Df P w K mg base 2 "is_hearth" ["web","number"] mF:=
 Df.au F aZ0 (fun cdv A outer s H E hr=>by
  exact⟨(R3),(aM (bI (rB (vY (qv 1) aN) (rA (aA7 (qv 1) (bB d_hearths_in hr (a7 (qv 0) aA))))))),aF9⟩)
theorem aZ2:FnScope ["web","numbers"] ["web","numbers"] (aX (b6 12)):=.au
theorem aZ3 (B:Bt mg) (F:FM K mg "has_each_once" 12 f fd) (d_hearths_in:Df P w K mg base 1 "hearths_in" ["web"] hG):Df P w K mg base 2 "has_each_once" ["web","numbers"] sA:=
 Df.au F aZ2 (fun cdv A outer s H E hr=>by
  have hu3:=mX hr
  exact⟨(U7),(aM (bI (O3 hu3 (T8 B (a7 (qv 1) aA)) (T0 B (bB d_hearths_in hr (a7 (qv 0) aA)))))),aM1⟩)
theorem ad7:FnScope ["hearths","some","gone"] ["hearths","some"] (aX (b6 15)):=.au
theorem aZ4 (B:Bt mg) (F:FM K mg "without" 15 f fd) (d_marked:Df P w K mg base 1 "marked" ["hearths"] iE):Df P w K mg base 2 "without" ["hearths","some"] sB:=
 Df.au F ad7 (fun cdv A outer s H E hr=>by
  have nd:=ad7.nd
  have hu:=j8 hr
  exact⟨(U9),(aJ (bN (i:=2) nd (bB d_marked hr (a7 (qv 1) aA)))
   (aM (bI (gX B (a7 (iT (N:=["hearth","gone"]) (fr:=[none,some 2]) (dX (qv 0)) (fun _ _ _ _=>(M7 hu (qv 0) (qv 1))) (fun _ _ _ _=>(qv 0))) aA))))),aM5⟩)
theorem aZ5:FnScope ["web","around","burning","hearth"] ["web","around","burning","hearth"] (aX (b6 19)):=.au
theorem aZ6 (B:Bt mg) (F:FM K mg "can_kindle" 19 f fd) (d_count_inside:Df P w K mg base 1 "count_inside" ["hearths","inside"] rP):Df P w K mg base 2 "can_kindle" ["web","around","burning","hearth"] mG:=
 Df.au F aZ5 (fun cdv A outer s H E hr=>by
  have hu:=j8 hr
  exact⟨(S2),(aM (bI (rB (aB2 hu (qv 3) (qv 2)) (rA (vY (bB d_count_inside hr (a7 (dD (qv 1) (qv 3)) (a7 (qv 2) aA))) (dD (dD (qv 0) aN) (qv 3))))))),aG6⟩)
theorem ad8:FnScope ["web","hearth","wants"] ["web","hearth"] (aX (b6 28)):=.au
theorem aZ7 (B:Bt mg) (F:FM K mg "never_kindling" 28 f fd) (d_hearths_in:Df P w K mg base 1 "hearths_in" ["web"] hG):Df P w K mg base 2 "never_kindling" ["web","hearth"] mU:=
 Df.au F ad8 (fun cdv A outer s H E hr=>by
  have nd:=ad8.nd
  exact⟨(Z3),(aJ (fA (i:=2) nd (iC B (a7 (dD (qv 0) aN) aA)))
   (aJ (O9 (i:=2) (qv 1) (bB d_hearths_in hr (a7 (qv 0) aA)))
   (aM (bI (gW (a7 (gX B (a7 (qv 2) aA)) (a7 (dD (qv 0) aN) aA))))))),aS6⟩)
theorem ad9:FnScope ["flow","many","way","wants","links","cell","turn","one","other","degrees"] ["flow","many","way"] (aX (b6 39)):=.au
theorem aZ8 (B:Bt mg) (F:FM K mg "_law_web" 39 f fd) (d__law_by_digits:Df P w K mg base 1 "_law_by_digits" ["cell","many"] sK) (d__law_stir:Df P w K mg base 1 "_law_stir" ["cell","k"] kD) (d__law_wants:mL P w K mg base 1 "_law_wants" ["way","wants","degrees"] mO):Df P w K mg base 2 "_law_web" ["flow","many","way"] sL:=
 Df.au F ad9 (fun cdv A outer s H E hr=>by
  have nd:=ad9.nd
  have hu:=j8 hr
  exact⟨(X5),(aJ (aC6 (i:=3) nd (N:=["k"]) (fr:=[none]) (iS rfl B.range (qv 1)) (fun _ _ _ _=>(gF aN (cO (qv 0) aN))))
   (aJ (fA (i:=4) nd M9)
   (aJ (bU (fT (iQ (k6 (dS B (a7 (qv 0) aA)) aN) (k7 (gV (cO (dD (qv 0) aN) aN) aN)))) (aJ (aP2 3 4 nd (bB d__law_by_digits hr (a7 (fS (dD (qv 0) aN) aN) (a7 (qv 1) aA))))
    (aM (bN (i:=0) nd (O6 (qv 0) (O5 aN) O4)))) cE)
   (aJ (gY 5 nd (dX (qv 0))
    (aM (bU (k6 (qv 1) aN) (aJ (bN (i:=6) nd (bB d__law_stir hr (a7 (qv 5) (a7 aN aA))))
     (aJ (bN (i:=7) nd (cO (qv 6) (qv 1)))
     (aJ (bN (i:=8) nd (cO (fS (qv 6) aN) (qv 1)))
     (aM (bU (gV (cO (fS (qv 6) aN) aN) aN) (aM (O9 (i:=3) (qv 7) (cO (fS (qv 6) aN) aN))) (aM (bU (fT (iQ (oG (qv 7) (qv 8)) (k7 (M6 hu (gW (a7 (w6 B rfl (a7 (qv 7) (a7 (qv 8) aA))) (a7 (rD B rfl (a7 (qv 7) (a7 (qv 8) aA))) aA))) (qv 4))))) (aM (aP4 4 hu (gW (a7 (w6 B rfl (a7 (qv 7) (a7 (qv 8) aA))) (a7 (rD B rfl (a7 (qv 7) (a7 (qv 8) aA))) aA))))) (aM (bU (oG (qv 7) (qv 8)) (aM (N1 hu (i:=4) (gW (a7 (w6 B rfl (a7 (qv 7) (a7 (qv 8) aA))) (a7 (rD B rfl (a7 (qv 7) (a7 (qv 8) aA))) aA))) cX)) cE))))))))) cE)))
   (aJ (aQ9 (i:=9) nd (N:=["hearth","links"]) (fr:=[none,some 4]) (iS rfl B.range (qv 1)) (fun _ _ _ _=>(dS B (a7 (aP0 (N:=["pair","hearth"]) (fr:=[none,some 0]) (qv 1) (fun _ _ _ _=>(kW (qv 1) (qv 0))) (fun _ _ _ _=>(qv 0))) aA))))
   (aM (bI (gW (a7 (gX B (a7 (aP6 d__law_wants hr (a7 (qv 2) (a7 (qv 3) (a7 (qv 9) aA)))) aA)) (a7 (gX B (a7 (aH9 B (a7 (aH6 B rfl (a7 (qv 4) aA)) aA)) aA)) aA)))))))))),aQ0⟩)
theorem aZ9:FnScope ["cell","many"] ["cell","many"] (aX (b6 40)):=.au
theorem ba0 (B:Bt mg) (F:FM K mg "_law_some" 40 f fd) (d__law_stir:Df P w K mg base 1 "_law_stir" ["cell","k"] kD):Df P w K mg base 2 "_law_some" ["cell","many"] sM:=
 Df.au F aZ9 (fun cdv A outer s H E hr=>by
  exact⟨(X7),(aJ (bU (gV (cO (qv 0) aN) aN) (aM (bI (gX B (a7 (iT (N:=["k","cell"]) (fr:=[none,some 0]) (iS rfl B.range (qv 1)) (fun _ _ _ _=>(gV (cO (aA6 (qv 1) (gF (qv 0) aN)) aN) aN)) (fun _ _ _ _=>(qv 0))) aA)))) cE)
   (aM (bI (gX B (a7 (iT (N:=["k","cell"]) (fr:=[none,some 0]) (iS rfl B.range (qv 1)) (fun _ _ _ _=>(vZ (cO (bB d__law_stir hr (a7 (qv 1) (a7 (qv 0) aA))) aN) (gF aN (cO (fS (qv 1) aN) aN)))) (fun _ _ _ _=>(qv 0))) aA))))),aQ1⟩)
theorem ba1:FnScope ["web","burning","hearth"] ["web","burning","hearth"] (aX (b6 42)):=.au
theorem ba2 (B:Bt mg) (F:FM K mg "_law_kindles" 42 f fd) (d__law_near:Df P w K mg base 1 "_law_near" ["web","hearth"] sN):Df P w K mg base 2 "_law_kindles" ["web","burning","hearth"] lE:=
 Df.au F ba1 (fun cdv A outer s H E hr=>by
  exact⟨(Y9),(aJ (bU (kW (qv 2) (qv 1)) (aM (bI cX)) cE)
   (aM (bI (vY (dS B (a7 (iT (N:=["other","burning"]) (fr:=[none,some 1]) (dX (bB d__law_near hr (a7 (qv 0) (a7 (qv 2) aA)))) (fun _ _ _ _=>(kW (qv 0) (qv 1))) (fun _ _ _ _=>(qv 0))) aA)) (dD (dD (qv 0) aN) (qv 2)))))),aS0⟩)
theorem ae0:FnScope ["found","due","pair"] ["found","due"] (aX (b6 46)):=.au
theorem ba3 (B:Bt mg) (F:FM K mg "_law_told_good" 46 f fd) (d__law_whole:Df P w K mg base 1 "_law_whole" ["found"] oP):Df P w K mg base 2 "_law_told_good" ["found","due"] t8:=
 Df.au F ae0 (fun cdv A outer s H E hr=>by
  have nd:=ae0.nd
  have hu3:=mX hr
  exact⟨(ac5 K),(aJ (bU (fT (jK (fJ (dR (aC2 B (qv 0)))) (mB (rF hu3 (qv 0) (qv 1))))) (aM (bI cX)) cE)
   (aJ (gY 2 nd (dX (qv 0))
    (aM (bU (fT (jK (fJ (dR (O1 B (qv 2)))) (jK (fJ (dR (bB d__law_whole hr (a7 (dD (qv 2) aN) aA)))) (mB (fJ (dR (bB d__law_whole hr (a7 (dD (qv 2) aN) aA)))))))) (aM (bI cX)) cE)))
   (aM (bI cX)))),aW7 (oR K).ll (oR K).tt⟩)
theorem ba4:FnScope ["web","numbers"] ["web","numbers"] (aX (b6 10)):=.au
theorem ba5 (B:Bt mg) (F:FM K mg "is_set" 10 f fd) (d_rises:Df P w K mg base 1 "rises" ["things"] wK) (d_is_hearth:Df P w K mg base 2 "is_hearth" ["web","number"] mF):Df P w K mg base 3 "is_set" ["web","numbers"] rN:=
 Df.au F ba4 (fun cdv A outer s H E hr=>by
  exact⟨(R4),(aM (bI (rB (bB d_rises hr (a7 (qv 1) aA)) (rA (aB7 B rfl (a7 (rH (N:=["number","web"]) (fr:=[none,some 0]) (dX (qv 1)) (fun _ _ _ _=>(bB d_is_hearth hr (a7 (qv 1) (a7 (qv 0) aA))))) aA)))))),aG0⟩)
theorem ba6:FnScope ["web","around","burning"] ["web","around","burning"] (aX (b6 18)):=.au
theorem ba7 (B:Bt mg) (F:FM K mg "kindling" 18 f fd) (d_can_kindle:Df P w K mg base 2 "can_kindle" ["web","around","burning","hearth"] mG) (d_hearths_in:Df P w K mg base 1 "hearths_in" ["web"] hG):Df P w K mg base 3 "kindling" ["web","around","burning"] oN:=
 Df.au F ba6 (fun cdv A outer s H E hr=>by
  exact⟨(S3),(aM (bI (gX B (a7 (iT (N:=["hearth","web","around","burning"]) (fr:=[none,some 0,some 1,some 2]) (iS rfl B.range (bB d_hearths_in hr (a7 (qv 0) aA))) (fun _ _ _ _=>(dR (bB d_can_kindle hr (a7 (qv 1) (a7 (qv 2) (a7 (qv 3) (a7 (qv 0) aA))))))) (fun _ _ _ _=>(qv 0))) aA)))),aG7⟩)
theorem ae1:FnScope ["web","around","burning","order","hearth"] ["web","around","burning","order"] (aX (b6 23)):=.au
theorem ba8 (B:Bt mg) (F:FM K mg "first_to_kindle" 23 f fd) (d_can_kindle:Df P w K mg base 2 "can_kindle" ["web","around","burning","hearth"] mG):Df P w K mg base 3 "first_to_kindle" ["web","around","burning","order"] oU:=
 Df.au F ae1 (fun cdv A outer s H E hr=>by
  have nd:=ae1.nd
  exact⟨(U8),(aJ (gY 4 nd (dX (qv 3))
    (aM (bU (dR (bB d_can_kindle hr (a7 (qv 0) (a7 (qv 1) (a7 (qv 2) (a7 (qv 4) aA)))))) (aM (iR 4)) cE)))
   (aM (bI jI))),aM3⟩)
theorem ae2:FnScope ["web","burning","barred","row","going","hearth"] ["web","burning","barred"] (aX (b6 43)):=.au
theorem ba9 (B:Bt mg) (F:FM K mg "_law_goes_on" 43 f fd) (d__law_kindles:Df P w K mg base 2 "_law_kindles" ["web","burning","hearth"] lE):Df P w K mg base 3 "_law_goes_on" ["web","burning","barred"] jP:=
 Df.au F ae2 (fun cdv A outer s H E hr=>by
  have nd:=ae2.nd
  exact⟨(ab8),(aJ (fA (i:=3) nd (gG aA))
   (aJ (bN (i:=4) nd cX)
   (aJ (rC PassesOwn.never (dR (qv 4))
    (aJ (bN (i:=4) nd cX)
    (aM (gY 5 nd (iS rfl B.range (dS B (a7 (dD (qv 0) aN) aA)))
     (aM (bU (fT (iQ (fJ (dR (qv 4))) (iQ (aS2 (qv 5) (qv 2)) (k7 (dR (bB d__law_kindles hr (a7 (qv 0) (a7 (oS (qv 1) (qv 3)) (a7 (qv 5) aA))))))))) (aJ (mC 3 (qv 5))
      (aM (bN (i:=4) nd cX))) cE))))))
   (aM (iR 3))))),aW0⟩)
theorem ae3:FnScope ["web","seeds","cell","row","able"] ["web","seeds","cell"] (aX (b6 44)):=.au
theorem bb0 (B:Bt mg) (F:FM K mg "_law_picked" 44 f fd) (d__law_kindles:Df P w K mg base 2 "_law_kindles" ["web","burning","hearth"] lE) (d__law_stir:Df P w K mg base 1 "_law_stir" ["cell","k"] kD):Df P w K mg base 3 "_law_picked" ["web","seeds","cell"] sU:=
 Df.au F ae3 (fun cdv A outer s H E hr=>by
  have nd:=ae3.nd
  have hu3:=mX hr
  exact⟨(Z1),(aJ (fA (i:=3) nd (gG aA))
   (aJ (O7 (i:=4) nd (N:=["hearth","web","seeds"]) (fr:=[none,some 0,some 1]) (iS rfl B.range (dS B (a7 (dD (qv 0) aN) aA))) (fun _ _ _ _=>(dR (bB d__law_kindles hr (a7 (qv 1) (a7 (iC B (a7 (qv 2) aA)) (a7 (qv 0) aA)))))) (fun _ _ _ _=>(qv 0)))
   (aJ (rC PassesOwn.never (rF hu3 (qv 4) (gG aA))
    (aJ (mC 3 (dD (qv 4) (cO (bB d__law_stir hr (a7 (qv 2) (a7 (dS B (a7 (qv 3) aA)) aA))) (dS B (a7 (qv 4) aA)))))
    (aM (O7 (i:=4) nd (N:=["hearth","web","row","seeds"]) (fr:=[none,some 0,some 3,some 1]) (iS rfl B.range (dS B (a7 (dD (qv 0) aN) aA))) (fun _ _ _ _=>(dR (bB d__law_kindles hr (a7 (qv 1) (a7 (oS (iC B (a7 (qv 3) aA)) (qv 2)) (a7 (qv 0) aA)))))) (fun _ _ _ _=>(qv 0))))))
   (aM (iR 3))))),aS4⟩)
theorem bb1:FnScope ["web","hearths"] ["web","hearths"] (aX (b6 11)):=.au
theorem bb2 (B:Bt mg) (F:FM K mg "made_set" 11 f fd) (d_is_set:Df P w K mg base 3 "is_set" ["web","numbers"] rN) (x_BadSet:Xc K mg base "BadSet"):bH P w K mg base 4 "made_set" ["web","hearths"] kC:=
 bH.au F bb1 W7 aO5 (fun cdv A outer s H E Ep hr hX=>by
  exact (aJ (bU (fJ (dR (bB d_is_set hr (a7 (qv 0) (a7 (qv 1) aA))))) (aM (oW hX x_BadSet (a7 oD aA))) cE)
   (aM (bI (gX B (a7 (qv 1) aA))))))
theorem ae4:FnScope ["web","seeds","some","due","one","row"] ["web","seeds","some"] (aX (b6 45)):=.au
theorem bb3 (B:Bt mg) (F:FM K mg "_law_pairs" 45 f fd) (d__law_goes_on:Df P w K mg base 3 "_law_goes_on" ["web","burning","barred"] jP):Df P w K mg base 4 "_law_pairs" ["web","seeds","some"] t6:=
 Df.au F ae4 (fun cdv A outer s H E hr=>by
  have nd:=ae4.nd
  exact⟨(ac0),(aJ (fA (i:=3) nd (gG aA))
   (aJ (gY 4 nd (dX (qv 2))
    (aJ (bN (i:=5) nd (bB d__law_goes_on hr (a7 (qv 0) (a7 (iC B (a7 (qv 1) aA)) (a7 (qv 4) aA)))))
    (aM (O8 3 (iT (N:=["other","one","row"]) (fr:=[none,some 4,some 5]) (dX (N6 B (a7 (qv 2) aA))) (fun _ _ _ _=>(fT (iQ (oG (qv 0) (qv 1)) (k7 (oH (qv 0) (qv 2)))))) (fun _ _ _ _=>(gW (a7 (qv 1) (a7 (qv 0) aA)))))))))
   (aM (iR 3)))),aW2⟩)
theorem ae5:FnScope ["web","seeds","told","burning","around","lit"] ["web","seeds"] (aX (b6 17)):=.au
theorem bb4 (B:Bt mg) (F:FM K mg "rounds" 17 f fd) (d_marked:Df P w K mg base 1 "marked" ["hearths"] iE) (d_near_lists:Df P w K mg base 1 "near_lists" ["web"] oM) (d_kindling:Df P w K mg base 3 "kindling" ["web","around","burning"] oN) (d_made_set:bH P w K mg base 4 "made_set" ["web","hearths"] kC):bH P w K mg base 5 "rounds" ["web","seeds"] sQ:=
 bH.au F ae5 Y1 aR0 (fun cdv A outer s H E Ep hr hX=>by
  have nd:=ae5.nd
  exact (aJ (fA (i:=2) nd (gG (a7 (fL hX d_made_set hr (a7 (qv 0) (a7 (qv 1) aA))) aA)))
   (aJ (fA (i:=3) nd (bB d_marked hr (a7 (dD (qv 2) aN) aA)))
   (aJ (bN (i:=4) nd (bB d_near_lists hr (a7 (qv 0) aA)))
   (aJ (bN (i:=5) nd (bB d_kindling hr (a7 (qv 0) (a7 (qv 4) (a7 (qv 3) aA)))))
   (aJ (rC hX.own (aB3 (qv 5))
    (aJ (mC 2 (qv 5))
    (aJ (aC8 3 (bB d_marked hr (a7 (qv 5) aA)))
    (aM (bN (i:=5) nd (bB d_kindling hr (a7 (qv 0) (a7 (qv 4) (a7 (qv 3) aA)))))))))
   (aM (iR 2))))))))
theorem ae6:FnScope ["web","seeds","order","burning","around","kindled","hearth"] ["web","seeds","order"] (aX (b6 22)):=.au
theorem bb5 (B:Bt mg) (F:FM K mg "kindled_by" 22 f fd) (d_marked:Df P w K mg base 1 "marked" ["hearths"] iE) (d_near_lists:Df P w K mg base 1 "near_lists" ["web"] oM) (d_first_to_kindle:Df P w K mg base 3 "first_to_kindle" ["web","around","burning","order"] oU) (d_made_set:bH P w K mg base 4 "made_set" ["web","hearths"] kC) (d_has_each_once:Df P w K mg base 2 "has_each_once" ["web","numbers"] sA) (x_BadOrder:Xc K mg base "BadOrder"):bH P w K mg base 5 "kindled_by" ["web","seeds","order"] sS:=
 bH.au F ae6 Y7 aR8 (fun cdv A outer s H E Ep hr hX=>by
  have nd:=ae6.nd
  have hu:=j8 hr
  exact (aJ (fA (i:=3) nd (bB d_marked hr (a7 (fL hX d_made_set hr (a7 (qv 0) (a7 (qv 1) aA))) aA)))
   (aJ (bU (fJ (dR (bB d_has_each_once hr (a7 (qv 0) (a7 (qv 2) aA))))) (aM (oW hX x_BadOrder (a7 oD aA))) cE)
   (aJ (bN (i:=4) nd (bB d_near_lists hr (a7 (qv 0) aA)))
   (aJ (fA (i:=5) nd (gG aA))
   (aJ (bN (i:=6) nd (bB d_first_to_kindle hr (a7 (qv 0) (a7 (qv 4) (a7 (qv 3) (a7 (qv 2) aA))))))
   (aJ (rC hX.own (aB1 (qv 6) jI)
    (aJ (mC 5 (qv 6))
    (aJ (w5 hu (i:=3) (qv 6) cX)
    (aM (bN (i:=6) nd (bB d_first_to_kindle hr (a7 (qv 0) (a7 (qv 4) (a7 (qv 3) (a7 (qv 2) aA))))))))))
   (aM (iR 5)))))))))
theorem ae7:FnScope ["web","seeds","ranks","rank","lit","hearth"] ["web","seeds"] (aX (b6 20)):=.au
theorem bb6 (B:Bt mg) (F:FM K mg "ranks_of" 20 f fd) (d_rounds:bH P w K mg base 5 "rounds" ["web","seeds"] sQ):bH P w K mg base 6 "ranks_of" ["web","seeds"] sR:=
 bH.au F ae7 Y2 aR1 (fun cdv A outer s H E Ep hr hX=>by
  have nd:=ae7.nd
  have hu:=j8 hr
  exact (aJ (fA (i:=2) nd M8)
   (aJ (aC5 3 4 (hp:=hX.own) nd (aL5 rfl B.enum (fL hX d_rounds hr (a7 (qv 0) (a7 (qv 1) aA))))
    (aM (gY 5 (hp:=hX.own) nd (dX (qv 4))
     (aM (w5 hu (i:=2) (qv 5) (qv 3))))))
   (aM (iR 2)))))
theorem bb7:FnScope ["web","seeds"] ["web","seeds"] (aX (b6 25)):=.au
theorem bb8 (B:Bt mg) (F:FM K mg "first_order" 25 f fd) (d_kindled_by:bH P w K mg base 5 "kindled_by" ["web","seeds","order"] sS) (d_hearths_in:Df P w K mg base 1 "hearths_in" ["web"] hG):bH P w K mg base 6 "first_order" ["web","seeds"] oZ:=
 bH.au F bb7 Y8 aR9 (fun cdv A outer s H E Ep hr hX=>by
  exact (aM (bI (gX B (a7 (fL hX d_kindled_by hr (a7 (qv 0) (a7 (qv 1) (a7 (T0 B (bB d_hearths_in hr (a7 (qv 0) aA))) aA)))) aA)))))
theorem bb9:FnScope ["web","seeds"] ["web","seeds"] (aX (b6 21)):=.au
theorem bc0 (B:Bt mg) (F:FM K mg "burnt" 21 f fd) (d_ranks_of:bH P w K mg base 6 "ranks_of" ["web","seeds"] sR):bH P w K mg base 7 "burnt" ["web","seeds"] mR:=
 bH.au F bb9 Y3 aR2 (fun cdv A outer s H E Ep hr hX=>by
  exact (aM (bI (gX B (a7 (aN3 B rfl (a7 (fL hX d_ranks_of hr (a7 (qv 0) (a7 (qv 1) aA))) aA)) aA)))))
theorem ae8:FnScope ["web","seeds","hearth","chosen"] ["web","seeds","hearth"] (aX (b6 27)):=.au
theorem bc1 (B:Bt mg) (F:FM K mg "burnt_without" 27 f fd) (d_made_set:bH P w K mg base 4 "made_set" ["web","hearths"] kC) (d_burnt:bH P w K mg base 7 "burnt" ["web","seeds"] mR) (d_never_kindling:Df P w K mg base 2 "never_kindling" ["web","hearth"] mU) (d_is_hearth:Df P w K mg base 2 "is_hearth" ["web","number"] mF) (x_NoSuch:Xc K mg base "NoSuch"):bH P w K mg base 8 "burnt_without" ["web","seeds","hearth"] mV:=
 bH.au F ae8 Z4 aS7 (fun cdv A outer s H E Ep hr hX=>by
  have nd:=ae8.nd
  exact (aJ (bN (i:=3) nd (fL hX d_made_set hr (a7 (qv 0) (a7 (qv 1) aA))))
   (aJ (bU (fT (jK (fJ (dR (bB d_is_hearth hr (a7 (qv 0) (a7 (qv 2) aA))))) (mB (kW (qv 2) (qv 3))))) (aM (oW hX x_NoSuch (a7 oD aA))) cE)
   (aM (bI (fL hX d_burnt hr (a7 (bB d_never_kindling hr (a7 (qv 0) (a7 (qv 2) aA))) (a7 (qv 3) aA))))))))
theorem bc2:FnScope ["web","seeds"] ["web","seeds"] (aX (b6 29)):=.au
theorem bc3 (B:Bt mg) (F:FM K mg "kindled_hearths" 29 f fd) (d_without:Df P w K mg base 2 "without" ["hearths","some"] sB) (d_burnt:bH P w K mg base 7 "burnt" ["web","seeds"] mR):bH P w K mg base 8 "kindled_hearths" ["web","seeds"] kE:=
 bH.au F bc2 ab2 aV5 (fun cdv A outer s H E Ep hr hX=>by
  exact (aM (bI (bB d_without hr (a7 (fL hX d_burnt hr (a7 (qv 0) (a7 (qv 1) aA))) (a7 (qv 1) aA))))))
theorem ae9:FnScope ["web","seeds","later","pairs","one","still"] ["web","seeds"] (aX (b6 30)):=.au
theorem bc4 (B:Bt mg) (F:FM K mg "musts" 30 f fd) (d_kindled_hearths:bH P w K mg base 8 "kindled_hearths" ["web","seeds"] kE) (d_marked:Df P w K mg base 1 "marked" ["hearths"] iE) (d_burnt_without:bH P w K mg base 8 "burnt_without" ["web","seeds","hearth"] mV):bH P w K mg base 9 "musts" ["web","seeds"] lF:=
 bH.au F ae9 ab3 aV6 (fun cdv A outer s H E Ep hr hX=>by
  have nd:=ae9.nd
  have hu:=j8 hr
  exact (aJ (bN (i:=2) nd (fL hX d_kindled_hearths hr (a7 (qv 0) (a7 (qv 1) aA))))
   (aJ (fA (i:=3) nd (gG aA))
   (aJ (gY 4 (hp:=hX.own) nd (dX (qv 2))
    (aJ (bN (i:=5) nd (bB d_marked hr (a7 (fL hX d_burnt_without hr (a7 (qv 0) (a7 (qv 1) (a7 (qv 4) aA)))) aA)))
    (aM (O8 3 (iT (N:=["other","one","still"]) (fr:=[none,some 4,some 5]) (dX (qv 2)) (fun _ _ _ _=>(fT (iQ (oG (qv 0) (qv 1)) (k7 (M7 hu (qv 0) (qv 2)))))) (fun _ _ _ _=>(gW (a7 (qv 1) (a7 (qv 0) aA)))))))))
   (aM (iR 3))))))
theorem af0:FnScope ["web","seeds","one","other","later","ahead","row"] ["web","seeds","one","other"] (aX (b6 31)):=.au
theorem bc5 (B:Bt mg) (F:FM K mg "order_with" 31 f fd) (d_kindled_hearths:bH P w K mg base 8 "kindled_hearths" ["web","seeds"] kE) (d_first_order:bH P w K mg base 6 "first_order" ["web","seeds"] oZ) (d_never_kindling:Df P w K mg base 2 "never_kindling" ["web","hearth"] mU) (x_NoSuch:Xc K mg base "NoSuch"):bH P w K mg base 9 "order_with" ["web","seeds","one","other"] kF:=
 bH.au F af0 ab5 aV8 (fun cdv A outer s H E Ep hr hX=>by
  have nd:=af0.nd
  exact (aJ (bN (i:=4) nd (fL hX d_kindled_hearths hr (a7 (qv 0) (a7 (qv 1) aA))))
   (aJ (bU (fT (jK (oH (qv 2) (qv 4)) (jK (oH (qv 3) (qv 4)) (mB (gV (qv 2) (qv 3)))))) (aM (oW hX x_NoSuch (a7 oD aA))) cE)
   (aJ (bN (i:=5) nd (fL hX d_first_order hr (a7 (bB d_never_kindling hr (a7 (qv 0) (a7 (qv 3) aA))) (a7 (qv 1) aA))))
   (aJ (bU (oH (qv 2) (qv 5)) (aM (bI jI)) cE)
   (aJ (bN (i:=6) nd (x3 (qv 5) (gW (a7 (qv 3) aA))))
   (aM (bI (x3 (qv 6) (fL hX d_first_order hr (a7 (qv 0) (a7 (T8 B (a7 (x3 (gX B (a7 (qv 1) aA)) (qv 6)) aA)) aA))))))))))))
theorem bc6:FnScope ["web","seeds","hearth"] ["web","seeds","hearth"] (aX (b6 32)):=.au
theorem bc7 (B:Bt mg) (F:FM K mg "last_place" 32 f fd) (d_kindled_hearths:bH P w K mg base 8 "kindled_hearths" ["web","seeds"] kE) (d_burnt_without:bH P w K mg base 8 "burnt_without" ["web","seeds","hearth"] mV) (x_NoSuch:Xc K mg base "NoSuch"):bH P w K mg base 9 "last_place" ["web","seeds","hearth"] mW:=
 bH.au F bc6 ab9 aW1 (fun cdv A outer s H E Ep hr hX=>by
  exact (aJ (bU (oH (qv 2) (fL hX d_kindled_hearths hr (a7 (qv 0) (a7 (qv 1) aA)))) (aM (oW hX x_NoSuch (a7 oD aA))) cE)
   (aM (bI (oE (dS B (a7 (fL hX d_burnt_without hr (a7 (qv 0) (a7 (qv 1) (a7 (qv 2) aA)))) aA)) (dS B (a7 (qv 1) aA)))))))
theorem af1:FnScope ["web","seeds","one","other","caught","e"] ["web","seeds","one","other"] (aX (b6 47)):=.au
theorem bc8 (B:Bt mg) (F:FM K mg "_law_refused" 47 f fd) (d_order_with:bH P w K mg base 9 "order_with" ["web","seeds","one","other"] kF) (cat_HearthError:sE K mg "HearthError") (is_NoSuch:mK K mg "NoSuch"):Df P w K mg base 10 "_law_refused" ["web","seeds","one","other"] pB:=
 Df.au F af1 (fun cdv A outer s H E hr=>by
  have nd:=af1.nd
  exact⟨(ac1),(aJ (bN (i:=4) nd cX)
   (aJ (V9 5 cat_HearthError nd (x6 d_order_with hr (fun _=>(a7 (qv 0) (a7 (qv 1) (a7 (qv 2) (a7 (qv 3) aA)))))) (fun _=>(aM (bN (i:=4) nd (xA B is_NoSuch (qv 5))))))
   (aM (iR 4)))),aW3⟩)
theorem af2:FnScope ["web","seeds","one","other","due","found","ahead","row"] ["web","seeds","one","other","due"] (aX (b6 48)):=.au
theorem bc9 (B:Bt mg) (F:FM K mg "_law_two_good" 48 f fd) (d_order_with:bH P w K mg base 9 "order_with" ["web","seeds","one","other"] kF) (d__law_goes_on:Df P w K mg base 3 "_law_goes_on" ["web","burning","barred"] jP) (d_last_place:bH P w K mg base 9 "last_place" ["web","seeds","hearth"] mW):Df P w K mg base 10 "_law_two_good" ["web","seeds","one","other","due"] t7:=
 Df.au F af2 (fun cdv A outer s H E hr=>by
  have nd:=af2.nd
  have hu3:=mX hr
  exact⟨(ac4 K),(aJ (bN (i:=5) nd (oV d_order_with hr (a7 (qv 0) (a7 (qv 1) (a7 (qv 2) (a7 (qv 3) aA))))))
   (aJ (bU (aU9 hu3 (gW (a7 (qv 3) (a7 (qv 2) aA))) (qv 4)) (aM (bI (aA9 (qv 5) jI))) cE)
   (aJ (bN (i:=6) nd (bB d__law_goes_on hr (a7 (qv 0) (a7 (iC B (a7 (qv 1) aA)) (a7 (qv 3) aA)))))
   (aJ (bN (i:=7) nd (oS (qv 6) (gG (a7 (qv 3) aA))))
   (aJ (bN (i:=7) nd (oS (qv 7) (bB d__law_goes_on hr (a7 (qv 0) (a7 (oS (iC B (a7 (qv 1) aA)) (qv 7)) (a7 jI aA))))))
   (aJ (bU (fT (jK (fJ (dR (O1 B (qv 5)))) (jK (rF hu3 (iC B (a7 (qv 5) aA)) (qv 7)) (mB (fJ (vZ (aa8 (qv 5) (qv 2)) (aa8 (qv 5) (qv 3)))))))) (aM (bI cX)) cE)
   (aM (bI (aA8 (oV d_last_place hr (a7 (qv 0) (a7 (qv 1) (a7 (qv 3) aA)))) (dS B (a7 (qv 6) aA))))))))))),aW6 (oR K).tt⟩)
theorem af3:FnScope ["web","seeds","one","other","signs","e"] ["web","seeds","one","other"] (aX (b6 50)):=.au
theorem bd0 (B:Bt mg) (F:FM K mg "_law_set_refused" 50 f fd) (d_musts:bH P w K mg base 9 "musts" ["web","seeds"] lF) (d_order_with:bH P w K mg base 9 "order_with" ["web","seeds","one","other"] kF) (cat_HearthError:sE K mg "HearthError") (is_BadSet:mK K mg "BadSet") (is_NoSuch:mK K mg "NoSuch") (is_ValueError:x9 K mg):Df P w K mg base 10 "_law_set_refused" ["web","seeds","one","other"] pC:=
 Df.au F af3 (fun cdv A outer s H E hr=>by
  have nd:=af3.nd
  have hu3:=mX hr
  exact⟨(ac2),(aJ (bN (i:=4) nd (gG aA))
   (aJ (V9 5 cat_HearthError nd (aN8 (fun _=>(aB0 (qv 2) jI)) (x6 d_musts hr (fun _=>(a7 (qv 0) (a7 (qv 1) aA)))) (x6 d_order_with hr (fun _=>(a7 (qv 0) (a7 (qv 1) (a7 (qv 2) (a7 (qv 3) aA))))))) (fun _=>(aM (bN (i:=4) nd (gG (a7 (xA B is_BadSet (qv 5)) (a7 (xA B is_NoSuch (qv 5)) (a7 (aO3 B is_ValueError (qv 5)) aA))))))))
   (aM (bI (O3 hu3 (qv 4) (gG (a7 cX (a7 cX (a7 cX aA))))))))),aW4⟩)
theorem af4:FnScope ["script","many","cell","web","seeds","odd","some","due","found","row","one","other"] ["script"] (aX (b6 51)):=.au
theorem bd1 (B:Bt mg) (F:eR K "law" "law" (b6 51) f fd) (d__law_cell_at:Df P w K mg base 1 "_law_cell_at" ["script","k"] kZ) (d__law_web:Df P w K mg base 2 "_law_web" ["flow","many","way"] sL) (d__law_some:Df P w K mg base 2 "_law_some" ["cell","many"] sM) (d__law_odd_set:Df P w K mg base 1 "_law_odd_set" ["some","many","cell"] sP) (d__law_pairs:Df P w K mg base 4 "_law_pairs" ["web","seeds","some"] t6) (d_musts:bH P w K mg base 9 "musts" ["web","seeds"] lF) (d__law_picked:Df P w K mg base 3 "_law_picked" ["web","seeds","cell"] sU) (d__law_goes_on:Df P w K mg base 3 "_law_goes_on" ["web","burning","barred"] jP) (d__law_told_good:Df P w K mg base 2 "_law_told_good" ["found","due"] t8) (d__law_set_refused:Df P w K mg base 10 "_law_set_refused" ["web","seeds","one","other"] pC) (d__law_two_good:Df P w K mg base 10 "_law_two_good" ["web","seeds","one","other","due"] t7) (d__law_refused:Df P w K mg base 10 "_law_refused" ["web","seeds","one","other"] pB) (d_last_place:bH P w K mg base 9 "last_place" ["web","seeds","hearth"] mW):cV P w K mg base dL 11 f fd ["script"] (o7 K xX):=
 aJ1 F af4 (fun xs Q h=>by unfold xX at h; repeat (first | (obtain ⟨rfl,_⟩:=h; rfl) | (obtain ⟨_,h⟩:=h))) (fun cdv A outer s H E hr=>by
  have nd:=af4.nd
  have hu3:=mX hr
  exact⟨(ad0),(aJ (bN (i:=1) nd (cO (bB d__law_cell_at hr (a7 (qv 0) (a7 aN aA))) aN))
   (aJ (bN (i:=2) nd (bB d__law_cell_at hr (a7 (qv 0) (a7 aN aA))))
   (aJ (bN (i:=3) nd (bB d__law_web hr (a7 (O6 (qv 0) (O5 aN) O4) (a7 (qv 1) (a7 (cO (bB d__law_cell_at hr (a7 (qv 0) (a7 aN aA))) aN) aA)))))
   (aJ (bN (i:=4) nd (bB d__law_some hr (a7 (fS (bB d__law_cell_at hr (a7 (qv 0) (a7 aN aA))) aN) (a7 (qv 1) aA))))
   (aJ (bN (i:=5) nd (bB d__law_odd_set hr (a7 (qv 4) (a7 (qv 1) (a7 (qv 2) aA)))))
   (aJ (bU (fT (jK (fJ (dR (bB d__law_set_refused hr (a7 (qv 3) (a7 (qv 5) (a7 jI (a7 jI aA))))))) (mB (fJ (dR (bB d__law_set_refused hr (a7 (qv 3) (a7 (qv 5) (a7 aN (a7 (cO (qv 2) (gF (qv 1) aN)) aA)))))))))) (aM (bI cX)) cE)
   (aJ (bN (i:=6) nd (N6 B (a7 (bB d__law_goes_on hr (a7 (qv 3) (a7 (iC B (a7 (qv 4) aA)) (a7 jI aA)))) aA)))
   (aJ (bN (i:=7) nd (bB d__law_pairs hr (a7 (qv 3) (a7 (qv 4) (a7 (qv 6) aA)))))
   (aJ (fA (i:=8) nd (oV d_musts hr (a7 (qv 3) (a7 (qv 4) aA))))
   (aJ (bU (fJ (dR (bB d__law_told_good hr (a7 (qv 8) (a7 (qv 7) aA))))) (aM (bI cX)) cE)
   (aJ (mC 8 (gW (a7 aN (a7 aN aA))))
   (aJ (bU (rF hu3 (oV d_musts hr (a7 (qv 3) (a7 (iC B (a7 (qv 4) aA)) aA))) (qv 7)) (aM (bI cX)) cE)
   (aJ (bN (i:=9) nd (bB d__law_picked hr (a7 (qv 3) (a7 (qv 4) (a7 (qv 2) aA)))))
   (aJ (bU (k6 (dS B (a7 (iT (N:=["pair","row"]) (fr:=[none,some 9]) (dX (qv 7)) (fun _ _ _ _=>(k6 (xR (qv 1) (dD (qv 0) aN)) (xR (qv 1) (dD (qv 0) aN)))) (fun _ _ _ _=>(qv 0))) aA)) aN) (aM (bI cX)) cE)
   (aJ (bU (k6 (dS B (a7 (iT (N:=["hearth","web","seeds","row"]) (fr:=[none,some 3,some 4,some 9]) (dX (qv 6)) (fun _ _ _ _=>(k6 (xR (qv 3) (qv 0)) (oV d_last_place hr (a7 (qv 1) (a7 (qv 2) (a7 (qv 0) aA)))))) (fun _ _ _ _=>(qv 0))) aA)) aN) (aM (bI cX)) cE)
   (aJ (gY 10 nd (N3 rfl B.range (w9 aN) (gF (qv 1) aN))
    (aJ (bN (i:=11) nd (oE (cO (qv 2) (gF (qv 1) aN)) aN))
    (aM (bU (fT (iQ (kW (qv 10) (qv 6)) (iQ (kW (qv 11) (qv 6)) (k7 (oG (qv 10) (qv 11)))))) (aM (bU (fJ (dR (bB d__law_two_good hr (a7 (qv 3) (a7 (qv 4) (a7 (qv 10) (a7 (qv 11) (a7 (qv 7) aA)))))))) (aM (bI cX)) cE)) (aM (bU (fJ (dR (bB d__law_refused hr (a7 (qv 3) (a7 (qv 4) (a7 (qv 10) (a7 (qv 11) aA))))))) (aM (bI cX)) cE))))))
   (aM (bI cX)))))))))))))))))),aX1⟩)
end
set_option autoImplicit true in
theorem bd2 {l:OpenLaw}{w:World}{K:Frag}{h:Heap}{mg:Str->Option Value} (X:K.In h) (G:h.Ns mainGlobals mg) (hfa:mg "law" = some (.ref fa))
  (h0:FK K "rises" 6 f0 d0)
  (h1:FK K "hearths_in" 7 f1 d1)
  (h2:FK K "near_lists" 8 f2 d2)
  (h3:FK K "marked" 13 f3 d3)
  (h4:FK K "count_inside" 14 f4 d4)
  (h5:FK K "_law_cell_at" 34 f5 d5)
  (h6:FK K "_law_whole" 35 f6 d6)
  (h7:FK K "_law_stir" 36 f7 d7)
  (h8:FK K "_law_wants" 37 f8 d8)
  (h9:FK K "_law_by_digits" 38 f9 d9)
  (h10:FK K "_law_near" 41 f10 d10)
  (h11:FK K "_law_odd_set" 49 f11 d11)
  (h12:FK K "is_hearth" 9 f12 d12)
  (h13:FK K "has_each_once" 12 f13 d13)
  (h14:FK K "without" 15 f14 d14)
  (h15:FK K "can_kindle" 19 f15 d15)
  (h16:FK K "never_kindling" 28 f16 d16)
  (h17:FK K "_law_web" 39 f17 d17)
  (h18:FK K "_law_some" 40 f18 d18)
  (h19:FK K "_law_kindles" 42 f19 d19)
  (h20:FK K "_law_told_good" 46 f20 d20)
  (h21:FK K "is_set" 10 f21 d21)
  (h22:FK K "kindling" 18 f22 d22)
  (h23:FK K "first_to_kindle" 23 f23 d23)
  (h24:FK K "_law_goes_on" 43 f24 d24)
  (h25:FK K "_law_picked" 44 f25 d25)
  (h26:FK K "made_set" 11 f26 d26)
  (h27:FK K "_law_pairs" 45 f27 d27)
  (h28:FK K "rounds" 17 f28 d28)
  (h29:FK K "kindled_by" 22 f29 d29)
  (h30:FK K "ranks_of" 20 f30 d30)
  (h31:FK K "first_order" 25 f31 d31)
  (h32:FK K "burnt" 21 f32 d32)
  (h33:FK K "burnt_without" 27 f33 d33)
  (h34:FK K "kindled_hearths" 29 f34 d34)
  (h35:FK K "musts" 30 f35 d35)
  (h36:FK K "order_with" 31 f36 d36)
  (h37:FK K "last_place" 32 f37 d37)
  (h38:FK K "_law_refused" 47 f38 d38)
  (h39:FK K "_law_two_good" 48 f39 d39)
  (h40:FK K "_law_set_refused" 50 f40 d40)
  (a41:nsIn K mainGlobals "law" = some (some (.ref f41))) (l41:K.lookup f41=some ⟨oc41,od41,.func (fnOf "law" "law" (iK (b6 51)) (dZ (b6 51)) (aX (b6 51)) .none kV41 dc41 pm41 an41 cd41 ct41),sl41⟩) (c41:codeIn K cd41 "law" = true) (k41:keepIn K (.ref f41)=true)
  (z_len:nsIn K mainGlobals "len" = some none)
  (z_range:nsIn K mainGlobals "range" = some none)
  (z_tuple:nsIn K mainGlobals "tuple" = some none)
  (z_list:nsIn K mainGlobals "list" = some none)
  (z_sorted:nsIn K mainGlobals "sorted" = some none)
  (z_all:nsIn K mainGlobals "all" = some none)
  (z_any:nsIn K mainGlobals "any" = some none)
  (z_zip:nsIn K mainGlobals "zip" = some none)
  (z_min:nsIn K mainGlobals "min" = some none)
  (z_max:nsIn K mainGlobals "max" = some none)
  (z_sum:nsIn K mainGlobals "sum" = some none)
  (z_isinstance:nsIn K mainGlobals "isinstance" = some none)
  (z_int:nsIn K mainGlobals "int" = some none)
  (z_bool:nsIn K mainGlobals "bool" = some none)
  (z_enumerate:nsIn K mainGlobals "enumerate" = some none)
  {C_HearthError C_BadSet C_BadOrder C_NoSuch:Addr}
  (aX_HE:nsIn K mainGlobals "HearthError" = some (some (.ref C_HearthError)))
  (aX_BS:nsIn K mainGlobals "BadSet" = some (some (.ref C_BadSet)))
  (aX_BO:nsIn K mainGlobals "BadOrder" = some (some (.ref C_BadOrder)))
  (aX_NS:nsIn K mainGlobals "NoSuch" = some (some (.ref C_NoSuch)))
  (zX_BW:nsIn K mainGlobals "BadWeb" = some none)
  (zX_BP:nsIn K mainGlobals "BadPrices" = some none)
  (zX_BB:nsIn K mainGlobals "BadBoard" = some none)
  (zX_BD:nsIn K mainGlobals "BadDeed" = some none)
  (zX_NW:nsIn K mainGlobals "NotWood" = some none)
  (zX_NP:nsIn K mainGlobals "NoPaper" = some none)
  (zX_TM:nsIn K mainGlobals "TooMany" = some none)
  (zX_NT:nsIn K mainGlobals "NoText" = some none)
  (zX_OR:nsIn K mainGlobals "OddRound" = some none)
  (y_fg:specialIn K (.builtin "object.__class__") "__get__" = some (some (.builtin "getset_descriptor.__get__")))
  (y_ft:takesIn K (.builtin "object.__class__")=some true)
  (z_VE:nsIn K mainGlobals "ValueError" = some none)
  (y1_HE:isClsIn K C_HearthError=true)
  (y2_HE:typeIn K (.ref C_HearthError)=some (.type "type"))
  (y3_HE:findIn K (.ref C_HearthError) "__getattribute__" = some (some (.builtin "BaseException.__getattribute__")))
  (y4_HE:findIn K (.ref C_HearthError) "__getattr__" = some none)
  (y5_HE:findIn K (.ref C_HearthError) "__class__" = some (some (.builtin "object.__class__")))
  (y6_HE:mroIn K C_HearthError (.type "object")=some true)
  (y7_HE:mroIn K C_HearthError (.type "BaseException")=some true)
  (y1_BS:isClsIn K C_BadSet=true)
  (y2_BS:typeIn K (.ref C_BadSet)=some (.type "type"))
  (y3_BS:findIn K (.ref C_BadSet) "__getattribute__" = some (some (.builtin "BaseException.__getattribute__")))
  (y4_BS:findIn K (.ref C_BadSet) "__getattr__" = some none)
  (y5_BS:findIn K (.ref C_BadSet) "__class__" = some (some (.builtin "object.__class__")))
  (y6_BS:mroIn K C_BadSet (.type "object")=some true)
  (y7_BS:mroIn K C_BadSet (.type "BaseException")=some true)
  (y1_BO:isClsIn K C_BadOrder=true)
  (y2_BO:typeIn K (.ref C_BadOrder)=some (.type "type"))
  (y3_BO:findIn K (.ref C_BadOrder) "__getattribute__" = some (some (.builtin "BaseException.__getattribute__")))
  (y4_BO:findIn K (.ref C_BadOrder) "__getattr__" = some none)
  (y5_BO:findIn K (.ref C_BadOrder) "__class__" = some (some (.builtin "object.__class__")))
  (y6_BO:mroIn K C_BadOrder (.type "object")=some true)
  (y7_BO:mroIn K C_BadOrder (.type "BaseException")=some true)
  (y1_NS:isClsIn K C_NoSuch=true)
  (y2_NS:typeIn K (.ref C_NoSuch)=some (.type "type"))
  (y3_NS:findIn K (.ref C_NoSuch) "__getattribute__" = some (some (.builtin "BaseException.__getattribute__")))
  (y4_NS:findIn K (.ref C_NoSuch) "__getattr__" = some none)
  (y5_NS:findIn K (.ref C_NoSuch) "__class__" = some (some (.builtin "object.__class__")))
  (y6_NS:mroIn K C_NoSuch (.type "object")=some true)
  (y7_NS:mroIn K C_NoSuch (.type "BaseException")=some true)
  (sB_HE:subIn K (.ref C_HearthError) (.type "BaseException")=some true)
  (s_BS_HE:subIn K (.ref C_BadSet) (.ref C_HearthError)=some true)
  (s_BO_HE:subIn K (.ref C_BadOrder) (.ref C_HearthError)=some true)
  (s_NS_HE:subIn K (.ref C_NoSuch) (.ref C_HearthError)=some true)
  (sN_BS:subIn K (.type "NoneType") (.ref C_BadSet)=some false)
  (s_BO_BS:subIn K (.ref C_BadOrder) (.ref C_BadSet)=some false)
  (n_BO_BS:(C_BadOrder == C_BadSet)=false)
  (s_NS_BS:subIn K (.ref C_NoSuch) (.ref C_BadSet)=some false)
  (n_NS_BS:(C_NoSuch == C_BadSet)=false)
  (sN_NS:subIn K (.type "NoneType") (.ref C_NoSuch)=some false)
  (s_BS_NS:subIn K (.ref C_BadSet) (.ref C_NoSuch)=some false)
  (n_BS_NS:(C_BadSet == C_NoSuch)=false)
  (s_BO_NS:subIn K (.ref C_BadOrder) (.ref C_NoSuch)=some false)
  (n_BO_NS:(C_BadOrder == C_NoSuch)=false)
  (sV_BS:subIn K (.ref C_BadSet) (.type "ValueError")=some true)
  (sV_BO:subIn K (.ref C_BadOrder) (.type "ValueError")=some true)
  (sV_NS:subIn K (.ref C_NoSuch) (.type "ValueError")=some true)
  (q_BO:excIn K C_BadOrder [.type "ValueError",.type "Exception",.type "BaseException",.type "object"] "ValueError.__new__" = true)
  (q_BS:excIn K C_BadSet [.type "ValueError",.type "Exception",.type "BaseException",.type "object"] "ValueError.__new__" = true)
  (q_NS:excIn K C_NoSuch [.type "ValueError",.type "Exception",.type "BaseException",.type "object"] "ValueError.__new__" = true)
  : ∃ fd:FuncData,(∀ (s:Shared) (v:Value),BindsTo s fd ⟨[v],[]⟩ [("script",v)])/\∀ base:Heap,K.In base->base.Ns mainGlobals mg->cV l.prog w K mg base dL 11 fa fd ["script"] (rT K):=by
 have e:=hfa.symm.trans (mg_of X G a41)
 cases e
 have F41:=aq7 (st:=b6 51) l41 c41 k41
 have m41:=mg_of X G a41
 have B:Bt mg:=⟨mg_none_of X G z_len,mg_none_of X G z_range,mg_none_of X G z_tuple,mg_none_of X G z_list,mg_none_of X G z_sorted,mg_none_of X G z_all,mg_none_of X G z_any,mg_none_of X G z_zip,mg_none_of X G z_min,mg_none_of X G z_max,mg_none_of X G z_sum,mg_none_of X G z_isinstance,mg_none_of X G z_int,mg_none_of X G z_bool,mg_none_of X G z_enumerate⟩
 refine⟨fnOf "law" "law" (iK (b6 51)) (dZ (b6 51)) (aX (b6 51)) .none kV41 dc41 pm41 an41 cd41 ct41,fun s v=>.of_eq rfl,fun base KB _=>?_⟩
 have XK_HearthError:kB K C_HearthError:=⟨y1_HE,y2_HE,y3_HE,y4_HE,y5_HE,y_fg,y_ft,y6_HE,y7_HE⟩
 have XK_BadSet:kB K C_BadSet:=⟨y1_BS,y2_BS,y3_BS,y4_BS,y5_BS,y_fg,y_ft,y6_BS,y7_BS⟩
 have XK_BadOrder:kB K C_BadOrder:=⟨y1_BO,y2_BO,y3_BO,y4_BO,y5_BO,y_fg,y_ft,y6_BO,y7_BO⟩
 have XK_NoSuch:kB K C_NoSuch:=⟨y1_NS,y2_NS,y3_NS,y4_NS,y5_NS,y_fg,y_ft,y6_NS,y7_NS⟩
 have cat_HearthError:sE K mg "HearthError":=⟨C_HearthError,mg_of X G aX_HE,⟨y1_HE,y2_HE,sB_HE⟩,fun n C h2 h1=>by
  obtain ⟨hm,hb⟩:=sF h2
  simp only [mJ,be9,bf1,bi6] at hm
  rcases hm with rfl | rfl | rfl | rfl | rfl | rfl | rfl | rfl | rfl | rfl | rfl | rfl
  ·rw [zX_BW] at h1; cases h1
  ·rw [aX_BS] at h1; cases h1; exact s_BS_HE
  ·rw [aX_BO] at h1; cases h1; exact s_BO_HE
  ·rw [zX_BP] at h1; cases h1
  ·rw [zX_BB] at h1; cases h1
  ·rw [zX_BD] at h1; cases h1
  ·rw [zX_NW] at h1; cases h1
  ·rw [zX_NP] at h1; cases h1
  ·rw [aX_NS] at h1; cases h1; exact s_NS_HE
  ·rw [zX_TM] at h1; cases h1
  ·rw [zX_NT] at h1; cases h1
  ·rw [zX_OR] at h1; cases h1⟩
 have is_BadSet:mK K mg "BadSet":=⟨C_BadSet,mg_of X G aX_BS,fun z=>(by cases z),(fun n C b h1 h2=>by
  obtain ⟨hm,hb⟩:=sF h2
  simp only [mJ,be9,bf1,bi6] at hm
  rcases hm with rfl | rfl | rfl | rfl | rfl | rfl | rfl | rfl | rfl | rfl | rfl | rfl
  ·rw [zX_BW] at h1; cases h1
  ·rw [aX_BS] at h1; cases h1; rw [hb,show (("BadSet" : Str) == "BadSet" || ("BadSet" : Str) == "HearthError" || ("BadSet" : Str) == "ValueError")=true by decide]; exact⟨XK_BadSet.exc,W5⟩
  ·rw [aX_BO] at h1; cases h1; rw [hb,show (("BadOrder" : Str) == "BadSet" || ("BadSet" : Str) == "HearthError" || ("BadSet" : Str) == "ValueError")=false by decide]; exact⟨XK_BadOrder.exc,sG XK_BadSet n_BO_BS s_BO_BS⟩
  ·rw [zX_BP] at h1; cases h1
  ·rw [zX_BB] at h1; cases h1
  ·rw [zX_BD] at h1; cases h1
  ·rw [zX_NW] at h1; cases h1
  ·rw [zX_NP] at h1; cases h1
  ·rw [aX_NS] at h1; cases h1; rw [hb,show (("NoSuch" : Str) == "BadSet" || ("BadSet" : Str) == "HearthError" || ("BadSet" : Str) == "ValueError")=false by decide]; exact⟨XK_NoSuch.exc,sG XK_BadSet n_NS_BS s_NS_BS⟩
  ·rw [zX_TM] at h1; cases h1
  ·rw [zX_NT] at h1; cases h1
  ·rw [zX_OR] at h1; cases h1),W6 XK_BadSet sN_BS⟩
 have is_NoSuch:mK K mg "NoSuch":=⟨C_NoSuch,mg_of X G aX_NS,fun z=>(by cases z),(fun n C b h1 h2=>by
  obtain ⟨hm,hb⟩:=sF h2
  simp only [mJ,be9,bf1,bi6] at hm
  rcases hm with rfl | rfl | rfl | rfl | rfl | rfl | rfl | rfl | rfl | rfl | rfl | rfl
  ·rw [zX_BW] at h1; cases h1
  ·rw [aX_BS] at h1; cases h1; rw [hb,show (("BadSet" : Str) == "NoSuch" || ("NoSuch" : Str) == "HearthError" || ("NoSuch" : Str) == "ValueError")=false by decide]; exact⟨XK_BadSet.exc,sG XK_NoSuch n_BS_NS s_BS_NS⟩
  ·rw [aX_BO] at h1; cases h1; rw [hb,show (("BadOrder" : Str) == "NoSuch" || ("NoSuch" : Str) == "HearthError" || ("NoSuch" : Str) == "ValueError")=false by decide]; exact⟨XK_BadOrder.exc,sG XK_NoSuch n_BO_NS s_BO_NS⟩
  ·rw [zX_BP] at h1; cases h1
  ·rw [zX_BB] at h1; cases h1
  ·rw [zX_BD] at h1; cases h1
  ·rw [zX_NW] at h1; cases h1
  ·rw [zX_NP] at h1; cases h1
  ·rw [aX_NS] at h1; cases h1; rw [hb,show (("NoSuch" : Str) == "NoSuch" || ("NoSuch" : Str) == "HearthError" || ("NoSuch" : Str) == "ValueError")=true by decide]; exact⟨XK_NoSuch.exc,W5⟩
  ·rw [zX_TM] at h1; cases h1
  ·rw [zX_NT] at h1; cases h1
  ·rw [zX_OR] at h1; cases h1),W6 XK_NoSuch sN_NS⟩
 have is_ValueError:x9 K mg:=⟨mg_none_of X G z_VE,fun z=>(by cases z),(fun n C b h1 h2=>by
  obtain ⟨hm,hb⟩:=sF h2
  simp only [mJ,be9,bf1,bi6] at hm
  rcases hm with rfl | rfl | rfl | rfl | rfl | rfl | rfl | rfl | rfl | rfl | rfl | rfl
  ·rw [zX_BW] at h1; cases h1
  ·rw [aX_BS] at h1; cases h1; rw [hb,show (("BadSet" : Str) == "ValueError" || ("ValueError" : Str) == "HearthError" || ("ValueError" : Str) == "ValueError")=true by decide]; exact⟨XK_BadSet.exc,xC sV_BS⟩
  ·rw [aX_BO] at h1; cases h1; rw [hb,show (("BadOrder" : Str) == "ValueError" || ("ValueError" : Str) == "HearthError" || ("ValueError" : Str) == "ValueError")=true by decide]; exact⟨XK_BadOrder.exc,xC sV_BO⟩
  ·rw [zX_BP] at h1; cases h1
  ·rw [zX_BB] at h1; cases h1
  ·rw [zX_BD] at h1; cases h1
  ·rw [zX_NW] at h1; cases h1
  ·rw [zX_NP] at h1; cases h1
  ·rw [aX_NS] at h1; cases h1; rw [hb,show (("NoSuch" : Str) == "ValueError" || ("ValueError" : Str) == "HearthError" || ("ValueError" : Str) == "ValueError")=true by decide]; exact⟨XK_NoSuch.exc,xC sV_NS⟩
  ·rw [zX_TM] at h1; cases h1
  ·rw [zX_NT] at h1; cases h1
  ·rw [zX_OR] at h1; cases h1),aO4⟩
 have x_BadOrder:Xc K mg base "BadOrder":=⟨C_BadOrder,_,_,_,_,xB KB (mg_of X G aX_BO) q_BO,PySem.F.excBase_ValueError,aX_BO⟩
 have x_BadSet:Xc K mg base "BadSet":=⟨C_BadSet,_,_,_,_,xB KB (mg_of X G aX_BS) q_BS,PySem.F.excBase_ValueError,aX_BS⟩
 have x_NoSuch:Xc K mg base "NoSuch":=⟨C_NoSuch,_,_,_,_,xB KB (mg_of X G aX_NS) q_NS,PySem.F.excBase_ValueError,aX_NS⟩
 have D0:=aI0 (aX2 (P:=l.prog) (w:=w) (base:=base) B h0.F) (h0.F.binds (ps:=["things"]) fun _ _ _ _ _ _ us hl=>by obtain ⟨_,rfl⟩:=oX hl; rfl) h0.F.kp (mg_of X G h0.a)
 have D1:=aX5 (P:=l.prog) (w:=w) (base:=base) B (h1.M X G)
 have D2:=aI2 (aX3 (P:=l.prog) (w:=w) (mg:=mg) (base:=base) h2.F) (h2.F.binds (ps:=["web"]) fun _ _ _ _ _ _ us hl=>by obtain ⟨_,rfl⟩:=oX hl; rfl) h2.F.kp (mg_of X G h2.a)
 have D3:=aX6 (P:=l.prog) (w:=w) (base:=base) B (h3.M X G)
 have D4:=aX8 (P:=l.prog) (w:=w) (base:=base) B (h4.M X G)
 have D5:=aY0 (P:=l.prog) (w:=w) (base:=base) B (h5.M X G)
 have D6:=aY2 (P:=l.prog) (w:=w) (base:=base) B (h6.M X G)
 have D7:=aY3 (P:=l.prog) (w:=w) (base:=base) B (h7.M X G)
 have D8:=aY5 (P:=l.prog) (w:=w) (base:=base) B (h8.M X G)
 have D9:=aY6 (P:=l.prog) (w:=w) (base:=base) B (h9.M X G)
 have D10:=aY8 (P:=l.prog) (w:=w) (base:=base) B (h10.M X G)
 have D11:=aY9 (P:=l.prog) (w:=w) (base:=base) B (h11.M X G)
 have D12:=aZ1 (P:=l.prog) (w:=w) (base:=base) B (h12.M X G) D1
 have D13:=aZ3 (P:=l.prog) (w:=w) (base:=base) B (h13.M X G) D1
 have D14:=aZ4 (P:=l.prog) (w:=w) (base:=base) B (h14.M X G) D3
 have D15:=aZ6 (P:=l.prog) (w:=w) (base:=base) B (h15.M X G) D4
 have D16:=aZ7 (P:=l.prog) (w:=w) (base:=base) B (h16.M X G) D1
 have D17:=aZ8 (P:=l.prog) (w:=w) (base:=base) B (h17.M X G) D9 D7 D8
 have D18:=ba0 (P:=l.prog) (w:=w) (base:=base) B (h18.M X G) D7
 have D19:=ba2 (P:=l.prog) (w:=w) (base:=base) B (h19.M X G) D10
 have D20:=ba3 (P:=l.prog) (w:=w) (base:=base) B (h20.M X G) D6
 have D21:=ba5 (P:=l.prog) (w:=w) (base:=base) B (h21.M X G) D0 D12
 have D22:=ba7 (P:=l.prog) (w:=w) (base:=base) B (h22.M X G) D15 D1
 have D23:=ba8 (P:=l.prog) (w:=w) (base:=base) B (h23.M X G) D15
 have D24:=ba9 (P:=l.prog) (w:=w) (base:=base) B (h24.M X G) D19
 have D25:=bb0 (P:=l.prog) (w:=w) (base:=base) B (h25.M X G) D19 D7
 have D26:=bb2 (P:=l.prog) (w:=w) (base:=base) B (h26.M X G) D21 x_BadSet
 have D27:=bb3 (P:=l.prog) (w:=w) (base:=base) B (h27.M X G) D24
 have D28:=bb4 (P:=l.prog) (w:=w) (base:=base) B (h28.M X G) D3 D2 D22 D26
 have D29:=bb5 (P:=l.prog) (w:=w) (base:=base) B (h29.M X G) D3 D2 D23 D26 D13 x_BadOrder
 have D30:=bb6 (P:=l.prog) (w:=w) (base:=base) B (h30.M X G) D28
 have D31:=bb8 (P:=l.prog) (w:=w) (base:=base) B (h31.M X G) D29 D1
 have D32:=bc0 (P:=l.prog) (w:=w) (base:=base) B (h32.M X G) D30
 have D33:=bc1 (P:=l.prog) (w:=w) (base:=base) B (h33.M X G) D26 D32 D16 D12 x_NoSuch
 have D34:=bc3 (P:=l.prog) (w:=w) (base:=base) B (h34.M X G) D14 D32
 have D35:=bc4 (P:=l.prog) (w:=w) (base:=base) B (h35.M X G) D34 D3 D33
 have D36:=bc5 (P:=l.prog) (w:=w) (base:=base) B (h36.M X G) D34 D31 D16 x_NoSuch
 have D37:=bc7 (P:=l.prog) (w:=w) (base:=base) B (h37.M X G) D34 D33 x_NoSuch
 have D38:=bc8 (P:=l.prog) (w:=w) (base:=base) B (h38.M X G) D36 cat_HearthError is_NoSuch
 have D39:=bc9 (P:=l.prog) (w:=w) (base:=base) B (h39.M X G) D36 D24 D37
 have D40:=bd0 (P:=l.prog) (w:=w) (base:=base) B (h40.M X G) D35 D36 cat_HearthError is_BadSet is_NoSuch is_ValueError
 exact aJ2 (bd1 B F41 D5 D17 D18 D11 D27 D35 D25 D24 D20 D40 D39 D38 D37)
theorem bd3 {l:OpenLaw}{q:Program}{loose:List Str}{XP:(Str->Option Value)->Heap->Prop}{YP:World->Heap->Prop}{d:DefRec}{K:Params->Frag} (hn:l.most=some 63) (hdf:d.params.defaults = [])
  (hY:∀ (w:World) (h:Heap),YP w h->(K w.params).In h)
  (F:∀ (w:World) (mg:Str->Option Value) (fa:Addr) (h:Heap),(K w.params).In h->h.Ns mainGlobals mg->mg d.name=some (.ref fa)->
   ∃ fd:FuncData,(∀ (s:Shared) (u:Value),BindsTo s fd ⟨[u],[]⟩ [("script",u)])/\∀ base:Heap,(K w.params).In base->base.Ns mainGlobals mg->cV l.prog w (K w.params) mg base dL 11 fa fd ["script"] (rT (K w.params))) :
  WalkO q loose XP YP l.row.toRowW d [] (fun f vs=>PySem.call f vs):=
 L2.aq6 (n:=63) (k:=11) (x:="script") (CX:=fun _=>dL) (sp:=fun w=>rT (K w.params)) hn (by decide) hdf ⟨rfl,by decide,by decide⟩ hY F (fun _ _ a ns hl hO hS=>⟨a,ns,rfl,aJ3 hO hS,hl,fun _=>rfl⟩) fun _ _ _ _ _ z=>z
end K_k47
open PySem PySem.W PyProof.Rows
theorem PySem.W.Fast.te13052408679150730464 : True := trivial
theorem PySem.W.Fast.te16555476440528808052 : True := trivial
theorem PySem.W.Fast.te5369427470323729400 : True := trivial
set_option maxRecDepth 100000 in
set_option maxHeartbeats 0 in
theorem PySem.Challenge.cw_kindleweb_k47_whole_who_must_be_ahead_holds : PySem.Challenge.rw_kindleweb_k47_whole_who_must_be_ahead.Holds := by
 w_on; o_law; k_head; (case hw => w_witness2)
 k_fill
 refine K_k47.bd3 (l := PySem.Challenge.rw_kindleweb_k47_whole_who_must_be_ahead) rfl rfl (fun w h Y => PySem.W.kIn_of Y) ?F
 case F =>
  intro w mg fa h KX G hmg
  refine' K_k47.bd2 KX G hmg ?h0 ?h1 ?h2 ?h3 ?h4 ?h5 ?h6 ?h7 ?h8 ?h9 ?h10 ?h11 ?h12 ?h13 ?h14 ?h15 ?h16 ?h17 ?h18 ?h19 ?h20 ?h21 ?h22 ?h23 ?h24 ?h25 ?h26 ?h27 ?h28 ?h29 ?h30 ?h31 ?h32 ?h33 ?h34 ?h35 ?h36 ?h37 ?h38 ?h39 ?h40 ?a41 ?l41 ?c41 ?k41 ?z_len ?z_range ?z_tuple ?z_list ?z_sorted ?z_all ?z_any ?z_zip ?z_min ?z_max ?z_sum ?z_isinstance ?z_int ?z_bool ?z_enumerate ?aX_HE ?aX_BS ?aX_BO ?aX_NS ?zX_BW ?zX_BP ?zX_BB ?zX_BD ?zX_NW ?zX_NP ?zX_TM ?zX_NT ?zX_OR ?y_fg ?y_ft ?z_VE ?y1_HE ?y2_HE ?y3_HE ?y4_HE ?y5_HE ?y6_HE ?y7_HE ?y1_BS ?y2_BS ?y3_BS ?y4_BS ?y5_BS ?y6_BS ?y7_BS ?y1_BO ?y2_BO ?y3_BO ?y4_BO ?y5_BO ?y6_BO ?y7_BO ?y1_NS ?y2_NS ?y3_NS ?y4_NS ?y5_NS ?y6_NS ?y7_NS ?sB_HE ?s_BS_HE ?s_BO_HE ?s_NS_HE ?sN_BS ?s_BO_BS ?n_BO_BS ?s_NS_BS ?n_NS_BS ?sN_NS ?s_BS_NS ?n_BS_NS ?s_BO_NS ?n_BO_NS ?sV_BS ?sV_BO ?sV_NS ?q_BO ?q_BS ?q_NS
  (case h0 | h1 | h2 | h3 | h4 | h5 | h6 | h7 | h8 | h9 | h10 | h11 | h12 | h13 | h14 | h15 | h16 | h17 | h18 | h19 | h20 | h21 | h22 | h23 | h24 | h25 | h26 | h27 | h28 | h29 | h30 | h31 | h32 | h33 | h34 | h35 | h36 | h37 | h38 | h39 | h40 => exact ⟨by k_is, ⟨⟨_, _, _, _, _, _, _, _, _, rfl, by k_is, by k_is⟩, by k_is⟩⟩)
  (case a41|l41|c41|k41|z_len|z_range|z_tuple|z_list|z_sorted|z_all|z_any|z_zip|z_min|z_max|z_sum|z_isinstance|z_int|z_bool|z_enumerate|aX_HE|aX_BS|aX_BO|aX_NS|zX_BW|zX_BP|zX_BB|zX_BD|zX_NW|zX_NP|zX_TM|zX_NT|zX_OR|y_fg|y_ft|z_VE|y1_HE|y2_HE|y3_HE|y4_HE|y5_HE|y6_HE|y7_HE|y1_BS|y2_BS|y3_BS|y4_BS|y5_BS|y6_BS|y7_BS|y1_BO|y2_BO|y3_BO|y4_BO|y5_BO|y6_BO|y7_BO|y1_NS|y2_NS|y3_NS|y4_NS|y5_NS|y6_NS|y7_NS|sB_HE|s_BS_HE|s_BO_HE|s_NS_HE|sN_BS|s_BO_BS => k_is)
  (case n_BO_BS => decide)
  (case s_NS_BS => k_is)
  (case n_NS_BS => decide)
  (case sN_NS|s_BS_NS => k_is)
  (case n_BS_NS => decide)
  (case s_BO_NS => k_is)
  (case n_BO_NS => decide)
  (case sV_BS|sV_BO|sV_NS => k_is)
  (case q_BO|q_BS|q_NS => k_exc)


