import PyProof.Rows.All
import Wide.All
import OpenK.AllK
import Wide.FinOn
import Lean
import PyProof.EqAt
import PyProof.EqKinds
import PyProof.TupleCall
import PyProof.NeKinds
import PyProof.Draws
import PyProof.ZipIter
import PyProof.DictUpdate
import PyProof.AutoSeq1
import PyProof.ListRange
import PyProof.ListMulRoad
import PyProof.FactsAll.tuple_2
import PyProof.Rows.SortShell
import PyProof.EnumFor
import PyProof.EnumMake
import PyProof.EnumStmt
import PyProof.Rows.SortWalk
import KE.KDictList
import PyProof.SumAny
import PyProof.ConsumeWalk
import PyProof.WalksMore
import PyProof.Rows.TupAssign
import PyProof.ExcArgsOwn
import PySem.Challenge.RW_kindleweb_k70_whole_what_is_taken
set_option Elab.async false
set_option linter.all false
set_option maxRecDepth 100000
set_option genSizeOfSpec false
set_option maxHeartbeats 4000000
namespace L2
open PySem PySem.Spec PyProof.Rows
noncomputable abbrev Key:=Sum Int Str
noncomputable def keyIs:Key->Value->Bool
 | .inl k,v=>Value.isInt k v
 | .inr x,v=>Value.isStrOf x v
noncomputable def keyH (w:World):Key->Int
 | .inl k=>hashInt k
 | .inr x=>hashStr w x
theorem keyIs_shape:∀ {k:Key}{v:Value},keyIs k v=true->(∃ i t,k=Sum.inl i/\v=Value.int i t) ∨ (∃ x t,k=Sum.inr x/\v=Value.str x t)
 | .inl i,v,h=>by
  obtain ⟨t,e⟩:=Value.isInt_shape (k:=i) (v:=v) h
  exact .inl ⟨i,t,rfl,e⟩
 | .inr x,v,h=>by
  obtain ⟨t,e⟩:=Value.isStrOf_shape (x:=x) (v:=v) h
  exact .inr ⟨x,t,rfl,e⟩
theorem keyIs_int (i:Int) (t:Tok):keyIs (.inl i) (.int i t)=true:=by simp [keyIs,Value.isInt]
theorem keyIs_str (x:Str) (t:Tok):keyIs (.inr x) (.str x t)=true:=by simp [keyIs,Value.isStrOf]
theorem key_ll (a b:Int):decide ((Sum.inl a:Key)=Sum.inl b)=(a == b):=by
 by_cases e:a=b
 ·subst e; simp
 ·have h : ¬ (Sum.inl a:Key)=Sum.inl b:=fun q=>e (Sum.inl.inj q)
  rw [decide_eq_false h]
  exact (beq_eq_false_iff_ne.mpr e).symm
theorem key_rr (a b:Str):decide ((Sum.inr a:Key)=Sum.inr b)=decide (a=b):=by
 by_cases e:a=b
 ·subst e; simp
 ·have h : ¬ (Sum.inr a:Key)=Sum.inr b:=fun q=>e (Sum.inr.inj q)
  rw [decide_eq_false h,decide_eq_false e]
theorem key_lr (a:Int) (b:Str):decide ((Sum.inl a:Key)=Sum.inr b)=false:=decide_eq_false (fun q=>nomatch q)
theorem key_rl (a:Str) (b:Int):decide ((Sum.inr a:Key)=Sum.inl b)=false:=decide_eq_false (fun q=>nomatch q)
noncomputable def mixKind (prog:Program) (w:World):PySem.KeyKind prog w Key where
 is:=keyIs
 hash:=keyH w
 inj:=fun v a b ha hb=>by
  rcases keyIs_shape ha with ⟨i,t,rfl,rfl⟩ | ⟨x,t,rfl,rfl⟩
  ·rcases keyIs_shape hb with ⟨j,u,rfl,e⟩ | ⟨y,u,rfl,e⟩
   ·injection e with e1 _; rw [e1]
   ·exact nomatch e
  ·rcases keyIs_shape hb with ⟨j,u,rfl,e⟩ | ⟨y,u,rfl,e⟩
   ·exact nomatch e
   ·injection e with e1 _; rw [e1]
 byValue:=fun k v h=>by
  rcases keyIs_shape h with ⟨i,t,rfl,rfl⟩ | ⟨x,t,rfl,rfl⟩ <;> rfl
 pyHash:=fun hv h=>by
  rcases keyIs_shape hv with ⟨i,t,rfl,rfl⟩ | ⟨x,t,rfl,rfl⟩
  ·exact wpAny_pyHash_int h
  ·exact wpAny_pyHash_str h
 eqBool:=fun hu hv h=>by
  rcases keyIs_shape hu with ⟨i,t,rfl,rfl⟩ | ⟨x,t,rfl,rfl⟩
  ·rcases keyIs_shape hv with ⟨j,u,rfl,rfl⟩ | ⟨y,u,rfl,rfl⟩
   ·rw [key_ll] at h; exact wpAny_eqBool_int h
   ·rw [key_lr] at h; exact SeqAt.EqAt.int_str i t y u _ _ _ _ h
  ·rcases keyIs_shape hv with ⟨j,u,rfl,rfl⟩ | ⟨y,u,rfl,rfl⟩
   ·rw [key_rl] at h; exact SeqAt.EqAt.str_int x t j u _ _ _ _ h
   ·rw [key_rr] at h; exact wpAny_eqBool_str h
 «strs»:=fun k x t v h=>by
  rcases keyIs_shape h with ⟨i,u,rfl,e⟩ | ⟨y,u,rfl,e⟩
  ·exact nomatch e
  ·injection e with e1 _
   subst e1
   cases v <;> rfl
theorem mixKind_int (prog:Program) (w:World) (i:Int) (t:Tok):(mixKind prog w).is (.inl i) (.int i t)=true:=keyIs_int i t
theorem mixKind_str (prog:Program) (w:World) (x:Str) (t:Tok):(mixKind prog w).is (.inr x) (.str x t)=true:=keyIs_str x t
end L2
namespace L2
open PySem PySem.Spec PyProof.Rows
inductive V where
 | non | bl (b:Bool) | int (i:Int) | str (x:Str) | byt (b:Array UInt8) | flt (b:UInt64) | ref (a:Addr) | ty (n:String)
 deriving DecidableEq
noncomputable def RelV:V->Value->Prop
 | .non,u=>u=Value.none
 | .bl b,u=>u=Value.bool b
 | .int i,u=>∃ t,u=Value.int i t
 | .str x,u=>∃ t,u=Value.str x t
 | .byt b,u=>∃ t,u=Value.bytes b t
 | .flt b,u=>∃ t,u=Value.float b t
 | .ref a,u=>u=Value.ref a
 | .ty n,u=>u=Value.type n
noncomputable abbrev Vals:List V->List Value->Prop:=Paired RelV
theorem Vals.length {xs:List V}{us:List Value} (r:Vals xs us):xs.length=us.length:=Paired.length r
theorem Vals.get:∀ {xs:List V}{us:List Value}{i:Nat}{x:V},Vals xs us->xs[i]? = some x->∃ u,us[i]? = some u/\RelV x u
 | _,_,_,_,.nil,e=>by simp at e
 | _,_,0,_,.cons r _,e=>by simp at e; subst e; exact⟨_,rfl,r⟩
 | _,_,i+1,x,.cons _ t,e=>by
  obtain ⟨u,h1,h2⟩:=Vals.get (i:=i) (x:=x) t (by simpa using e)
  exact⟨u,by simpa using h1,h2⟩
theorem Vals.set {x:V}{u:Value} (r:RelV x u):∀ {xs:List V}{us:List Value} (i:Nat),Vals xs us->Vals (xs.set i x) (us.set i u)
 | _,_,_,.nil=>.nil
 | _,_,0,.cons _ t=>.cons r t
 | _,_,i+1,.cons q t=>.cons q (Vals.set r i t)
theorem Vals.append:∀ {xs ys:List V}{us ws:List Value},Vals xs us->Vals ys ws->Vals (xs ++ ys) (us ++ ws)
 | _,_,_,_,.nil,s=>s
 | _,_,_,_,.cons r t,s=>.cons r (Vals.append t s)
theorem Vals.take:∀ {xs:List V}{us:List Value} (n:Nat),Vals xs us->Vals (xs.take n) (us.take n)
 | _,_,0,_=>.nil
 | _,_,_+1,.nil=>.nil
 | _,_,n+1,.cons r t=>.cons r (Vals.take n t)
theorem Vals.drop:∀ {xs:List V}{us:List Value} (n:Nat),Vals xs us->Vals (xs.drop n) (us.drop n)
 | _,_,0,r=>r
 | _,_,_+1,.nil=>.nil
 | _,_,n+1,.cons _ t=>Vals.drop n t
noncomputable def RelO:Option V->Option Value->Prop
 | some v,some u=>RelV v u
 | none,none=>True
 | _,_=>False
noncomputable def KV {κ:Type}:List (κ × V)->List (κ × Value)->Prop:=Paired fun (p:κ × V) (q:κ × Value)=>p.1=q.1/\RelV p.2 q.2
noncomputable def kV:Key->V
 | .inl i=>.int i
 | .inr x=>.str x
inductive HO where
 | lst (xs:List V)
 | tup (xs:List V)
 | dK (kvs:List (Key × V)) | dT (kvs:List (List Key × V))
 | set (S:Int->Bool) (n:Nat)
 | ins (C dx:Addr) (fs:List (Str × V))
 | own (x:Addr)
 | xd (fs:List (Str × V))
 | met (f x:Addr)
 | rng (lo hi:Int)
 | frz (o:Obj) (u:HO)
 | tbl (ps:Array Value)
 | ext (φ:Heap->Prop)
noncomputable abbrev Hp:=Addr->Option HO
noncomputable def upd (H:Hp) (a:Addr) (o:HO):Hp:=fun b=>if b=a then some o else H b
theorem upd_same {H:Hp}{a:Addr}{o:HO}:upd H a o a=some o:=by unfold upd; rw [if_pos rfl]
theorem upd_ne {H:Hp}{a b:Addr}{o:HO} (h:b ≠ a):upd H a o b=H b:=by unfold upd; rw [if_neg h]
theorem ne_of {H:Hp}{a b:Addr}{o u:HO} (h:H a=some o) (h':H b=some u) (d:o ≠ u):a ≠ b:=by
 intro e; subst e; rw [h] at h'; exact d (Option.some.inj h')
theorem ne_of_none {H:Hp}{a b:Addr}{o:HO} (h:H a=some o) (h':H b=none):a ≠ b:=by
 intro e; subst e; rw [h] at h'; cases h'
section
variable (P : Program) (w : World)
noncomputable def ObjOk (H:Hp) (h:Heap) (a:Addr):HO->Prop
 | .lst xs=>xs.length<=sizeLine/\∃ (its:List Value) (n:Nat),Vals xs its/\h.get? a=some { cls:=.type "list",data:=.seq its.toArray n }
 | .tup xs=>xs.length<=sizeLine/\∃ its:List Value,Vals xs its/\IsTup h a its.toArray
 | .dK kvs=>kvs.length<=sizeLine/\(a == sysModules)=false/\∃ vs,KV kvs vs/\h.DictOf (mixKind P w) a vs
 | .dT kvs=>kvs.length<=sizeLine/\(a == sysModules)=false/\∃ xs:List (List Key × Addr × Value),
   Paired (fun (p:List Key × V) (q:List Key × Addr × Value)=>p.1=q.1/\H q.2.1=some (.tup (p.1.map kV))/\RelV p.2 q.2.2) kvs xs/\
   ∃ o es ep,h.get? a=some o/\o.ExactDict/\o.data = .dict es ep/\es.toList=xs.map (entryOfKey (tupleKind (mixKind P w)))/\(xs.map (·.1)).Nodup
 | .set S n=>h.SetOf (intKind P w) a S n
 | .ins C dx fs=>H dx=some (.own a)/\fs.length<=1000/\dx ≠ a/\h.get? a=some (PySem.W.instObj C dx)/\
   ∃ mA,h.Ns1 dx mA/\(∀ f,RelO (fs.lookup f) (mA f))/\PySem.Within mA (fs.map (·.1))
 | .own _=>∃ o,h.get? a=some o
 | .xd fs=>∃ mA,h.Ns1 a mA/\∀ f,RelO (fs.lookup f) (mA f)
 | .rng lo hi=>∃ t u v,h.get? a=some { cls:=.type "range",data:=.fields #[.int lo t,.int hi u,.int 1 v] }
 | .frz o u=>h.get? a=some o/\ObjOk H h a u
 | .tbl ps=>h.get? a=some { cls:=.none,data:=.fields ps }
 | .met f x=>h.get? a=some (PySem.W.methodObj (.ref f) (.ref x))
 | .ext φ=>φ h/\(∃ o,h.get? a=some o)/\∀ h1 h2:Heap,φ h1->(∀ o,h1.get? a=some o->h2.get? a=some o)->φ h2
noncomputable def HOk (H:Hp) (h:Heap):Prop:=∀ a o,H a=some o->ObjOk P w H h a o
end
section
variable {P : Program} {w : World} {H H' : Hp} {h h' : Heap} {a : Addr} {o : HO}
theorem ObjOk.lt (x:ObjOk P w H h a o):a < h.objs.size:=by
 cases o with
 | lst xs=>obtain ⟨_,_,_,_,e⟩:=x; exact Heap.lt_size e
 | tup xs=>obtain ⟨_,_,_,p⟩:=x; exact p.lt
 | dK kvs=>obtain ⟨_,_,_,_,o,_,_,e,_⟩:=x; exact Heap.lt_size e
 | dT kvs=>obtain ⟨_,_,_,_,o,_,_,e,_⟩:=x; exact Heap.lt_size e
 | set S n=>obtain ⟨o,_,_,_,e,_⟩:=x; exact Heap.lt_size e
 | ins C dx fs=>obtain ⟨_,_,_,e,_⟩:=x; exact Heap.lt_size e
 | own y=>obtain ⟨_,e⟩:=x; exact Heap.lt_size e
 | xd fs=>obtain ⟨_,⟨_,_,_,e,_⟩,_⟩:=x; exact Heap.lt_size e
 | rng lo hi=>obtain ⟨_,_,_,e⟩:=x; exact Heap.lt_size e
 | frz ob u=>obtain ⟨e,_⟩:=x; exact Heap.lt_size e
 | tbl ps=>exact Heap.lt_size (show h.get? a=some _ from x)
 | met f y=>exact Heap.lt_size (show h.get? a=some _ from x)
 | ext φ=>obtain ⟨_,⟨_,e⟩,_⟩:=x; exact Heap.lt_size e
theorem Paired.mapP {α β:Type}{F G:α->β->Prop}:∀ {l₁:List α}{l₂:List β},Paired F l₁ l₂->(∀ a b,F a b->G a b)->Paired G l₁ l₂
 | _,_,.nil,_=>.nil
 | _,_,.cons r t,f=>.cons (f _ _ r) (Paired.mapP t f)
theorem ObjOk.stay (x:ObjOk P w H h a o) (k:∀ b u,(b=a ∨ H b=some (.own a))->h.get? b=some u->h'.get? b=some u)
  (ho:∀ b,H b=some (.own a)->H' b=some (.own a)) (ht:∀ b xs,H b=some (.tup xs)->H' b=some (.tup xs)):ObjOk P w H' h' a o:=by
 induction o with
 | lst xs=>obtain ⟨z,its,n,r,e⟩:=x; exact⟨z,its,n,r,k _ _ (.inl rfl) e⟩
 | tup xs=>obtain ⟨z,its,r,ob,e,c⟩:=x; exact⟨z,its,r,ob,k _ _ (.inl rfl) e,c⟩
 | dK kvs=>obtain ⟨z,y,vs,r,ob,es,ep,e,c⟩:=x; exact⟨z,y,vs,r,ob,es,ep,k _ _ (.inl rfl) e,c⟩
 | dT kvs=>
  obtain ⟨z,y,xs,r,ob,es,ep,e,c⟩:=x
  exact⟨z,y,xs,Paired.mapP r fun p q z=>⟨z.1,ht _ _ z.2.1,z.2.2⟩,ob,es,ep,k _ _ (.inl rfl) e,c⟩
 | set S n=>obtain ⟨ob,es,ep,t,e,c⟩:=x; exact⟨ob,es,ep,t,k _ _ (.inl rfl) e,c⟩
 | ins C dx fs=>
  obtain ⟨d,z,ne,e,mA,⟨od,es,ep,e2,c⟩,r⟩:=x
  exact⟨ho _ d,z,ne,k _ _ (.inl rfl) e,mA,⟨od,es,ep,k _ _ (.inr d) e2,c⟩,r⟩
 | own y=>obtain ⟨ob,e⟩:=x; exact⟨ob,k _ _ (.inl rfl) e⟩
 | xd fs=>obtain ⟨mA,⟨od,es,ep,e,c⟩,r⟩:=x; exact⟨mA,⟨od,es,ep,k _ _ (.inl rfl) e,c⟩,r⟩
 | rng lo hi=>obtain ⟨t,u,v,e⟩:=x; exact⟨t,u,v,k _ _ (.inl rfl) e⟩
 | frz ob u ih=>obtain ⟨e,q⟩:=x; exact⟨k _ _ (.inl rfl) e,ih q⟩
 | tbl ps=>
  have e:h.get? a=some { cls:=.none,data:=.fields ps }:=x
  show h'.get? a=some { cls:=.none,data:=.fields ps }
  exact k a _ (.inl rfl) e
 | met f y=>
  have e:h.get? a=some (PySem.W.methodObj (.ref f) (.ref y)):=x
  show h'.get? a=some (PySem.W.methodObj (.ref f) (.ref y))
  exact k a _ (.inl rfl) e
 | ext φ=>obtain ⟨p,⟨o,e⟩,st⟩:=x; exact⟨st _ _ p fun o q=>k _ _ (.inl rfl) q,⟨o,k _ _ (.inl rfl) e⟩,st⟩
theorem HOk.lt (x:HOk P w H h) (e:H a=some o):a < h.objs.size:=(x a o e).lt
theorem HOk.fresh (x:HOk P w H h) (e:h.objs.size<=a):H a=none:=by
 cases q:H a with
 | none=>rfl
 | some u=>exact absurd (Nat.lt_of_lt_of_le (x.lt q) e) (Nat.lt_irrefl _)
theorem HOk.kept (x:HOk P w H h) (k:∀ b u,h.get? b=some u->h'.get? b=some u):HOk P w H h':=fun a o e=>
 (x a o e).stay (fun b u _ q=>k b u q) (fun _ q=>q) fun _ _ q=>q
theorem HOk.laid (x:HOk P w H h) (k:∀ b u,h.get? b=some u->h'.get? b=some u) (hp:h.objs.size<=a) (new:ObjOk P w (upd H a o) h' a o):HOk P w (upd H a o) h':=fun b u e=>by
 have hn:=x.fresh hp
 by_cases hb:b=a
 ·subst hb; rw [upd_same] at e; cases e; exact new
 ·rw [upd_ne hb] at e
  exact (x b u e).stay (fun c v _ q=>k c v q) (fun c q=>by rw [upd_ne (ne_of_none q hn)]; exact q) fun c xs q=>by rw [upd_ne (ne_of_none q hn)]; exact q
end
noncomputable def Rd (H:Hp) (a:Addr) (u:HO):Prop:=H a=some u ∨ ∃ o,H a=some (.frz o u)
theorem Rd.ok {P:Program}{w:World}{H:Hp}{h:Heap}{a:Addr}{u:HO} (r:Rd H a u) (x:HOk P w H h):ObjOk P w H h a u:=by
 rcases r with r | ⟨o,r⟩
 ·exact x a u r
 ·obtain ⟨_,q⟩:=x a _ r
  exact q
noncomputable def Mut:Option HO->Prop
 | some (.lst _)=>True
 | some (.dK _)=>True
 | some (.dT _)=>True
 | some (.set _ _)=>True
 | some (.ins _ _ _)=>True
 | some (.ext _)=>True
 | _=>False
section
variable {P : Program} {w : World} {H : Hp} {h h' : Heap} {x e : Addr} {o' : HO}
theorem HOk.write (ok:HOk P w H h) (mu:Mut (H x)) (he:e=x ∨ H e=some (.own x)) (k:∀ b u,b ≠ e->h.get? b=some u->h'.get? b=some u) (heo:∃ u,h'.get? e=some u)
  (new:ObjOk P w (upd H x o') h' x o'):HOk P w (upd H x o') h':=fun b u q=>by
 have nown:∀ c y,H c=some (.own y)->c ≠ x:=fun c y r z=>by subst z; rw [r] at mu; exact mu
 have ntup:∀ c xs,H c=some (.tup xs)->c ≠ x:=fun c xs r z=>by subst z; rw [r] at mu; exact mu
 by_cases hb:b=x
 ·subst hb; rw [upd_same] at q; cases q; exact new
 ·rw [upd_ne hb] at q
  by_cases hbe:b=e
  ·have q':H b=some (.own x):=by
    rcases he with z | z
    ·exact absurd (hbe.trans z) hb
    ·rw [hbe]; exact z
   rw [q] at q'; cases q'
   obtain ⟨v,hv⟩:=heo
   exact⟨v,by rw [hbe]; exact hv⟩
  ·refine (ok b u q).stay (fun c v hc r=>k c v ?_ r) (fun c r=>by rw [upd_ne (nown c b r)]; exact r) fun c xs r=>by rw [upd_ne (ntup c xs r)]; exact r
   rcases hc with rfl | hc
   ·exact hbe
   ·rintro rfl
    rcases he with z | z
    ·exact nown c b hc z
    ·rw [hc] at z; cases z; exact hb rfl
end
structure Un (fs ex:List Addr) (H H':Hp) (h h':Heap):Prop where
 keep:∀ b o,h.get? b=some o->H b=none->b ∉ fs->b ∉ ex->h'.get? b=some o
 slot:∀ b o,h.get? b=some o->H b=none->b ∈ fs->b ∉ ex->∃ sl,h'.get? b=some { o with slots:=sl }
 free:∀ b o,h.get? b=some o->H b=none->b ∉ ex->H' b=none
 there:∀ b o,h.get? b=some o->b ∉ ex->∃ o',h'.get? b=some o'
 tups:∀ b xs,H b=some (.tup xs)->H' b=some (.tup xs)
 frzs:∀ b o u,H b=some (.frz o u)->H' b=some (.frz o u)
 tbls:∀ b ps,H b=some (.tbl ps)->∃ more,H' b=some (.tbl (ps ++ more))
section
variable {fs fs' ex ex' : List Addr} {H H1 H2 : Hp} {h h1 h2 h' : Heap} {a x e : Addr} {o : HO}
theorem Un.any (u:Un fs ex H H1 h h1) {b:Addr}{ob:Obj} (q:h.get? b=some ob) (n:H b=none) (hx:b ∉ ex):∃ sl,h1.get? b=some { ob with slots:=sl }:=by
 by_cases hb:b ∈ fs
 ·exact u.slot b ob q n hb hx
 ·exact⟨ob.slots,u.keep b ob q n hb hx⟩
theorem Un.kept (k:∀ b u,h.get? b=some u->h'.get? b=some u):Un fs ex H H h h':=
 ⟨fun b ob q _ _ _=>k b ob q,fun b ob q _ _ _=>⟨ob.slots,k b ob q⟩,fun _ _ _ n _=>n,fun b ob q _=>⟨ob,k b ob q⟩,fun _ _ q=>q,fun _ _ _ q=>q,fun _ ps q=>⟨#[],by rw [q]; simp⟩⟩
theorem Un.refl:Un fs ex H H h h:=Un.kept fun _ _ q=>q
theorem Un.laid (k:∀ b u,h.get? b=some u->h'.get? b=some u) (hp:h.objs.size<=a) (hn:H a=none):Un fs ex H (upd H a o) h h' where
 keep:=fun b u q _ _ _=>k b u q
 slot:=fun b u q _ _ _=>⟨u.slots,k b u q⟩
 free:=fun b u q n _=>by rw [upd_ne (Nat.ne_of_lt (Nat.lt_of_lt_of_le (Heap.lt_size q) hp))]; exact n
 there:=fun b u q _=>⟨u,k b u q⟩
 tups:=fun b xs q=>by rw [upd_ne (ne_of_none q hn)]; exact q
 frzs:=fun b u xs q=>by rw [upd_ne (ne_of_none q hn)]; exact q
 tbls:=fun b ps q=>⟨#[],by rw [upd_ne (ne_of_none q hn),q]; simp⟩
theorem Un.write (mu:Mut (H x)) (he:e=x ∨ H e=some (.own x)) (k:∀ b u,b ≠ e->h.get? b=some u->h'.get? b=some u) (heo:∃ u,h'.get? e=some u):Un fs ex H (upd H x o) h h':=by
 have hx:∀ b,H b=none->b ≠ x:=fun b n z=>by subst z; rw [n] at mu; exact mu
 have hb:∀ b,H b=none->b ≠ e:=fun b n z=>by
  subst z
  rcases he with r | r
  ·exact hx b n r
  ·rw [n] at r; cases r
 have hm:∀ b u,H b=some u->¬ Mut (some u)->b ≠ x:=fun b u q nm z=>by subst z; rw [q] at mu; exact nm mu
 refine⟨fun b u q n _ _=>k b u (hb b n) q,fun b u q n _ _=>⟨u.slots,k b u (hb b n) q⟩,fun b u q n _=>by rw [upd_ne (hx b n)]; exact n,fun b u q _=>?_,
  fun b xs q=>by rw [upd_ne (hm b _ q fun z=>z)]; exact q,fun b u xs q=>by rw [upd_ne (hm b _ q fun z=>z)]; exact q,fun b ps q=>⟨#[],by rw [upd_ne (hm b _ q fun z=>z),q]; simp⟩⟩
 by_cases hbe:b=e
 ·subst hbe; exact heo
 ·exact⟨u,k b u hbe q⟩
end
noncomputable def trk (h:Heap) (H:Hp):List Addr:=(List.range h.objs.size).filter fun a=>(H a).isSome
noncomputable def hidT (h:Heap) (H:Hp):Heap:=PySem.W.hideAll h (trk h H)
theorem hidT_size (h:Heap) (H:Hp):(hidT h H).objs.size=h.objs.size:=PySem.W.hideAll_size _ _
theorem hidT_get {h:Heap}{H:Hp}{b:Addr}{o:Obj} (e:h.get? b=some o) (n:H b=none):(hidT h H).get? b=some o:=
 PySem.W.hideAll_get _ e fun hm=>by
  have q:(H b).isSome=true:=(List.mem_filter.mp hm).2
  rw [n] at q; simp at q
theorem of_hidT {h:Heap}{H:Hp}{b:Addr}{o:Obj} (e:(hidT h H).get? b=some o):h.get? b=some o/\H b=none:=by
 have e':h.get? b=some o:=PySem.W.of_hideAll (trk h H) e
 refine⟨e',?_⟩
 cases q:H b with
 | none=>rfl
 | some x=>
  have hm:b ∈ trk h H:=List.mem_filter.mpr ⟨List.mem_range.mpr (Heap.lt_size e'),by simp [q]⟩
  have z:(hidT h H).get? b=none:=PySem.W.hideAll_none (trk h H) hm
  rw [z] at e; cases e
noncomputable def allNews (g h:Heap) (L:Addr):List (Addr × Obj):=(List.range h.objs.size).filterMap fun a=>if a=L ∨ (g.get? a).isSome=true then none else (h.get? a).map fun o=>(a,o)
theorem mem_allNews {g h:Heap}{L a:Addr}{o:Obj} (h1:a ≠ L) (h2:g.get? a=none) (h3:h.get? a=some o):(a,o) ∈ allNews g h L:=
 List.mem_filterMap.mpr ⟨a,List.mem_range.mpr (Heap.lt_size h3),by simp [h1,h2,h3]⟩
theorem of_mem_allNews {g h:Heap}{L:Addr}{p:Addr × Obj} (hp:p ∈ allNews g h L):p.1 ≠ L/\g.get? p.1=none/\h.get? p.1=some p.2:=by
 obtain ⟨b,_,e⟩:=List.mem_filterMap.mp hp
 split at e
 ·cases e
 ·rename_i hn
  cases q:h.get? b with
  | none=>rw [q] at e; simp at e
  | some u=>
   rw [q] at e
   simp only [Option.map_some,Option.some.injEq] at e
   subst e
   refine⟨fun z=>hn (.inl z),?_,q⟩
   show g.get? b=none
   cases r:g.get? b with
   | none=>rfl
   | some v=>exact (hn (.inr (by simp [r]))).elim
noncomputable def rest (g h:Heap) (L d:Addr):List (Addr × Obj):=(allNews g h L).filter fun p=>decide (p.1 ≠ d)
theorem news_all {g h:Heap}{L:Addr}:News g L h (allNews g h L):=fun p hp=>let ⟨a,b,c⟩:=of_mem_allNews hp; ⟨c,a,b⟩
end L2
namespace L2
open PySem PySem.Spec PyProof.Rows
structure Mod (K:PySem.W.Frag) (mg:Str->Option Value) (base:Heap):Prop where
 kin:K.In base
 glob:base.Ns mainGlobals mg
 blt:∃ mb,base.Ns builtinsNs mb/\∀ x:Str,x ≠ "__name__"->mb x=bootBuiltins x
 nolimit:base.NoLimit
structure Cx where
 prog:Program
 w:World
 K:PySem.W.Frag
 mg:Str->Option Value
 base:Heap
 A:Around
 N:List Str
 s₀:Shared
 H₀:Hp
 env:Env
 outer:List Env
 stack:List Env
 ex:List Addr
 fn:Str->Bool
 calm:Bool
 pn:List (Addr × Obj)
 xe:Value->Shared->Prop
noncomputable def frs (l:List Env):List Addr:=l.filterMap (·.frame)
noncomputable abbrev Cx.fs (X:Cx):List Addr:=frs X.outer
noncomputable def Vis (sc:Scope) (x:Str):Prop:=sc.names.lookup x=some .local ∨ sc.names.lookup x=some .cell ∨ sc.names.lookup x=some .free
noncomputable def Loc (sc:Scope) (x:Str):Prop:=sc.names.lookup x=some .local ∨ sc.names.lookup x=some .cell
noncomputable def Look (env:Env) (h:Heap) (m:Str->Option Value) (x:Str) (u:Value):Prop:=
 (env.kindOf x=some .local/\m x=some u) ∨ ((env.kindOf x=some .cell ∨ env.kindOf x=some .free)/\∃ c,env.cells.lookup x=some c/\h.IsCell c (some u))
structure Cx.Ok (X:Cx):Prop where
 mod:Mod X.K X.mg X.base
 kind:X.env.scope.kind = .function
 glob:X.env.globals=mainGlobals
 blt:X.env.builtins=builtinsNs
 above:X.s₀.heap.objs.size<=X.env.locals
 inj:∀ x y c,X.env.cells.lookup x=some c->X.env.cells.lookup y=some c->x=y
 has:∀ x,(X.env.kindOf x=some .cell ∨ X.env.kindOf x=some .free)->∃ c,X.env.cells.lookup x=some c
 cab:∀ x c,X.fn x=true->X.env.cells.lookup x=some c->X.s₀.heap.objs.size<=c
 hd:X.calm=true->X.A.handled=none
 frames:X.A.frames=some X.stack
 stk:X.stack=X.outer ∨ (X.stack=X.env :: X.outer/\X.env.frame=some X.env.locals)
 exf:∀ b ∈ X.ex,b ≠ X.env.locals/\∀ x c,X.env.cells.lookup x=some c->c ≠ b
 bs:∀ b o,X.base.get? b=some o->X.s₀.heap.get? b=some o/\X.H₀ b=none
 bsz:X.base.objs.size<=X.s₀.heap.objs.size
 noex:∀ b o,X.base.get? b=some o->b ∉ X.ex
 exfs:∀ b ∈ X.ex,b ∉ X.fs
 funs:X.s₀.heap.FunFrames X.base X.outer
 frf:∀ b ∈ X.fs,X.H₀ b=none
structure Inv (X:Cx) (pins:List (Addr × Obj)) (σ:List (Option V)) (H:Hp) (s:Shared):Prop where
 ok:X.Ok
 os:s.os=X.s₀.os
 bare:AllBare s.gens
 base:Un X.fs X.ex X.H₀ H X.s₀.heap s.heap
 loc:∃ m,s.heap.Ns X.env.locals m/\∀ (i:Nat) (x:Str) (v:V),X.N[i]? = some x->σ[i]? = some (some v)->Vis X.env.scope x->∃ u,RelV v u/\Look X.env s.heap m x u
 cell:∀ x c,X.env.cells.lookup x=some c->∃ v,s.heap.IsCell c v
 free:H X.env.locals=none
 freeC:∀ x c,X.env.cells.lookup x=some c->H c=none
 pin:∀ p ∈ X.pn ++ pins,s.heap.get? p.1=some p.2/\H p.1=none/\p.1 ≠ X.env.locals/\p.1 ∉ X.fs/\∀ v,p.2.data ≠ .cell v
 hok:HOk X.prog X.w H s.heap
 len:σ.length=X.N.length
section
variable {X : Cx} {pins : List (Addr × Obj)} {σ : List (Option V)} {H H' : Hp} {s : Shared} {h' : Heap}
theorem Cx.Ok.nofr (ok:X.Ok) {b:Addr}{o:Obj} (e:X.base.get? b=some o):b ∉ X.fs:=fun hb=>by
 have:=(ok.funs.mem hb).1
 rw [e] at this; cases this
theorem Inv.bs (I:Inv X pins σ H s):∀ b o,X.base.get? b=some o->s.heap.get? b=some o/\H b=none:=fun b o e=>
 ⟨I.base.keep b o (I.ok.bs b o e).1 (I.ok.bs b o e).2 (I.ok.nofr e) (I.ok.noex b o e),I.base.free b o (I.ok.bs b o e).1 (I.ok.bs b o e).2 (I.ok.noex b o e)⟩
theorem Inv.bk (I:Inv X pins σ H s):∀ b o,X.base.get? b=some o->s.heap.get? b=some o:=fun b o e=>(I.bs b o e).1
theorem Inv.mod (I:Inv X pins σ H s):Mod X.K X.mg X.base:=I.ok.mod
theorem Inv.kIn (I:Inv X pins σ H s):X.K.In s.heap:=I.ok.mod.kin.keeps I.bk
theorem Inv.fr (I:Inv X pins σ H s):∃ m,Fr X.base X.env.locals s.heap m:=
 let ⟨m,hn,_⟩:=I.loc
 ⟨m,hn,I.bk,Nat.le_trans I.ok.bsz I.ok.above⟩
theorem Inv.lt (I:Inv X pins σ H s):X.env.locals < s.heap.objs.size:=let ⟨_,hn,_⟩:=I.loc; hn.lt
theorem Inv.sz (I:Inv X pins σ H s):X.s₀.heap.objs.size<=s.heap.objs.size:=Nat.le_trans I.ok.above (Nat.le_of_lt I.lt)
theorem Inv.nofs (I:Inv X pins σ H s) {a:Addr} (h:s.heap.objs.size<=a):a ∉ X.fs:=fun hb=>by
 obtain ⟨_,o,ho,_⟩:=I.ok.funs.mem hb
 exact absurd (Nat.lt_of_lt_of_le (Heap.lt_size ho) (Nat.le_trans I.sz h)) (Nat.lt_irrefl _)
theorem Inv.cne (I:Inv X pins σ H s):∀ x c,X.env.cells.lookup x=some c->c ≠ X.env.locals:=fun x c e z=>by
 obtain ⟨v,o,ho,hd⟩:=I.cell x c e
 obtain ⟨m,⟨o',es,ep,ho',hd',_⟩,_⟩:=I.loc
 rw [z,ho'] at ho; cases ho; rw [hd'] at hd; cases hd
theorem Inv.funs (I:Inv X pins σ H s):s.heap.FunFrames X.base X.outer:=by
 have all:∀ (l:List Env),(∀ b ∈ frs l,b ∈ X.fs)->X.s₀.heap.FunFrames X.base l->s.heap.FunFrames X.base l:=by
  intro l
  induction l with
  | nil=>intro _ _; trivial
  | cons env r ih=>
   intro hs hl
   obtain ⟨hk,⟨L,o,hf,hn,ho,hd⟩,hr⟩:=hl
   have hL:L ∈ X.fs:=hs L (by unfold frs; rw [List.filterMap_cons,hf]; exact List.mem_cons_self)
   obtain ⟨sl,e⟩:=I.base.slot L o ho (I.ok.frf L hL) hL fun z=>I.ok.exfs L z hL
   exact⟨hk,⟨L,_,hf,hn,e,hd⟩,ih (fun b hb=>hs b (by unfold frs; rw [List.filterMap_cons,hf]; exact List.mem_cons_of_mem _ hb)) hr⟩
 exact all X.outer (fun _ hb=>hb) I.ok.funs
theorem Inv.stack (I:Inv X pins σ H s):s.heap.FunFrames X.base X.stack:=by
 rcases I.ok.stk with e | ⟨e,hf⟩
 ·rw [e]; exact I.funs
 ·rw [e]
  obtain ⟨m,hn,_⟩:=I.loc
  refine .cons (by rw [I.ok.kind]; decide) hf hn ?_ I.funs
  exact Heap.get?_none_of_le (Nat.le_trans I.ok.bsz I.ok.above)
theorem Inv.stkSub (I:Inv X pins σ H s):∀ b ∈ frs X.stack,b ∈ X.env.locals :: X.fs:=fun b hb=>by
 rcases I.ok.stk with e | ⟨e,hf⟩
 ·rw [e] at hb; exact List.mem_cons_of_mem _ hb
 ·rw [e] at hb
  unfold frs at hb
  rw [List.filterMap_cons,hf] at hb
  exact hb
theorem Inv.stkFree (I:Inv X pins σ H s):∀ b ∈ frs X.stack,H b=none:=fun b hb=>by
 rcases List.mem_cons.mp (I.stkSub b hb) with e | hb
 ·rw [e]; exact I.free
 ·obtain ⟨_,o,ho,_⟩:=I.ok.funs.mem hb
  exact I.base.free b o ho (I.ok.frf b hb) fun z=>I.ok.exfs b z hb
theorem Inv.step {g':Array GenState}{t':Nat}{d':Drawn}{ch:List Addr} (I:Inv X pins σ H s)
  (hch:∀ b ∈ ch,(b ∈ X.ex ∨ X.s₀.heap.objs.size<=b)/\b ≠ X.env.locals/\(∀ x c,X.env.cells.lookup x=some c->c ≠ b)/\∀ p ∈ X.pn ++ pins,p.1 ≠ b)
  (keep:∀ b o,b ≠ X.env.locals->b ∉ X.fs->b ∉ ch->s.heap.get? b=some o->H b=none->h'.get? b=some o)
  (slot:∀ b o,b ≠ X.env.locals->b ∈ X.fs->b ∉ ch->s.heap.get? b=some o->H b=none->∃ sl,h'.get? b=some { o with slots:=sl }) (free:∀ b o,b ∉ ch->s.heap.get? b=some o->H b=none->H' b=none)
  (there:∀ b o,b ∉ ch->s.heap.get? b=some o->∃ o',h'.get? b=some o')
  (tups:∀ b xs,H b=some (.tup xs)->H' b=some (.tup xs)) (frzs:∀ b o u,H b=some (.frz o u)->H' b=some (.frz o u)) (tbls:∀ b ps,H b=some (.tbl ps)->∃ more,H' b=some (.tbl (ps ++ more)))
  (ns:∀ m,s.heap.Ns X.env.locals m->h'.Ns X.env.locals m) (hok:HOk X.prog X.w H' h') (hg:AllBare g') :
  Inv X pins σ H' { s with heap:=h',gens:=g',drawn:=d',toks:=t' }:=by
 have neL:∀ b o,X.s₀.heap.get? b=some o->b ≠ X.env.locals:=fun b o e=>Nat.ne_of_lt (Nat.lt_of_lt_of_le (Heap.lt_size e) I.ok.above)
 have neC:∀ b o,X.s₀.heap.get? b=some o->b ∉ X.ex->b ∉ ch:=fun b o e hx hb=>by
  rcases (hch b hb).1 with z | z
  ·exact hx z
  ·exact absurd (Nat.lt_of_lt_of_le (Heap.lt_size e) z) (Nat.lt_irrefl _)
 have cellK:∀ x c,X.env.cells.lookup x=some c->∀ v,s.heap.IsCell c v->h'.IsCell c v:=fun x c e v ⟨o,ho,hd⟩=>by
  have nch:c ∉ ch:=fun z=>(hch c z).2.2.1 x c e rfl
  by_cases hc:c ∈ X.fs
  ·obtain ⟨sl,q⟩:=slot c o (I.cne x c e) hc nch ho (I.freeC x c e)
   exact⟨_,q,hd⟩
  ·exact⟨o,keep c o (I.cne x c e) hc nch ho (I.freeC x c e),hd⟩
 refine⟨I.ok,I.os,hg,⟨fun b o e n hb hx=>?_,fun b o e n hb hx=>?_,fun b o e n hx=>?_,fun b o e hx=>?_,fun b xs e=>tups b xs (I.base.tups b xs e),fun b o xs e=>frzs b o xs (I.base.frzs b o xs e),fun b ps e=>?_⟩,?_,fun x c e=>?_,?_,fun x c e=>?_,fun p hp=>?_,hok,I.len⟩
 ·exact keep b o (neL b o e) hb (neC b o e hx) (I.base.keep b o e n hb hx) (I.base.free b o e n hx)
 ·obtain ⟨sl,e1⟩:=I.base.slot b o e n hb hx
  obtain ⟨sl',e2⟩:=slot b _ (neL b o e) hb (neC b o e hx) e1 (I.base.free b o e n hx)
  exact⟨sl',e2⟩
 ·obtain ⟨o',e1⟩:=I.base.there b o e hx
  exact free b o' (neC b o e hx) e1 (I.base.free b o e n hx)
 ·obtain ⟨o',e1⟩:=I.base.there b o e hx
  exact there b o' (neC b o e hx) e1
 ·obtain ⟨m1,e1⟩:=I.base.tbls b ps e
  obtain ⟨m2,e2⟩:=tbls b _ e1
  exact⟨m1 ++ m2,by rw [e2,Array.append_assoc]⟩
 ·obtain ⟨m,hn,hl⟩:=I.loc
  refine⟨m,ns m hn,fun i x v e1 e2 e3=>?_⟩
  obtain ⟨u,r,l⟩:=hl i x v e1 e2 e3
  refine⟨u,r,?_⟩
  rcases l with l | ⟨k,c,e,z⟩
  ·exact .inl l
  ·exact .inr ⟨k,c,e,cellK x c e _ z⟩
 ·obtain ⟨v,z⟩:=I.cell x c e
  exact⟨v,cellK x c e v z⟩
 ·obtain ⟨m,⟨o,_,_,ho,_⟩,_⟩:=I.loc
  exact free _ o (fun z=>(hch _ z).2.1 rfl) ho I.free
 ·obtain ⟨v,o,ho,hd⟩:=I.cell x c e
  exact free c o (fun z=>(hch c z).2.2.1 x c e rfl) ho (I.freeC x c e)
 ·obtain ⟨e,n,ne,nf,d⟩:=I.pin p hp
  have nch:p.1 ∉ ch:=fun z=>(hch p.1 z).2.2.2 p hp rfl
  exact⟨keep p.1 p.2 ne nf nch e n,free p.1 p.2 nch e n,ne,nf,d⟩
theorem Inv.un {t':Nat} (I:Inv X pins σ H s) (u:Un X.fs [] H H' s.heap h') (hok:HOk X.prog X.w H' h'):Inv X pins σ H' { s with heap:=h',toks:=t' }:=by
 obtain ⟨m,⟨o,es,ep,ho,r⟩,_⟩:=id I.loc
 obtain ⟨sl,hL⟩:=u.any ho I.free (by simp)
 exact I.step (g':=s.gens) (d':=s.drawn) (ch:=[]) (fun _ z=>nomatch z) (fun b o _ hb _ e n=>u.keep b o e n hb (by simp)) (fun b o _ hb _ e n=>u.slot b o e n hb (by simp)) (fun b o _ e n=>u.free b o e n (by simp)) (fun b o _ e=>u.there b o e (by simp)) u.tups u.frzs u.tbls (fun m' hm=>by
  obtain ⟨o',es',ep',ho',r'⟩:=hm
  rw [ho] at ho'; cases ho'
  exact⟨_,es',ep',hL,r'⟩) hok I.bare
theorem Inv.call {g':Array GenState}{t':Nat}{d':Drawn}{ch:List Addr} (I:Inv X pins σ H s) (u:Un (frs X.stack) ch H H' s.heap h') (hok:HOk X.prog X.w H' h') (hg:AllBare g')
  (hch:∀ b ∈ ch,(b ∈ X.ex ∨ X.s₀.heap.objs.size<=b)/\b ≠ X.env.locals/\(∀ x c,X.env.cells.lookup x=some c->c ≠ b)/\∀ p ∈ X.pn ++ pins,p.1 ≠ b) :
  Inv X pins σ H' { s with heap:=h',gens:=g',drawn:=d',toks:=t' }:=by
 obtain ⟨m,⟨o,es,ep,ho,r⟩,_⟩:=id I.loc
 obtain ⟨sl,hL⟩:=u.any ho I.free fun z=>(hch _ z).2.1 rfl
 exact I.step (ch:=ch) hch (fun b o hL hb hc e n=>u.keep b o e n (fun z=>(List.mem_cons.mp (I.stkSub b z)).elim hL hb) hc) (fun b o _ _ hc e n=>u.any e n hc) (fun b o hc e n=>u.free b o e n hc) (fun b o hc e=>u.there b o e hc) u.tups u.frzs u.tbls (fun m' hm=>by
  obtain ⟨o',es',ep',ho',r'⟩:=hm
  rw [ho] at ho'; cases ho'
  exact⟨_,es',ep',hL,r'⟩) hok hg
theorem Inv.turned {t':Nat}{it:Addr} (I:Inv X pins σ H s) (k:∀ b o,b ≠ it->s.heap.get? b=some o->h'.get? b=some o) (hn:H it=none) (hL:it ≠ X.env.locals)
  (h1:it ∈ X.ex ∨ X.s₀.heap.objs.size<=it) (h2:∀ x c,X.env.cells.lookup x=some c->c ≠ it) (h3:∀ p ∈ X.pn ++ pins,p.1 ≠ it):Inv X pins σ H { s with heap:=h',toks:=t' }:=by
 have nit:∀ b u,H b=some u->b ≠ it:=fun b u e z=>by rw [z,hn] at e; cases e
 refine I.step (g':=s.gens) (d':=s.drawn) (ch:=[it]) (fun b hb=>?_) (fun b o _ _ hc e _=>k b o (fun z=>hc (by simp [z])) e) (fun b o _ _ hc e _=>⟨o.slots,k b o (fun z=>hc (by simp [z])) e⟩) (fun _ _ _ _ n=>n)
  (fun b o hc e=>⟨o,k b o (fun z=>hc (by simp [z])) e⟩) (fun _ _ e=>e) (fun _ _ _ e=>e) (fun b ps e=>⟨#[],by rw [e]; simp⟩) (fun m hm=>?_) (fun b u e=>?_) I.bare
 ·have e:b=it:=by simpa using hb
  subst e
  exact⟨h1,hL,h2,h3⟩
 ·obtain ⟨o,es,ep,ho,r⟩:=hm
  exact⟨o,es,ep,k _ o (Ne.symm hL) ho,r⟩
 ·refine (I.hok b u e).stay (fun c v hc q=>k c v ?_ q) (fun _ q=>q) fun _ _ q=>q
  rcases hc with z | z
  ·rw [z]; exact nit b u e
  ·exact nit c _ z
theorem Inv.tok (I:Inv X pins σ H s) (t:Nat):Inv X pins σ H { s with toks:=t }:=I.un (h':=s.heap) (t':=t) Un.refl I.hok
theorem Inv.kept {t':Nat} (I:Inv X pins σ H s) (k:∀ b u,s.heap.get? b=some u->h'.get? b=some u):Inv X pins σ H { s with heap:=h',toks:=t' }:=I.un (Un.kept k) (I.hok.kept k)
theorem Inv.laid {a:Addr}{o:HO}{t':Nat} (I:Inv X pins σ H s) (k:∀ b u,s.heap.get? b=some u->h'.get? b=some u) (hp:s.heap.objs.size<=a) (new:ObjOk X.prog X.w (upd H a o) h' a o) :
  Inv X pins σ (upd H a o) { s with heap:=h',toks:=t' }:=I.un (Un.laid k hp (I.hok.fresh hp)) (I.hok.laid k hp new)
theorem Inv.write {x e:Addr}{o:HO}{t':Nat} (I:Inv X pins σ H s) (mu:Mut (H x)) (he:e=x ∨ H e=some (.own x)) (k:∀ b u,b ≠ e->s.heap.get? b=some u->h'.get? b=some u) (heo:∃ u,h'.get? e=some u)
  (new:ObjOk X.prog X.w (upd H x o) h' x o):Inv X pins σ (upd H x o) { s with heap:=h',toks:=t' }:=I.un (Un.write mu he k heo) (I.hok.write mu he k heo new)
theorem Inv.weak {σ':List (Option V)} (I:Inv X pins σ H s) (hl:σ'.length=σ.length) (w:∀ (i:Nat) v,σ'[i]? = some (some v)->σ[i]? = some (some v)):Inv X pins σ' H s:=
 ⟨I.ok,I.os,I.bare,I.base,let ⟨m,hn,hl'⟩:=I.loc; ⟨m,hn,fun i x v e1 e2 e3=>hl' i x v e1 (w i v e2) e3⟩,I.cell,I.free,I.freeC,I.pin,I.hok,hl.trans I.len⟩
theorem Inv.pins_of {pins':List (Addr × Obj)} (I:Inv X pins σ H s) (h:∀ p ∈ pins',s.heap.get? p.1=some p.2/\H p.1=none/\p.1 ≠ X.env.locals/\p.1 ∉ X.fs/\∀ v,p.2.data ≠ .cell v):Inv X pins' σ H s:=
 ⟨I.ok,I.os,I.bare,I.base,I.loc,I.cell,I.free,I.freeC,fun p hp=>(List.mem_append.mp hp).elim (fun z=>I.pin p (List.mem_append_left _ z)) (h p),I.hok,I.len⟩
theorem nodup_ix {N:List Str} (hN:N.Nodup) {i j:Nat}{x:Str} (a:N[i]? = some x) (b:N[j]? = some x):i=j:=by
 obtain ⟨h1,e1⟩:=List.getElem?_eq_some_iff.mp a
 obtain ⟨h2,e2⟩:=List.getElem?_eq_some_iff.mp b
 exact (List.getElem_inj hN).mp (e1.trans e2.symm)
theorem store_ok2 {M:Model}{A:Around}{E:Value->Shared->Prop}{i:Nat}{x:Str}{v:V}{u:Value}{Q:Unit->Shared->Prop} (I:Inv X pins σ H s) (hN:X.N.Nodup) (hi:X.N[i]? = some x) (hx:Loc X.env.scope x) (r:RelV v u)
  (h:∀ s',Inv X pins (σ.set i (some v)) H s'->(∃ a,Heap.SameBut a s.heap s'.heap/\(a=X.env.locals ∨ X.env.cells.lookup x=some a))->Q () s') (hf:X.fn x=true ∨ X.env.scope.names.lookup x=some .local:=by first | exact .inl rfl | exact .inr rfl | assumption):wpAny M A (storeName X.env x u) Q E s:=by
 obtain ⟨m,hn,hl⟩:=id I.loc
 have hcls:(X.env.scope.kind == .class || (X.env.scope.kind == .module && X.env.locals != X.env.globals))=false:=by rw [I.ok.kind]; rfl
 have hiσ:i < σ.length:=by rw [I.len]; exact (List.getElem?_eq_some_iff.mp hi).1
 have cne:=I.cne
 have tracked:∀ {a:Addr}{h':Heap},(∃ o,s.heap.get? a=some o/\H a=none)->Heap.SameBut a s.heap h'->HOk X.prog X.w H h':=fun {a h'} ha hs b ob e=>by
  obtain ⟨_,_,hfree⟩:=ha
  refine (I.hok b ob e).stay (fun c w' hc q=>(hs.2 c ?_).trans q) (fun _ q=>q) fun _ _ q=>q
  rintro rfl
  rcases hc with rfl | hc
  ·rw [hfree] at e; cases e
  ·rw [hfree] at hc; cases hc
 rcases hx with hk | hk
 ·refine wpAny_storeName_local hk hn (fun h' hn' hs=>?_) hcls
  obtain ⟨oL,_,_,hoL,_⟩:=id hn
  refine h _ ⟨I.ok,I.os,I.bare,⟨fun b o e n hb hx=>?_,fun b o e n hb hx=>?_,I.base.free,fun b o e hx=>?_,I.base.tups,I.base.frzs,I.base.tbls⟩,⟨_,hn',fun j y v' e1 e2 e3=>?_⟩,fun y c e=>?_,I.free,I.freeC,fun p hp=>?_,tracked ⟨oL,hoL,I.free⟩ hs,by simpa using I.len⟩ ⟨_,hs,.inl rfl⟩
  ·exact (hs.2 b (Nat.ne_of_lt (Nat.lt_of_lt_of_le (Heap.lt_size e) I.ok.above))).trans (I.base.keep b o e n hb hx)
  ·obtain ⟨sl,e1⟩:=I.base.slot b o e n hb hx
   exact⟨sl,(hs.2 b (Nat.ne_of_lt (Nat.lt_of_lt_of_le (Heap.lt_size e) I.ok.above))).trans e1⟩
  ·obtain ⟨o',e1⟩:=I.base.there b o e hx
   exact⟨o',(hs.2 b (Nat.ne_of_lt (Nat.lt_of_lt_of_le (Heap.lt_size e) I.ok.above))).trans e1⟩
  ·by_cases hj:j=i
   ·subst hj
    rw [hi] at e1; cases e1
    rw [List.getElem?_set_self hiσ] at e2
    cases e2
    exact⟨u,r,.inl ⟨hk,by simp⟩⟩
   ·rw [List.getElem?_set_ne (Ne.symm hj)] at e2
    obtain ⟨u',r',q⟩:=hl j y v' e1 e2 e3
    refine⟨u',r',?_⟩
    rcases q with ⟨k,e⟩ | ⟨k,c,e,z⟩
    ·refine .inl ⟨k,?_⟩
     have:y ≠ x:=fun e=>hj (nodup_ix hN e1 (e ▸ hi))
     simp [this,e]
    ·exact .inr ⟨k,c,e,z.sameBut hs (cne y c e)⟩
  ·obtain ⟨w',z⟩:=I.cell y c e
   exact⟨w',z.sameBut hs (cne y c e)⟩
  ·obtain ⟨e,n,ne,nf,d⟩:=I.pin p hp
   exact⟨(hs.2 p.1 ne).trans e,n,ne,nf,d⟩
 ·have hfn:X.fn x=true:=by
   rcases hf with z | z
   ·exact z
   ·rw [z] at hk; cases hk
  obtain ⟨c,hc⟩:=I.ok.has x (.inl hk)
  obtain ⟨w',z⟩:=I.cell x c hc
  refine wpAny_storeName_cell I.ok.kind hk hc z (fun h' hc' hs=>?_)
  obtain ⟨oc,hoc,hocd⟩:=id z
  refine h { s with heap:=h' } ⟨I.ok,I.os,I.bare,⟨fun b o e n hb hx=>?_,fun b o e n hb hx=>?_,I.base.free,fun b o e hx=>?_,I.base.tups,I.base.frzs,I.base.tbls⟩,⟨m,hn.sameBut hs (Ne.symm (cne x c hc)),fun j y v' e1 e2 e3=>?_⟩,fun y c' e=>?_,I.free,I.freeC,fun p hp=>?_,tracked ⟨oc,hoc,I.freeC x c hc⟩ hs,by simpa using I.len⟩ ⟨c,hs,.inr hc⟩
  ·exact (hs.2 b (Nat.ne_of_lt (Nat.lt_of_lt_of_le (Heap.lt_size e) (I.ok.cab x c hfn hc)))).trans (I.base.keep b o e n hb hx)
  ·obtain ⟨sl,e1⟩:=I.base.slot b o e n hb hx
   exact⟨sl,(hs.2 b (Nat.ne_of_lt (Nat.lt_of_lt_of_le (Heap.lt_size e) (I.ok.cab x c hfn hc)))).trans e1⟩
  ·obtain ⟨o',e1⟩:=I.base.there b o e hx
   exact⟨o',(hs.2 b (Nat.ne_of_lt (Nat.lt_of_lt_of_le (Heap.lt_size e) (I.ok.cab x c hfn hc)))).trans e1⟩
  ·by_cases hj:j=i
   ·subst hj
    rw [hi] at e1; cases e1
    rw [List.getElem?_set_self hiσ] at e2
    cases e2
    exact⟨u,r,.inr ⟨.inl hk,c,hc,hc'⟩⟩
   ·rw [List.getElem?_set_ne (Ne.symm hj)] at e2
    obtain ⟨u',r',q⟩:=hl j y v' e1 e2 e3
    refine⟨u',r',?_⟩
    rcases q with q | ⟨k,c',e,z'⟩
    ·exact .inl q
    ·refine .inr ⟨k,c',e,z'.sameBut hs ?_⟩
     rintro rfl
     exact hj (nodup_ix hN e1 (I.ok.inj _ _ _ e hc ▸ hi))
  ·by_cases hcc:c'=c
   ·subst hcc; exact⟨_,hc'⟩
   ·obtain ⟨w2,z2⟩:=I.cell y c' e
    exact⟨w2,z2.sameBut hs hcc⟩
  ·obtain ⟨e,n,ne,nf,d⟩:=I.pin p hp
   refine⟨(hs.2 p.1 ?_).trans e,n,ne,nf,d⟩
   intro q
   rw [q,hoc] at e
   have q':oc=p.2:=Option.some.inj e
   exact d w' (by rw [<- q']; exact hocd)
theorem store_ok {M:Model}{A:Around}{E:Value->Shared->Prop}{i:Nat}{x:Str}{v:V}{u:Value}{Q:Unit->Shared->Prop} (I:Inv X pins σ H s) (hN:X.N.Nodup) (hi:X.N[i]? = some x) (hx:Loc X.env.scope x) (r:RelV v u)
  (h:∀ s',Inv X pins (σ.set i (some v)) H s'->Q () s') (hf:X.fn x=true ∨ X.env.scope.names.lookup x=some .local:=by first | exact .inl rfl | exact .inr rfl | assumption):wpAny M A (storeName X.env x u) Q E s:=
 store_ok2 I hN hi hx r (fun s' I' _=>h s' I') hf
theorem Inv.call' {s':Shared}{ch:List Addr} (I:Inv X pins σ H s) (ho:s'.os=s.os) (u:Un (frs X.stack) ch H H' s.heap s'.heap) (hok:HOk X.prog X.w H' s'.heap) (hg:AllBare s'.gens)
  (hch:∀ b ∈ ch,(b ∈ X.ex ∨ X.s₀.heap.objs.size<=b)/\b ≠ X.env.locals/\(∀ x c,X.env.cells.lookup x=some c->c ≠ b)/\∀ p ∈ X.pn ++ pins,p.1 ≠ b):Inv X pins σ H' s':=by
 obtain ⟨h',g',d',t',o'⟩:=s'
 have e:o'=s.os:=ho
 subst e
 exact I.call (g':=g') (t':=t') (d':=d') u hok hg hch
end
noncomputable abbrev XK:=Value->Option Addr->Hp->Prop
noncomputable abbrev St:=List (Option V)
noncomputable abbrev VK:=V->Hp->Prop
noncomputable abbrev TE:=St->Hp->VK->Prop
noncomputable abbrev TT:=St->Hp->(Bool->Hp->Prop)->Prop
noncomputable abbrev TA:=St->Hp->(List V->Hp->Prop)->Prop
structure Ends where
 nx:St->Hp->Prop
 rt:VK
 bk:St->Hp->Prop:=fun _ _=>False
 ct:St->Hp->Prop:=fun _ _=>False
noncomputable abbrev TS:=Ends->St->Hp->Prop
noncomputable def EP (X:Cx) (pins:List (Addr × Obj)) (σ:St) (Q:VK) (u:Value) (s':Shared):Prop:=∃ v H',Inv X pins σ H' s'/\RelV v u/\Q v H'
noncomputable def TP (X:Cx) (pins:List (Addr × Obj)) (σ:St) (Q:Bool->Hp->Prop) (b:Bool) (s':Shared):Prop:=∃ H',Inv X pins σ H' s'/\Q b H'
noncomputable def AP (X:Cx) (pins:List (Addr × Obj)) (σ:St) (Q:List V->Hp->Prop) (us:List Value) (s':Shared):Prop:=∃ vs H',Inv X pins σ H' s'/\Vals vs us/\Q vs H'
noncomputable def SP (X:Cx) (pins:List (Addr × Obj)) (D:Ends) (f:Flow) (s':Shared):Prop:=
 match f with
 | .next=>∃ σ' H',Inv X pins σ' H' s'/\D.nx σ' H'
 | .brk=>∃ σ' H',Inv X pins σ' H' s'/\D.bk σ' H'
 | .cont=>∃ σ' H',Inv X pins σ' H' s'/\D.ct σ' H'
 | .ret u=>∃ v σ' H',Inv X pins σ' H' s'/\RelV v u/\D.rt v H'
noncomputable def PE (X:Cx) (e:Expr) (t:TE):Prop:=
 ∀ (pins:List (Addr × Obj)) (s:Shared) (σ:St) (H:Hp) (Q:VK),Inv X pins σ H s->t σ H Q->wpAny (model X.prog X.w) X.A (eval e X.env) (EP X pins σ Q) X.xe s
noncomputable def PT (X:Cx) (e:Expr) (t:TT):Prop:=
 ∀ (pins:List (Addr × Obj)) (s:Shared) (σ:St) (H:Hp) (Q:Bool->Hp->Prop),Inv X pins σ H s->t σ H Q->wpAny (model X.prog X.w) X.A (isTrue e X.env (eval e X.env)) (TP X pins σ Q) X.xe s
noncomputable def PW (X:Cx) (e:Expr) (t:TT):Prop:=
 ∀ (whole:Sem Value) (pins:List (Addr × Obj)) (s:Shared) (σ:St) (H:Hp) (Q:Bool->Hp->Prop),Inv X pins σ H s->t σ H Q->wpAny (model X.prog X.w) X.A (isTrue e X.env whole) (TP X pins σ Q) X.xe s
theorem PW.pt {X:Cx}{e:Expr}{t:TT} (h:PW X e t):PT X e t:=h _
noncomputable def PA (X:Cx) (es:List Expr) (t:TA):Prop:=
 ∀ (pos:Pos) (pins:List (Addr × Obj)) (s:Shared) (σ:St) (H:Hp) (Q:List V->Hp->Prop),Inv X pins σ H s->t σ H Q->wpAny (model X.prog X.w) X.A (spliced (backTo pos (starEach es X.env))) (AP X pins σ Q) X.xe s
noncomputable def PS (X:Cx) (st:Stmt) (t:TS):Prop:=
 ∀ (pins:List (Addr × Obj)) (s:Shared) (σ:St) (H:Hp) (D:Ends),Inv X pins σ H s->t D σ H->wpAny (model X.prog X.w) X.A (exec st X.env) (SP X pins D) X.xe s
noncomputable def PSs (X:Cx) (st:List Stmt) (t:TS):Prop:=
 ∀ (pins:List (Addr × Obj)) (s:Shared) (σ:St) (H:Hp) (D:Ends),Inv X pins σ H s->t D σ H->wpAny (model X.prog X.w) X.A (execs st X.env) (SP X pins D) X.xe s
theorem thn {α:Type}{t:Sem α}{Q Q':α->Shared->Prop}{M:Model}{A:Around}{E:Value->Shared->Prop}{s:Shared} (h:wpAny M A t Q E s) (hQ:∀ a s,Q a s->Q' a s):wpAny M A t Q' E s:=wpAny_mono h hQ fun _ _ x=>x
end L2
namespace L2
open PySem PySem.Spec PyProof.Rows
section
variable {X : Cx}
theorem bin {a b:Expr}{ta tb:TE} (ha:PE X a ta) (hb:PE X b tb) {pins:List (Addr × Obj)}{s:Shared}{σ:St}{H:Hp}{R:V->V->Hp->Prop} (I:Inv X pins σ H s) (h:ta σ H fun x H1=>tb σ H1 fun y H2=>R x y H2)
  {α:Type}{Q:α->Shared->Prop}{f:Value->Value->Sem α}
  (hf:∀ v u s2 x y H2,Inv X pins σ H2 s2->RelV x v->RelV y u->R x y H2->wpAny (model X.prog X.w) X.A (f v u) Q X.xe s2) :
  wpAny (model X.prog X.w) X.A (eval a X.env) (fun v s₁=>wpAny (model X.prog X.w) X.A (eval b X.env) (fun u s₂=>wpAny (model X.prog X.w) X.A (f v u) Q X.xe s₂) X.xe s₁) X.xe s:=by
 refine thn (ha pins s σ H _ I h) fun v s1 ⟨x,H1,I1,r1,q1⟩=>?_
 refine thn (hb pins s1 σ H1 _ I1 q1) fun u s2 ⟨y,H2,I2,r2,q2⟩=>?_
 exact hf v u s2 x y H2 I2 r1 r2 q2
noncomputable def tVar (i:Nat):TE:=fun σ H Q=>∃ v,σ[i]? = some (some v)/\Q v H
noncomputable def tC (v:V):TE:=fun _ H Q=>Q v H
theorem pe_var {i:Nat}{x:Str}{pos:Pos} (hN:X.N[i]? = some x) (hv:Vis X.env.scope x) (hd:(x == ("__debug__" : Str))=false:=by decide) (hcd:(x == ("__classdict__" : Str))=false:=by decide):PE X (.Name x pos) (tVar i):=by
 intro pins s σ H Q I h
 obtain ⟨v,e,h⟩:=h
 obtain ⟨m,hn,hl⟩:=I.loc
 obtain ⟨u,r,l⟩:=hl i x v hN e hv
 have fin:EP X pins σ Q u s:=⟨v,H,I,r,h⟩
 rcases l with ⟨hk,hm⟩ | ⟨hk,c,hc,hcell⟩
 ·exact wpAny_Name (wpAny_loadName_local I.ok.kind hk hn hm fin) hd
 ·rcases hk with hk | hk
  ·exact wpAny_Name (wpAny_loadName_cell I.ok.kind hk hc hcell fin) hd
  ·exact wpAny_Name (wpAny_loadName_free I.ok.kind hk hc hcell fin hcd) hd
theorem pe_int {i j pos}:PE X (.Constant (.int i) j pos) (tC (.int i)):=fun _ _ _ H _ I h=>wpAny_Constant_int ⟨.int i,H,I.tok _,⟨_,rfl⟩,h⟩
theorem pe_bl {b j pos}:PE X (.Constant (.bool b) j pos) (tC (.bl b)):=fun _ _ _ H _ I h=>Constant_bool ⟨.bl b,H,I,rfl,h⟩
theorem pe_non {j pos}:PE X (.Constant .none j pos) (tC .non):=fun _ _ _ H _ I h=>Constant_none ⟨.non,H,I,rfl,h⟩
noncomputable def Gl (X:Cx) (x:Str):Prop:=X.env.kindOf x=some .globalImplicit
theorem ld_glob {E:Value->Shared->Prop}{pins:List (Addr × Obj)}{s:Shared}{σ:St}{H:Hp}{x:Str}{u:Value}{pos:Pos}{Q:Value->Shared->Prop} (I:Inv X pins σ H s) (hg:Gl X x) (hm:X.mg x=some u) (h:Q u s)
  (hd:(x == ("__debug__" : Str))=false:=by decide):wpAny (model X.prog X.w) X.A (eval (.Name x pos) X.env) Q E s:=
 Calls.Name_function_global I.ok.kind hg (Calls.loadGlobal_global (by rw [I.ok.glob]; exact I.mod.glob.keeps I.bk) hm h) hd
theorem ld_blt {E:Value->Shared->Prop}{pins:List (Addr × Obj)}{s:Shared}{σ:St}{H:Hp}{x:Str}{u:Value}{pos:Pos}{Q:Value->Shared->Prop} (I:Inv X pins σ H s) (hg:Gl X x) (hm:X.mg x=none) (hv:bootBuiltins x=some u) (h:Q u s)
  (hn:x ≠ "__name__":=by decide) (hd:(x == ("__debug__" : Str))=false:=by decide):wpAny (model X.prog X.w) X.A (eval (.Name x pos) X.env) Q E s:=by
 obtain ⟨mb,h1,h2⟩:=I.mod.blt
 exact Calls.Name_function_global I.ok.kind hg (Calls.loadGlobal_builtin (by rw [I.ok.glob]; exact I.mod.glob.keeps I.bk) hm (by rw [I.ok.blt]; exact h1.keeps I.bk) ((h2 x hn).trans hv) h) hd
theorem pe_bltn {x:Str}{v:V}{u:Value}{pos:Pos} (hg:Gl X x) (hm:X.mg x=none) (hv:bootBuiltins x=some u) (r:RelV v u) (hn:x ≠ "__name__":=by decide) (hd:(x == ("__debug__" : Str))=false:=by decide):PE X (.Name x pos) (tC v):=
 fun _ _ _ H _ I h=>ld_blt I hg hm hv ⟨v,H,I,r,h⟩ hn hd
variable {a b : Expr} {ta tb : TE} {pos : Pos}
noncomputable def PC (X:Cx) (op:CmpOp) (a b:Expr) (t:TE):Prop:=
 ∀ (pins:List (Addr × Obj)) (s:Shared) (σ:St) (H:Hp) (Q:VK),Inv X pins σ H s->t σ H Q->
  wpAny (model X.prog X.w) X.A (eval a X.env) (fun v s₁=>wpAny (model X.prog X.w) X.A (eval b X.env) (fun u s₂=>wpAny (model X.prog X.w) X.A (compareOp op v u) (EP X pins σ Q) X.xe s₂) X.xe s₁) X.xe s
noncomputable def tB (t:TE):TT:=fun σ H Q=>t σ H fun x H1=>∃ c,x = .bl c/\Q c H1
theorem pe_cmp {op:CmpOp}{t:TE} (h:PC X op a b t) (h1:behindInMarks op b=false:=by first | exact nobehind _ (by decide) (by decide) | rfl):PE X (.Compare a [op] [b] pos) t:=fun pins s σ H Q I hw=>wpAny_Compare1 (h pins s σ H Q I hw) h1
theorem pt_cmp {op:CmpOp}{t:TE} (h:PC X op a b t) (h1:behindInMarks op b=false:=by first | exact nobehind _ (by decide) (by decide) | rfl):PT X (.Compare a [op] [b] pos) (tB t):=by
 intro pins s σ H Q I hw
 refine wpAny_isTrue_Compare1 (thn (h pins s σ H _ I hw) fun v s1 h1=>thn h1 fun u s2 h2=>thn h2 fun c s3 ⟨x,H1,I1,r1,q1⟩=>?_) h1
 obtain ⟨d,rfl,q⟩:=q1
 cases r1
 exact wpAny_truthy_bool ⟨H1,I1,q⟩
theorem pt_val {e:Expr}{t:TE} (h:PE X e t) (he:∀ whole,isTrue e X.env whole=(do let v <- whole; standAt e.pos; holding [v] (truthy v)):=by intro _; rfl):PT X e (tB t):=by
 intro pins s σ H Q I hw
 refine isTrue_plain (thn (h pins s σ H _ I hw) fun v s1 ⟨x,H1,I1,r1,q1⟩=>?_) (he _)
 obtain ⟨d,rfl,q⟩:=q1
 cases r1
 exact wpAny_truthy_bool ⟨H1,I1,q⟩
variable {tA tB' : TT} {rest : List Expr}
noncomputable def tAnd (t u:TT):TT:=fun σ H Q=>t σ H fun c H1=>if c=true then u σ H1 Q else Q false H1
noncomputable def tOr (t u:TT):TT:=fun σ H Q=>t σ H fun c H1=>if c=true then Q true H1 else u σ H1 Q
noncomputable def tNot (t:TT):TT:=fun σ H Q=>t σ H fun c H1=>Q (!c) H1
theorem pw_and1 (ha:PT X a tA):PW X (.BoolOp .And [a] pos) tA:=by
 intro wh pins s σ H Q I h
 refine isTrue_and (thn (ha pins s σ H Q I h) fun c s1 e=>?_)
 cases c with
 | true=>exact isTrue_and_nil e
 | false=>exact e
theorem pw_or1 (ha:PT X a tA):PW X (.BoolOp .Or [a] pos) tA:=by
 intro wh pins s σ H Q I h
 refine isTrue_or (thn (ha pins s σ H Q I h) fun c s1 e=>?_)
 cases c with
 | false=>exact isTrue_or_nil e
 | true=>exact e
theorem pw_and (ha:PT X a tA) (hb:PW X (.BoolOp .And (b :: rest) pos) tB'):PW X (.BoolOp .And (a :: b :: rest) pos) (tAnd tA tB'):=by
 intro wh pins s σ H Q I h
 refine isTrue_and (thn (ha pins s σ H _ I h) fun c s1 ⟨H1,I1,q1⟩=>?_)
 cases c with
 | true=>exact hb wh pins s1 σ H1 Q I1 q1
 | false=>exact⟨H1,I1,q1⟩
theorem pw_or (ha:PT X a tA) (hb:PW X (.BoolOp .Or (b :: rest) pos) tB'):PW X (.BoolOp .Or (a :: b :: rest) pos) (tOr tA tB'):=by
 intro wh pins s σ H Q I h
 refine isTrue_or (thn (ha pins s σ H _ I h) fun c s1 ⟨H1,I1,q1⟩=>?_)
 cases c with
 | true=>exact⟨H1,I1,q1⟩
 | false=>exact hb wh pins s1 σ H1 Q I1 q1
theorem pt_not (ha:PT X a tA):PT X (.UnaryOp .Not a pos) (tNot tA):=by
 intro pins s σ H Q I h
 exact isTrue_not (ha pins s σ H (fun c H1=>Q (!c) H1) I h)
noncomputable def tAndV (ta tb:TE):TE:=fun σ H Q=>ta σ H fun x H1=>∃ c,x = .bl c/\if c=true then tb σ H1 Q else Q (.bl false) H1
noncomputable def tOrV (ta tb:TE):TE:=fun σ H Q=>ta σ H fun x H1=>∃ c,x = .bl c/\if c=true then Q (.bl true) H1 else tb σ H1 Q
noncomputable def tNotV (ta:TE):TE:=fun σ H Q=>ta σ H fun x H1=>∃ c,x = .bl c/\Q (.bl (!c)) H1
theorem pe_one {op}{t:TE} (h:PE X a t):PE X (.BoolOp op [a] pos) t:=fun pins s σ H Q I hw=>BoolOp_one (h pins s σ H Q I hw)
theorem pe_and (ha:PE X a ta) (hb:PE X (.BoolOp .And (b :: rest) pos) tb):PE X (.BoolOp .And (a :: b :: rest) pos) (tAndV ta tb):=by
 intro pins s σ H Q I h
 refine BoolOp_and (thn (ha pins s σ H _ I h) fun v s1 ⟨x,H1,I1,r1,q1⟩=>?_)
 obtain ⟨c,rfl,q1⟩:=q1
 cases r1
 refine wpAny_truthy_bool ?_
 cases c with
 | true=>exact hb pins s1 σ H1 Q I1 q1
 | false=>exact⟨.bl false,H1,I1,rfl,q1⟩
theorem pe_or (ha:PE X a ta) (hb:PE X (.BoolOp .Or (b :: rest) pos) tb):PE X (.BoolOp .Or (a :: b :: rest) pos) (tOrV ta tb):=by
 intro pins s σ H Q I h
 refine BoolOp_or (thn (ha pins s σ H _ I h) fun v s1 ⟨x,H1,I1,r1,q1⟩=>?_)
 obtain ⟨c,rfl,q1⟩:=q1
 cases r1
 refine wpAny_truthy_bool ?_
 cases c with
 | false=>exact hb pins s1 σ H1 Q I1 q1
 | true=>exact⟨.bl true,H1,I1,rfl,q1⟩
theorem pe_not (ha:PE X a ta):PE X (.UnaryOp .Not a pos) (tNotV ta):=by
 intro pins s σ H Q I h
 refine UnaryOp_ (thn (ha pins s σ H _ I h) fun v s1 ⟨x,H1,I1,r1,q1⟩=>?_)
 obtain ⟨c,rfl,q1⟩:=q1
 cases r1
 exact not_of (wpAny_truthy_bool ⟨.bl (!c),H1,I1,rfl,q1⟩)
end
end L2
namespace L2
open PySem PySem.Spec PyProof.Rows
noncomputable def SqL (K:PySem.W.Frag) (H:Hp) (a:Addr) (xs:List V):Prop:=
 Rd H a (.lst xs) ∨
  ∃ (o:Obj) (its:Array Value) (n:Nat),K.lookup a=some o/\o.cls = .type "list"/\o.dict=none/\o.data = .seq its n/\its.size<=sizeLine/\Vals xs its.toList
noncomputable def SqT (K:PySem.W.Frag) (H:Hp) (a:Addr) (xs:List V):Prop:=
 Rd H a (.tup xs) ∨
  ∃ (o:Obj) (its:Array Value) (n:Nat),K.lookup a=some o/\o.cls = .type "tuple"/\o.data = .seq its n/\its.size<=sizeLine/\Vals xs its.toList
noncomputable def absV:Value->Option V
 | .none=>some .non
 | .bool b=>some (.bl b)
 | .int i _=>some (.int i)
 | .str x _=>some (.str x)
 | .bytes b _=>some (.byt b)
 | .float b _=>some (.flt b)
 | .ref a=>some (.ref a)
 | .type n=>some (.ty n)
 | _=>none
theorem RelV.abs {x:V}{u:Value} (r:RelV x u):absV u=some x:=by
 cases x with
 | non=>cases r; rfl
 | bl _=>cases r; rfl
 | int _=>obtain ⟨t,rfl⟩:=r; rfl
 | str _=>obtain ⟨t,rfl⟩:=r; rfl
 | byt _=>obtain ⟨t,rfl⟩:=r; rfl
 | flt _=>obtain ⟨t,rfl⟩:=r; rfl
 | ref _=>cases r; rfl
 | ty _=>cases r; rfl
theorem RelV.inj {x y:V}{u:Value} (r:RelV x u) (q:RelV y u):x=y:=Option.some.inj (r.abs.symm.trans q.abs)
theorem Vals.inj:∀ {xs ys:List V}{us:List Value},Vals xs us->Vals ys us->xs=ys
 | _,_,_,.nil,.nil=>rfl
 | _,_,_,.cons r t,.cons r' t'=>by rw [r.inj r',Vals.inj t t']
section
variable {X : Cx} {pins : List (Addr × Obj)} {σ : St} {H : Hp} {s : Shared} {a : Addr} {xs ys : List V}
theorem SqL.of {K:PySem.W.Frag} (h:H a=some (.lst xs)):SqL K H a xs:=.inl (.inl h)
theorem SqT.of {K:PySem.W.Frag} (h:H a=some (.tup xs)):SqT K H a xs:=.inl (.inl h)
theorem Inv.list (I:Inv X pins σ H s) (h:SqL X.K H a xs):∃ its:List Value,Vals xs its/\PlainL s.heap a its.toArray/\xs.length<=sizeLine:=by
 rcases h with h | ⟨o,its,n,hk,hc,hd,hs,hz,r⟩
 ·obtain ⟨z,its,n,r,e⟩:=h.ok I.hok
  exact⟨its,r,⟨_,n,e,rfl,rfl,rfl⟩,z⟩
 ·refine⟨its.toList,r,⟨o,n,I.kIn a o hk,hc,hd,by simpa using hs⟩,?_⟩
  have e:=r.length
  simp only [Array.length_toList] at e
  (first|lia|omega)
theorem Inv.tuple (I:Inv X pins σ H s) (h:SqT X.K H a xs):∃ its:List Value,Vals xs its/\IsTup s.heap a its.toArray/\xs.length<=sizeLine:=by
 rcases h with h | ⟨o,its,n,hk,hc,hs,hz,r⟩
 ·obtain ⟨z,its,r,p⟩:=h.ok I.hok
  exact⟨its,r,p,z⟩
 ·refine⟨its.toList,r,⟨o,I.kIn a o hk,hc,n,by simpa using hs⟩,?_⟩
  have e:=r.length
  simp only [Array.length_toList] at e
  (first|lia|omega)
theorem Inv.list_inj (I:Inv X pins σ H s) (h:SqL X.K H a xs) (h':SqL X.K H a ys):xs=ys:=by
 obtain ⟨its,r,⟨o,n,e,_,_,d⟩,_⟩:=I.list h
 obtain ⟨its',r',⟨o',n',e',_,_,d'⟩,_⟩:=I.list h'
 rw [e] at e'; cases e'
 rw [d] at d'
 injection d' with d1 _
 have:its=its':=by simpa using congrArg Array.toList d1
 subst this
 exact r.inj r'
theorem Inv.tuple_inj (I:Inv X pins σ H s) (h:SqT X.K H a xs) (h':SqT X.K H a ys):xs=ys:=by
 obtain ⟨its,r,⟨o,e,_,n,d⟩,_⟩:=I.tuple h
 obtain ⟨its',r',⟨o',e',_,n',d'⟩,_⟩:=I.tuple h'
 rw [e] at e'; cases e'
 rw [d] at d'
 injection d' with d1 _
 have:its=its':=by simpa using congrArg Array.toList d1
 subst this
 exact r.inj r'
end
noncomputable abbrev Cx.wish (X:Cx) (E:Value->Shared->Prop):Cx:={ X with xe:=E }
noncomputable abbrev Cx.nox (X:Cx):Cx:=X.wish fun _ _=>False
theorem Cx.Ok.wish {X:Cx} (ok:X.Ok) (E:Value->Shared->Prop):(X.wish E).Ok:=
 ⟨ok.mod,ok.kind,ok.glob,ok.blt,ok.above,ok.inj,ok.has,ok.cab,ok.hd,ok.frames,ok.stk,ok.exf,ok.bs,ok.bsz,ok.noex,ok.exfs,ok.funs,ok.frf⟩
theorem Cx.Ok.unwish {X:Cx}{E:Value->Shared->Prop} (ok:(X.wish E).Ok):X.Ok:=
 ⟨ok.mod,ok.kind,ok.glob,ok.blt,ok.above,ok.inj,ok.has,ok.cab,ok.hd,ok.frames,ok.stk,ok.exf,ok.bs,ok.bsz,ok.noex,ok.exfs,ok.funs,ok.frf⟩
section
variable {X : Cx} {pins : List (Addr × Obj)} {σ : St} {H : Hp} {s : Shared} {E : Value → Shared → Prop}
theorem Inv.wish (I:Inv X pins σ H s) (E:Value->Shared->Prop):Inv (X.wish E) pins σ H s:=⟨I.ok.wish E,I.os,I.bare,I.base,I.loc,I.cell,I.free,I.freeC,I.pin,I.hok,I.len⟩
theorem Inv.unwish (I:Inv (X.wish E) pins σ H s):Inv X pins σ H s:=⟨I.ok.unwish,I.os,I.bare,I.base,I.loc,I.cell,I.free,I.freeC,I.pin,I.hok,I.len⟩
theorem SP.unwish {D:Ends}{f:Flow}{s':Shared} (h:SP (X.wish E) pins D f s'):SP X pins D f s':=by
 cases f with
 | next=>obtain ⟨σ',H',I,q⟩:=h; exact⟨σ',H',I.unwish,q⟩
 | brk=>obtain ⟨σ',H',I,q⟩:=h; exact⟨σ',H',I.unwish,q⟩
 | cont=>obtain ⟨σ',H',I,q⟩:=h; exact⟨σ',H',I.unwish,q⟩
 | ret u=>obtain ⟨v,σ',H',I,r,q⟩:=h; exact⟨v,σ',H',I.unwish,r,q⟩
theorem PSs.nox {st:List Stmt}{t:TS} (h:PSs X.nox st t):PSs X st t:=fun pins s σ H D I hw=>
 wpAny_mono (h pins s σ H D (I.wish _) hw) (fun _ _ q=>q.unwish) fun _ _ z=>False.elim z
end
section
variable {X : Cx} {st : Stmt} {rest : List Stmt} {t u : TS} {e : Expr} {te : TE} {pos : Pos}
noncomputable def tNext:TS:=fun D σ H=>D.nx σ H
noncomputable def tSeq (t u:TS):TS:=fun D σ H=>t { D with nx:=u D } σ H
theorem pss_nil:PSs X [] tNext:=fun _ _ σ H _ I h=>wpAny_execs_nil ⟨σ,H,I,h⟩
theorem pss_cons (h1:PS X st t) (h2:PSs X rest u):PSs X (st :: rest) (tSeq t u):=by
 intro pins s σ H D I h
 refine wpAny_execs_cons (thn (h1 pins s σ H { D with nx:=u D } I h) fun f s1 q=>?_)
 cases f with
 | next=>
  obtain ⟨σ',H',I',q⟩:=q
  exact h2 pins s1 σ' H' D I' q
 | ret v=>exact q
 | brk=>exact q
 | cont=>exact q
theorem pss_one (h1:PS X st t):PSs X [st] t:=by
 intro pins s σ H D I h
 refine wpAny_execs_cons (thn (h1 pins s σ H D I h) fun f s1 q=>?_)
 cases f with
 | next=>exact wpAny_execs_nil q
 | ret v=>exact q
 | brk=>exact q
 | cont=>exact q
theorem Inv.quiet {pins:List (Addr × Obj)}{σ:St}{H:Hp}{s:Shared} (I:Inv X pins σ H s):interactive X.env=false:=by simp [interactive,I.ok.kind]
noncomputable def tDrop (te:TE):TS:=fun D σ H=>te σ H fun _ H1=>D.nx σ H1
theorem ps_expr (he:PE X e te) (hs:swapsWith e none pos.line X.env=pure false:=by rfl):PS X (.Expr e pos) (tDrop te):=by
 intro pins s σ H D I h
 exact wpAny_Expr_any (thn (he pins s σ H _ I h) fun v s1 ⟨x,H1,I1,r1,q1⟩=>⟨σ,H1,I1,q1⟩) I.quiet hs
noncomputable def tRet (te:TE):TS:=fun D σ H=>te σ H D.rt
theorem ps_ret (he:PE X e te):PS X (.Return (some e) pos) (tRet te):=by
 intro pins s σ H D I h
 exact wpAny_Return_some (thn (he pins s σ H _ I h) fun v s1 ⟨x,H1,I1,r1,q1⟩=>⟨x,σ,H1,I1,r1,q1⟩)
noncomputable def tIfS (c:TT) (t u:TS):TS:=fun D σ H=>c σ H fun b H1=>if b=true then t D σ H1 else u D σ H1
theorem ps_if {c:Expr}{a b:List Stmt}{tc:TT} (hc:PT X c tc) (ha:PSs X a t) (hb:PSs X b u):PS X (.If c a b pos) (tIfS tc t u):=by
 intro pins s σ H D I h
 refine wpAny_If (thn (hc pins s σ H _ I h) fun d s1 ⟨H1,I1,q1⟩=>?_)
 cases d with
 | true=>exact ha pins s1 σ H1 D I1 q1
 | false=>exact hb pins s1 σ H1 D I1 q1
noncomputable def tNever:TS:=fun _ _ _=>False
theorem ps_never:PS X st tNever:=fun _ _ _ _ _ _ h=>h.elim
end
noncomputable abbrev TG:=V->St->Hp->(St->Hp->Prop)->Prop
noncomputable abbrev TGs:=List V->St->Hp->(St->Hp->Prop)->Prop
noncomputable def PG (X:Cx) (target:Expr) (t:TG):Prop:=
 ∀ (pins:List (Addr × Obj)) (s:Shared) (σ:St) (H:Hp) (v:V) (u:Value) (Q:St->Hp->Prop),Inv X pins σ H s->RelV v u->t v σ H Q->
  wpAny (model X.prog X.w) X.A (assign target X.env u) (fun _ s'=>∃ σ' H',Inv X pins σ' H' s'/\Q σ' H') X.xe s
noncomputable def PGs (X:Cx) (ts:List Expr) (t:TGs):Prop:=
 ∀ (pins:List (Addr × Obj)) (s:Shared) (σ:St) (H:Hp) (vs:List V) (us:List Value) (Q:St->Hp->Prop),Inv X pins σ H s->Vals vs us->t vs σ H Q->
  wpAny (model X.prog X.w) X.A (assignInOrder ((assignEach ts X.env).map (·.2)) us) (fun _ s'=>∃ σ' H',Inv X pins σ' H' s'/\Q σ' H') X.xe s
noncomputable abbrev TSet:=V->V->V->Hp->(Hp->Prop)->Prop
noncomputable def PSet (X:Cx) (t:TSet):Prop:=
 ∀ (pins:List (Addr × Obj)) (s:Shared) (σ:St) (H:Hp) (o i v:V) (ov iv u:Value) (Q:Hp->Prop),Inv X pins σ H s->RelV o ov->RelV i iv->RelV v u->t o i v H Q->
  wpAny (model X.prog X.w) X.A (setItem ov iv u) (fun _ s'=>∃ H',Inv X pins σ H' s'/\Q H') X.xe s
section
variable {X : Cx} {pos : Pos}
noncomputable def gName (i:Nat):TG:=fun v σ H Q=>Q (σ.set i (some v)) H
theorem pg_name {i:Nat}{x:Str} (hN:X.N.Nodup) (hi:X.N[i]? = some x) (hx:Loc X.env.scope x) (hf:X.fn x=true ∨ X.env.scope.names.lookup x=some .local:=by first | exact .inl rfl | exact .inr rfl | assumption):PG X (.Name x pos) (gName i):=by
 intro pins s σ H v u Q I r h
 exact wpAny_assign_Name (store_ok I hN hi hx r (fun s' I'=>⟨_,H,I',h⟩) hf)
noncomputable def gNil:TGs:=fun vs σ H Q=>vs = []/\Q σ H
noncomputable def gCons (t:TG) (u:TGs):TGs:=fun vs σ H Q=>∃ v r,vs=v :: r/\t v σ H fun σ' H'=>u r σ' H' Q
theorem pgs_nil:PGs X [] gNil:=by
 intro pins s σ H vs us Q I r h
 obtain ⟨e,h⟩:=h
 subst e
 cases r
 exact assignInOrder_nil ⟨σ,H,I,h⟩
theorem pgs_cons {e:Expr}{es:List Expr}{t:TG}{u:TGs} (h1:PG X e t) (h2:PGs X es u)
  (hs:(assignEach (e :: es) X.env).map (·.2)=assign e X.env :: (assignEach es X.env).map (·.2):=by rfl):PGs X (e :: es) (gCons t u):=by
 intro pins s σ H vs us Q I r h
 obtain ⟨v,vr,e1,h⟩:=h
 subst e1
 cases r with
 | cons r rr=>
  rw [hs]
  refine assignInOrder_cons (thn (h1 pins s σ H _ _ _ I r h) fun _ s1 ⟨σ1,H1,I1,q1⟩=>?_)
  exact h2 pins s1 σ1 H1 _ _ Q I1 rr q1
noncomputable def gTup (K:PySem.W.Frag) (n:Nat) (t:TGs):TG:=fun v σ H Q=>∃ a xs,v = .ref a/\SqT K H a xs/\xs.length=n/\t xs σ H Q
theorem pg_tup {es:List Expr}{k:Nat}{t:TGs}{n:Nat} (hc:X.calm=true) (h:PGs X es t)
  (hn:(assignEach es X.env).length=n:=by rfl) (hst:(assignEach es X.env).findIdx? (·.1)=none:=by rfl):PG X (.Tuple es k pos) (gTup X.K n t):=by
 intro pins s σ H v u Q I r hw
 obtain ⟨a,xs,e1,hq,hl,hw⟩:=hw
 subst e1
 cases r
 obtain ⟨its,rv,ht,hz⟩:=I.tuple hq
 refine assign_Tuple_tuple (I.ok.hd hc) ht (by simp [hn,<- hl,rv.length]) hst fun h' hx=>?_
 have I1:Inv X pins σ H { s with heap:=h' }:=I.kept (t':=s.toks) fun b o e=>hx b o (Nat.ne_of_lt (Heap.lt_size e)) e
 exact h pins _ σ H xs _ Q I1 (by simpa using rv) hw
noncomputable def gSub (to ti:TE) (t:TSet):TG:=fun v σ H Q=>to σ H fun o H1=>ti σ H1 fun i H2=>t o i v H2 fun H3=>Q σ H3
theorem pg_sub {o i:Expr}{to ti:TE}{t:TSet} (ho:PE X o to) (hi:PE X i ti) (hs:PSet X t)
  (ha:∀ v,assign (.Subscript o i pos) X.env v=(do
   let ov <- holding [v] (eval o X.env)
   let iv <- holding [v,ov] (eval i X.env)
   standAt pos
   holding [v,ov,iv] (setItem ov iv v)
   release [v,ov,iv] []):=by intro _; rfl):PG X (.Subscript o i pos) (gSub to ti t):=by
 intro pins s σ H v u Q I r h
 rw [ha]
 refine wpAny_bind (wpAny_holding (thn (ho pins s σ H _ I h) fun ov s1 ⟨x,H1,I1,r1,q1⟩=>?_))
 refine wpAny_bind (wpAny_holding (thn (hi pins s1 σ H1 _ I1 q1) fun iv s2 ⟨y,H2,I2,r2,q2⟩=>?_))
 refine wpAny_bind (wpAny_standAt (wpAny_bind (wpAny_holding (thn (hs pins s2 σ H2 x y v ov iv u _ I2 r1 r2 r q2) fun _ s3 ⟨H3,I3,q3⟩=>?_))))
 exact wpAny_release ⟨σ,H3,I3,q3⟩
noncomputable def tAsg (te:TE) (g:TG):TS:=fun D σ H=>te σ H fun x H1=>g x σ H1 D.nx
theorem ps_asg {tg e:Expr}{te:TE}{g:TG} (he:PE X e te) (hg:PG X tg g) (hs:swapsWithSole [tg] e pos.line X.env=pure false:=by rfl) (hw:swappedStores [tg] e X.env=pure none:=by rfl)
  (h1:(assignEach [tg] X.env).map (·.2) = [assign tg X.env]:=by rfl):PS X (.Assign [tg] e pos) (tAsg te g):=by
 intro pins s σ H D I h
 refine wpAny_Assign_stores (thn (he pins s σ H _ I h) fun v s1 ⟨x,H1,I1,r1,q1⟩=>?_) hs hw
 rw [h1]
 exact thn (hg pins s1 σ H1 x v _ I1 r1 q1) fun _ s2 q=>q
theorem ps_set {i:Nat}{x:Str}{e:Expr}{te:TE}{pos':Pos} (hN:X.N.Nodup) (hi:X.N[i]? = some x) (hx:Loc X.env.scope x) (he:PE X e te) (hs:swapsWith e (some (.Name x pos')) pos.line X.env=pure false:=by rfl) (hf:X.fn x=true ∨ X.env.scope.names.lookup x=some .local:=by first | exact .inl rfl | exact .inr rfl | assumption) :
  PS X (.Assign [.Name x pos'] e pos) (tAsg te (gName i)):=by
 intro pins s σ H D I h
 refine wpAny_Assign_Name (thn (he pins s σ H _ I h) fun v s1 ⟨y,H1,I1,r1,q1⟩=>?_) hs
 exact store_ok I1 hN hi hx r1 (fun s2 I2=>⟨_,H1,I2,q1⟩) hf
end
section
variable {X : Cx} {pos : Pos}
noncomputable def tWhile (c:TT) (tb:TS):TS:=fun D σ H=>∃ W:Nat->St->Hp->Prop,(∃ m,W m σ H)/\∀ m σ H,W m σ H->
 c σ H fun b H1=>if b=true then ∃ N:St->Hp->Prop,(∀ σ' H',N σ' H'->∃ m',m' < m/\W m' σ' H')/\tb { D with nx:=N,ct:=N,bk:=D.nx } σ H1 else D.nx σ H1
theorem ps_while {c:Expr}{body:List Stmt}{tc:TT}{tb:TS} (hp:PassesOwn (model X.prog X.w) X.A X.env X.xe) (hc:PT X c tc) (hb:PSs X body tb):PS X (.While c body [] pos) (tWhile tc tb):=by
 intro pins s σ H D I h
 obtain ⟨W,⟨m0,w0⟩,turn⟩:=h
 refine wpAny_While (codeAny_whileLoop (fun n s'=>∃ σ' H',Inv X pins σ' H' s'/\W n σ' H') ?_ m0 ⟨σ,H,I,w0⟩)
 rintro n s1 ⟨σ1,H1,I1,w1⟩
 refine wpAny_passesOwn hp (thn (hc pins s1 σ1 H1 _ I1 (turn n σ1 H1 w1)) fun b s2 ⟨H2,I2,q2⟩=>?_)
 cases b with
 | true=>
  obtain ⟨N,hN,q2⟩:=q2
  rw [if_pos rfl]
  refine wpAny_passesOwn hp (thn (hb pins s2 σ1 H2 _ I2 q2) fun f s3 q3=>?_)
  cases f with
  | next=>
   obtain ⟨σ3,H3,I3,n3⟩:=q3
   obtain ⟨m',hm,w3⟩:=hN σ3 H3 n3
   exact⟨m',hm,σ3,H3,I3,w3⟩
  | cont=>
   obtain ⟨σ3,H3,I3,n3⟩:=q3
   obtain ⟨m',hm,w3⟩:=hN σ3 H3 n3
   exact⟨m',hm,σ3,H3,I3,w3⟩
  | brk=>exact q3
  | ret v=>exact q3
 | false=>
  rw [if_neg Bool.false_ne_true]
  exact wpAny_execs_nil ⟨σ1,H2,I2,q2⟩
end
structure It where
 go:Nat->Hp->Prop
 yld:Nat->Hp->V->Hp->Prop
 stop:Nat->Hp->Prop
noncomputable def FpOk (X:Cx) (pins:List (Addr × Obj)) (H:Hp) (b:Addr):Prop:=
 H b=none/\b ≠ X.env.locals/\b ∉ X.fs/\(b ∈ X.ex ∨ X.s₀.heap.objs.size<=b)/\(∀ x c,X.env.cells.lookup x=some c->c ≠ b)/\∀ p ∈ X.pn ++ pins,p.1 ≠ b
theorem Inv.fpOk {X:Cx}{pins:List (Addr × Obj)}{σ:St}{H H':Hp}{s:Shared}{b:Addr} (I:Inv X pins σ H s) (hb:s.heap.objs.size<=b) (hn:H' b=none):FpOk X pins H' b:=by
 refine⟨hn,Nat.ne_of_gt (Nat.lt_of_lt_of_le I.lt hb),I.nofs hb,.inr (Nat.le_trans I.sz hb),fun x c e z=>?_,fun p hp z=>?_⟩
 ·obtain ⟨v,q⟩:=I.cell x c e
  exact absurd (Nat.lt_of_lt_of_le q.lt (by rw [z]; exact hb)) (Nat.lt_irrefl _)
 ·exact absurd (Nat.lt_of_lt_of_le (Heap.lt_size (I.pin p hp).1) (by rw [z]; exact hb)) (Nat.lt_irrefl _)
structure Turn (P:Program) (w:World) (K:PySem.W.Frag) (tg:Expr) (J:It) (fp:List Addr) (it:Addr) (tn:Nat->Heap->Prop):Prop where
 mem:it ∈ fp
 obj:∀ i h,tn i h->∀ b ∈ fp,∃ o,h.get? b=some o/\∀ v,o.data ≠ .cell v
 keep:∀ i h h',tn i h->(∀ b ∈ fp,∀ o,h.get? b=some o->h'.get? b=some o)->tn i h'
 item:∀ (X:Cx),X.prog=P->X.w=w->X.K=K->X.calm=true->∀ (i:Nat) (pins:List (Addr × Obj)) (s:Shared) (σ:St) (H:Hp) (E:Value->Shared->Prop),Inv X pins σ H s->(∀ b ∈ fp,FpOk X pins H b)->tn i s.heap->J.go i H->
  wpAny (model P w) X.A (pyNext (.ref it)) (fun r s1=>∃ u,r=some u/\
   wpAny (model P w) X.A (letOwnedTupleGo tg (.ref it) u) (fun _ s2=>∃ x H',Inv X pins σ H' s2/\RelV x u/\J.yld i H x H'/\tn (i+1) s2.heap/\∀ b ∈ fp,H' b=none) E s1) E s
 done:∀ (X:Cx),X.prog=P->X.w=w->X.K=K->X.calm=true->∀ (i:Nat) (pins:List (Addr × Obj)) (s:Shared) (σ:St) (H:Hp) (E:Value->Shared->Prop),Inv X pins σ H s->(∀ b ∈ fp,FpOk X pins H b)->tn i s.heap->J.stop i H->
  wpAny (model P w) X.A (pyNext (.ref it)) (fun r s1=>r=none/\Inv X pins σ H s1) E s
 self:∀ (A:Around) (i:Nat) (s:Shared) (Q:Value->Shared->Prop) (E:Value->Shared->Prop),tn i s.heap->Q (.ref it) s->wpAny (model P w) A (pyIter (.ref it)) Q E s
noncomputable abbrev TI:=St->Hp->(It->Hp->Prop)->Prop
noncomputable def PIE (X:Cx) (pins:List (Addr × Obj)) (σ:St) (tg:Expr) (R:It->Hp->Prop) (itv:Value) (s2:Shared):Prop:=
 ∃ (it:Addr) (fp:List Addr) (tn:Nat->Heap->Prop) (J:It) (H':Hp),itv = .ref it/\Inv X pins σ H' s2/\Turn X.prog X.w X.K tg J fp it tn/\tn 0 s2.heap/\(∀ b ∈ fp,FpOk X pins H' b)/\R J H'
noncomputable def PI (X:Cx) (tg iter:Expr) (wi:TI):Prop:=
 ∀ (pins:List (Addr × Obj)) (s:Shared) (σ:St) (H:Hp) (R:It->Hp->Prop),Inv X pins σ H s->wi σ H R->
  wpAny (model X.prog X.w) X.A (eval iter X.env) (fun v s1=>wpAny (model X.prog X.w) X.A (pyIter v) (PIE X pins σ tg R) X.xe s1) X.xe s
theorem go_of {M:Model}{A:Around}{E:Value->Shared->Prop}{s:Shared}{tg:Expr}{it:Addr}{u:Value}{o:Obj}{n:String}{vs:Array Value}{Q:Unit->Shared->Prop} (ho:s.heap.get? it=some o) (hc:o.cls = .type n) (hd:o.data = .fields vs)
    (hn : ["enumerate","zip","dict_itemiterator","dict_reverseitemiterator","odict_iterator","itertools.zip_longest","itertools.pairwise"].contains n=false) (hQ:Q () s):wpAny M A (letOwnedTupleGo tg (.ref it) u) Q E s:=by
  unfold letOwnedTupleGo
  cases tg <;> first
    | exact wpAny_pure hQ
    | (cases u <;> first
        | exact wpAny_pure hQ
        | (refine wpAny_bind (wpAny_load ho ?_)
           rw [hc,hd]
           show wpAny M A (if (["enumerate","zip","dict_itemiterator","dict_reverseitemiterator","odict_iterator","itertools.zip_longest","itertools.pairwise"].contains n && vs[0]? == some (rawInt _))=true then _ else _) Q E s
           rw [if_neg (by intro h; rw [hn,Bool.false_and] at h; cases h)]
           exact wpAny_pure hQ))
noncomputable def Itl (K:PySem.W.Frag) (a:Addr):It:=
 ⟨fun i H=>∃ xs x,SqL K H a xs/\xs[i]? = some x,fun i H x H'=>H'=H/\∀ xs,SqL K H a xs->xs[i]? = some x,fun i H=>∃ xs,SqL K H a xs/\xs.length<=i⟩
noncomputable def Itt (K:PySem.W.Frag) (a:Addr):It:=
 ⟨fun i H=>∃ xs x,SqT K H a xs/\xs[i]? = some x,fun i H x H'=>H'=H/\∀ xs,SqT K H a xs->xs[i]? = some x,fun i H=>∃ xs,SqT K H a xs/\xs.length<=i⟩
noncomputable def Itr (lo:Int) (n:Nat):It:=⟨fun i _=>i < n,fun i H x H'=>H'=H/\x = .int (lo+i),fun i _=>n<=i⟩
theorem turn_list {P:Program}{w:World}{K:PySem.W.Frag}{tg:Expr} (a it:Addr):Turn P w K tg (Itl K a) [it] it (fun i h=>h.IsListIter it a i) where
 mem:=by simp
 obj:=fun i h st b hb=>by
  have e:b=it:=by simpa using hb
  subst e
  obtain ⟨o,e,c,d⟩:=st
  exact⟨o,e,fun v z=>by rw [d] at z; cases z⟩
 keep:=fun i h h' st k=>st.at fun o e=>k it (by simp) o e
 item:=by
  intro X hP hw hK hc i pins s σ H E I hf st hg
  subst hP hw hK
  obtain ⟨xs,x,hq,hx⟩:=hg
  obtain ⟨its,rv,p,hz⟩:=I.list hq
  obtain ⟨u,hu,ru⟩:=rv.get hx
  obtain ⟨f0,f1,f2,f3,f4,f5⟩:=hf it (by simp)
  refine wpAny_pyNext_list_item st p.isList (x:=u) (by simpa using hu) fun h' st' sb=>?_
  have I1:Inv X pins σ H { s with heap:=h' }:=I.turned (t':=s.toks) (fun b o hb e=>(sb.2 b hb).trans e) f0 f1 f3 f4 f5
  obtain ⟨o,e,c,d⟩:=id st'
  exact⟨u,rfl,go_of (s:={ s with heap:=h' }) e c d (by decide) ⟨x,H,I1,ru,⟨rfl,fun ys hy=>by rw [I.list_inj hy hq]; exact hx⟩,st',fun b hb=>(hf b hb).1⟩⟩
 done:=by
  intro X hP hw hK hc i pins s σ H E I hf st hg
  subst hP hw hK
  obtain ⟨xs,hq,hx⟩:=hg
  obtain ⟨its,rv,p,hz⟩:=I.list hq
  obtain ⟨f0,f1,f2,f3,f4,f5⟩:=hf it (by simp)
  have hl:=rv.length
  exact wpAny_pyNext_list_end (I.ok.hd hc) st p.isList (by simp; (first|lia|omega)) fun h' eb=>⟨rfl,I.turned (t':=s.toks) (fun b o hb e=>eb b o hb e) f0 f1 f3 f4 f5⟩
 self:=fun _ _ _ _ _ st h=>wpAny_pyIter_listiter st h
theorem turn_tuple {P:Program}{w:World}{K:PySem.W.Frag}{tg:Expr} (a it:Addr):Turn P w K tg (Itt K a) [it] it (fun i h=>h.IsTupleIter it a i) where
 mem:=by simp
 obj:=fun i h st b hb=>by
  have e:b=it:=by simpa using hb
  subst e
  obtain ⟨o,e,c,d⟩:=st
  exact⟨o,e,fun v z=>by rw [d] at z; cases z⟩
 keep:=fun i h h' st k=>st.at fun o e=>k it (by simp) o e
 item:=by
  intro X hP hw hK hc i pins s σ H E I hf st hg
  subst hP hw hK
  obtain ⟨xs,x,hq,hx⟩:=hg
  obtain ⟨its,rv,p,hz⟩:=I.tuple hq
  obtain ⟨u,hu,ru⟩:=rv.get hx
  obtain ⟨f0,f1,f2,f3,f4,f5⟩:=hf it (by simp)
  refine wpAny_pyNext_tuple_item st (show s.heap.IsTuple a its.toArray from p) (x:=u) (by simpa using hu) fun h' st' sb=>?_
  have I1:Inv X pins σ H { s with heap:=h' }:=I.turned (t':=s.toks) (fun b o hb e=>(sb.2 b hb).trans e) f0 f1 f3 f4 f5
  obtain ⟨o,e,c,d⟩:=id st'
  exact⟨u,rfl,go_of (s:={ s with heap:=h' }) e c d (by decide) ⟨x,H,I1,ru,⟨rfl,fun ys hy=>by rw [I.tuple_inj hy hq]; exact hx⟩,st',fun b hb=>(hf b hb).1⟩⟩
 done:=by
  intro X hP hw hK hc i pins s σ H E I hf st hg
  subst hP hw hK
  obtain ⟨xs,hq,hx⟩:=hg
  obtain ⟨its,rv,p,hz⟩:=I.tuple hq
  obtain ⟨f0,f1,f2,f3,f4,f5⟩:=hf it (by simp)
  have hl:=rv.length
  exact wpAny_pyNext_tuple_end (I.ok.hd hc) st (show s.heap.IsTuple a its.toArray from p) (by simp; (first|lia|omega)) fun h' eb=>⟨rfl,I.turned (t':=s.toks) (fun b o hb e=>eb b o hb e) f0 f1 f3 f4 f5⟩
 self:=fun _ _ _ _ _ st h=>wpAny_pyIter_tupleiter st h
theorem turn_range {P:Program}{w:World}{K:PySem.W.Frag}{tg:Expr} (it:Addr) (lo:Int) (n:Nat):Turn P w K tg (Itr lo n) [it] it (fun i h=>IsRangeIter h it (lo+(i:Nat) * 1) ((n:Int) - (i:Nat)) 1) where
 mem:=by simp
 obj:=fun i h st b hb=>by
  have e:b=it:=by simpa using hb
  subst e
  exact⟨_,st,fun v z=>by
   have z':Data.fields _=Data.cell v:=z
   cases z'⟩
 keep:=fun i h h' st k=>k it (by simp) _ st
 item:=by
  intro X hP hw hK hc i pins s σ H E I hf st hg
  subst hP hw hK
  obtain ⟨f0,f1,f2,f3,f4,f5⟩:=hf it (by simp)
  have W:=Walks.range (prog:=X.prog) (w:=X.w) (I.ok.hd hc) it lo 1 n
  refine W.item i s _ _ hg st fun v h' tk hv st' kk=>?_
  obtain ⟨t,rfl⟩:=hv
  have I1:Inv X pins σ H { s with heap:=h',toks:=tk }:=I.turned (fun b o hb e=>kk b o (by simpa using hb) e) f0 f1 f3 f4 f5
  refine⟨_,rfl,go_of (s:={ s with heap:=h',toks:=tk }) (n:="range_iterator") st' rfl rfl (by decide) ⟨.int (lo+i),H,I1,⟨t,?_⟩,⟨rfl,rfl⟩,st',fun b hb=>(hf b hb).1⟩⟩
  rw [Int.mul_one]
 done:=by
  intro X hP hw hK hc i pins s σ H E I hf st hg
  subst hP hw hK
  obtain ⟨f0,f1,f2,f3,f4,f5⟩:=hf it (by simp)
  exact wpAny_pyNext_range_end (I.ok.hd hc) st (by have:n<=i:=hg; (first|lia|omega)) fun h' eb=>⟨rfl,I.turned (t':=s.toks) (fun b o hb e=>eb b o hb e) f0 f1 f3 f4 f5⟩
 self:=fun _ _ _ _ _ st h=>wpAny_pyIter_rangeiter st h
end L2
namespace L2
open PySem PySem.Spec PyProof.Rows
section
variable {X : Cx} {tg : Expr}
noncomputable def iTup (K:PySem.W.Frag) (tl:TE):TI:=fun σ H R=>tl σ H fun x H1=>∃ a,x = .ref a/\(∃ xs,SqT K H1 a xs)/\R (Itt K a) H1
theorem pi_tup {l:Expr}{tl:TE} (hl:PE X l tl):PI X tg l (iTup X.K tl):=by
 intro pins s σ H R I h
 refine thn (hl pins s σ H _ I h) fun v s1 ⟨x,H1,I1,r1,q1⟩=>?_
 obtain ⟨a,e,⟨xs,hq⟩,q⟩:=q1
 subst e
 cases r1
 obtain ⟨its,rv,p,hz⟩:=I1.tuple hq
 refine wpAny_pyIter_tuple (show s1.heap.IsTuple a its.toArray from p) ?_
 refine⟨s1.heap.objs.size,[s1.heap.objs.size],_,_,H1,rfl,I1.kept (t':=s1.toks) fun b o e=>Heap.get?_push_of_some _ e,turn_tuple a _,⟨_,Heap.get?_push_size _ rfl,rfl,rfl⟩,fun b hb=>?_,q⟩
 have e:b=s1.heap.objs.size:=by simpa using hb
 subst e
 exact I1.fpOk (Nat.le_refl _) (I1.hok.fresh (Nat.le_refl _))
theorem range_it {pins:List (Addr × Obj)}{σ:St}{H:Hp}{s:Shared}{R:It->Hp->Prop}{E:Value->Shared->Prop}{lo hi:Int}{t u v:Tok}{tk:Nat} (I:Inv X pins σ H s) (h1 : -(2 ^ 62)<=lo) (h2:lo < 2 ^ 62) (h3 : -(2 ^ 62)<=hi) (h4:hi < 2 ^ 62)
  (q:R (Itr lo (hi - lo).toNat) H):wpAny (model X.prog X.w) X.A (pyIter (.ref s.heap.objs.size)) (PIE X pins σ tg R) E { s with heap:=s.heap.push { cls:=.type "range",data:=.fields #[.int lo t,.int hi u,.int 1 v] },toks:=tk }:=by
 refine wpAny_pyIter_range (IsRange.new ..) (small_one h1 h2 h3 h4) ?_
 have I1:Inv X pins σ H { s with heap:=s.heap.push { cls:=.type "range",data:=.fields #[.int lo t,.int hi u,.int 1 v] },toks:=tk }:=I.kept fun b o e=>Heap.get?_push_of_some _ e
 refine⟨(s.heap.push { cls:=.type "range",data:=.fields #[.int lo t,.int hi u,.int 1 v] }).objs.size,[(s.heap.push { cls:=.type "range",data:=.fields #[.int lo t,.int hi u,.int 1 v] }).objs.size],_,_,H,rfl,
  I1.kept (t':=tk) fun b o e=>Heap.get?_push_of_some _ e,turn_range _ lo (hi - lo).toNat,?_,fun b hb=>?_,q⟩
 ·have e1:lo+((0:Nat):Int) * 1=lo:=by simp
  have e2:(((hi - lo).toNat:Nat):Int) - ((0:Nat):Int)=Builtin.Range.rangeSize lo hi 1:=by rw [rangeSize_one]; split <;> (first|lia|omega)
  show IsRangeIter _ _ (lo+((0:Nat):Int) * 1) ((((hi - lo).toNat:Nat):Int) - ((0:Nat):Int)) 1
  rw [e1,e2]
  exact Heap.get?_push_size _ rfl
 ·have e:b=(s.heap.push { cls:=.type "range",data:=.fields #[.int lo t,.int hi u,.int 1 v] }).objs.size:=by simpa using hb
  subst e
  exact I1.fpOk (Nat.le_refl _) (I1.hok.fresh (Nat.le_refl _))
noncomputable def iRng1 (ta:TA):TI:=fun σ H R=>ta σ H fun vs H1=>∃ j:Int,vs = [.int j]/\-(2 ^ 62)<=j/\j < 2 ^ 62/\R (Itr 0 j.toNat) H1
noncomputable def iRng2 (ta:TA):TI:=fun σ H R=>ta σ H fun vs H1=>∃ i j:Int,vs = [.int i,.int j]/\(-(2 ^ 62)<=i/\i < 2 ^ 62/\-(2 ^ 62)<=j/\j < 2 ^ 62)/\R (Itr i (j - i).toNat) H1
theorem pi_range1 {a:Expr}{ta:TA}{p pos:Pos} (hg:Gl X "range") (hm:X.mg "range" = none) (ha:PA X [a] ta) (hs:starEach [a] X.env = [(false,eval a X.env)]:=by rfl):PI X tg (.Call (.Name "range" p) [a] [] pos) (iRng1 ta):=by
 intro pins s σ H R I h
 refine Call_ (ld_blt I hg hm boot_range (PyProof.Rows.callWith_type1 (thn (ha pos pins s σ H _ I h) fun us s1 ⟨vs,H1,I1,r1,q1⟩=>?_) hs rfl))
 obtain ⟨j,e,q1,q2,q⟩:=q1
 subst e
 cases r1 with
 | cons r rr=>
  cases rr
  obtain ⟨t,rfl⟩:=r
  exact call_range_1 (range_it I1 (by (first|lia|omega)) (by (first|lia|omega)) q1 q2 (by simpa using q))
theorem pi_range2 {a b:Expr}{ta:TA}{p pos:Pos} (hg:Gl X "range") (hm:X.mg "range" = none) (ha:PA X [a,b] ta) (hs:starEach [a,b] X.env = [(false,eval a X.env),(false,eval b X.env)]:=by rfl) (hs2:starEach [b] X.env = [(false,eval b X.env)]:=by rfl) :
  PI X tg (.Call (.Name "range" p) [a,b] [] pos) (iRng2 ta):=by
 intro pins s σ H R I h
 refine Call_ (ld_blt I hg hm boot_range (PyProof.Rows.callWith_type1 (thn (ha pos pins s σ H _ I h) fun us s1 ⟨vs,H1,I1,r1,q1⟩=>?_) (by rw [hs,hs2]) (by rw [hs2]; rfl)))
 obtain ⟨i,j,e,⟨q1,q2,q3,q4⟩,q⟩:=q1
 subst e
 cases r1 with
 | cons r rr=>
  cases rr with
  | cons r' rr=>
   cases rr
   obtain ⟨t,rfl⟩:=r
   obtain ⟨t',rfl⟩:=r'
   exact call_range_2 (range_it I1 q1 q2 q3 q4 q)
noncomputable def tFor (wi:TI) (g:TG) (tb:TS):TS:=fun D σ H=>wi σ H fun J H1=>∃ W:Nat->Nat->St->Hp->Prop,(∃ m,W 0 m σ H1)/\∀ i m σ H,W i m σ H->
 (J.stop i H/\D.nx σ H) ∨ (J.go i H/\∃ N:St->Hp->Prop,(∀ σ' H',N σ' H'->∃ m',m' < m/\W (i+1) m' σ' H')/\∀ x H',J.yld i H x H'->g x σ H' fun σ2 H2=>tb { D with nx:=N,ct:=N,bk:=D.nx } σ2 H2)
noncomputable def pinsAt (fp:List Addr) (h:Heap):List (Addr × Obj):=fp.filterMap fun b=>(h.get? b).map fun o=>(b,o)
theorem mem_pinsAt {fp:List Addr}{h:Heap}{b:Addr}{o:Obj} (hb:b ∈ fp) (e:h.get? b=some o):(b,o) ∈ pinsAt fp h:=List.mem_filterMap.mpr ⟨b,hb,by rw [e]; rfl⟩
theorem of_pinsAt {fp:List Addr}{h:Heap}{p:Addr × Obj} (hp:p ∈ pinsAt fp h):p.1 ∈ fp/\h.get? p.1=some p.2:=by
 obtain ⟨b,hb,e⟩:=List.mem_filterMap.mp hp
 cases q:h.get? b with
 | none=>rw [q] at e; cases e
 | some o=>
  rw [q] at e
  have e':(b,o)=p:=Option.some.inj e
  subst e'
  exact⟨hb,q⟩
theorem Inv.pinned {pins:List (Addr × Obj)}{σ:St}{H:Hp}{s:Shared}{fp:List Addr} (I:Inv X pins σ H s) (hf:∀ b ∈ fp,FpOk X pins H b) (ho:∀ b ∈ fp,∃ o,s.heap.get? b=some o/\∀ v,o.data ≠ .cell v):Inv X (pins ++ pinsAt fp s.heap) σ H s:=
 I.pins_of fun p hp=>(List.mem_append.mp hp).elim (fun z=>I.pin p (List.mem_append_right _ z)) fun z=>by
  obtain ⟨hb,e⟩:=of_pinsAt z
  obtain ⟨f0,f1,f2,_⟩:=hf p.1 hb
  obtain ⟨o,e',d⟩:=ho p.1 hb
  rw [e] at e'; cases e'
  exact⟨e,f0,f1,f2,d⟩
theorem Inv.unpinned {pins pl:List (Addr × Obj)}{σ:St}{H:Hp}{s:Shared} (I:Inv X (pins ++ pl) σ H s):Inv X pins σ H s:=I.pins_of fun p hp=>I.pin p (List.mem_append_right _ (List.mem_append_left _ hp))
theorem ps_for {iter:Expr}{body:List Stmt}{wi:TI}{g:TG}{tb:TS}{pos:Pos} (hp:PassesOwn (model X.prog X.w) X.A X.env X.xe) (hc:X.calm=true) (hi:PI X tg iter wi) (hg:PG X tg g) (hb:PSs X body tb)
  (hs:∀ x,foldedSetIterable iter X.env x=pure x:=by intro _; rfl):PS X (.For tg iter body [] pos) (tFor wi g tb):=by
 intro pins s σ H D I h
 refine wpAny_For (thn (hi pins s σ H _ I h) fun v s1 h1=>thn h1 fun itv s2 h2=>?_) hs
 obtain ⟨it,fp,tn,J,H2,e,I2,T,st2,f2,W,⟨m0,w0⟩,turn⟩:=h2
 subst e
 have stat:∀ {H':Hp},(∀ b ∈ fp,H' b=none)->∀ b ∈ fp,FpOk X pins H' b:=fun hn b hb=>⟨hn b hb,(f2 b hb).2⟩
 refine codeAny_forLoop_any (fun n s'=>∃ i σ' H',Inv X pins σ' H' s'/\tn i s'.heap/\(∀ b ∈ fp,H' b=none)/\W i n σ' H') ?_ m0 ⟨0,σ,H2,I2,st2,fun b hb=>(f2 b hb).1,w0⟩
 rintro n s3 ⟨i,σ3,H3,I3,st3,fr3,w3⟩
 rcases turn i n σ3 H3 w3 with ⟨stop,qn⟩ | ⟨go,N,hN,step⟩
 ·refine wpAny_passesOwn hp (thn (T.done X rfl rfl rfl hc i pins s3 σ3 H3 X.xe I3 (stat fr3) st3 stop) fun r s4 ⟨hr,I4⟩=>?_)
  subst hr
  exact wpAny_execs_nil ⟨σ3,H3,I4,qn⟩
 ·refine wpAny_passesOwn hp (thn (T.item X rfl rfl rfl hc i pins s3 σ3 H3 X.xe I3 (stat fr3) st3 go) fun r s4 ⟨u,hr,h4⟩=>?_)
  subst hr
  refine wpAny_passesOwn hp (thn h4 fun _ s5 ⟨x,H5,I5,r5,y5,st5,fr5⟩=>?_)
  have I5':=I5.pinned (stat fr5) (T.obj _ _ st5)
  refine wpAny_passesOwn hp (thn (hg _ s5 σ3 H5 x u _ I5' r5 (step x H5 y5)) fun _ s6 ⟨σ6,H6,I6,q6⟩=>?_)
  refine wpAny_passesOwn hp (thn (hb _ s6 σ6 H6 _ I6 q6) fun f s7 q7=>?_)
  have again:∀ {σ7:St}{H7:Hp},Inv X (pins ++ pinsAt fp s5.heap) σ7 H7 s7->N σ7 H7->∃ m,m < n/\∃ i σ' H',Inv X pins σ' H' s7/\tn i s7.heap/\(∀ b ∈ fp,H' b=none)/\W i m σ' H':=fun {σ7 H7} I7 n7=>by
   obtain ⟨m',hm,w7⟩:=hN σ7 H7 n7
   refine⟨m',hm,i+1,σ7,H7,I7.unpinned,T.keep _ _ _ st5 fun b hb o e=>(I7.pin (b,o) (List.mem_append_right _ (List.mem_append_right _ (mem_pinsAt hb e)))).1,fun b hb=>?_,w7⟩
   obtain ⟨o,e,d⟩:=T.obj _ _ st5 b hb
   exact (I7.pin (b,o) (List.mem_append_right _ (List.mem_append_right _ (mem_pinsAt hb e)))).2.1
  cases f with
  | next=>obtain ⟨σ7,H7,I7,n7⟩:=q7; exact again I7 n7
  | cont=>obtain ⟨σ7,H7,I7,n7⟩:=q7; exact again I7 n7
  | brk=>obtain ⟨σ7,H7,I7,q7⟩:=q7; exact⟨σ7,H7,I7.unpinned,q7⟩
  | ret v=>obtain ⟨x7,σ7,H7,I7,r7,q7⟩:=q7; exact⟨x7,σ7,H7,I7.unpinned,r7,q7⟩
end
theorem for_list {K:PySem.W.Frag}{a:Addr}{xs:List V}{g:TG}{tb:TS}{D:Ends}{σ:St}{H:Hp} (Pv:Nat->St->Hp->Prop) (h0:Pv 0 σ H) (hl:∀ i σ H,i<=xs.length->Pv i σ H->SqL K H a xs)
  (hs:∀ i x σ H,xs[i]? = some x->Pv i σ H->g x σ H fun σ2 H2=>tb { D with nx:=Pv (i+1),ct:=Pv (i+1),bk:=D.nx } σ2 H2) (hd:∀ σ H,Pv xs.length σ H->D.nx σ H) :
  ∃ W:Nat->Nat->St->Hp->Prop,(∃ m,W 0 m σ H)/\∀ i m σ H,W i m σ H->
   ((Itl K a).stop i H/\D.nx σ H) ∨ ((Itl K a).go i H/\∃ N:St->Hp->Prop,(∀ σ' H',N σ' H'->∃ m',m' < m/\W (i+1) m' σ' H')/\∀ x H',(Itl K a).yld i H x H'->g x σ H' fun σ2 H2=>tb { D with nx:=N,ct:=N,bk:=D.nx } σ2 H2):=by
 refine⟨fun i m σ H=>m=xs.length - i/\i<=xs.length/\Pv i σ H,⟨xs.length,by simp,Nat.zero_le _,h0⟩,?_⟩
 rintro i m σ H ⟨rfl,hi,p⟩
 have q:=hl i σ H hi p
 by_cases hlt:i < xs.length
 ·refine .inr ⟨⟨xs,xs[i],q,by simp [hlt]⟩,Pv (i+1),fun σ' H' p'=>⟨xs.length - (i+1),by (first|lia|omega),rfl,hlt,p'⟩,fun x H' y=>?_⟩
  obtain ⟨e,y⟩:=y
  subst e
  exact hs i x σ _ (y xs q) p
 ·have e:i=xs.length:=by (first|lia|omega)
  subst e
  exact .inl ⟨⟨xs,q,Nat.le_refl _⟩,hd σ H p⟩
theorem for_tup {K:PySem.W.Frag}{a:Addr}{xs:List V}{g:TG}{tb:TS}{D:Ends}{σ:St}{H:Hp} (Pv:Nat->St->Hp->Prop) (h0:Pv 0 σ H) (hl:∀ i σ H,i<=xs.length->Pv i σ H->SqT K H a xs)
  (hs:∀ i x σ H,xs[i]? = some x->Pv i σ H->g x σ H fun σ2 H2=>tb { D with nx:=Pv (i+1),ct:=Pv (i+1),bk:=D.nx } σ2 H2) (hd:∀ σ H,Pv xs.length σ H->D.nx σ H) :
  ∃ W:Nat->Nat->St->Hp->Prop,(∃ m,W 0 m σ H)/\∀ i m σ H,W i m σ H->
   ((Itt K a).stop i H/\D.nx σ H) ∨ ((Itt K a).go i H/\∃ N:St->Hp->Prop,(∀ σ' H',N σ' H'->∃ m',m' < m/\W (i+1) m' σ' H')/\∀ x H',(Itt K a).yld i H x H'->g x σ H' fun σ2 H2=>tb { D with nx:=N,ct:=N,bk:=D.nx } σ2 H2):=by
 refine⟨fun i m σ H=>m=xs.length - i/\i<=xs.length/\Pv i σ H,⟨xs.length,by simp,Nat.zero_le _,h0⟩,?_⟩
 rintro i m σ H ⟨rfl,hi,p⟩
 have q:=hl i σ H hi p
 by_cases hlt:i < xs.length
 ·refine .inr ⟨⟨xs,xs[i],q,by simp [hlt]⟩,Pv (i+1),fun σ' H' p'=>⟨xs.length - (i+1),by (first|lia|omega),rfl,hlt,p'⟩,fun x H' y=>?_⟩
  obtain ⟨e,y⟩:=y
  subst e
  exact hs i x σ _ (y xs q) p
 ·have e:i=xs.length:=by (first|lia|omega)
  subst e
  exact .inl ⟨⟨xs,q,Nat.le_refl _⟩,hd σ H p⟩
end L2
namespace L2
open PySem PySem.Spec PyProof.Rows
noncomputable abbrev R2:=V->V->Hp->VK->Prop
noncomputable def OpR (X:Cx) (f:Value->Value->Sem Value) (r:R2):Prop:=
 ∀ (pins:List (Addr × Obj)) (s:Shared) (σ:St) (H:Hp) (x y:V) (v u:Value) (Q:VK),Inv X pins σ H s->RelV x v->RelV y u->r x y H Q->
  wpAny (model X.prog X.w) X.A (f v u) (EP X pins σ Q) X.xe s
noncomputable def UnR (X:Cx) (f:Value->Sem Value) (r:V->Hp->VK->Prop):Prop:=
 ∀ (pins:List (Addr × Obj)) (s:Shared) (σ:St) (H:Hp) (x:V) (v:Value) (Q:VK),Inv X pins σ H s->RelV x v->r x H Q->
  wpAny (model X.prog X.w) X.A (f v) (EP X pins σ Q) X.xe s
noncomputable def CallR (X:Cx) (f:Value) (r:List V->Hp->VK->Prop):Prop:=
 ∀ (pins:List (Addr × Obj)) (s:Shared) (σ:St) (H:Hp) (xs:List V) (us:List Value) (Q:VK),Inv X pins σ H s->Vals xs us->r xs H Q->
  wpAny (model X.prog X.w) X.A (call f us) (EP X pins σ Q) X.xe s
noncomputable def TruR (X:Cx) (r:V->Hp->(Bool->Hp->Prop)->Prop):Prop:=
 ∀ (pins:List (Addr × Obj)) (s:Shared) (σ:St) (H:Hp) (x:V) (v:Value) (Q:Bool->Hp->Prop),Inv X pins σ H s->RelV x v->r x H Q->
  wpAny (model X.prog X.w) X.A (truthy v) (TP X pins σ Q) X.xe s
noncomputable def tOp (r:R2) (ta tb:TE):TE:=fun σ H Q=>ta σ H fun x H1=>tb σ H1 fun y H2=>r x y H2 Q
noncomputable def tUn (r:V->Hp->VK->Prop) (ta:TE):TE:=fun σ H Q=>ta σ H fun x H1=>r x H1 Q
noncomputable def rI (C:Int->Int->Prop) (g:Int->Int->V):R2:=fun x y H Q=>∃ i j,x = .int i/\y = .int j/\C i j/\Q (g i j) H
noncomputable def rI0 (g:Int->Int->V):R2:=fun x y H Q=>∃ i j,x = .int i/\y = .int j/\Q (g i j) H
noncomputable def rU (g:Int->V):V->Hp->VK->Prop:=fun x H Q=>∃ i,x = .int i/\Q (g i) H
section
variable {X : Cx} {a b c : Expr} {ta tb tc : TE} {pos : Pos}
theorem binT (ha:PE X a ta) (hb:PE X b tb) {pins:List (Addr × Obj)}{s:Shared}{σ:St}{H:Hp}{R:V->V->Hp->Prop} (I:Inv X pins σ H s)
  (h:ta σ H fun x H1=>tb σ H1 fun y H2=>R x y H2) {Q:Value->Shared->Prop}{f:Value->Value->Sem Value}
  (hf:∀ v u s2 x y H2,Inv X pins σ H2 s2->RelV x v->RelV y u->R x y H2->wpAny (model X.prog X.w) X.A (f v u) Q X.xe s2) :
  wpAny (model X.prog X.w) X.A (eval a X.env) (fun v s₁=>wpAny (model X.prog X.w) X.A (eval b X.env) (fun u s₂=>wpAny (model X.prog X.w) X.A (f v u) Q X.xe s₂) X.xe s₁) X.xe s:=by
 refine thn (ha pins s σ H _ I h) fun v s1 ⟨x,H1,I1,r1,q1⟩=>?_
 refine thn (hb pins s1 σ H1 _ I1 q1) fun u s2 ⟨y,H2,I2,r2,q2⟩=>?_
 exact hf v u s2 x y H2 I2 r1 r2 q2
theorem pe_op {op:Operator}{r:R2} (ho:OpR X (binaryOp op) r) (ha:PE X a ta) (hb:PE X b tb):PE X (.BinOp a op b pos) (tOp r ta tb):=by
 intro pins s σ H Q I h
 exact wpAny_BinOp (binT ha hb I h fun v u s2 x y H2 I2 rx ry q=>ho pins s2 σ H2 x y v u Q I2 rx ry q)
theorem pe_un {op:UnaryOp}{r:V->Hp->VK->Prop} (ho:UnR X (unaryOp op) r) (ha:PE X a ta):PE X (.UnaryOp op a pos) (tUn r ta):=by
 intro pins s σ H Q I h
 exact UnaryOp_ (thn (ha pins s σ H _ I h) fun v s1 ⟨x,H1,I1,r1,q1⟩=>ho pins s1 σ H1 x v Q I1 r1 q1)
theorem opI {f:Value->Value->Sem Value}{C:Int->Int->Prop}{g:Int->Int->Int}
  (rule:∀ (i j:Int) (t u:Tok) (s:Shared) (Q:Value->Shared->Prop) (E:Value->Shared->Prop),C i j->Q (.int (g i j) s.toks) { s with toks:=s.toks+1 }->wpAny (model X.prog X.w) X.A (f (.int i t) (.int j u)) Q E s) :
  OpR X f (rI C fun i j=>.int (g i j)):=by
 intro pins s σ H x y v u Q I rx ry h
 obtain ⟨i,j,rfl,rfl,hc,q⟩:=h
 obtain ⟨t,rfl⟩:=rx
 obtain ⟨t',rfl⟩:=ry
 exact rule i j t t' s _ _ hc ⟨.int (g i j),H,I.tok _,⟨_,rfl⟩,q⟩
theorem opI0 {f:Value->Value->Sem Value}{g:Int->Int->Int}
  (rule:∀ (i j:Int) (t u:Tok) (s:Shared) (Q:Value->Shared->Prop) (E:Value->Shared->Prop),Q (.int (g i j) s.toks) { s with toks:=s.toks+1 }->wpAny (model X.prog X.w) X.A (f (.int i t) (.int j u)) Q E s) :
  OpR X f (rI0 fun i j=>.int (g i j)):=by
 intro pins s σ H x y v u Q I rx ry h
 obtain ⟨i,j,rfl,rfl,q⟩:=h
 obtain ⟨t,rfl⟩:=rx
 obtain ⟨t',rfl⟩:=ry
 exact rule i j t t' s _ _ ⟨.int (g i j),H,I.tok _,⟨_,rfl⟩,q⟩
theorem opB0 {f:Value->Value->Sem Value}{g:Int->Int->Bool}
  (rule:∀ (i j:Int) (t u:Tok) (s:Shared) (Q:Value->Shared->Prop) (E:Value->Shared->Prop),Q (.bool (g i j)) s->wpAny (model X.prog X.w) X.A (f (.int i t) (.int j u)) Q E s) :
  OpR X f (rI0 fun i j=>.bl (g i j)):=by
 intro pins s σ H x y v u Q I rx ry h
 obtain ⟨i,j,rfl,rfl,q⟩:=h
 obtain ⟨t,rfl⟩:=rx
 obtain ⟨t',rfl⟩:=ry
 exact rule i j t t' s _ _ ⟨.bl (g i j),H,I,rfl,q⟩
noncomputable def CDiv (i j:Int):Prop:=0 < j/\j < 1073741824
noncomputable def CPow (i j:Int):Prop:=0<=j/\j<=1000000/\i.natAbs < 2 ^ 64
noncomputable def CMul (i j:Int):Prop:=(-(2 ^ 64) < i/\i < 2 ^ 64) ∨ (-(2 ^ 64) < j/\j < 2 ^ 64)
theorem CMul.ok {i j:Int} (h:CMul i j):IntMulOk i j:=by
 rcases h with ⟨h1,h2⟩ | ⟨h1,h2⟩
 ·exact .of_left (intBits_le_64 h1 h2)
 ·exact .of_right (intBits_le_64 h1 h2)
theorem op_add:OpR X (binaryOp .Add) (rI0 fun i j=>.int (i+j)):=opI0 fun _ _ _ _ _ _ _ q=>add_int q
theorem op_mul:OpR X (binaryOp .Mult) (rI CMul fun i j=>.int (i * j)):=opI fun _ _ _ _ _ _ _ hc q=>mul_int q hc.ok
theorem op_fdiv:OpR X (binaryOp .FloorDiv) (rI CDiv fun i j=>.int (i / j)):=opI fun i j _ _ _ _ _ hc q=>by
 have h1:(0:Int) < j:=hc.1
 have h2:j < 1073741824:=hc.2
 exact floordiv_int (by (first|lia|omega)) (by rw [Int.fdiv_eq_ediv_of_nonneg i (by (first|lia|omega))]; exact q) (.inl (PyProof.noPylong_small (by (first|lia|omega))))
theorem op_mod:OpR X (binaryOp .Mod) (rI (fun _ j=>0 < j) fun i j=>.int (i % j)):=opI fun i j _ _ _ _ _ hc q=>by
 have h1:(0:Int) < j:=hc
 exact mod_int' (by (first|lia|omega)) (by rw [Int.fmod_eq_emod_of_nonneg i (by (first|lia|omega))]; exact q)
theorem op_pow:OpR X (binaryOp .Pow) (rI CPow fun i j=>.int (i ^ j.toNat)):=opI fun _ _ _ _ _ _ _ hc q=>pow_int_small hc.1 hc.2.1 hc.2.2 q
theorem unI {f:Value->Sem Value}{g:Int->Int}
  (rule:∀ (i:Int) (t:Tok) (s:Shared) (Q:Value->Shared->Prop) (E:Value->Shared->Prop),Q (.int (g i) s.toks) { s with toks:=s.toks+1 }->wpAny (model X.prog X.w) X.A (f (.int i t)) Q E s) :
  UnR X f (rU fun i=>.int (g i)):=by
 intro pins s σ H x v Q I rx h
 obtain ⟨i,rfl,q⟩:=h
 obtain ⟨t,rfl⟩:=rx
 exact rule i t s _ _ ⟨.int (g i),H,I.tok _,⟨_,rfl⟩,q⟩
theorem un_neg:UnR X (unaryOp .USub) (rU fun i=>.int (-i)):=unI fun _ _ _ _ _ q=>neg_int q
end
noncomputable def scal:V->V->Bool
 | .non,.non=>true | .non,.int _=>true | .int _,.non=>true | .non,.bl _=>true | .bl _,.non=>true | .non,.str _=>true | .str _,.non=>true
 | .int _,.int _=>true | .bl _,.bl _=>true | .str _,.str _=>true | .byt _,.byt _=>true
 | .int _,.str _=>true | .str _,.int _=>true | .bl _,.str _=>true | .str _,.bl _=>true
 | _,_=>false
noncomputable def rEq:R2:=fun x y H Q=>scal x y=true/\Q (.bl (decide (x=y))) H
noncomputable def rNe:R2:=fun x y H Q=>scal x y=true/\Q (.bl (!decide (x=y))) H
theorem dec_int {i j:Int}:decide (V.int i=V.int j)=(i == j):=by
 rw [Bool.eq_iff_iff]
 simp
theorem dec_bl {i j:Bool}:decide (V.bl i=V.bl j)=(i == j):=by
 rw [Bool.eq_iff_iff]
 simp
theorem dec_str {i j:Str}:decide (V.str i=V.str j)=(i == j):=by
 rw [Bool.eq_iff_iff]
 simp
theorem dec_byt {i j:Array UInt8}:decide (V.byt i=V.byt j)=(i.toList == j.toList):=by
 rw [Bool.eq_iff_iff]
 cases i
 cases j
 simp
section
variable {X : Cx} {a b c : Expr} {ta tb tc : TE} {pos : Pos}
theorem fin_bl {pins:List (Addr × Obj)}{σ:St}{H:Hp}{s:Shared}{Q:VK}{k k':Bool} (I:Inv X pins σ H s) (q:Q (.bl k) H) (e:k=k'):EP X pins σ Q (.bool k') s:=by
 subst e
 exact⟨.bl k,H,I,rfl,q⟩
theorem op_eq:OpR X (compareOp .Eq) rEq:=by
 intro pins s σ H x y v u Q I rx ry h
 obtain ⟨hs,q⟩:=h
 cases x with
 | non=>
  cases rx
  cases y with
  | non=>cases ry; exact PySem.EqNone.eq_none_none (fin_bl I q (by simp))
  | bl j=>cases ry; exact PySem.EqNone.eq_none_bool (fin_bl I q (by simp))
  | int j=>obtain ⟨t',rfl⟩:=ry; exact PySem.EqNone.eq_none_int (fin_bl I q (by simp))
  | str j=>obtain ⟨t',rfl⟩:=ry; exact PySem.EqNone.eq_none_str (fin_bl I q (by simp))
  | _=>exact absurd (show false=true from hs) Bool.false_ne_true
 | bl i=>
  cases rx
  cases y with
  | non=>cases ry; exact PySem.EqNone.eq_bool_none (fin_bl I q (by simp))
  | bl j=>cases ry; exact eq_bool (fin_bl I q dec_bl)
  | str j=>obtain ⟨t',rfl⟩:=ry; exact PySem.EqMixed.eq_bool_str (fin_bl I q (by simp))
  | _=>exact absurd (show false=true from hs) Bool.false_ne_true
 | int i=>
  obtain ⟨t,rfl⟩:=rx
  cases y with
  | non=>cases ry; exact PySem.EqNone.eq_int_none (fin_bl I q (by simp))
  | int j=>obtain ⟨t',rfl⟩:=ry; exact eq_int (fin_bl I q dec_int)
  | str j=>obtain ⟨t',rfl⟩:=ry; exact PySem.EqMixed.eq_int_str (fin_bl I q (by simp))
  | _=>exact absurd (show false=true from hs) Bool.false_ne_true
 | str i=>
  obtain ⟨t,rfl⟩:=rx
  cases y with
  | non=>cases ry; exact PySem.EqNone.eq_str_none (fin_bl I q (by simp))
  | bl j=>cases ry; exact PySem.EqMixed.eq_str_bool (fin_bl I q (by simp))
  | int j=>obtain ⟨t',rfl⟩:=ry; exact PySem.EqMixed.eq_str_int (fin_bl I q (by simp))
  | str j=>obtain ⟨t',rfl⟩:=ry; exact eq_str (fin_bl I q dec_str)
  | _=>exact absurd (show false=true from hs) Bool.false_ne_true
 | byt i=>
  obtain ⟨t,rfl⟩:=rx
  cases y with
  | byt j=>obtain ⟨t',rfl⟩:=ry; exact PySem.W.eq_bytes (fin_bl I q dec_byt)
  | _=>exact absurd (show false=true from hs) Bool.false_ne_true
 | _=>cases y <;> exact absurd (show false=true from hs) Bool.false_ne_true
theorem op_ne:OpR X (compareOp .NotEq) rNe:=by
 intro pins s σ H x y v u Q I rx ry h
 obtain ⟨hs,q⟩:=h
 cases x with
 | non=>
  cases rx
  cases y with
  | non=>cases ry; exact PySem.EqNone.ne_none_none (fin_bl I q (by simp))
  | bl j=>cases ry; exact PySem.EqNone.ne_none_bool (fin_bl I q (by simp))
  | int j=>obtain ⟨t',rfl⟩:=ry; exact PySem.EqNone.ne_none_int (fin_bl I q (by simp))
  | str j=>obtain ⟨t',rfl⟩:=ry; exact PySem.EqNone.ne_none_str (fin_bl I q (by simp))
  | _=>exact absurd (show false=true from hs) Bool.false_ne_true
 | bl i=>
  cases rx
  cases y with
  | non=>cases ry; exact PySem.EqNone.ne_bool_none (fin_bl I q (by simp))
  | bl j=>cases ry; exact ne_bool (fin_bl I q (congrArg not dec_bl))
  | str j=>obtain ⟨t',rfl⟩:=ry; exact PySem.EqMixed.ne_bool_str (fin_bl I q (by simp))
  | _=>exact absurd (show false=true from hs) Bool.false_ne_true
 | int i=>
  obtain ⟨t,rfl⟩:=rx
  cases y with
  | non=>cases ry; exact PySem.EqNone.ne_int_none (fin_bl I q (by simp))
  | int j=>obtain ⟨t',rfl⟩:=ry; exact ne_int (fin_bl I q (congrArg not dec_int))
  | str j=>obtain ⟨t',rfl⟩:=ry; exact PySem.EqMixed.ne_int_str (fin_bl I q (by simp))
  | _=>exact absurd (show false=true from hs) Bool.false_ne_true
 | str i=>
  obtain ⟨t,rfl⟩:=rx
  cases y with
  | non=>cases ry; exact PySem.EqNone.ne_str_none (fin_bl I q (by simp))
  | bl j=>cases ry; exact PySem.EqMixed.ne_str_bool (fin_bl I q (by simp))
  | int j=>obtain ⟨t',rfl⟩:=ry; exact PySem.EqMixed.ne_str_int (fin_bl I q (by simp))
  | str j=>obtain ⟨t',rfl⟩:=ry; exact ne_str (fin_bl I q (congrArg not dec_str))
  | _=>exact absurd (show false=true from hs) Bool.false_ne_true
 | byt i=>
  obtain ⟨t,rfl⟩:=rx
  cases y with
  | byt j=>obtain ⟨t',rfl⟩:=ry; exact PySem.W.ne_bytes (fin_bl I q (congrArg not dec_byt))
  | _=>exact absurd (show false=true from hs) Bool.false_ne_true
 | _=>cases y <;> exact absurd (show false=true from hs) Bool.false_ne_true
theorem op_lt:OpR X (compareOp .Lt) (rI0 fun i j=>.bl (decide (i < j))):=opB0 fun _ _ _ _ _ _ _ q=>lt_int q
theorem op_le:OpR X (compareOp .LtE) (rI0 fun i j=>.bl (decide (i<=j))):=opB0 fun _ _ _ _ _ _ _ q=>le_int q
theorem op_gt:OpR X (compareOp .Gt) (rI0 fun i j=>.bl (decide (j < i))):=opB0 fun _ _ _ _ _ _ _ q=>gt_int q
theorem op_ge:OpR X (compareOp .GtE) (rI0 fun i j=>.bl (decide (j<=i))):=opB0 fun _ _ _ _ _ _ _ q=>ge_int q
theorem op_isN:OpR X (compareOp .Is) (fun x y H Q=>y = .non/\Q (.bl (decide (x = .non))) H):=by
 intro pins s σ H x y v u Q I rx ry h
 obtain ⟨rfl,q⟩:=h
 cases ry
 refine is_none_gen (fin_bl I q ?_)
 cases x <;> first
  | (cases rx; rfl)
  | (obtain ⟨t,rfl⟩:=rx; rfl)
theorem op_notN:OpR X (compareOp .IsNot) (fun x y H Q=>y = .non/\Q (.bl (!decide (x = .non))) H):=by
 intro pins s σ H x y v u Q I rx ry h
 obtain ⟨rfl,q⟩:=h
 cases ry
 refine isnot_none_gen (fin_bl I q ?_)
 cases x <;> first
  | (cases rx; rfl)
  | (obtain ⟨t,rfl⟩:=rx; rfl)
theorem nomark (b:Expr) {op:CmpOp} (h:op ≠ .In:=by decide) (h2:op ≠ .NotIn:=by decide):behindInMarks op b=false:=by
 have e1:(op == CmpOp.In)=false:=by cases op <;> first | rfl | exact absurd rfl h
 have e2:(op == CmpOp.NotIn)=false:=by cases op <;> first | rfl | exact absurd rfl h2
 cases b <;> simp [behindInMarks,e1,e2]
theorem pe_cmpR {op:CmpOp}{r:R2} (ho:OpR X (compareOp op) r) (ha:PE X a ta) (hb:PE X b tb) (hm:behindInMarks op b=false):PE X (.Compare a [op] [b] pos) (tOp r ta tb):=by
 intro pins s σ H Q I h
 exact wpAny_Compare1 (binT ha hb I h fun v u s2 x y H2 I2 rx ry q=>ho pins s2 σ H2 x y v u Q I2 rx ry q) hm
noncomputable def tTest (t:TE):TT:=fun σ H Q=>t σ H fun x H'=>∃ k,x = .bl k/\Q k H'
theorem pt_cmpR {op:CmpOp}{r:R2} (ho:OpR X (compareOp op) r) (ha:PE X a ta) (hb:PE X b tb) (hm:behindInMarks op b=false):PT X (.Compare a [op] [b] pos) (tTest (tOp r ta tb)):=by
 intro pins s σ H Q I h
 refine wpAny_isTrue_Compare1 (thn (ha pins s σ H _ I h) fun v s1 ⟨x,H1,I1,r1,q1⟩=>thn (hb pins s1 σ H1 _ I1 q1) fun u s2 ⟨y,H2,I2,r2,q2⟩=>
  thn (ho pins s2 σ H2 x y v u _ I2 r1 r2 q2) fun c s3 ⟨z,H3,I3,r3,k,e,q3⟩=>?_) hm
 subst e
 cases r3
 exact wpAny_truthy_bool ⟨H3,I3,q3⟩
noncomputable def TruV (K:PySem.W.Frag) (x:V) (H:Hp) (k:Bool):Prop:=
 match x with
 | .non=>k=false
 | .bl b=>k=b
 | .int i=>k=(i != 0)
 | .str y=>y.length<=sizeLine/\k=((y.length:Int) != 0)
 | .byt y=>y.size<=sizeLine/\k=((y.size:Int) != 0)
 | .ref p=>(∃ xs,SqL K H p xs/\k = !xs.isEmpty) ∨ (∃ xs,SqT K H p xs/\k = !xs.isEmpty) ∨ ∃ kvs,H p=some (.dK kvs)/\k = !kvs.isEmpty
 | _=>False
theorem isEmpty_kv {κ:Type}{kvs:List (κ × V)}{vs:List (κ × Value)} (r:KV kvs vs):(!vs.isEmpty) = !kvs.isEmpty:=by
 cases r <;> rfl
theorem isEmpty_of {xs:List V}{its:List Value} (r:Vals xs its):(!its.toArray.isEmpty) = !xs.isEmpty:=by
 cases r <;> simp
theorem line63:(sizeLine:Nat) < 2 ^ 63:=by rw [sizeLine_eq]; decide
theorem tru_ok:TruR X (fun x H Q=>∃ k,TruV X.K x H k/\Q k H):=by
 intro pins s σ H x v Q I rx h
 obtain ⟨k,e,q⟩:=h
 have hl:=line63
 have hs:sizeLine=16777216:=sizeLine_eq
 cases x with
 | non=>
  cases rx
  have e':k=false:=e
  subst e'
  exact truthy_none ⟨H,I,q⟩
 | bl b=>
  cases rx
  have e':k=b:=e
  subst e'
  exact wpAny_truthy_bool ⟨H,I,q⟩
 | int i=>
  obtain ⟨t,rfl⟩:=rx
  have e':k=(i != 0):=e
  subst e'
  exact PySem.P.truthy_int ⟨H,I,q⟩
 | str y=>
  obtain ⟨t,rfl⟩:=rx
  obtain ⟨hy,e'⟩:y.length<=sizeLine/\k=((y.length:Int) != 0):=e
  subst e'
  exact PySem.P.truthy_str (by (first|lia|omega)) ⟨H,I.tok _,q⟩
 | byt y=>
  obtain ⟨t,rfl⟩:=rx
  obtain ⟨hy,e'⟩:y.size<=sizeLine/\k=((y.size:Int) != 0):=e
  subst e'
  exact PySem.W.truthy_bytes (by (first|lia|omega)) ⟨H,I.tok _,q⟩
 | ref p=>
  cases rx
  have e':(∃ xs,SqL X.K H p xs/\k = !xs.isEmpty) ∨ (∃ xs,SqT X.K H p xs/\k = !xs.isEmpty) ∨ ∃ kvs,H p=some (.dK kvs)/\k = !kvs.isEmpty:=e
  rcases e' with ⟨xs,hx,e'⟩ | ⟨xs,hx,e'⟩ | ⟨kvs,hx,e'⟩
  ·subst e'
   obtain ⟨its,r,pl,hz⟩:=I.list hx
   have hlen:=r.length
   exact wpAny_truthy_list pl.isList (by simp only [List.size_toArray]; (first|lia|omega)) ⟨H,I.tok _,by rw [isEmpty_of r]; exact q⟩
  ·subst e'
   obtain ⟨its,r,pl,hz⟩:=I.tuple hx
   have hlen:=r.length
   exact truthy_tuple pl (by simp only [List.size_toArray]; (first|lia|omega)) ⟨H,I.tok _,by rw [isEmpty_of r]; exact q⟩
  ·subst e'
   obtain ⟨hz,hS,vs,r,m⟩:kvs.length<=sizeLine/\(p == sysModules)=false/\∃ vs,KV kvs vs/\s.heap.DictOf (mixKind X.prog X.w) p vs:=I.hok p _ hx
   have hlen:kvs.length=vs.length:=Paired.length r
   exact wpAny_truthy_dict hS m (by (first|lia|omega)) ⟨H,I.tok _,by rw [isEmpty_kv r]; exact q⟩
 | _=>exact (show False from e).elim
theorem pt_truth (ha:PE X a ta) (he:∀ whole,isTrue a X.env whole=(do let v <- whole; standAt a.pos; holding [v] (truthy v))) :
  PT X a (fun σ H Q=>ta σ H fun x H'=>∃ k,TruV X.K x H' k/\Q k H'):=by
 intro pins s σ H Q I h
 exact isTrue_plain (thn (ha pins s σ H _ I h) fun v s1 ⟨x,H1,I1,r1,q1⟩=>tru_ok pins s1 σ H1 x v Q I1 r1 q1) (he _)
theorem vals1 {x:V}{us:List Value} (r:Vals [x] us):∃ u,us = [u]/\RelV x u:=by
 cases r with
 | cons r1 r2=>cases r2; exact⟨_,rfl,r1⟩
theorem vals2 {x y:V}{us:List Value} (r:Vals [x,y] us):∃ u w',us = [u,w']/\RelV x u/\RelV y w':=by
 cases r with
 | cons r1 r2=>
  cases r2 with
  | cons r3 r4=>cases r4; exact⟨_,_,rfl,r1,r3⟩
theorem call_max2 (hc:X.calm=true):CallR X (.builtin "max") (fun xs H Q=>∃ i j,xs = [.int i,.int j]/\Q (.int (if j > i then j else i)) H):=by
 intro pins s σ H xs us Q I r h
 obtain ⟨i,j,rfl,q⟩:=h
 obtain ⟨u,w',rfl,⟨t,rfl⟩,⟨t',rfl⟩⟩:=vals2 r
 refine max_two_ints (I.ok.hd hc) fun h' tk k=>⟨_,H,I.kept k,?_,q⟩
 by_cases hj:j > i
 ·rw [if_pos hj,if_pos hj]; exact⟨_,rfl⟩
 ·rw [if_neg hj,if_neg hj]; exact⟨_,rfl⟩
theorem call_min2 (hc:X.calm=true):CallR X (.builtin "min") (fun xs H Q=>∃ i j,xs = [.int i,.int j]/\Q (.int (if j < i then j else i)) H):=by
 intro pins s σ H xs us Q I r h
 obtain ⟨i,j,rfl,q⟩:=h
 obtain ⟨u,w',rfl,⟨t,rfl⟩,⟨t',rfl⟩⟩:=vals2 r
 refine min_two_ints (I.ok.hd hc) fun h' tk k=>⟨_,H,I.kept k,?_,q⟩
 by_cases hj:j < i
 ·rw [if_pos hj,if_pos hj]; exact⟨_,rfl⟩
 ·rw [if_neg hj,if_neg hj]; exact⟨_,rfl⟩
end
end L2
namespace L2
open PySem PySem.Spec PyProof.Rows
structure ObjM (h:Heap) (x dx C:Addr) (mA:Str->Option Value):Prop where
 obj:h.get? x=some (PySem.W.instObj C dx)
 ns:h.Ns1 dx mA
 ne:dx ≠ x
theorem lookIn_ns {h:Heap}{dx:Addr}{mA:Str->Option Value} (n:h.Ns1 dx mA):∃ od,h.get? dx=some od/\∀ name,PySem.W.lookIn name od=some (mA name):=by
 obtain ⟨o,es,ep,ho,hd,hk,_,hm⟩:=n
 refine⟨o,ho,fun name=>?_⟩
 have e:=hm name
 unfold nsFind findBy at e
 rw [<- Array.find?_toList] at e
 unfold PySem.W.lookIn
 rw [hd]
 dsimp only
 split
 ·rename_i y q
  rw [q] at e
  exact congrArg some e
 ·rename_i q
  rw [q] at e
  have a:es.toList.any (·.refKey)=false:=by
   rw [List.any_eq_false]
   intro y hy
   obtain ⟨z,t,hkey⟩:=hk y (Array.mem_toList_iff.mp hy)
   simp [DictEntry.refKey,hkey]
  have a' : ¬ es.toList.any (·.refKey)=true:=by rw [a]; exact Bool.false_ne_true
  rw [if_neg a']
  exact congrArg some e
theorem ObjM.look {h:Heap}{x dx C:Addr}{mA:Str->Option Value} (I:ObjM h x dx C mA):∃ od,PySem.W.InstAt h x (PySem.W.instObj C dx) C (some od)/\∀ name,PySem.W.lookIn name od=some (mA name):=
 let ⟨od,ho,hl⟩:=lookIn_ns I.ns
 ⟨od,⟨I.obj,rfl,rfl,ho⟩,hl⟩
theorem RelO.some_of {v:V}{o:Option Value} (r:RelO (some v) o):∃ u,o=some u/\RelV v u:=by
 cases o with
 | none=>exact (show False from r).elim
 | some u=>exact⟨u,rfl,r⟩
section
variable {P : Program} {w : World} {H H' : Hp} {h h' : Heap} {a C dx : Addr} {fs fs' : List (Str × V)}
theorem ins_get (hok:HOk P w H h) (e:H a=some (.ins C dx fs)):∃ mA,ObjM h a dx C mA/\(∀ f,RelO (fs.lookup f) (mA f))/\PySem.Within mA (fs.map (·.1))/\fs.length<=1000/\H dx=some (.own a):=by
 obtain ⟨d,z,ne,ob,mA,n,r,q⟩:=(show ObjOk P w H h a (.ins C dx fs) from hok a _ e)
 exact⟨mA,⟨ob,n,ne⟩,r,q,z,d⟩
end
structure Cls (K:PySem.W.Frag) (C:Addr):Prop where
 pg:PySem.W.plainGet K C Str.empty=true
 hd:PySem.W.hasDictIn K C=true
 po:PySem.W.plainOver K C=true
 sa:PySem.W.findIn K (.ref C) "__setattr__" = some (some (.builtin "object.__setattr__"))
theorem Cls.get {K:PySem.W.Frag}{C:Addr} (c:Cls K C) (f:Str):PySem.W.plainGet K C f=true:=c.pg
section
variable {X : Cx} {pins : List (Addr × Obj)} {σ : St} {H : Hp} {s : Shared} {A : Around} {E : Value → Shared → Prop} {Q : Value → Shared → Prop} {c : Value} {b : Bool}
inductive TyOf (K:PySem.W.Frag) (H:Hp):V->Value->Prop where
 | non:TyOf K H .non (.type "NoneType")
 | bl (x:Bool):TyOf K H (.bl x) (.type "bool")
 | int (i:Int):TyOf K H (.int i) (.type "int")
 | str (x:Str):TyOf K H (.str x) (.type "str")
 | flt (x:UInt64):TyOf K H (.flt x) (.type "float")
 | lst {a:Addr}{xs:List V} (e:H a=some (.lst xs)):TyOf K H (.ref a) (.type "list")
 | frz {a:Addr}{o:Obj}{xs:List V} (e:H a=some (.frz o (.lst xs))):TyOf K H (.ref a) (.type "list")
 | tup {a:Addr}{xs:List V} (e:H a=some (.tup xs)):TyOf K H (.ref a) (.type "tuple")
 | dK {a:Addr}{kvs:List (Key × V)} (e:H a=some (.dK kvs)):TyOf K H (.ref a) (.type "dict")
 | dT {a:Addr}{kvs:List (List Key × V)} (e:H a=some (.dT kvs)):TyOf K H (.ref a) (.type "dict")
 | ins {a C dx:Addr}{fs:List (Str × V)} (e:H a=some (.ins C dx fs)) (cl:Cls K C) (ha:PySem.W.findIn K (.ref C) "__class__" = some (some (.builtin "object.__class__")))
   (hn:PySem.W.specialIn K (.builtin "object.__class__") "__get__" = some (some (.builtin "getset_descriptor.__get__"))) (htk:PySem.W.takesIn K (.builtin "object.__class__")=some true)
   (hm:PySem.W.mroIn K C (.type "object")=some true):TyOf K H (.ref a) (.ref C)
theorem isinst_ok {x:V}{u t:Value} (I:Inv X pins σ H s) (rx:RelV x u) (ty:TyOf X.K H x t) (e:PySem.W.kitOne X.K t c=some b) (h:∀ tk,Q (.bool b) { s with toks:=tk }) :
  wpAny (model X.prog X.w) A (call (.builtin "isinstance") [u,c]) Q E s:=by
 cases ty with
 | non=>cases (show u=Value.none from rx); exact PySem.W.kia_one PySem.W.kitx_none I.kIn True.intro e (fun z=>nomatch z) h
 | bl y=>cases (show u=Value.bool y from rx); exact PySem.W.kia_one PySem.W.kitx_bool I.kIn True.intro e (fun z=>nomatch z) h
 | int i=>obtain ⟨t,q⟩:=(show ∃ t,u=Value.int i t from rx); cases q; exact PySem.W.kia_one PySem.W.kitx_int I.kIn True.intro e (fun z=>nomatch z) h
 | str y=>obtain ⟨t,q⟩:=(show ∃ t,u=Value.str y t from rx); cases q; exact PySem.W.kia_one PySem.W.kitx_str I.kIn True.intro e (fun z=>nomatch z) h
 | flt y=>obtain ⟨t,q⟩:=(show ∃ t,u=Value.float y t from rx); cases q; exact PySem.W.kia_one PySem.W.kitx_float I.kIn True.intro e (fun z=>nomatch z) h
 | @lst a xs ea=>
  cases (show u=Value.ref a from rx)
  obtain ⟨_,_,n,_,h1⟩:=(show ObjOk X.prog X.w H s.heap a (.lst xs) from I.hok a _ ea)
  exact PySem.W.kia_one PySem.W.kitx_list I.kIn ⟨_,h1,rfl⟩ e (fun z=>nomatch z) h
 | @frz a ob xs ea=>
  cases (show u=Value.ref a from rx)
  obtain ⟨_,_,_,n,_,h1⟩:=(show ObjOk X.prog X.w H s.heap a (.frz ob (.lst xs)) from I.hok a _ ea)
  exact PySem.W.kia_one PySem.W.kitx_list I.kIn ⟨_,h1,rfl⟩ e (fun z=>nomatch z) h
 | @tup a xs ea=>
  cases (show u=Value.ref a from rx)
  obtain ⟨_,_,_,p⟩:=(show ObjOk X.prog X.w H s.heap a (.tup xs) from I.hok a _ ea)
  obtain ⟨o,h1,h2,_⟩:=p
  exact PySem.W.kia_one PySem.W.kitx_tuple I.kIn ⟨o,h1,h2⟩ e (fun z=>nomatch z) h
 | @dK a kvs ea=>
  cases (show u=Value.ref a from rx)
  obtain ⟨_,_,vs,_,p⟩:=(show ObjOk X.prog X.w H s.heap a (.dK kvs) from I.hok a _ ea)
  obtain ⟨o,es,ep,h1,h2,_⟩:=p
  exact PySem.W.kia_one PySem.W.kitx_dict I.kIn ⟨o,h1,h2.1⟩ e (fun z=>nomatch z) h
 | @dT a kvs ea=>
  cases (show u=Value.ref a from rx)
  obtain ⟨_,_,xs,_,o,es,ep,h1,h2,_⟩:=(show ObjOk X.prog X.w H s.heap a (.dT kvs) from I.hok a _ ea)
  exact PySem.W.kia_one PySem.W.kitx_dict I.kIn ⟨o,h1,h2.1⟩ e (fun z=>nomatch z) h
 | @ins a C dx fs ea cl ha hn htk hm=>
  cases (show u=Value.ref a from rx)
  obtain ⟨mA,O,_⟩:=ins_get I.hok ea
  obtain ⟨od,J,_⟩:=O.look
  exact PySem.W.kia_one (PySem.W.kitx_own (cl.get _) cl.hd ha hn htk hm) I.kIn J e (fun z=>nomatch z) h
end
end L2
namespace L2
open PySem PySem.Spec PyProof.Rows
structure Room (k:Nat) (A:Around):Prop where
 hd:A.handled=none
 dp:A.depth+3 * k+5 < recursionLimit
 un:A.units+16 * k+200 < cLine
theorem Room.mono {j k:Nat}{A:Around} (r:Room k A) (h:j<=k):Room j A:=⟨r.hd,by have:=r.dp; (first|lia|omega),by have:=r.un; (first|lia|omega)⟩
theorem Room.deeper {k:Nat}{A:Around} (r:Room (k+1) A) (env:Env):Room k (A.deeper env):=
 ⟨r.hd,by have:=r.dp; show A.depth+1+3 * k+5 < _; (first|lia|omega),by have:=r.un; show A.units+3+16 * k+200 < _; (first|lia|omega)⟩
theorem Room.depth {k:Nat}{A:Around} (r:Room k A):A.depth < recursionLimit:=by have:=r.dp; (first|lia|omega)
theorem Room.units {k:Nat}{A:Around} (r:Room k A):A.units+64 < cLine:=by have:=r.un; (first|lia|omega)
noncomputable def tNil:TA:=fun _ H Q=>Q [] H
noncomputable def tCons (ta:TE) (tr:TA):TA:=fun σ H Q=>ta σ H fun x H1=>tr σ H1 fun xs H2=>Q (x :: xs) H2
section
variable {X : Cx} {e : Expr} {es : List Expr} {te : TE} {t : TA} {pos : Pos}
theorem pa_nil:PA X [] tNil:=fun _ _ _ _ H Q I h=>Calls.spliced_nil ⟨[],H,I,.nil,h⟩
theorem pa_cons (ha:PE X e te) (hr:PA X es t) (hs:starEach (e :: es) X.env=(false,eval e X.env) :: starEach es X.env:=by rfl):PA X (e :: es) (tCons te t):=by
 intro pos pins s σ H Q I h
 rw [hs]
 show wpAny _ _ (spliced ((false,eval e X.env) :: backTo pos (starEach es X.env))) _ _ s
 refine Calls.spliced_cons (thn (ha pins s σ H _ I h) fun u s1 ⟨x,H1,I1,r1,q1⟩=>?_)
 exact thn (hr pos pins s1 σ H1 _ I1 q1) fun us s2 ⟨xs,H2,I2,r2,q2⟩=>⟨x :: xs,H2,I2,.cons r1 r2,q2⟩
noncomputable def tTup (t:TA):TE:=fun σ H Q=>t σ H fun xs H1=>xs.length<=sizeLine/\∀ p,H1 p=none->Q (.ref p) (upd H1 p (.tup xs))
noncomputable def tLst (t:TA):TE:=fun σ H Q=>t σ H fun xs H1=>xs.length<=sizeLine/\∀ p,H1 p=none->Q (.ref p) (upd H1 p (.lst xs))
theorem pe_tup {x1} (h:PA X es t):PE X (.Tuple es x1 pos) (tTup t):=by
 intro pins s σ H Q I hq
 refine wpAny_Tuple_spliced (thn (h pos pins s σ H _ I hq) fun us s1 ⟨xs,H1,I1,r,z,q⟩=>⟨by rw [<- r.length]; exact z,?_⟩)
 have hf:H1 s1.heap.objs.size=none:=I1.hok.fresh (Nat.le_refl _)
 refine⟨.ref s1.heap.objs.size,upd H1 s1.heap.objs.size (.tup xs),I1.laid (t':=s1.toks) (fun b u e=>Heap.get?_push_of_some _ e) (Nat.le_refl _) ?_,rfl,q _ hf⟩
 exact⟨z,us,r,⟨_,Heap.get?_push_size _ rfl,rfl,_,rfl⟩⟩
theorem pe_lst (h:PA X es t):PE X (.List es pos) (tLst t):=by
 intro pins s σ H Q I hq
 refine wpAny_List_spliced (thn (h pos pins s σ H _ I hq) fun us s1 ⟨xs,H1,I1,r,z,q⟩=>⟨by rw [<- r.length]; exact z,?_⟩)
 have hf:H1 s1.heap.objs.size=none:=I1.hok.fresh (Nat.le_refl _)
 refine⟨.ref s1.heap.objs.size,upd H1 s1.heap.objs.size (.lst xs),I1.laid (t':=s1.toks) (fun b u e=>Heap.get?_push_of_some _ e) (Nat.le_refl _) ?_,rfl,q _ hf⟩
 exact⟨z,us,0,r,Heap.get?_push_size _ rfl⟩
end
noncomputable abbrev Sp:=List V->Hp->VK->XK->Prop
noncomputable abbrev CXT:=List Env->Hp->Shared->XK->Value->Shared->Prop
structure Env0 (P:Program) (w:World) (K:PySem.W.Frag) (mg:Str->Option Value) (base:Heap) (A:Around) (outer:List Env) (s:Shared) (H:Hp):Prop where
 frames:A.frames=some outer
 mod:Mod K mg base
 bs:∀ b o,base.get? b=some o->s.heap.get? b=some o/\H b=none
 bsz:base.objs.size<=s.heap.objs.size
 funs:s.heap.FunFrames base outer
 frf:∀ b ∈ frs outer,H b=none
 hok:HOk P w H s.heap
 bare:AllBare s.gens
noncomputable def CE (outer:List Env) (P:Program) (w:World) (H:Hp) (s:Shared) (Q:VK) (u:Value) (s':Shared):Prop:=
 ∃ v H',s'.os=s.os/\AllBare s'.gens/\Un (frs outer) [] H H' s.heap s'.heap/\HOk P w H' s'.heap/\RelV v u/\Q v H'
noncomputable def CR (CX:CXT) (outer:List Env) (P:Program) (w:World) (H:Hp) (s:Shared) (Q:VK) (E:XK) (r:Result) (s':Shared):Prop:=
 match r with
 | .ok (.ret u)=>CE outer P w H s Q u s'
 | .ok _=>False
 | .error e=>CX outer H s E e s'
structure FnOk (P:Program) (w:World) (K:PySem.W.Frag) (mg:Str->Option Value) (base:Heap) (CX:CXT) (k:Nat) (f:Addr) (fd:FuncData) (ps:List Str) (sp:Sp):Prop where
 len:∀ vs H Q E,sp vs H Q E->vs.length=ps.length
 run:∀ (A:Around) (outer:List Env) (s:Shared) (H:Hp) (args:Args) (us:List Value) (vs:List V) (Q:VK) (E:XK),Room k A->Env0 P w K mg base A outer s H->BindsTo s fd args (ps.zip us)->Vals vs us->sp vs H Q E->
  codeAny (model P w) A (.call (.ref f) args) (CR CX outer P w H s Q E) s
theorem FnOk.imp {P:Program}{w:World}{K:PySem.W.Frag}{mg:Str->Option Value}{base:Heap}{CX:CXT}{k:Nat}{f:Addr}{fd:FuncData}{ps:List Str}{sp sp':Sp} (F:FnOk P w K mg base CX k f fd ps sp)
  (h:∀ vs H Q E,sp' vs H Q E->sp vs H Q E):FnOk P w K mg base CX k f fd ps sp':=
 ⟨fun vs H Q E q=>F.len vs H Q E (h _ _ _ _ q),fun A outer s H args us vs Q E hr he hb hv hs=>F.run A outer s H args us vs Q E hr he hb hv (h _ _ _ _ hs)⟩
section
variable {X : Cx} {pins : List (Addr × Obj)} {σ : St} {H : Hp} {s s' : Shared}
theorem Inv.env0 (I:Inv X pins σ H s):Env0 X.prog X.w X.K X.mg X.base X.A X.stack s H:=
 ⟨I.ok.frames,I.ok.mod,I.bs,Nat.le_trans I.ok.bsz I.sz,I.stack,I.stkFree,I.hok,I.bare⟩
theorem Inv.after {Q:VK}{u:Value} (I:Inv X pins σ H s) (h:CE X.stack X.prog X.w H s Q u s'):EP X pins σ Q u s':=by
 obtain ⟨v,H',os,bare,un,hok,r,q⟩:=h
 obtain ⟨hh,g,d,t,os'⟩:=s'
 obtain rfl:os'=s.os:=os
 exact⟨v,H',I.call (h':=hh) (g':=g) (d':=d) (t':=t) (ch:=[]) un hok bare (fun b z=>absurd z (by simp)),r,q⟩
end
noncomputable def tCall (sp:Sp) (dvs:List V) (E:XK) (t:TA):TE:=fun σ H Q=>t σ H fun vs H1=>sp (vs ++ dvs) H1 Q E
noncomputable def Binds (K:PySem.W.Frag) (fd:FuncData) (ps:List Str) (ds:List Value):Prop:=
 ∀ (s:Shared) (us:List Value),K.In s.heap->(us ++ ds).length=ps.length->BindsTo s fd ⟨us,[]⟩ (ps.zip (us ++ ds))
theorem Binds.all {K:PySem.W.Frag}{fd:FuncData}{ps:List Str} (h:∀ us:List Value,us.length=ps.length->bindArgs fd ⟨us,[]⟩=pure (ps.zip us)):Binds K fd ps []:=fun s us _ hl=>by
 rw [List.append_nil] at hl ⊢
 exact .of_eq (h us hl)
noncomputable def Passes (CX:CXT) (X:Cx) (E:XK):Prop:=∀ (pins:List (Addr × Obj)) (σ:St) (H:Hp) (s:Shared) (e:Value) (s':Shared),Inv X pins σ H s->CX X.stack H s E e s'->X.xe e s'
section
variable {X : Cx} {CX : CXT} {k : Nat} {f C : Addr} {fd : FuncData} {ps : List Str} {sp : Sp} {dvs : List V} {ds : List Value} {E : XK} {x m : Str} {p pos apos : Pos} {e o : Expr} {es : List Expr} {ta : TE} {t : TA}
theorem run_fn {pins:List (Addr × Obj)}{σ:St}{H:Hp}{s:Shared}{Q:VK}{us:List Value}{vs:List V} (F:FnOk X.prog X.w X.K X.mg X.base CX k f fd ps sp) (hr:Room k X.A) (hb:Binds X.K fd ps ds) (hd:Vals dvs ds) (hx:Passes CX X E)
  (I:Inv X pins σ H s) (r:Vals vs us) (h:sp (vs ++ dvs) H Q E):wpAny (model X.prog X.w) X.A (call (.ref f) us) (EP X pins σ Q) X.xe s:=by
 have r2:Vals (vs ++ dvs) (us ++ ds):=r.append hd
 have hl:(us ++ ds).length=ps.length:=by rw [<- r2.length]; exact F.len _ _ _ _ h
 refine wpAny_call (codeAny_mono (F.run X.A X.stack s H ⟨us,[]⟩ (us ++ ds) (vs ++ dvs) Q E hr I.env0 (hb s us I.kIn hl) r2 h) fun r s' hq=>?_)
 cases r with
 | error e=>exact hx pins σ H s e s' I hq
 | ok fl=>
  cases fl with
  | ret u=>exact I.after hq
  | next=>exact False.elim hq
  | brk=>exact False.elim hq
  | cont=>exact False.elim hq
theorem pe_call (F:FnOk X.prog X.w X.K X.mg X.base CX k f fd ps sp) (hr:Room k X.A) (hg:Gl X x) (hm:X.mg x=some (.ref f)) (hk:PySem.W.keepIn X.K (.ref f)=true) (hb:Binds X.K fd ps ds) (hd:Vals dvs ds) (hx:Passes CX X E)
  (ha:PA X (e :: es) t) (hdb:(x == ("__debug__" : Str))=false:=by decide) (he:starEach (e :: es) X.env=(false,eval e X.env) :: starEach es X.env:=by rfl) (hpl:(backTo pos (starEach es X.env)).any (·.1)=false:=by rfl) :
  PE X (.Call (.Name x p) (e :: es) [] pos) (tCall sp dvs E t):=by
 intro pins s σ H Q I h
 refine wpAny_Call_Name_kw (ld_glob I hg hm ?_ hdb)
 refine PySem.W.callWith_K (h₀:=X.base) I.ok.mod.kin hk (thn (ha pos pins s σ H _ I h) fun us s1 ⟨vs,H1,I1,r,q⟩=>⟨I1.kIn,?_⟩) he hpl
 exact run_fn F hr hb hd hx I1 r q
end
noncomputable def PK (X:Cx) (kws:List Keyword) (t:TA):Prop:=
 ∀ (pos:Pos) (pins:List (Addr × Obj)) (s:Shared) (σ:St) (H:Hp) (Q:List V->Hp->Prop),Inv X pins σ H s->t σ H Q->wpAny (model X.prog X.w) X.A (evalAll ((backToKw pos (keywordEach kws X.env)).map (·.2))) (AP X pins σ Q) X.xe s
structure FnScope (N P:List Str) (sc:Scope):Prop where
 kind:sc.kind = .function
 co:sc.isCoroutine=false
 gen:sc.isGenerator=false
 nd:N.Nodup
 pre:N.take P.length=P
 par:∀ x ∈ P,sc.names.lookup x=some .local ∨ sc.names.lookup x=some .cell
 nofree:∀ y ∈ sc.names,y.2 ≠ .free
theorem bindL_out {kindOf:Str->Option NameKind}{x:Str}:∀ {binds:List (Str × Value)}{m:Str->Option Value},(∀ v,(x,v) ∉ binds)->bindL kindOf binds m x=m x
 | [],_,_=>rfl
 | (n,v) :: r,m,h=>by
  unfold bindL
  rw [bindL_out fun w hw=>h w (List.mem_cons_of_mem _ hw)]
  split
  ·have:x ≠ n:=by rintro rfl; exact h v List.mem_cons_self
   simp [this]
  ·rfl
theorem bindC_out {kindOf:Str->Option NameKind}{x:Str}:∀ {binds:List (Str × Value)}{m:Str->Option Value},(∀ v,(x,v) ∉ binds)->bindC kindOf binds m x=m x
 | [],_,_=>rfl
 | (n,v) :: r,m,h=>by
  unfold bindC
  rw [bindC_out fun w hw=>h w (List.mem_cons_of_mem _ hw)]
  split
  ·rfl
  ·have:x ≠ n:=by rintro rfl; exact h v List.mem_cons_self
   simp [this]
theorem bindL_get {kindOf:Str->Option NameKind}{x:Str}{v:Value}:∀ {P:List Str}{vs:List Value}{i:Nat}{m:Str->Option Value},P.Nodup->P[i]? = some x->vs[i]? = some v->kindOf x=some .local->
  bindL kindOf (P.zip vs) m x=some v
 | [],_,_,_,_,h,_,_=>by simp at h
 | _ :: _,[],_,_,_,_,h,_=>by simp at h
 | p :: P,w :: vs,0,m,nd,h1,h2,hk=>by
  simp at h1 h2; subst h1; subst h2
  show bindL kindOf ((p,w) :: P.zip vs) m p=_
  unfold bindL
  rw [bindL_out fun v hv=>(List.nodup_cons.mp nd).1 (List.of_mem_zip hv).1,if_pos hk]
  simp
 | p :: P,w :: vs,i+1,m,nd,h1,h2,hk=>by
  show bindL kindOf ((p,w) :: P.zip vs) m x=_
  unfold bindL
  exact bindL_get (i:=i) (List.nodup_cons.mp nd).2 (by simpa using h1) (by simpa using h2) hk
theorem bindC_get {kindOf:Str->Option NameKind}{x:Str}{v:Value}:∀ {P:List Str}{vs:List Value}{i:Nat}{m:Str->Option Value},P.Nodup->P[i]? = some x->vs[i]? = some v->kindOf x ≠ some .local->
  bindC kindOf (P.zip vs) m x=some v
 | [],_,_,_,_,h,_,_=>by simp at h
 | _ :: _,[],_,_,_,_,h,_=>by simp at h
 | p :: P,w :: vs,0,m,nd,h1,h2,hk=>by
  simp at h1 h2; subst h1; subst h2
  show bindC kindOf ((p,w) :: P.zip vs) m p=_
  unfold bindC
  rw [bindC_out fun v hv=>(List.nodup_cons.mp nd).1 (List.of_mem_zip hv).1,if_neg hk]
  simp
 | p :: P,w :: vs,i+1,m,nd,h1,h2,hk=>by
  show bindC kindOf ((p,w) :: P.zip vs) m x=_
  unfold bindC
  exact bindC_get (i:=i) (List.nodup_cons.mp nd).2 (by simpa using h1) (by simpa using h2) hk
noncomputable def start (N:List Str) (vs:List V):St:=vs.map some ++ List.replicate (N.length - vs.length) none
noncomputable def cxOf (CX:CXT) (P:Program) (w:World) (K:PySem.W.Frag) (mg:Str->Option Value) (base:Heap) (N:List Str) (qual:Str) (scope:Scope) (f:Addr) (cd:Value) (A:Around) (outer:List Env) (s:Shared) (H:Hp) (E:XK):Cx where
 prog:=P
 w:=w
 K:=K
 mg:=mg
 base:=base
 A:=A.deeper (envOfC qual scope s.heap.objs.size f cd)
 N:=N
 s₀:=s
 H₀:=H
 env:=envOfC qual scope s.heap.objs.size f cd
 outer:=outer
 stack:=envOfC qual scope s.heap.objs.size f cd :: outer
 ex:=[]
 calm:=true
 fn:=fun _=>true
 pn:=[]
 xe:=fun e s'=>wpAny (model P w) (A.deeper (envOfC qual scope s.heap.objs.size f cd)) (leaving (envOfC qual scope s.heap.objs.size f cd) e) (fun _ s''=>CX outer H s E e s'') (fun e' s''=>CX outer H s E e' s'') s'
theorem cell_has {sc:Scope}{n:Nat}{x:Str} (h:sc.names.lookup x=some .cell):∃ c,(cellsFrom n sc.names []).lookup x=some c:=by
 have q:=PySem.W.cellsFrom_some sc.names n [] (.inl h)
 exact Option.isSome_iff_exists.mp q
theorem inv_start {CX:CXT}{P:Program}{w:World}{K:PySem.W.Frag}{mg:Str->Option Value}{base:Heap}{N ps:List Str}{qual:Str}{scope:Scope}{f:Addr}{cd:Value}{A:Around}{outer:List Env}{s s1:Shared}{H:Hp}{E:XK}{us:List Value}{vs:List V}
  (S:FnScope N ps scope) (hd:A.handled=none) (e0:Env0 P w K mg base A outer s H) (hl:vs.length=ps.length) (r:Vals vs us)
  (x:InCallC s s.heap.objs.size (bindL (envOfC qual scope s.heap.objs.size f cd).kindOf (ps.zip us) fun _=>none) (cellsFrom (s.heap.objs.size+1) scope.names []) (bindC (envOfC qual scope s.heap.objs.size f cd).kindOf (ps.zip us) fun _=>none) s1) :
  Inv (cxOf CX P w K mg base N qual scope f cd A outer s H E) [] (start N vs) H s1:=by
 have hpl:ps.length<=N.length:=by have:=congrArg List.length S.pre; rw [List.length_take] at this; (first|lia|omega)
 obtain ⟨h1,tk,rfl,hk⟩:=x.done
 have noA:∀ b:Addr,b ∉ (cxOf CX P w K mg base N qual scope f cd A outer s H E).ex:=fun b z=>absurd (show b ∈ ([]:List Addr) from z) (by simp)
 refine⟨⟨e0.mod,S.kind,rfl,rfl,Nat.le_refl _,fun y z c h1 h2=>?_,fun y hy=>?_,fun y c _ h=>?_,fun _=>hd,Around.frames_deeper e0.frames,.inr ⟨rfl,rfl⟩,fun b z=>absurd z (noA b),e0.bs,e0.bsz,fun b _ _=>noA b,fun b z=>absurd z (noA b),e0.funs,e0.frf⟩,
  rfl,e0.bare,Un.kept hk,⟨_,x.toInCall.ns,fun i y v h1 h2 h3=>?_⟩,fun y c h=>⟨_,x.cell y c h⟩,e0.hok.fresh (Nat.le_refl _),fun y c h=>?_,fun p hp=>absurd (show p ∈ ([]:List (Addr × Obj)) from hp) (by simp),e0.hok.kept hk,?_⟩
 ·exact name_of_addr x.apart (PySem.mem_of_lookup h1) (PySem.mem_of_lookup h2)
 ·have hy:scope.names.lookup y=some .cell ∨ scope.names.lookup y=some .free:=hy
  rcases hy with hy | hy
  ·exact cell_has hy
  ·exact absurd rfl (S.nofree _ (PySem.mem_of_lookup hy))
 ·exact Nat.le_of_lt (x.above y c (PySem.mem_of_lookup h))
 ·have hi:i < vs.length:=by
   unfold start at h2
   by_cases hi:i < vs.length
   ·exact hi
   ·rw [List.getElem?_append_right (by simpa using hi)] at h2
    rw [List.getElem?_replicate] at h2
    split at h2 <;> cases h2
  have ha:vs[i]? = some v:=by
   unfold start at h2
   rw [List.getElem?_append_left (by simpa using hi),List.getElem?_map] at h2
   cases e:vs[i]? with
   | none=>rw [e] at h2; cases h2
   | some a=>rw [e] at h2; cases h2; rfl
  obtain ⟨u,hu,rv⟩:=r.get ha
  have hp:ps[i]? = some y:=by
   rw [<- S.pre,List.getElem?_take_of_lt (by (first|lia|omega))]; exact h1
  have ndP:ps.Nodup:=by rw [<- S.pre]; exact S.nd.sublist (List.take_sublist _ _)
  refine⟨u,rv,?_⟩
  rcases S.par y (List.mem_of_getElem? hp) with k | k
  ·exact .inl ⟨k,bindL_get ndP hp hu k⟩
  ·obtain ⟨c,e⟩:=cell_has (n:=s.heap.objs.size+1) k
   refine .inr ⟨.inl k,c,e,?_⟩
   have q:=x.cell y c e
   rw [bindC_get ndP hp hu (by show scope.names.lookup y ≠ _; rw [k]; decide)] at q
   exact q
 ·exact e0.hok.fresh (Nat.le_of_lt (x.above y c (PySem.mem_of_lookup h)))
 ·unfold start
  show _=N.length
  rw [List.length_append,List.length_map,List.length_replicate]
  (first|lia|omega)
theorem fn_of {CX:CXT}{P:Program}{w:World}{K:PySem.W.Frag}{mg:Str->Option Value}{base:Heap}{k:Nat}{f:Addr}{name qual:Str}{params:Arguments}{body:List Stmt}{scope:Scope}{dV kV doc pm cdv ct oc:Value}{an od:Option Addr}
  {osl:Array (Option Value)}{N ps:List Str}{sp:Sp} (lk:K.lookup f=some ⟨oc,od,.func (PySem.W.fnOf name qual params body scope dV kV doc pm an cdv ct),osl⟩) (hcd:PySem.W.codeIn K cdv qual=true) (S:FnScope N ps scope)
  (len:∀ vs H Q E,sp vs H Q E->vs.length=ps.length)
  (hbody:∀ (A:Around) (outer:List Env) (s:Shared) (H:Hp) (vs:List V) (Q:VK) (E:XK),Room k (A.deeper (envOfC qual scope s.heap.objs.size f cdv))->sp vs H Q E->
   ∃ t,PSs (cxOf CX P w K mg base N qual scope f cdv A outer s H E) body t/\t { nx:=fun _ H'=>Q .non H',rt:=Q } (start N vs) H) :
  FnOk P w K mg base CX (k+1) f (PySem.W.fnOf name qual params body scope dV kV doc pm an cdv ct) ps sp:=by
 refine⟨len,fun A outer s H args us vs Q E hr e0 hb r hsp=>?_⟩
 have hl:=len _ _ _ _ hsp
 have KX:K.In s.heap:=e0.mod.kin.keeps fun b o e=>(e0.bs b o e).1
 have lim:s.heap.NoLimit:=e0.mod.nolimit.keeps fun b o e=>(e0.bs b o e).1
 have hkind:∀ y ∈ ps.zip us,scope.names.lookup y.1=some .local ∨ (scope.names.lookup y.1=some .cell/\((cellsFrom (s.heap.objs.size+1) scope.names []).lookup y.1).isSome=true):=fun ⟨n,v⟩ hy=>by
  rcases S.par n (List.of_mem_zip hy).1 with q | q
  ·exact .inl q
  ·exact .inr ⟨q,PySem.W.cellsFrom_some _ _ _ (.inl q)⟩
 refine codeAny_call_function hr.depth (KX _ _ lk) rfl S.co S.gen rfl (PySem.W.codeRec_of KX hcd) (hb _ _ _ _ ?_)
 refine wpAny_newFunctionEnv_cells S.kind hkind fun env he s1 x=>?_
 subst he
 refine⟨lim.keeps x.toInCall.keep,codeAny_func ?_⟩
 obtain ⟨t,ht,hq⟩:=hbody A outer s H vs Q E (hr.deeper _) hsp
 have I:Inv (cxOf CX P w K mg base N qual scope f cdv A outer s H E) [] (start N vs) H s1:=inv_start S hr.hd e0 hl r x
 refine wpAny_mono (ht [] s1 (start N vs) H _ I hq) (fun fl s' hs=>?_) fun e s' hs=>hs
 have fin:∀ {σ':St}{H':Hp}{v:V}{u:Value},Inv (cxOf CX P w K mg base N qual scope f cdv A outer s H E) [] σ' H' s'->RelV v u->Q v H'->CE outer P w H s Q u s':=
  fun {σ' H' v u} J rv q=>⟨v,H',J.os,J.bare,J.base,J.hok,rv,q⟩
 cases fl with
 | ret u=>
  obtain ⟨v,σ',H',J,rv,q⟩:=hs
  exact fin J rv q
 | next=>
  obtain ⟨σ',H',J,q⟩:=hs
  exact fin (v:=V.non) (u:=Value.none) J rfl q
 | brk=>
  obtain ⟨_,_,_,q⟩:=hs
  exact False.elim q
 | cont=>
  obtain ⟨_,_,_,q⟩:=hs
  exact False.elim q
end L2
namespace L2
open PySem PySem.Spec PyProof.Rows
section
variable {X : Cx} {x : Str} {p pos : Pos} {e : Expr} {es : List Expr} {t : TA} {id T : String} {r : List V → Hp → VK → Prop}
noncomputable def tCB (r:List V->Hp->VK->Prop) (t:TA):TE:=fun σ H Q=>t σ H fun vs H1=>r vs H1 Q
theorem pe_callB (hc:CallR X (.builtin id) r) (hg:Gl X x) (hm:X.mg x=none) (hv:bootBuiltins x=some (.builtin id)) (ha:PA X (e :: es) t) (hn:x ≠ "__name__":=by decide) (hdb:(x == ("__debug__" : Str))=false:=by decide)
  (he:starEach (e :: es) X.env=(false,eval e X.env) :: starEach es X.env:=by rfl) (hpl:(backTo pos (starEach es X.env)).any (·.1)=false:=by rfl):PE X (.Call (.Name x p) (e :: es) [] pos) (tCB r t):=by
 intro pins s σ H Q I h
 refine wpAny_Call_Name_kw (ld_blt I hg hm hv ?_ hn hdb)
 exact PyProof.Rows.callWith_builtin1 (thn (ha pos pins s σ H _ I h) fun us s1 ⟨vs,H1,I1,r1,q1⟩=>hc pins s1 σ H1 vs us Q I1 r1 q1) he hpl
theorem pe_callTy (hc:CallR X (.type T) r) (hg:Gl X x) (hm:X.mg x=none) (hv:bootBuiltins x=some (.type T)) (ha:PA X (e :: es) t) (hn:x ≠ "__name__":=by decide) (hdb:(x == ("__debug__" : Str))=false:=by decide)
  (he:starEach (e :: es) X.env=(false,eval e X.env) :: starEach es X.env:=by rfl) (hpl:(backTo pos (starEach es X.env)).any (·.1)=false:=by rfl):PE X (.Call (.Name x p) (e :: es) [] pos) (tCB r t):=by
 intro pins s σ H Q I h
 refine wpAny_Call_Name_kw (ld_blt I hg hm hv ?_ hn hdb)
 exact PyProof.Rows.callWith_type1 (thn (ha pos pins s σ H _ I h) fun us s1 ⟨vs,H1,I1,r1,q1⟩=>hc pins s1 σ H1 vs us Q I1 r1 q1) he hpl
end
end L2
namespace HT
open PySem PyProof.Rows
noncomputable def lexLt:List Int->List Int->Bool
 | [],[]=>false
 | [],_ :: _=>true
 | _ :: _,[]=>false
 | x :: xs,y :: ys=>if x=y then lexLt xs ys else decide (x < y)
theorem lexLt_cons (x y:Int) (xs ys:List Int):lexLt (x :: xs) (y :: ys)=if x=y then lexLt xs ys else decide (x < y):=rfl
section
variable {prog : Program} {w : World} {A : Around} {E : Value → Shared → Prop} {s : Shared}
noncomputable def sIx (n d:Nat):Option Int->Nat
 | none=>d
 | some v=>if v < 0 then (v+(n:Int)).toNat else min v.toNat n
theorem sIx_none (n d:Nat):sIx n d none=d:=rfl
theorem sIx_nat (n d k:Nat):sIx n d (some (k:Int))=min k n:=by
 show (if (k:Int) < 0 then ((k:Int)+(n:Int)).toNat else min (k:Int).toNat n)=min k n
 rw [if_neg (by (first|lia|omega)),Int.toNat_natCast]
theorem sIx_le (n d:Nat) (hd:d<=n) (o:Option Int):sIx n d o<=n:=by
 cases o with
 | none=>exact hd
 | some v=>
  show (if v < 0 then (v+(n:Int)).toNat else min v.toNat n)<=n
  by_cases hv:v < 0
  ·rw [if_pos hv]; (first|lia|omega)
  ·rw [if_neg hv]; exact Nat.min_le_right _ _
theorem clip_eq (v:Int) (n d:Nat):(if v < 0 then max (v+(n:Int)) 0 else min v (n:Int))=((sIx n d (some v):Nat):Int):=by
 show (if v < 0 then max (v+(n:Int)) 0 else min v (n:Int))=(((if v < 0 then (v+(n:Int)).toNat else min v.toNat n):Nat):Int)
 by_cases hv:v < 0
 ·simp only [if_pos hv]; (first|lia|omega)
 ·simp only [if_neg hv]; (first|lia|omega)
theorem adjust_gen (lo hi:Option Int) (n:Nat):Builtin.Slice.sliceAdjust lo hi 1 (n:Int)=(((sIx n 0 lo:Nat):Int),((sIx n n hi:Nat):Int)):=by
 have h1 : ¬ ((1:Int) < 0):=by (first|lia|omega)
 unfold Builtin.Slice.sliceAdjust
 simp only [h1,if_false]
 refine Prod.ext ?_ ?_
 ·cases lo with
  | none=>rfl
  | some v=>exact clip_eq v n 0
 ·cases hi with
  | none=>rfl
  | some v=>exact clip_eq v n n
theorem places_gen (i j:Nat):Builtin.Slice.slicePlaces (i:Int) (j:Int) 1=j - i:=by
 unfold Builtin.Slice.slicePlaces
 have h1:(1:Int) > 0:=by (first|lia|omega)
 simp only [h1,if_true,Int.ediv_one]
 split <;> (first|lia|omega)
theorem slicePart_ {v:Value}{o:Option Int}{Q:Option Int->Shared->Prop} (p:IsPart v o) (h:Q o s):wpAny (model prog w) A (Builtin.Slice.slicePartIndex v) Q E s:=by
 cases p with
 | none=>exact slicePart_none h
 | int i t=>exact slicePart_int h
theorem sliceApplied_gen {sl:Addr}{vl vu:Value}{lo hi:Option Int}{n:Nat}{Q:Int × Int × Nat->Shared->Prop} (hs:s.heap.IsSliceOf sl vl vu .none) (pl:IsPart vl lo) (pu:IsPart vu hi)
  (h:Q (((sIx n 0 lo:Nat):Int),1,sIx n n hi - sIx n 0 lo) s):wpAny (model prog w) A (Builtin.Slice.sliceApplied (.ref sl) (pure (n:Int))) Q E s:=by
 obtain ⟨os,hos,hcs,hds⟩:=id hs
 unfold Builtin.Slice.sliceApplied Builtin.Slice.sliceFields
 refine wpAny_bind (wpAny_bind (wpAny_field hos hds (x:=vl) rfl (wpAny_bind (wpAny_field hos hds (x:=vu) rfl (wpAny_bind (wpAny_field hos hds (x:=.none) rfl (wpAny_pure ?_)))))))
 refine wpAny_bind (slicePart_none ?_)
 show wpAny _ _ (if ((1:Int) == 0)=true then _ else _) _ _ s
 rw [if_neg (by decide)]
 refine wpAny_bind (slicePart_ pl (wpAny_bind (slicePart_ pu (wpAny_bind (wpAny_pure ?_)))))
 show wpAny _ _ (match Builtin.Slice.sliceAdjust lo hi 1 (n:Int) with | (lo,hi)=>pure (lo,(1:Int),Builtin.Slice.slicePlaces lo hi 1)) _ _ s
 rw [adjust_gen lo hi n]
 show wpAny _ _ (pure (((sIx n 0 lo:Nat):Int),(1:Int),Builtin.Slice.slicePlaces ((sIx n 0 lo:Nat):Int) ((sIx n n hi:Nat):Int) 1)) _ _ s
 rw [places_gen]
 exact wpAny_pure h
theorem pick_gen (xs:Array Value) (i k:Nat):((List.range k).filterMap fun (m:Nat)=>xs[((i:Int)+(m:Int) * 1).toNat]?).toArray=((xs.toList.drop i).take k).toArray:=by
 have e:(fun (m:Nat)=>xs[((i:Int)+(m:Int) * 1).toNat]?)=fun m=>xs[i+m]?:=by
  funext m
  have:((i:Int)+(m:Int) * 1).toNat=i+m:=by (first|lia|omega)
  rw [this]
 rw [e]
 have:=pick_run xs i k
 rw [List.filterMap_map] at this
 have e2:((fun x=>xs[x]?) ∘ fun x=>i+x)=fun m=>xs[i+m]?:=rfl
 rw [e2] at this
 rw [this]
theorem getItem_tuple_cut {t sl:Addr}{items:Array Value}{vl vu:Value}{lo hi:Option Int}{Q:Value->Shared->Prop} (ht:IsTup s.heap t items) (hs:s.heap.IsSliceOf sl vl vu .none) (pl:IsPart vl lo) (pu:IsPart vu hi)
  (hw : ¬ (sIx items.size 0 lo=0/\sIx items.size items.size hi=items.size))
  (h:Q (.ref s.heap.objs.size) { s with heap:=s.heap.push { cls:=.type "tuple",data:=.seq ((items.toList.drop (sIx items.size 0 lo)).take (sIx items.size items.size hi - sIx items.size 0 lo)).toArray } })
  (hsz:items.size<=sizeLine):wpAny (model prog w) A (getItem (.ref t) (.ref sl)) Q E s:=by
 have htake:sizeOk (.seq ((items.toList.drop (sIx items.size 0 lo)).take (sIx items.size items.size hi - sIx items.size 0 lo)).toArray):=by
  show ((items.toList.drop (sIx items.size 0 lo)).take (sIx items.size items.size hi - sIx items.size 0 lo)).toArray.size<=sizeLine
  rw [List.size_toArray,List.length_take,List.length_drop,Array.length_toList]
  (first|lia|omega)
 have hj:sIx items.size items.size hi<=items.size:=sIx_le _ _ (Nat.le_refl _) hi
 obtain ⟨os,hos,hcs,hds⟩:=id hs
 have hTs:s.TypeIs (.ref sl) "slice":=⟨os,hos,hcs⟩
 unfold getItem
 try with_reducible refine wpAny_holding ?_
 first | refine wpAny_bind (wpAny_pure ?_) | skip
 refine wpAny_bind (wpAny_sequenceKey ht.typeIs (by decide) ?_)
 refine wpAny_bind (wpAny_callSpecial?_slot (name:=Str.ofString "__getitem__") ht.typeIs PyProof.Rows.slot_tuple_getitem
  (wpAny_call_entry PyProof.Rows.slot_tuple_getitem ht.typeIs entry_tuple_getitem ?_ (args_tuple_getitem _ _)))
 show wpAny _ _ (Builtin.Tuple.tupleItemsOf (.ref t) >>= _) _ _ s
 refine wpAny_bind (tupleItemsOf_ ht ?_)
 refine wpAny_bind (wpAny_typeOf hTs ?_)
 rw [if_pos (by decide)]
 refine wpAny_bind (sliceApplied_gen hs pl pu ?_)
 have hno : ¬ ((((sIx items.size 0 lo:Nat):Int) == 0 && (1:Int) == 1 && (sIx items.size items.size hi - sIx items.size 0 lo) == items.size)=true):=by
  intro q
  rw [Bool.and_eq_true,Bool.and_eq_true] at q
  have q1:((sIx items.size 0 lo:Nat):Int)=0:=eq_of_beq q.1.1
  have q2:sIx items.size items.size hi - sIx items.size 0 lo=items.size:=eq_of_beq q.2
  exact hw ⟨by (first|lia|omega),by (first|lia|omega)⟩
 show wpAny _ _ (if (((sIx items.size 0 lo:Nat):Int) == 0 && (1:Int) == 1 && (sIx items.size items.size hi - sIx items.size 0 lo) == items.size)=true then _ else _) _ _ s
 rw [if_neg hno,pick_gen]
 first
  | exact wpAny_bind (m:=Builtin.Tuple.tupleExact _) (wpAny_newObj_type (wpAny_pure ⟨_,rfl,wpAny_pure h⟩) htake)
  | exact wpAny_bind (m:=Builtin.Tuple.tupleExact _) (wpAny_newObj_type (wpAny_bind (wpAny_pure (wpAny_pure ⟨_,rfl,wpAny_pure h⟩))) htake)
  | exact wpAny_bind (wpAny_bind (m:=Builtin.Tuple.tupleExact _) (wpAny_newObj_type (wpAny_pure (wpAny_pure ⟨_,rfl,wpAny_pure h⟩)) htake))
  | exact wpAny_bind (wpAny_bind (m:=Builtin.Tuple.tupleExact _) (wpAny_newObj_type (wpAny_pure ⟨_,rfl,wpAny_pure h⟩) htake))
end
end HT
namespace L2
open PySem PySem.Spec PyProof.Rows
noncomputable abbrev TO:=St->Hp->(Option Int->Hp->Prop)->Prop
noncomputable def PO (X:Cx) (e:Option Expr) (t:TO):Prop:=
 ∀ (pins:List (Addr × Obj)) (s:Shared) (σ:St) (H:Hp) (Q:Option Int->Hp->Prop),Inv X pins σ H s->t σ H Q->
  wpAny (model X.prog X.w) X.A (evalPart e X.env) (fun u s'=>∃ o H',Inv X pins σ H' s'/\IsPart u o/\Q o H') X.xe s
noncomputable def tNoPart:TO:=fun _ H Q=>Q none H
noncomputable def tPart (t:TE):TO:=fun σ H Q=>t σ H fun x H1=>∃ i,x = .int i/\Q (some i) H1
theorem intsAre_of {ns:List Int}:∀ {us:List Value},Vals (ns.map V.int) us->IntsAre us ns:=by
 induction ns with
 | nil=>intro us r; rw [List.map_nil] at r; cases r; exact .nil
 | cons n ns ih=>
  intro us r
  rw [List.map_cons] at r
  cases r with
  | cons r1 r2=>
   obtain ⟨t,e⟩:=r1
   subst e
   exact .cons n t (ih r2)
section
variable {X : Cx} {e : Expr} {te : TE} {lo hi : Option Expr} {tl th : TO} {pos p2 : Pos}
theorem po_none:PO X none tNoPart:=by
 intro pins s σ H Q I h
 rw [evalPart_none]
 exact wpAny_pure ⟨none,H,I,.none,h⟩
theorem po_some (h:PE X e te):PO X (some e) (tPart te):=by
 intro pins s σ H Q I hw
 rw [evalPart_some]
 refine thn (h pins s σ H _ I hw) fun u s1 ⟨x,H1,I1,r1,q1⟩=>?_
 obtain ⟨i,rfl,q⟩:=q1
 obtain ⟨t,rfl⟩:=r1
 exact⟨some i,H1,I1,.int i t,q⟩
noncomputable def SlR (X:Cx) (r:V->Option Int->Option Int->Hp->VK->Prop):Prop:=
 ∀ (pins:List (Addr × Obj)) (s:Shared) (σ:St) (H:Hp) (x:V) (v vl vu:Value) (lo hi:Option Int) (sl:Addr) (Q:VK),Inv X pins σ H s->RelV x v->s.heap.IsSliceOf sl vl vu .none->IsPart vl lo->IsPart vu hi->r x lo hi H Q->
  ∃ T id,typeLookup (.type T) "__getitem__" = pure (some (.builtin id))/\s.TypeIs v T/\wpAny (model X.prog X.w) X.A (getItem v (.ref sl)) (EP X pins σ Q) X.xe s
theorem SlR.or {r r':V->Option Int->Option Int->Hp->VK->Prop} (h:SlR X r) (h':SlR X r'):SlR X (fun x lo hi H Q=>r x lo hi H Q ∨ r' x lo hi H Q):=by
 intro pins s σ H x v vl vu lo hi sl Q I rx hs pl pu q
 rcases q with q | q
 ·exact h pins s σ H x v vl vu lo hi sl Q I rx hs pl pu q
 ·exact h' pins s σ H x v vl vu lo hi sl Q I rx hs pl pu q
noncomputable def tSl (r:V->Option Int->Option Int->Hp->VK->Prop) (te:TE) (tl th:TO):TE:=fun σ H Q=>te σ H fun x H1=>tl σ H1 fun l H2=>th σ H2 fun u H3=>r x l u H3 Q
theorem pe_slice {r:V->Option Int->Option Int->Hp->VK->Prop} (hr:SlR X r) (he:PE X e te) (hl:PO X lo tl) (hu:PO X hi th):PE X (.Subscript e (.Slice lo hi none p2) pos) (tSl r te tl th):=by
 intro pins s σ H Q I h
 refine Subscript_ (thn (he pins s σ H _ I h) fun v s1 ⟨x,H1,I1,r1,q1⟩=>?_)
 refine wpAny_Slice (thn (hl pins s1 σ H1 _ I1 q1) fun vl s2 ⟨l,H2,I2,pl,q2⟩=>thn (hu pins s2 σ H2 _ I2 q2) fun vu s3 ⟨u,H3,I3,pu,q3⟩=>?_)
 rw [evalPart_none]
 refine wpAny_pure ?_
 have I4:Inv X pins σ H3 { s3 with heap:=s3.heap.push { cls:=.type "slice",data:=.fields #[vl,vu,.none] } }:=I3.kept (t':=s3.toks) fun b ob q=>Heap.get?_push_of_some _ q
 obtain ⟨T,id,hT,ht,hg⟩:=hr pins { s3 with heap:=s3.heap.push { cls:=.type "slice",data:=.fields #[vl,vu,.none] } } σ H3 x v vl vu l u s3.heap.objs.size Q I4 r1 (Heap.IsSliceOf.new ..) pl pu q3
 show wpAny (model X.prog X.w) X.A (subscriptTail e (.Slice lo hi none p2) v (.ref s3.heap.objs.size)) (EP X pins σ Q) X.xe { s3 with heap:=s3.heap.push { cls:=.type "slice",data:=.fields #[vl,vu,.none] } }
 exact tail_any (ops:=[.ref s3.heap.objs.size,v]) ht hT hg (by with_unfolding_all rfl)
noncomputable def cutV (xs:List V) (lo hi:Option Int):List V:=(xs.drop (HT.sIx xs.length 0 lo)).take (HT.sIx xs.length xs.length hi - HT.sIx xs.length 0 lo)
theorem cutV_length (xs:List V) (lo hi:Option Int):(cutV xs lo hi).length<=xs.length:=by
 unfold cutV
 rw [List.length_take,List.length_drop]
 (first|lia|omega)
noncomputable def rSlT (K:PySem.W.Frag):V->Option Int->Option Int->Hp->VK->Prop:=fun x lo hi H Q=>∃ a xs,x = .ref a/\SqT K H a xs/\
 ¬ (HT.sIx xs.length 0 lo=0/\HT.sIx xs.length xs.length hi=xs.length)/\∀ p,H p=none->Q (.ref p) (upd H p (.tup (cutV xs lo hi)))
theorem sl_tup:SlR X (rSlT X.K):=by
 intro pins s σ H x v vl vu lo hi sl Q I rx hs pl pu h
 obtain ⟨a,xs,rfl,hx,hw,q⟩:=h
 cases rx
 obtain ⟨its,r,ht,hz⟩:=I.tuple hx
 have hlen:its.toArray.size=xs.length:=by rw [List.size_toArray]; exact r.length.symm
 refine⟨"tuple",_,PyProof.Rows.slot_tuple_getitem.lookup,ht.typeIs,?_⟩
 refine HT.getItem_tuple_cut ht hs pl pu (by rw [hlen]; exact hw) ?_ (by rw [hlen]; exact hz)
 rw [hlen]
 refine⟨.ref s.heap.objs.size,_,I.laid (t':=s.toks) (o:=.tup (cutV xs lo hi)) (fun b ob q=>Heap.get?_push_of_some _ q) (Nat.le_refl _) ?_,rfl,q _ (I.hok.fresh (Nat.le_refl _))⟩
 exact⟨Nat.le_trans (cutV_length xs lo hi) hz,_,(r.drop (HT.sIx xs.length 0 lo)).take (HT.sIx xs.length xs.length hi - HT.sIx xs.length 0 lo),IsTup.new _ _⟩
end
end L2
namespace L2
open PySem PySem.Spec PyProof.Rows
noncomputable def ixN (n:Nat) (i:Int):Option Nat:=if 0<=i then (if i < n then some i.toNat else none) else if -(n:Int)<=i then some (i+n).toNat else none
noncomputable def atI {α:Type} (xs:List α) (i:Int):Option α:=(ixN xs.length i).bind fun j=>xs[j]?
theorem ixN_seq {n:Nat}{i:Int}{j:Nat} (h:ixN n i=some j):seqIndex? i n=some j/\j < n/\-(n:Int)<=i/\i < n:=by
 unfold ixN at h
 by_cases h0:0<=i
 ·rw [if_pos h0] at h
  by_cases h1:i < n
  ·rw [if_pos h1] at h
   have e:i.toNat=j:=Option.some.inj h
   exact⟨by rw [seqIndex_of h0 h1,e],by (first|lia|omega),by (first|lia|omega),h1⟩
  ·rw [if_neg h1] at h; cases h
 ·rw [if_neg h0] at h
  by_cases h1 : -(n:Int)<=i
  ·rw [if_pos h1] at h
   have e:(i+n).toNat=j:=Option.some.inj h
   exact⟨by rw [seqIndex_neg (by (first|lia|omega)) h1,e],by (first|lia|omega),h1,by (first|lia|omega)⟩
  ·rw [if_neg h1] at h; cases h
theorem atI_get {α:Type}{xs:List α}{i:Int}{v:α} (h:atI xs i=some v):∃ j,seqIndex? i xs.length=some j/\xs[j]? = some v/\j < xs.length/\-(xs.length:Int)<=i/\i < xs.length:=by
 unfold atI at h
 cases e:ixN xs.length i with
 | none=>rw [e] at h; cases h
 | some j=>
  rw [e] at h
  obtain ⟨h1,h2,h3,h4⟩:=ixN_seq e
  exact⟨j,h1,h,h2,h3,h4⟩
theorem atI_nat {α:Type}{xs:List α}{j:Nat}{v:α} (h:xs[j]? = some v):atI xs (j:Int)=some v:=by
 have hj:j < xs.length:=(List.getElem?_eq_some_iff.mp h).1
 have e:ixN xs.length (j:Int)=some j:=by
  unfold ixN
  rw [if_pos (by (first|lia|omega)),if_pos (by (first|lia|omega))]; simp
 unfold atI; rw [e]; exact h
theorem atI_last {α:Type} (xs:List α) (v:α):atI (xs ++ [v]) (-1)=some v:=by
 have hl:(xs ++ [v]).length=xs.length+1:=by simp
 have e:ixN (xs ++ [v]).length (-1)=some xs.length:=by
  unfold ixN
  rw [hl,if_neg (by decide),if_pos (by (first|lia|omega))]
  congr 1
  (first|lia|omega)
 unfold atI
 rw [e]
 show (xs ++ [v])[xs.length]? = some v
 simp
noncomputable def PlainIx (b:Expr):Prop:=∀ o i,subscripted b false o i=operate [o,i] (getItem o i)
noncomputable def IxR (X:Cx) (r:R2):Prop:=
 ∀ (value slice:Expr) (pins:List (Addr × Obj)) (s:Shared) (σ:St) (H:Hp) (x y:V) (v u:Value) (Q:VK),Inv X pins σ H s->RelV x v->RelV y u->r x y H Q->
  subscripted slice false v u=operate [v,u] (getItem v u)->wpAny (model X.prog X.w) X.A (subscriptTail value slice v u) (EP X pins σ Q) X.xe s
noncomputable def MtR (X:Cx) (id:String) (r:V->List V->Hp->VK->Prop):Prop:=
 ∀ (pins:List (Addr × Obj)) (s:Shared) (σ:St) (H:Hp) (x:V) (xs:List V) (v:Value) (us:List Value) (Q:VK),Inv X pins σ H s->RelV x v->Vals xs us->r x xs H Q->
  wpAny (model X.prog X.w) X.A (call (.builtin id) (v :: us)) (EP X pins σ Q) X.xe s
section
variable {X : Cx} {a b : Expr} {ta tb : TE} {pos : Pos}
theorem IxR.or {r r':R2} (h:IxR X r) (h':IxR X r'):IxR X (fun x y H Q=>r x y H Q ∨ r' x y H Q):=by
 intro value slice pins s σ H x y v u Q I rx ry q hs
 rcases q with q | q
 ·exact h value slice pins s σ H x y v u Q I rx ry q hs
 ·exact h' value slice pins s σ H x y v u Q I rx ry q hs
theorem pe_ix {r:R2} (hr:IxR X r) (ha:PE X a ta) (hb:PE X b tb) (hs:PlainIx b):PE X (.Subscript a b pos) (tOp r ta tb):=by
 intro pins s σ H Q I h
 exact Subscript_ (binT ha hb I h fun v u s2 x y H2 I2 rx ry q=>hr a b pins s2 σ H2 x y v u Q I2 rx ry q (hs _ _))
noncomputable def rIxL (K:PySem.W.Frag):R2:=fun x y H Q=>∃ p xs i v,x = .ref p/\y = .int i/\SqL K H p xs/\atI xs i=some v/\Q v H
noncomputable def rIxT (K:PySem.W.Frag):R2:=fun x y H Q=>∃ p xs i v,x = .ref p/\y = .int i/\SqT K H p xs/\atI xs i=some v/\Q v H
noncomputable def rIxS:R2:=fun x y H Q=>∃ z i c,x = .str z/\y = .int i/\z.length<=sizeLine/\atI z.cps.toList i=some c/\Q (.str ⟨#[c]⟩) H
theorem ix_list:IxR X (rIxL X.K):=by
 intro value slice pins s σ H x y v u Q I rx ry h hs
 obtain ⟨p,xs,i,z,rfl,rfl,hq,he,q⟩:=h
 cases rx
 obtain ⟨t,rfl⟩:=ry
 obtain ⟨its,r,pl,hz⟩:=I.list hq
 obtain ⟨j,h1,h2,h3,h4,h5⟩:=atI_get he
 obtain ⟨w,ew,rw'⟩:=r.get h2
 have hl:=r.length
 have hn:=line63
 have fin:EP X pins σ Q w s:=⟨z,H,I,rw',q⟩
 by_cases h0:0<=i
 ·have hj:i.toNat=j:=by
   rw [seqIndex_of h0 h5] at h1
   exact Option.some.inj h1
  exact item_listR pl.isList h0 (by (first|lia|omega)) (by rw [hj]; simpa using ew) fin hs
 ·have hj:(i+(its.toArray.size:Int)).toNat=j:=by
   rw [seqIndex_neg (by (first|lia|omega)) h4] at h1
   rw [List.size_toArray,<- hl]
   exact Option.some.inj h1
  exact subscriptTail_builtinR (x:=w) pl.isList.typeIs slot_list_getitem.lookup
   (wpAny_getItem_list_neg (Q:=fun r s'=>r=w/\EP X pins σ Q r s') pl.isList (by (first|lia|omega)) (by rw [List.size_toArray] <;> (first|lia|omega)) (by (first|lia|omega)) (by rw [hj]; simpa using ew) ⟨rfl,fin⟩) hs
theorem ix_tup:IxR X (rIxT X.K):=by
 intro value slice pins s σ H x y v u Q I rx ry h hs
 obtain ⟨p,xs,i,z,rfl,rfl,hq,he,q⟩:=h
 cases rx
 obtain ⟨t,rfl⟩:=ry
 obtain ⟨its,r,pl,hz⟩:=I.tuple hq
 obtain ⟨j,h1,h2,h3,h4,h5⟩:=atI_get he
 obtain ⟨w,ew,rw'⟩:=r.get h2
 have hl:=r.length
 have hn:=line63
 have fin:EP X pins σ Q w s:=⟨z,H,I,rw',q⟩
 exact subscriptTail_builtinR (x:=w) pl.typeIs slot_tuple_getitem.lookup
  (getItem_tuple (j:=j) (Q:=fun r s'=>r=w/\EP X pins σ Q r s') pl (by (first|lia|omega)) (by (first|lia|omega)) (by rw [List.size_toArray,<- hl]; exact h1) (by simpa using ew) ⟨rfl,fin⟩) hs
theorem ix_str:IxR X rIxS:=by
 intro value slice pins s σ H x y v u Q I rx ry h hs
 obtain ⟨z,i,c,rfl,rfl,hz,he,q⟩:=h
 obtain ⟨t,rfl⟩:=rx
 obtain ⟨t',rfl⟩:=ry
 obtain ⟨j,h1,h2,h3,h4,h5⟩:=atI_get he
 have hl:z.cps.toList.length=z.length:=by simp [Str.length]
 rw [hl] at h1 h4 h5
 have hn:=line63
 exact tail_any (typeIs_str s z t) slot_str_getitem.lookup (getItem_str (c:=c) (by
  have e1:decide (i < -(2 ^ 63:Int))=false:=decide_eq_false (by (first|lia|omega))
  have e2:decide (i >= 2 ^ 63)=false:=decide_eq_false (by (first|lia|omega))
  rw [e1,e2,Bool.or_false]) (by rw [h1]; simpa using h2) ⟨.str ⟨#[c]⟩,H,I.tok _,⟨_,rfl⟩,q⟩) hs
noncomputable def rIx (K:PySem.W.Frag):R2:=fun x y H Q=>rIxL K x y H Q ∨ rIxT K x y H Q ∨ rIxS x y H Q
theorem ix_seq:IxR X (rIx X.K):=ix_list.or (ix_tup.or ix_str)
theorem mapSeq_set (its:List Value) (n j:Nat) (u:Value):Obj.mapSeq (·.setIfInBounds j u) { cls:=.type "list",data:=.seq its.toArray n }={ cls:=.type "list",data:=.seq (its.set j u).toArray n }:=by
 simp [Obj.mapSeq]
theorem Inv.lst {pins:List (Addr × Obj)}{σ:St}{H:Hp}{s:Shared}{p:Addr}{xs:List V} (I:Inv X pins σ H s) (h:H p=some (.lst xs)) :
  ∃ (its:List Value) (n:Nat),Vals xs its/\s.heap.get? p=some { cls:=.type "list",data:=.seq its.toArray n }/\xs.length<=sizeLine:=by
 obtain ⟨z,its,n,r,e⟩:=I.hok p _ h
 exact⟨its,n,r,e,z⟩
theorem Inv.lstUpd {pins:List (Addr × Obj)}{σ:St}{H:Hp}{s:Shared}{p:Addr}{xs ys:List V}{its its':List Value}{n n':Nat}{f:Obj->Obj} (I:Inv X pins σ H s) (h:H p=some (.lst xs))
  (ho:s.heap.get? p=some { cls:=.type "list",data:=.seq its.toArray n }) (hf:f { cls:=.type "list",data:=.seq its.toArray n }={ cls:=.type "list",data:=.seq its'.toArray n' }) (r:Vals ys its') (hz:ys.length<=sizeLine) (t:Nat) :
  Inv X pins σ (upd H p (.lst ys)) { s with heap:=s.heap.update p f,toks:=t }:=by
 have e:(s.heap.update p f).get? p=some { cls:=.type "list",data:=.seq its'.toArray n' }:=by
  rw [Heap.get?_update_self f ho (by rw [hf] <;> rfl),hf]
 refine I.write (x:=p) (e:=p) (by rw [h]; trivial) (.inl rfl) (fun b u hb q=>(Heap.get?_update_other _ _ (Ne.symm hb)).trans q) ⟨_,e⟩ ?_
 exact⟨hz,its',n',r,e⟩
noncomputable def rSetL:V->V->V->Hp->(Hp->Prop)->Prop:=fun o i v H Q=>∃ p xs k j,o = .ref p/\i = .int k/\H p=some (.lst xs)/\ixN xs.length k=some j/\Q (upd H p (.lst (xs.set j v)))
theorem set_list:PSet X rSetL:=by
 intro pins s σ H o i v ov iv u Q I ro ri rv h
 obtain ⟨p,xs,k,j,rfl,rfl,hp,hj,q⟩:=h
 cases ro
 obtain ⟨t,rfl⟩:=ri
 obtain ⟨its,n,r,ho,hz⟩:=I.lst hp
 obtain ⟨h1,h2,h3,h4⟩:=ixN_seq hj
 have hl:=r.length
 have hn:=line63
 have I':Inv X pins σ (upd H p (.lst (xs.set j v))) { s with heap:=s.heap.update p (Obj.mapSeq (·.setIfInBounds j u)) }:=
  I.lstUpd hp ho (mapSeq_set its n j u) (r.set rv j) (by rw [List.length_set]; exact hz) s.toks
 by_cases h0:0<=k
 ·have hk:k.toNat=j:=by
   rw [seqIndex_of h0 h4] at h1
   exact Option.some.inj h1
  exact PySem.W.ki_setAt ho h0 (by (first|lia|omega)) (by rw [List.size_toArray,<- hl]; exact h4) (by rw [hk]; exact⟨_,I',q⟩)
 ·have hk:(k+(its.toArray.size:Int)).toNat=j:=by
   rw [seqIndex_neg (by (first|lia|omega)) h3] at h1
   rw [List.size_toArray,<- hl]
   exact Option.some.inj h1
  exact PySem.W.ki_setBack ho (by (first|lia|omega)) (by rw [List.size_toArray,<- hl]; exact h3) (by (first|lia|omega)) (by rw [hk]; exact⟨_,I',q⟩)
theorem slice_bounds (lo hi:Option Int) (n:Nat):(sliceBounds lo hi none n).1=((HT.sIx n 0 lo:Nat):Int)/\(sliceBounds lo hi none n).2.1=((HT.sIx n n hi:Nat):Int)/\(sliceBounds lo hi none n).2.2=1:=by
 refine⟨?_,?_,rfl⟩
 ·cases lo with
  | none=>simp [sliceBounds,HT.sIx]
  | some i=>
   simp only [sliceBounds,HT.sIx,Option.getD_none,show (1:Int) > 0 by decide,if_true]
   by_cases h:i < 0
   ·simp only [h,if_true] <;> (first|lia|omega)
   ·simp only [h,if_false] <;> (first|lia|omega)
 ·cases hi with
  | none=>simp [sliceBounds,HT.sIx]
  | some i=>
   simp only [sliceBounds,HT.sIx,Option.getD_none,show (1:Int) > 0 by decide,if_true]
   by_cases h:i < 0
   ·simp only [h,if_true] <;> (first|lia|omega)
   ·simp only [h,if_false] <;> (first|lia|omega)
theorem slicePick_cut (its:List Value) (lo hi:Option Int):slicePick its.toArray lo hi none=((its.drop (HT.sIx its.length 0 lo)).take (HT.sIx its.length its.length hi - HT.sIx its.length 0 lo)).toArray:=by
 obtain ⟨h1,h2,h3⟩:=slice_bounds lo hi its.toArray.size
 unfold slicePick
 rw [h1,h2,h3]
 simp only [sliceRange_one,pick_run,List.size_toArray] <;> rfl
noncomputable def rSlL (K:PySem.W.Frag):V->Option Int->Option Int->Hp->VK->Prop:=fun x lo hi H Q=>∃ a xs,x = .ref a/\SqL K H a xs/\∀ p,H p=none->Q (.ref p) (upd H p (.lst (cutV xs lo hi)))
theorem sl_list:SlR X (rSlL X.K):=by
 intro pins s σ H x v vl vu lo hi sl Q I rx hs pl pu h
 obtain ⟨a,xs,rfl,hx,q⟩:=h
 cases rx
 obtain ⟨its,r,ht,hz⟩:=I.list hx
 have hlen:=r.length
 refine⟨"list",_,slot_list_getitem.lookup,ht.isList.typeIs,?_⟩
 refine wpAny_getItem_list_slice ht.isList hs pl pu .none (by simp) ?_ (by rw [List.size_toArray] <;> (first|lia|omega))
 rw [slicePick_cut,<- hlen]
 refine⟨.ref s.heap.objs.size,_,I.laid (t':=s.toks) (o:=.lst (cutV xs lo hi)) (fun b ob q=>Heap.get?_push_of_some _ q) (Nat.le_refl _) ?_,rfl,q _ (I.hok.fresh (Nat.le_refl _))⟩
 exact⟨Nat.le_trans (cutV_length xs lo hi) hz,_,0,(r.drop (HT.sIx xs.length 0 lo)).take (HT.sIx xs.length xs.length hi - HT.sIx xs.length 0 lo),Heap.get?_push_size _ rfl⟩
noncomputable def flatV:V->Bool
 | .non=>true
 | .bl _=>true
 | .int _=>true
 | .str _=>true
 | _=>false
noncomputable def eqV:V->V->Bool
 | .non,.non=>true
 | .bl a,.bl b=>a == b
 | .bl a,.int b=>(if a then 1 else 0) == b
 | .int a,.bl b=>a == (if b then 1 else 0)
 | .int a,.int b=>a == b
 | .str a,.str b=>a == b
 | _,_=>false
theorem eqAt_V {A:Around}{s:Shared}{y x:V}{u v:Value} (ry:RelV y u) (rx:RelV x v) (fy:flatV y=true) (fx:flatV x=true):SeqAt.EqAt A s u v (eqV y x):=by
 cases y with
 | non=>
  cases ry
  cases x with
  | non=>cases rx; exact SeqAt.EqAt.same _
  | bl b=>cases rx; exact SeqAt.EqAt.none_bool b
  | int b=>obtain ⟨t,rfl⟩:=rx; exact SeqAt.EqAt.none_int b t
  | str b=>obtain ⟨t,rfl⟩:=rx; exact SeqAt.EqAt.none_str b t
  | _=>exact absurd (show false=true from fx) Bool.false_ne_true
 | bl a=>
  cases ry
  cases x with
  | non=>cases rx; exact SeqAt.EqAt.bool_none a
  | bl b=>cases rx; exact SeqAt.EqAt.bool_bool a b
  | int b=>obtain ⟨t,rfl⟩:=rx; exact SeqAt.EqAt.bool_int a b t
  | str b=>obtain ⟨t,rfl⟩:=rx; exact SeqAt.EqAt.bool_str a b t
  | _=>exact absurd (show false=true from fx) Bool.false_ne_true
 | int a=>
  obtain ⟨t',rfl⟩:=ry
  cases x with
  | non=>cases rx; exact SeqAt.EqAt.int_none a t'
  | bl b=>cases rx; exact SeqAt.EqAt.int_bool a t' b
  | int b=>obtain ⟨t,rfl⟩:=rx; exact SeqAt.EqAt.int_int a t' b t
  | str b=>obtain ⟨t,rfl⟩:=rx; exact SeqAt.EqAt.int_str a t' b t
  | _=>exact absurd (show false=true from fx) Bool.false_ne_true
 | str a=>
  obtain ⟨t',rfl⟩:=ry
  cases x with
  | non=>cases rx; exact SeqAt.EqAt.str_none a t'
  | bl b=>cases rx; exact SeqAt.EqAt.str_bool a t' b
  | int b=>obtain ⟨t,rfl⟩:=rx; exact SeqAt.EqAt.str_int a t' b t
  | str b=>obtain ⟨t,rfl⟩:=rx; exact SeqAt.EqAt.str_str a t' b t
  | _=>exact absurd (show false=true from fx) Bool.false_ne_true
 | _=>exact absurd (show false=true from fy) Bool.false_ne_true
noncomputable def eqU (x:V) (u:Value):Bool:=match u with
 | .none=>eqV .non x
 | .bool b=>eqV (.bl b) x
 | .int i _=>eqV (.int i) x
 | .str z _=>eqV (.str z) x
 | _=>false
theorem eqU_of {x y:V}{u:Value} (r:RelV y u) (f:flatV y=true):eqU x u=eqV y x:=by
 cases y with
 | non=>cases r; rfl
 | bl b=>cases r; rfl
 | int i=>obtain ⟨t,rfl⟩:=r; rfl
 | str z=>obtain ⟨t,rfl⟩:=r; rfl
 | _=>exact absurd (show false=true from f) Bool.false_ne_true
theorem any_eqU {x:V}:∀ {xs:List V}{us:List Value},Vals xs us->xs.all flatV=true->us.any (eqU x)=xs.any fun y=>eqV y x
 | _,_,.nil,_=>rfl
 | y :: xs,u :: us,.cons r t,f=>by
  rw [List.all_cons,Bool.and_eq_true] at f
  rw [List.any_cons,List.any_cons,eqU_of r f.1,any_eqU t f.2]
theorem mem_eqAt {A:Around}{s:Shared}{x:V}{v:Value} (rx:RelV x v) (fx:flatV x=true):∀ {xs:List V}{us:List Value},Vals xs us->xs.all flatV=true->∀ u ∈ us,SeqAt.EqAt A s u v (eqU x u)
 | _,_,.nil,_=>fun u hu=>by cases hu
 | y :: xs,u :: us,.cons r t,f=>fun u' hu=>by
  rw [List.all_cons,Bool.and_eq_true] at f
  rcases List.mem_cons.mp hu with rfl | hu
  ·rw [eqU_of r f.1]; exact eqAt_V r rx f.1 fx
  ·exact mem_eqAt rx fx t f.2 u' hu
noncomputable def inV (x:V) (xs:List V):Bool:=xs.any fun y=>eqV y x
noncomputable def rIn (K:PySem.W.Frag) (neg:Bool):R2:=fun x y H Q=>∃ p xs,y = .ref p/\(SqL K H p xs ∨ SqT K H p xs)/\flatV x=true/\xs.all flatV=true/\Q (.bl (if neg then !inV x xs else inV x xs)) H
theorem op_in_seq:OpR X (compareOp .In) (rIn X.K false):=by
 intro pins s σ H x y v u Q I rx ry h
 obtain ⟨p,xs,rfl,hq,fx,fs,q⟩:=h
 cases ry
 rcases hq with hq | hq
 ·obtain ⟨its,r,pl,hz⟩:=I.list hq
  refine SeqAt.in_listAt (eqU x) pl.isList (fun w hw=>mem_eqAt rx fx r fs w (by simpa using hw)) ⟨.bl _,H,I,rfl,?_⟩
  rw [show its.toArray.any (eqU x)=its.any (eqU x) by simp,any_eqU r fs]
  exact q
 ·obtain ⟨its,r,pl,hz⟩:=I.tuple hq
  refine SeqAt.in_tupleAt (eqU x) pl (fun w hw=>mem_eqAt rx fx r fs w (by simpa using hw)) ⟨.bl _,H,I,rfl,?_⟩
  rw [show its.toArray.any (eqU x)=its.any (eqU x) by simp,any_eqU r fs]
  exact q
theorem op_notIn_seq:OpR X (compareOp .NotIn) (rIn X.K true):=by
 intro pins s σ H x y v u Q I rx ry h
 obtain ⟨p,xs,rfl,hq,fx,fs,q⟩:=h
 cases ry
 rcases hq with hq | hq
 ·obtain ⟨its,r,pl,hz⟩:=I.list hq
  refine SeqAt.notIn_listAt (eqU x) pl.isList (fun w hw=>mem_eqAt rx fx r fs w (by simpa using hw)) ⟨.bl _,H,I,rfl,?_⟩
  rw [show its.toArray.any (eqU x)=its.any (eqU x) by simp,any_eqU r fs]
  exact q
 ·obtain ⟨its,r,pl,hz⟩:=I.tuple hq
  refine SeqAt.notIn_tupleAt (eqU x) pl (fun w hw=>mem_eqAt rx fx r fs w (by simpa using hw)) ⟨.bl _,H,I,rfl,?_⟩
  rw [show its.toArray.any (eqU x)=its.any (eqU x) by simp,any_eqU r fs]
  exact q
theorem call_len_seq:CallR X (.builtin "len") (fun xs H Q=>∃ p ys,xs = [.ref p]/\(SqL X.K H p ys ∨ SqT X.K H p ys)/\Q (.int ys.length) H):=by
 intro pins s σ H xs us Q I r h
 obtain ⟨p,ys,rfl,hq,q⟩:=h
 obtain ⟨u,rfl,rx⟩:=vals1 r
 cases rx
 have hn:=line63
 rcases hq with hq | hq
 ·obtain ⟨its,r',pl,hz⟩:=I.list hq
  have hlen:=r'.length
  exact Calls.call_len_list pl.isList (by simp only [List.size_toArray] <;> (first|lia|omega)) ⟨.int ys.length,H,I.tok _,⟨s.toks+1,by rw [List.size_toArray,hlen]⟩,q⟩
 ·obtain ⟨its,r',pl,hz⟩:=I.tuple hq
  have hlen:=r'.length
  exact len_tuple pl (by simp only [List.size_toArray] <;> (first|lia|omega)) ⟨.int ys.length,H,I.tok _,⟨s.toks+1,by rw [List.size_toArray,hlen]⟩,q⟩
theorem CallR.or {f:Value}{r r':List V->Hp->VK->Prop} (h:CallR X f r) (h':CallR X f r'):CallR X f (fun xs H Q=>r xs H Q ∨ r' xs H Q):=by
 intro pins s σ H xs us Q I rs q
 rcases q with q | q
 ·exact h pins s σ H xs us Q I rs q
 ·exact h' pins s σ H xs us Q I rs q
theorem call_list_of:CallR X (.type "list") (fun xs H Q=>∃ p ys,xs = [.ref p]/\(SqL X.K H p ys ∨ SqT X.K H p ys)/\∀ l,H l=none->Q (.ref l) (upd H l (.lst ys))):=by
 intro pins s σ H xs us Q I r h
 obtain ⟨p,ys,rfl,hq,q⟩:=h
 obtain ⟨u,rfl,rx⟩:=vals1 r
 cases rx
 have fin:∀ (its:List Value),Vals ys its->ys.length<=sizeLine->∀ (h':Heap) (c':Nat),(∀ b o',s.heap.get? b=some o'->h'.get? b=some o')->
   h'.get? s.heap.objs.size=some { cls:=.type "list",dict:=none,data:=.seq its.toArray c',slots:=#[] }->EP X pins σ Q (.ref s.heap.objs.size) { s with heap:=h' }:=fun its r' hz h' c' kp e=>
  ⟨.ref s.heap.objs.size,_,I.laid (t':=s.toks) kp (Nat.le_refl _) (show ObjOk X.prog X.w _ h' _ (.lst ys) from ⟨hz,its,c',r',e⟩),rfl,q _ (I.hok.fresh (Nat.le_refl _))⟩
 rcases hq with hq | hq
 ·obtain ⟨its,r',pl,hz⟩:=I.list hq
  have hlen:=r'.length
  obtain ⟨o,ho,hc,n,hd⟩:=pl.isList
  exact call_list_seq p (.inl rfl) ho hc hd (fun h' c' kp e=>fin its r' hz h' c' kp e) (by simp only [List.size_toArray] <;> (first|lia|omega))
 ·obtain ⟨its,r',pl,hz⟩:=I.tuple hq
  have hlen:=r'.length
  obtain ⟨o,ho,hc,n,hd⟩:=pl
  exact call_list_seq p (.inr rfl) ho hc hd (fun h' c' kp e=>fin its r' hz h' c' kp e) (by simp only [List.size_toArray] <;> (first|lia|omega))
theorem call_tuple_of:CallR X (.type "tuple") (fun xs H Q=>∃ p ys,xs = [.ref p]/\((SqL X.K H p ys/\∀ l,H l=none->Q (.ref l) (upd H l (.tup ys))) ∨ (SqT X.K H p ys/\Q (.ref p) H))):=by
 intro pins s σ H xs us Q I r h
 obtain ⟨p,ys,rfl,h⟩:=h
 obtain ⟨u,rfl,rx⟩:=vals1 r
 cases rx
 rcases h with ⟨hq,q⟩ | ⟨hq,q⟩
 ·obtain ⟨its,r',pl,hz⟩:=I.list hq
  have hlen:=r'.length
  refine call_tuple_list pl.isList (fun h' kp=>?_) (by simp only [List.size_toArray] <;> (first|lia|omega))
  have I1:Inv X pins σ H { s with heap:=h' }:=I.kept (t':=s.toks) kp
  have I2:Inv X pins σ (upd H h'.objs.size (.tup ys)) { s with heap:=h'.push { cls:=.type "tuple",data:=.seq its.toArray } }:=
   I1.laid (t':=s.toks) (fun b o e=>Heap.get?_push_of_some _ e) (Nat.le_refl _) (show ObjOk X.prog X.w _ _ _ (.tup ys) from ⟨hz,its,r',IsTup.new _ _⟩)
  exact⟨.ref h'.objs.size,_,I2,rfl,q _ (I1.hok.fresh (Nat.le_refl _))⟩
 ·obtain ⟨its,r',pl,hz⟩:=I.tuple hq
  exact call_tuple_same pl ⟨.ref p,H,I,rfl,q⟩
noncomputable def tyV (K:PySem.W.Frag) (T:String) (x:V) (H:Hp):Prop:=match x with
 | .str _=>T="str"
 | .int _=>T="int"
 | .ref p=>(T="list"/\∃ xs,SqL K H p xs) ∨ (T="tuple"/\∃ o,K.lookup p=some o/\o.cls = .type "tuple"/\o.dict=none) ∨
   (T="dict"/\((∃ kvs,H p=some (.dK kvs)) ∨ ∃ kvs,H p=some (.dT kvs))) ∨ (T="set"/\∃ S n,H p=some (.set S n))
 | _=>False
theorem tyV_is {pins:List (Addr × Obj)}{σ:St}{H:Hp}{s:Shared}{T:String}{x:V}{v:Value} (I:Inv X pins σ H s) (r:RelV x v) (ty:tyV X.K T x H) :
  s.TypeIs v T/\∀ a,v = .ref a->∃ ob,s.heap.get? a=some ob/\ob.dict=none:=by
 cases x with
 | str z=>
  obtain ⟨t,rfl⟩:=r
  cases (show T="str" from ty)
  exact⟨typeIs_str s z t,fun _ e=>nomatch e⟩
 | int i=>
  obtain ⟨t,rfl⟩:=r
  cases (show T="int" from ty)
  exact⟨typeIs_int s i t,fun _ e=>nomatch e⟩
 | ref p=>
  cases r
  rcases ty with ⟨rfl,xs,hq⟩ | ⟨rfl,o,hk,hc,hd⟩ | ⟨rfl,hk⟩ | ⟨rfl,S,n,hk⟩
  ·obtain ⟨its,_,pl,_⟩:=I.list hq
   refine⟨pl.isList.typeIs,fun a e=>?_⟩
   cases e
   obtain ⟨o,n,e,c,hd,_⟩:=pl
   exact⟨o,e,hd⟩
  ·refine⟨⟨o,I.kIn p o hk,hc⟩,fun a e=>?_⟩
   cases e
   exact⟨o,I.kIn _ o hk,hd⟩
  ·have z:∃ o,s.heap.get? p=some o/\o.ExactDict:=by
    rcases hk with ⟨kvs,hk⟩ | ⟨kvs,hk⟩
    ·obtain ⟨_,_,_,_,o,_,_,e,ex,_⟩:=I.hok p _ hk
     exact⟨o,e,ex⟩
    ·obtain ⟨_,_,_,_,o,_,_,e,ex,_⟩:=I.hok p _ hk
     exact⟨o,e,ex⟩
   obtain ⟨o,e,ex⟩:=z
   refine⟨⟨o,e,ex.1⟩,fun a e2=>?_⟩
   cases e2
   exact⟨o,e,ex.2.1⟩
  ·obtain ⟨o,_,_,_,e,ex,_⟩:=I.hok p _ hk
   refine⟨⟨o,e,ex.1⟩,fun a e2=>?_⟩
   cases e2
   exact⟨o,e,ex.2.1⟩
 | _=>exact False.elim ty
noncomputable def tBM (K:PySem.W.Frag) (T:String) (r:V->List V->Hp->VK->Prop) (to:TE) (t:TA):TE:=fun σ H Q=>to σ H fun x H1=>tyV K T x H1/\t σ H1 fun xs H2=>r x xs H2 Q
variable {o e : Expr} {es : List Expr} {to : TE} {t : TA} {name : Str} {apos cpos : Pos} {T id : String} {r : V → List V → Hp → VK → Prop}
theorem pe_bm (pa:PlainAttrs T) (slot:Slot T name id) (hty:typeOf (.builtin id)=pure (.type "method_descriptor")) (hm:MtR X id r) (ho:PE X o to) (ha:PA X (e :: es) t)
  (hbase:attributeBase o name X.env (eval o X.env)=eval o X.env:=by rfl)
  (hfew:((backTo cpos (starEach (e :: es) X.env)).all (fun x=>!x.1) && (backToKw cpos (keywordEach [] X.env)).all (fun x=>x.1.isSome)
   && decide ((e :: es).length+([]:List Keyword).length+(if ([]:List Keyword).isEmpty then 0 else 1) < 30))=true:=by rfl)
  (hline:(apos.endLine == cpos.line)=true:=by rfl) (hs:starEach (e :: es) X.env=(false,eval e X.env) :: starEach es X.env:=by rfl) (hplain:(backTo cpos (starEach es X.env)).any (·.1)=false:=by rfl) :
  PE X (.Call (.Attribute o name apos) (e :: es) [] cpos) (tBM X.K T r to t):=by
 intro pins s σ H Q I h
 refine wpAny_Call_method_late hbase hfew hline rfl (thn (ho pins s σ H _ I h) fun v s1 ⟨x,H1,I1,r1,ty,q1⟩=>?_)
 obtain ⟨h1,h2⟩:=tyV_is I1 r1 ty
 refine⟨T,id,pa,slot,hty,h1,h2,?_⟩
 have hA:=ha cpos pins s1 σ H1 _ I1 q1
 rw [hs] at hA ⊢
 refine Calls.callWith_builtin (by show (false || (backTo cpos (starEach es X.env)).any (·.1))=false; rw [hplain] <;> rfl) (Calls.evalArgs_plain ?_)
 exact thn hA fun us s2 ⟨vs,H2,I2,r2,q2⟩=>hm pins s2 σ H2 x vs v us Q I2 r1 r2 q2
end
end L2
namespace L2
open PySem PySem.Spec PyProof.Rows
noncomputable def MtM (X:Cx) (id:String) (r:V->List V->Hp->VK->Prop):Prop:=
 ∀ (pins:List (Addr × Obj)) (s:Shared) (σ:St) (H:Hp) (x:V) (xs:List V) (v:Value) (us:List Value) (Q:VK),Inv X pins σ H s->RelV x v->Vals xs us->r x xs H Q->
  wpAny (model X.prog X.w) X.A (call (.builtin id) (v :: us)) (EP X pins σ Q) X.xe s
theorem Vals.one {x:V}{us:List Value} (h:Vals [x] us):∃ u,us = [u]/\RelV x u:=by
 cases h with
 | cons r t=>
  cases t
  exact⟨_,rfl,r⟩
theorem Vals.two {x y:V}{us:List Value} (h:Vals [x,y] us):∃ u v,us = [u,v]/\RelV x u/\RelV y v:=by
 cases h with
 | cons r t=>
  cases t with
  | cons q t=>
   cases t
   exact⟨_,_,rfl,r,q⟩
theorem Vals.rep {xs:List V}{us:List Value} (h:Vals xs us):∀ k:Nat,Vals (List.replicate k xs).flatten (List.replicate k us).flatten
 | 0=>.nil
 | k+1=>by
  rw [List.replicate_succ,List.replicate_succ,List.flatten_cons,List.flatten_cons]
  exact Vals.append h (Vals.rep h k)
theorem foldl_rep (its:List Value):∀ (k:Nat) (acc:List Value),
  List.foldl (fun x1 x2=>x1 ++ x2) acc.toArray (List.replicate k its.toArray)=(acc ++ (List.replicate k its).flatten).toArray
 | 0,acc=>by simp
 | k+1,acc=>by
  have e:acc.toArray ++ its.toArray=(acc ++ its).toArray:=by simp
  have e2:(acc ++ its) ++ (List.replicate k its).flatten=acc ++ (List.replicate (k+1) its).flatten:=by
   rw [List.replicate_succ,List.flatten_cons,List.append_assoc]
  rw [<- e2,<- foldl_rep its k (acc ++ its),<- e,List.replicate_succ,List.foldl_cons]
section
variable {X : Cx} {pins : List (Addr × Obj)} {σ : St} {H : Hp} {s : Shared} {l b : Addr} {xs ys zs : List V}
theorem Inv.lset {its its':List Value}{n:Nat}{f:Array Value->Array Value}{t':Nat} (I:Inv X pins σ H s) (hH:H l=some (.lst xs))
  (e:s.heap.get? l=some { cls:=.type "list",data:=.seq its.toArray n }) (hf:f its.toArray=its'.toArray) (hv:Vals ys its') (hz:ys.length<=sizeLine) :
  Inv X pins σ (upd H l (.lst ys)) { s with heap:=s.heap.update l (Obj.mapSeq f),toks:=t' }:=by
 have q:=PySem.IsL.update e f
 rw [hf] at q
 refine I.write (x:=l) (e:=l) (by rw [hH]; exact trivial) (.inl rfl) (fun b' u hb hu=>(Heap.get?_update_other s.heap (Obj.mapSeq f) (Ne.symm hb)).trans hu) ⟨_,q⟩ ?_
 exact⟨hz,its',_,hv,q⟩
theorem Inv.lnew {its:List Value}{t':Nat} (I:Inv X pins σ H s) (hv:Vals ys its) (hz:ys.length<=sizeLine) :
  Inv X pins σ (upd H s.heap.objs.size (.lst ys)) { s with heap:=s.heap.push { cls:=.type "list",data:=.seq its.toArray },toks:=t' }:=
 I.laid (fun _ _ q=>Heap.get?_push_of_some _ q) (Nat.le_refl _) ⟨hz,its,0,hv,Heap.get?_push_size _ rfl⟩
theorem Inv.fresh (I:Inv X pins σ H s):H s.heap.objs.size=none:=I.hok.fresh (Nat.le_refl _)
theorem Inv.lstM (I:Inv X pins σ H s) (hH:H l=some (.lst xs)):xs.length<=sizeLine/\∃ (its:List Value) (n:Nat),Vals xs its/\xs.length=its.length/\s.heap.get? l=some { cls:=.type "list",data:=.seq its.toArray n }:=by
 obtain ⟨z,its,n,r,e⟩:=I.hok l _ hH
 exact⟨z,its,n,r,r.length,e⟩
theorem notLongL {n:Nat} (h:n<=sizeLine):Builtin.List.listTooLong n=false:=by
 unfold Builtin.List.listTooLong
 exact decide_eq_false (by (first|lia|omega))
end
section
variable {X : Cx}
noncomputable def rAppend:V->List V->Hp->VK->Prop:=fun x vs H Q=>∃ l xs y,x = .ref l/\vs = [y]/\H l=some (.lst xs)/\xs.length < sizeLine/\Q .non (upd H l (.lst (xs ++ [y])))
theorem mt_append:MtM X "list.append" rAppend:=by
 intro pins s σ H x vs v us Q I rx rv h
 obtain ⟨l,xs,y,rfl,rfl,hH,hz,q⟩:=h
 cases rx
 obtain ⟨u,rfl,ru⟩:=rv.one
 obtain ⟨z,its,n,r,hl,e⟩:=I.lstM hH
 refine call_meets F.slot_list_append ⟨_,e,rfl⟩ F.entry_list_append (F.args_list_append_2 _ _) (PySem.list_append l its.toArray n u (by rw [List.size_toArray]; (first|lia|omega))) ⟨e,?_⟩
 refine⟨.non,_,I.lset (its':=its ++ [u]) hH e (by simp) (r.append (.cons ru .nil)) ?_,rfl,q⟩
 rw [List.length_append,List.length_singleton]
 (first|lia|omega)
noncomputable def rRep:R2:=fun x y H Q=>∃ l k xs,x = .ref l/\y = .int k/\H l=some (.lst xs)/\-(2 ^ 63)<=k/\k < 2 ^ 63/\xs.length * k.toNat<=sizeLine/\
 ∀ p,H p=none->Q (.ref p) (upd H p (.lst (List.replicate k.toNat xs).flatten))
theorem len_rep {α:Type} (xs:List α) (k:Nat):(List.replicate k xs).flatten.length=k * xs.length:=by
 induction k with
 | zero=>simp
 | succ k ih=>rw [List.replicate_succ,List.flatten_cons,List.length_append,ih,Nat.succ_mul,Nat.add_comm]
theorem op_rep:OpR X (binaryOp .Mult) rRep:=by
 intro pins s σ H x y v u Q I rx ry h
 obtain ⟨l,k,xs,rfl,rfl,hH,h1,h2,hz,q⟩:=h
 cases rx
 obtain ⟨t,rfl⟩:=ry
 obtain ⟨z,its,n,r,hl,e⟩:=I.lstM hH
 have hlen:its.toArray.size * k.toNat<=sizeLine:=by rw [List.size_toArray,<- hl]; exact hz
 have hcap : ¬ its.toArray.size * k.toNat > (2 ^ 63 - 1) / 8:=by
  have:(sizeLine:Nat)<=(2 ^ 63 - 1) / 8:=by decide
  (first|lia|omega)
 have hfit : ¬ (!Builtin.List.listFitsIndex k)=true:=by
  rw [fitsIndex_both h1 h2]
  exact Bool.false_ne_true
 have hlong : ¬ Builtin.List.listTooLong (its.toArray.size * k.toNat)=true:=by
  rw [notLongL hlen]
  exact Bool.false_ne_true
 have hnew:List.foldl (fun x1 x2=>x1 ++ x2) #[] (List.replicate (if its.toArray.isEmpty=true then 0 else k.toNat) its.toArray)=(List.replicate k.toNat its).flatten.toArray:=by
  have f0:∀ m:Nat,List.foldl (fun x1 x2=>x1 ++ x2) #[] (List.replicate m its.toArray)=(List.replicate m its).flatten.toArray:=fun m=>by
   have:=foldl_rep its m []
   rw [List.nil_append] at this
   exact this
  rw [f0]
  cases its with
  | nil=>simp
  | cons a r'=>rw [if_neg (by simp)]
 refine wpAny_binaryOp_repeat_ref (T:="list") (U:="int") (by decide) ⟨_,e,rfl⟩ (fun s'=>typeIs_int s' k t) noFill_list_mul F.fills_int_mul F.slot_int_rmul repeat_list F.slot_int_index.lookup
  (call_meets F.slot_int_rmul (typeIs_int s k t) F.entry_int_rmul (F.args_int_rmul_2 _ _) (int___rmul___int_list k t l its.toArray n)
   ⟨e,rfl,⟨_,e,rfl⟩,call_meets F.slot_list_mul ⟨_,e,rfl⟩ F.entry_list_mul (F.args_list_mul_2 _ _) (AutoListH.list___mul___list_int_3 l its.toArray n k t hfit hcap hlong) ⟨e,?_⟩⟩)
 rw [hnew]
 exact⟨.ref _,_,I.lnew (t':=s.toks) (r.rep k.toNat) (by rw [len_rep,Nat.mul_comm]; exact hz),rfl,q _ I.fresh⟩
end
end L2
namespace L2
open PySem PySem.Spec PyProof.Rows
section
variable {κ : Type} [DecidableEq κ]
noncomputable def valV (kvs:List (κ × V)) (k:κ):Option V:=(kvs.find? fun kv=>decide (kv.1=k)).map (·.2)
noncomputable def putK (kvs:List (κ × V)) (k:κ) (v:V):List (κ × V):=
 if (kvs.any fun kv=>decide (kv.1=k))=true then kvs.map (fun kv=>if kv.1=k then (kv.1,v) else kv) else kvs ++ [(k,v)]
theorem valV_pos {p:κ × V}{r:List (κ × V)}{k:κ} (e:p.1=k):valV (p :: r) k=some p.2:=by simp [valV,List.find?_cons,e]
theorem valV_neg {p:κ × V}{r:List (κ × V)}{k:κ} (e : ¬ p.1=k):valV (p :: r) k=valV r k:=by simp [valV,List.find?_cons,e]
theorem valV_any (k:κ):∀ kvs:List (κ × V),(kvs.any fun kv=>decide (kv.1=k))=(valV kvs k).isSome
 | []=>rfl
 | p :: r=>by
  rw [List.any_cons]
  by_cases e:p.1=k
  ·simp only [valV_pos e,decide_eq_true e,Bool.true_or,Option.isSome_some]
  ·rw [valV_neg e,decide_eq_false e,Bool.false_or]; exact valV_any k r
theorem length_putK (kvs:List (κ × V)) (k:κ) (v:V):(putK kvs k v).length<=kvs.length+1:=by
 unfold putK
 split
 ·rw [List.length_map]; (first|lia|omega)
 ·rw [List.length_append,List.length_cons,List.length_nil]; (first|lia|omega)
theorem RelO.isSome_eq {o:Option V}{u:Option Value} (r:RelO o u):o.isSome=u.isSome:=by
 cases o with
 | none=>cases u with
  | none=>rfl
  | some _=>exact (show False from r).elim
 | some _=>cases u with
  | none=>exact (show False from r).elim
  | some _=>rfl
theorem RelO.getD {o:Option V}{u:Option Value}{d:V}{d':Value} (r:RelO o u) (rd:RelV d d'):RelV (o.getD d) (u.getD d'):=by
 cases o with
 | none=>cases u with
  | none=>exact rd
  | some _=>exact (show False from r).elim
 | some _=>cases u with
  | none=>exact (show False from r).elim
  | some _=>exact r
theorem KV.val {kvs:List (κ × V)}{vs:List (κ × Value)} (r:KV kvs vs) (k:κ):RelO (valV kvs k) (valueAt vs k):=by
 unfold KV at r
 induction r with
 | nil=>exact True.intro
 | @cons p q ps qs h t ih=>
  obtain ⟨h1,h2⟩:=h
  by_cases e:p.1=k
  ·have e':q.1=k:=h1.symm.trans e
   have b:valueAt (q :: qs) k=some q.2:=by simp [valueAt,List.find?_cons,e']
   rw [valV_pos e,b]; exact h2
  ·have e' : ¬ q.1=k:=fun z=>e (h1.trans z)
   have b:valueAt (q :: qs) k=valueAt qs k:=by simp [valueAt,List.find?_cons,e']
   rw [valV_neg e,b]; exact ih
theorem KV.any {kvs:List (κ × V)}{vs:List (κ × Value)} (r:KV kvs vs) (k:κ):(kvs.any fun kv=>decide (kv.1=k))=vs.any fun kv=>decide (kv.1=k):=by
 unfold KV at r
 induction r with
 | nil=>rfl
 | cons h t ih=>rw [List.any_cons,List.any_cons,ih,h.1]
theorem KV.repl {kvs:List (κ × V)}{vs:List (κ × Value)} (r:KV kvs vs) (k:κ) {y:V}{u:Value} (ry:RelV y u) :
  KV (kvs.map fun kv=>if kv.1=k then (kv.1,y) else kv) (vs.map fun kv=>if kv.1=k then (kv.1,u) else kv):=by
 unfold KV at r ⊢
 induction r with
 | nil=>exact .nil
 | @cons p q ps qs h t ih=>
  rw [List.map_cons,List.map_cons]
  refine .cons ?_ ih
  obtain ⟨h1,h2⟩:=h
  by_cases e:p.1=k
  ·rw [if_pos e,if_pos (h1.symm.trans e)]; exact⟨h1,ry⟩
  ·rw [if_neg e,if_neg (fun z=>e (h1.trans z))]; exact⟨h1,h2⟩
theorem KV.put {kvs:List (κ × V)}{vs:List (κ × Value)} (r:KV kvs vs) (k:κ) {y:V}{u:Value} (ry:RelV y u):KV (putK kvs k y) (stored vs k u):=by
 unfold putK stored
 rw [r.any k]
 by_cases e:(vs.any fun kv=>decide (kv.1=k))=true
 ·rw [if_pos e,if_pos e]; exact r.repl k ry
 ·rw [if_neg e,if_neg e]; exact Paired.snoc r ⟨rfl,ry⟩
theorem KV.length {kvs:List (κ × V)}{vs:List (κ × Value)} (r:KV kvs vs):kvs.length=vs.length:=Paired.length r
end
theorem kV_is {P:Program}{w:World}{k:Key}{u:Value} (r:RelV (kV k) u):(mixKind P w).is k u=true:=by
 cases k with
 | inl i=>obtain ⟨t,e⟩:=(show ∃ t,u=Value.int i t from r); subst e; exact mixKind_int P w i t
 | inr x=>obtain ⟨t,e⟩:=(show ∃ t,u=Value.str x t from r); subst e; exact mixKind_str P w x t
theorem items_are {P:Program}{w:World}:∀ {ks:List Key}{us:List Value},Vals (ks.map kV) us->ItemsAre (mixKind P w) ks us
 | [],_,r=>by rw [List.map_nil] at r; cases r; exact .nil
 | k :: ks,_,r=>by
  rw [List.map_cons] at r
  cases r with
  | cons h t=>exact .cons (kV_is h) (items_are t)
noncomputable abbrev KT (H:Hp):List (List Key × V)->List (List Key × Addr × Value)->Prop:=Paired fun p q=>p.1=q.1/\H q.2.1=some (.tup (p.1.map kV))/\RelV p.2 q.2.2
theorem KT.val {H:Hp}{kvs:List (List Key × V)}{xs:List (List Key × Addr × Value)} (r:KT H kvs xs) (k:List Key):RelO (valV kvs k) ((atKey xs k).map (·.2)):=by
 induction r with
 | nil=>exact True.intro
 | @cons p q ps qs h t ih=>
  obtain ⟨h1,_,h2⟩:=h
  by_cases e:p.1=k
  ·have e':q.1=k:=h1.symm.trans e
   have b:atKey (q :: qs) k=some q.2:=by simp [atKey,List.find?_cons,e']
   rw [valV_pos e,b]; exact h2
  ·have e' : ¬ q.1=k:=fun z=>e (h1.trans z)
   have b:atKey (q :: qs) k=atKey qs k:=by simp [atKey,List.find?_cons,e']
   rw [valV_neg e,b]; exact ih
theorem KT.repl {H:Hp}{kvs:List (List Key × V)}{xs:List (List Key × Addr × Value)} (r:KT H kvs xs) (k:List Key) {y:V}{u:Value} (ry:RelV y u) :
  KT H (kvs.map fun kv=>if kv.1=k then (kv.1,y) else kv) (xs.map (putAt k u)):=by
 induction r with
 | nil=>exact .nil
 | @cons p q ps qs h t ih=>
  rw [List.map_cons,List.map_cons]
  refine .cons ?_ ih
  obtain ⟨h1,h2,h3⟩:=h
  unfold putAt
  by_cases e:p.1=k
  ·rw [if_pos e,if_pos (h1.symm.trans e)]; exact⟨h1,h2,ry⟩
  ·rw [if_neg e,if_neg (fun z=>e (h1.trans z))]; exact⟨h1,h2,h3⟩
theorem KT.put {H:Hp}{kvs:List (List Key × V)}{xs:List (List Key × Addr × Value)} (r:KT H kvs xs) (k:List Key) {b:Addr}{y:V}{u:Value} (hb:H b=some (.tup (k.map kV))) (ry:RelV y u) :
  KT H (putK kvs k y) (storedH xs k b u):=by
 have e:(kvs.any fun kv=>decide (kv.1=k))=(atKey xs k).isSome:=by
  rw [valV_any,(r.val k).isSome_eq,Option.isSome_map]
 unfold putK storedH
 rw [e]
 by_cases q:(atKey xs k).isSome=true
 ·rw [if_pos q,if_pos q]; exact r.repl k ry
 ·rw [if_neg q,if_neg q]; exact Paired.snoc r ⟨rfl,hb,ry⟩
theorem KT.keeps {H H':Hp}{kvs:List (List Key × V)}{xs:List (List Key × Addr × Value)} (r:KT H kvs xs) (ht:∀ b ys,H b=some (.tup ys)->H' b=some (.tup ys)):KT H' kvs xs:=
 Paired.mapP r fun _ _ z=>⟨z.1,ht _ _ z.2.1,z.2.2⟩
section
variable {P : Program} {w : World} {H : Hp} {h : Heap} {a : Addr}
theorem rd_of {u:HO} (ok:HOk P w H h) (e:Rd H a u):ObjOk P w H h a u:=e.ok ok
theorem dk_rd {kvs:List (Key × V)} (ok:HOk P w H h) (e:Rd H a (.dK kvs)):kvs.length<=sizeLine/\(a == sysModules)=false/\∃ vs,KV kvs vs/\h.DictOf (mixKind P w) a vs:=
 show ObjOk P w H h a (.dK kvs) from rd_of ok e
theorem dk_of {kvs:List (Key × V)} (ok:HOk P w H h) (e:H a=some (.dK kvs)):kvs.length<=sizeLine/\(a == sysModules)=false/\∃ vs,KV kvs vs/\h.DictOf (mixKind P w) a vs:=dk_rd ok (.inl e)
theorem key_of {ks:List Key} (ok:HOk P w H h) (e:H a=some (.tup (ks.map kV))):(tupleKind (mixKind P w)).is h ks a:=by
 obtain ⟨_,its,r,o,h1,h2,n,h3⟩:=(show ObjOk P w H h a (.tup (ks.map kV)) from ok a _ e)
 exact⟨o,its.toArray,n,h1,h2,h3,by simpa using items_are r⟩
theorem dt_rd {kvs:List (List Key × V)} (ok:HOk P w H h) (e:Rd H a (.dT kvs)):kvs.length<=sizeLine/\(a == sysModules)=false/\
  ∃ xs,KT H kvs xs/\h.DictOfH (tupleKind (mixKind P w)) a xs:=by
 obtain ⟨z,y,xs,r,o,es,ep,h1,h2,h3,h4,h5⟩:=(show ObjOk P w H h a (.dT kvs) from rd_of ok e)
 refine⟨z,y,xs,r,o,es,ep,h1,h2,h3,h4,fun x hx=>?_,h5⟩
 have all:∀ {l:List (List Key × V)}{m:List (List Key × Addr × Value)},KT H l m->∀ x ∈ m,(tupleKind (mixKind P w)).is h x.1 x.2.1:=by
  intro l m q
  induction q with
  | nil=>intro x hx; exact nomatch hx
  | @cons p q ps qs hq t ih=>
   intro x hx
   rcases List.mem_cons.mp hx with e | hx
   ·subst e
    exact key_of ok (by rw [<- hq.1]; exact hq.2.1)
   ·exact ih x hx
 exact all r x hx
theorem dt_of {kvs:List (List Key × V)} (ok:HOk P w H h) (e:H a=some (.dT kvs)):kvs.length<=sizeLine/\(a == sysModules)=false/\
  ∃ xs,KT H kvs xs/\h.DictOfH (tupleKind (mixKind P w)) a xs:=dt_rd ok (.inl e)
end
noncomputable def DGet (H:Hp) (a:Addr) (y:V) (r:Option V):Prop:=
 (∃ kvs k,Rd H a (.dK kvs)/\y=kV k/\r=valV kvs k) ∨ ∃ kvs k b,Rd H a (.dT kvs)/\y = .ref b/\H b=some (.tup (k.map kV))/\r=valV kvs k
noncomputable def DPut (H:Hp) (a:Addr) (y v:V) (H':Hp):Prop:=
 (∃ kvs k,H a=some (.dK kvs)/\y=kV k/\kvs.length < sizeLine/\H'=upd H a (.dK (putK kvs k v))) ∨
 ∃ kvs k b,H a=some (.dT kvs)/\y = .ref b/\H b=some (.tup (k.map kV))/\kvs.length < sizeLine/\H'=upd H a (.dT (putK kvs k v))
theorem DGet.k {H:Hp}{a:Addr}{kvs:List (Key × V)}{k:Key} (e:H a=some (.dK kvs)):DGet H a (kV k) (valV kvs k):=.inl ⟨kvs,k,.inl e,rfl,rfl⟩
theorem DGet.t {H:Hp}{a b:Addr}{kvs:List (List Key × V)}{k:List Key} (e:H a=some (.dT kvs)) (eb:H b=some (.tup (k.map kV))):DGet H a (.ref b) (valV kvs k):=.inr ⟨kvs,k,b,.inl e,rfl,eb,rfl⟩
theorem DPut.k {H:Hp}{a:Addr}{kvs:List (Key × V)}{k:Key}{v:V} (e:H a=some (.dK kvs)) (hl:kvs.length < sizeLine):DPut H a (kV k) v (upd H a (.dK (putK kvs k v))):=.inl ⟨kvs,k,e,rfl,hl,rfl⟩
theorem DPut.t {H:Hp}{a b:Addr}{kvs:List (List Key × V)}{k:List Key}{v:V} (e:H a=some (.dT kvs)) (eb:H b=some (.tup (k.map kV))) (hl:kvs.length < sizeLine) :
  DPut H a (.ref b) v (upd H a (.dT (putK kvs k v))):=.inr ⟨kvs,k,b,e,rfl,eb,hl,rfl⟩
section
variable {X : Cx} {pins : List (Addr × Obj)} {σ : St} {H : Hp} {s : Shared} {a : Addr} {y v : V} {u r : Value} {o : Option V} {A : Around} {E : Value → Shared → Prop}
theorem Inv.big (I:Inv X pins σ H s):sysModules < s.heap.objs.size:=by
 have h:mainGlobals < s.heap.objs.size:=(I.mod.glob.keeps I.bk).lt
 exact Nat.lt_trans (by decide) h
theorem d_getItem {Q:Value->Shared->Prop} (hu:A.units+1 < cLine) (I:Inv X pins σ H s) (g:DGet H a y (some v)) (ry:RelV y u) (h:∀ w' s',Inv X pins σ H s'->RelV v w'->Q w' s') :
  wpAny (model X.prog X.w) A (getItem (.ref a) u) Q E s:=by
 rcases g with ⟨kvs,k,e,ey,l⟩ | ⟨kvs,k,b,e,ey,eb,l⟩
 ·subst ey
  obtain ⟨z,hd,vs,rel,dd⟩:=dk_rd I.hok e
  obtain ⟨w',hw,rw'⟩:=RelO.some_of (v:=v) (o:=valueAt vs k) (by rw [l]; exact rel.val k)
  exact wpAny_getItem_of (kV_is ry) dd.mapOf hw (h w' _ (I.tok _) rw')
 ·subst ey
  cases (show u=Value.ref b from ry)
  obtain ⟨z,hd,xs,rel,dd⟩:=dt_rd I.hok e
  obtain ⟨w',hw,rw'⟩:=RelO.some_of (v:=v) (o:=(atKey xs k).map (·.2)) (by rw [l]; exact rel.val k)
  obtain ⟨p,hp,hp2⟩:=Option.map_eq_some_iff.mp hw
  refine wpAny_getItem_heap (tupleKind_room_in1 hu) (key_of I.hok eb) dd hp ?_
  rw [hp2]
  exact h w' _ (I.tok _) rw'
theorem d_in {Q:Value->Shared->Prop} (hu:A.units+1 < cLine) (I:Inv X pins σ H s) (g:DGet H a y o) (ry:RelV y u) (h:∀ s',Inv X pins σ H s'->Q (.bool o.isSome) s') :
  wpAny (model X.prog X.w) A (compareOp .In u (.ref a)) Q E s:=by
 rcases g with ⟨kvs,k,e,ey,l⟩ | ⟨kvs,k,b,e,ey,eb,l⟩
 ·subst ey
  obtain ⟨z,hd,vs,rel,dd⟩:=dk_rd I.hok e
  refine wpAny_in_of (kV_is ry) hd dd.mapOf ?_
  rw [<- (rel.val k).isSome_eq,<- l]
  exact h _ (I.tok _)
 ·subst ey
  cases (show u=Value.ref b from ry)
  obtain ⟨z,hd,xs,rel,dd⟩:=dt_rd I.hok e
  refine wpAny_in_heap (tupleKind_room_in1 hu) (key_of I.hok eb) hd dd ?_
  have q:=(rel.val k).isSome_eq
  rw [Option.isSome_map] at q
  rw [<- q,<- l]
  exact h _ (I.tok _)
theorem d_notIn {Q:Value->Shared->Prop} (hu:A.units+1 < cLine) (I:Inv X pins σ H s) (g:DGet H a y o) (ry:RelV y u) (h:∀ s',Inv X pins σ H s'->Q (.bool (!o.isSome)) s') :
  wpAny (model X.prog X.w) A (compareOp .NotIn u (.ref a)) Q E s:=by
 rcases g with ⟨kvs,k,e,ey,l⟩ | ⟨kvs,k,b,e,ey,eb,l⟩
 ·subst ey
  obtain ⟨z,hd,vs,rel,dd⟩:=dk_rd I.hok e
  refine wpAny_notIn_of (kV_is ry) hd dd.mapOf ?_
  rw [<- (rel.val k).isSome_eq,<- l]
  exact h _ (I.tok _)
 ·subst ey
  cases (show u=Value.ref b from ry)
  obtain ⟨z,hd,xs,rel,dd⟩:=dt_rd I.hok e
  refine wpAny_notIn_heap (tupleKind_room_in1 hu) (key_of I.hok eb) hd dd ?_
  have q:=(rel.val k).isSome_eq
  rw [Option.isSome_map] at q
  rw [<- q,<- l]
  exact h _ (I.tok _)
theorem d_write {h':Heap}{t':Nat}{ob:HO} (I:Inv X pins σ H s) (mu:Mut (H a)) (hs:Heap.SameBut a s.heap h') (he:∃ q,h'.get? a=some q) (new:ObjOk X.prog X.w (upd H a ob) h' a ob) :
  Inv X pins σ (upd H a ob) { s with heap:=h',toks:=t' }:=
 I.write (x:=a) (e:=a) mu (.inl rfl) (fun b q hb z=>(hs.2 b hb).trans z) he new
theorem dk_new {P:Program}{w:World}{H':Hp}{h':Heap}{kvs:List (Key × V)}{vs:List (Key × Value)} (z:kvs.length<=sizeLine) (hd:(a == sysModules)=false) (rel:KV kvs vs) (dd:h'.DictOf (mixKind P w) a vs) :
  ObjOk P w H' h' a (.dK kvs):=⟨z,hd,vs,rel,dd⟩
theorem d_setItem {H':Hp}{Q:Unit->Shared->Prop} (hu:A.units+1 < cLine) (I:Inv X pins σ H s) (g:DPut H a y v H') (ry:RelV y u) (rv:RelV v r) (h:∀ s',Inv X pins σ H' s'->Q () s') :
  wpAny (model X.prog X.w) A (setItem (.ref a) u r) Q E s:=by
 rcases g with ⟨kvs,k,e,ey,l,eH⟩ | ⟨kvs,k,b,e,ey,eb,l,eH⟩
 ·subst ey eH
  obtain ⟨z,hd,vs,rel,dd⟩:=dk_of I.hok e
  have hz:vs.length<=sizeLine:=by rw [<- rel.length]; exact z
  have hl:(putK kvs k v).length<=sizeLine:=by have:=length_putK kvs k v; (first|lia|omega)
  refine wpAny_setItem_pairs (hsz:=hz) (kV_is ry) dd fun h' dd' hs=>h _ ?_
  have he:∃ q,h'.get? a=some q:=let ⟨q,_,_,hq,_⟩:=dd'; ⟨q,hq⟩
  exact d_write I (by rw [e]; exact True.intro) hs he (dk_new hl hd (rel.put k rv) dd')
 ·subst ey eH
  cases (show u=Value.ref b from ry)
  obtain ⟨z,hd,xs,rel,dd⟩:=dt_of I.hok e
  have hz:xs.length<=sizeLine:=by rw [<- Paired.length rel]; exact z
  have hl:(putK kvs k v).length<=sizeLine:=by have:=length_putK kvs k v; (first|lia|omega)
  refine wpAny_setItem_heap (hsz:=hz) (tupleKind_room_in1 hu) (key_of I.hok eb) dd fun h' dd' hs=>h _ ?_
  obtain ⟨q,es,ep,hq,h2,h3,h4,_,h5⟩:=dd'
  refine d_write I (by rw [e]; exact True.intro) hs ⟨q,hq⟩ ⟨hl,hd,_,(rel.put k eb rv).keeps fun c ys ec=>?_,q,es,ep,hq,h2,h3,h4,h5⟩
  rw [upd_ne (ne_of ec e (fun z=>nomatch z))]
  exact ec
end
section
variable {X : Cx} {pins : List (Addr × Obj)} {σ : St} {H : Hp} {s : Shared} {a : Addr} {kvs : List (Key × V)} {k : Key} {u : Value} {A : Around} {E : Value → Shared → Prop}
theorem d_len {Q:Value->Shared->Prop} (I:Inv X pins σ H s) (e:Rd H a (.dK kvs)) (h:∀ t s',Inv X pins σ H s'->Q (.int kvs.length t) s'):wpAny (model X.prog X.w) A (call (.builtin "len") [.ref a]) Q E s:=by
 obtain ⟨z,hd,vs,rel,dd⟩:=dk_rd I.hok e
 refine call_len_dict hd dd (by rw [<- rel.length]; rw [sizeLine_eq] at z; (first|lia|omega)) ?_
 rw [<- rel.length]
 exact h _ _ (I.tok _)
end
noncomputable def NoSl (i:Expr):Prop:=∀ ov iv,subscripted i false ov iv=operate [ov,iv] (getItem ov iv)
theorem subD_of {prog:Program}{w:World}{A:Around}{E:Value->Shared->Prop}{s:Shared}{env:Env}{value slice:Expr}{pos:Pos}{T id:String}{Q:Value->Shared->Prop}
  (hl:typeLookup (.type T) "__getitem__" = pure (some (.builtin id))) (hs:NoSl slice)
  (h:wpAny (model prog w) A (eval value env) (fun o s₁=>wpAny (model prog w) A (eval slice env) (fun i s₂=>s₂.TypeIs o T/\wpAny (model prog w) A (getItem o i) Q E s₂) E s₁) E s) :
  wpAny (model prog w) A (eval (.Subscript value slice pos) env) Q E s:=by
 refine Subscript_ (wpAny_mono h (fun o s₁ h₁=>wpAny_mono h₁ (fun i s₂ h₂=>?_) fun _ _ x=>x) fun _ _ x=>x)
 obtain ⟨hT,h₂⟩:=h₂
 unfold subscriptTail
 refine wpAny_bind ?_
 rw [getitemInPython_of_ne hT.not_modules]
 refine wpAny_bind (wpAny_specialOf hT hl ?_)
 have fin:wpAny (model prog w) A (subscripted slice false o i) (fun r s₃=>wpAny (model prog w) A (letTemporaryGo value o r >>= fun _=>pure r) Q E s₃) E s₂:=by
  rw [hs o i]
  exact wpAny_operating (wpAny_mono h₂ (fun r s₃ h₃=>wpAny_bind (wpAny_letTemporaryGo (wpAny_pure h₃))) fun _ _ x=>x)
 first
  | exact wpAny_pure (wpAny_bind fin)
  | exact wpAny_bind (wpAny_pure (wpAny_bind fin))
  | exact wpAny_bind fin
theorem dict_typeIs {X:Cx}{pins:List (Addr × Obj)}{σ:St}{H:Hp}{s:Shared}{a:Addr}{y:V}{o:Option V} (I:Inv X pins σ H s) (g:DGet H a y o):s.TypeIs (.ref a) "dict":=by
 rcases g with ⟨kvs,k,e,_,_⟩ | ⟨kvs,k,b,e,_,_,_⟩
 ·obtain ⟨_,_,vs,_,dd⟩:=dk_rd I.hok e
  exact dd.typeIs
 ·obtain ⟨_,_,xs,_,dd⟩:=dt_rd I.hok e
  exact dd.typeIs
noncomputable def tDGet (td ty:TE):TE:=fun σ H Q=>td σ H fun x H1=>ty σ H1 fun y H2=>∃ a v,x = .ref a/\DGet H2 a y (some v)/\Q v H2
noncomputable def tDIn (ty td:TE):TE:=fun σ H Q=>ty σ H fun y H1=>td σ H1 fun x H2=>∃ a o,x = .ref a/\DGet H2 a y o/\Q (.bl o.isSome) H2
noncomputable def tDNotIn (ty td:TE):TE:=fun σ H Q=>ty σ H fun y H1=>td σ H1 fun x H2=>∃ a o,x = .ref a/\DGet H2 a y o/\Q (.bl (!o.isSome)) H2
noncomputable def sDPut (td ty tv:TE):TS:=fun D σ H=>tv σ H fun v H1=>td σ H1 fun x H2=>ty σ H2 fun y H3=>∃ a H4,x = .ref a/\DPut H3 a y v H4/\D.nx σ H4
section
variable {X : Cx} {o i e value : Expr} {pos pos' tpos : Pos} {td ty tv : TE}
theorem pe_dget (hu:X.A.units+1 < cLine) (ho:PE X o td) (hi:PE X i ty) (hs:NoSl i):PE X (.Subscript o i pos) (tDGet td ty):=by
 intro pins s σ H Q I h
 refine subD_of PySem.F.slot_dict_getitem.lookup hs (thn (ho pins s σ H _ I h) fun u s1 ⟨x,H1,I1,rx,q1⟩=>thn (hi pins s1 σ H1 _ I1 q1) fun iv s2 ⟨y,H2,I2,ry,a,v,ex,g,q2⟩=>?_)
 subst ex
 obtain rfl:u=Value.ref a:=rx
 exact⟨dict_typeIs I2 g,d_getItem hu I2 g ry fun w' s3 I3 rw'=>⟨v,H2,I3,rw',q2⟩⟩
theorem pc_din (hu:X.A.units+1 < cLine) (hi:PE X i ty) (ho:PE X o td):PC X .In i o (tDIn ty td):=by
 intro pins s σ H Q I h
 refine thn (hi pins s σ H _ I h) fun iv s1 ⟨y,H1,I1,ry,q1⟩=>thn (ho pins s1 σ H1 _ I1 q1) fun u s2 ⟨x,H2,I2,rx,a,ov,ex,g,q2⟩=>?_
 subst ex
 obtain rfl:u=Value.ref a:=rx
 exact d_in hu I2 g ry fun s3 I3=>⟨.bl ov.isSome,H2,I3,rfl,q2⟩
theorem pc_dnotin (hu:X.A.units+1 < cLine) (hi:PE X i ty) (ho:PE X o td):PC X .NotIn i o (tDNotIn ty td):=by
 intro pins s σ H Q I h
 refine thn (hi pins s σ H _ I h) fun iv s1 ⟨y,H1,I1,ry,q1⟩=>thn (ho pins s1 σ H1 _ I1 q1) fun u s2 ⟨x,H2,I2,rx,a,ov,ex,g,q2⟩=>?_
 subst ex
 obtain rfl:u=Value.ref a:=rx
 exact d_notIn hu I2 g ry fun s3 I3=>⟨.bl (!ov.isSome),H2,I3,rfl,q2⟩
theorem ps_dput (hu:X.A.units+1 < cLine) (ho:PE X o td) (hi:PE X i ty) (hv:PE X value tv) (hs:swapsWith value (some (.Subscript o i pos')) pos.line X.env=pure false) :
  PS X (.Assign [.Subscript o i pos'] value pos) (sDPut td ty tv):=by
 intro pins s σ H D I h
 refine wpAny_Assign_Subscript (thn (hv pins s σ H _ I h) fun r s1 ⟨v,H1,I1,rv,q1⟩=>thn (ho pins s1 σ H1 _ I1 q1) fun u s2 ⟨x,H2,I2,rx,q2⟩=>thn (hi pins s2 σ H2 _ I2 q2) fun iv s3 ⟨y,H3,I3,ry,a,H4,ex,g,q3⟩=>?_) hs
 subst ex
 obtain rfl:u=Value.ref a:=rx
 exact d_setItem hu I3 g ry rv fun s4 I4=>⟨σ,H4,I4,q3⟩
end
theorem dk_empty {P:Program}{w:World}{H:Hp} (h:Heap) (hb:sysModules < h.objs.size):ObjOk P w H (h.push { cls:=.type "dict",data:=.dict #[] }) h.objs.size (.dK []):=
 ⟨Nat.zero_le _,beq_eq_false_iff_ne.mpr (Ne.symm (Nat.ne_of_lt hb)),[],.nil,Heap.DictOf.new h⟩
theorem dt_empty {P:Program}{w:World}{H:Hp} (h:Heap) (hb:sysModules < h.objs.size):ObjOk P w H (h.push { cls:=.type "dict",data:=.dict #[] }) h.objs.size (.dT []):=
 ⟨Nat.zero_le _,beq_eq_false_iff_ne.mpr (Ne.symm (Nat.ne_of_lt hb)),[],.nil,_,#[],0,Heap.get?_push_size _ rfl,⟨rfl,rfl,rfl⟩,rfl,rfl,List.nodup_nil⟩
noncomputable def tDNewK:TE:=fun _ H Q=>∀ p,H p=none->Q (.ref p) (upd H p (.dK []))
noncomputable def tDNewT:TE:=fun _ H Q=>∀ p,H p=none->Q (.ref p) (upd H p (.dT []))
section
variable {X : Cx} {pos : Pos}
theorem pe_dnewK:PE X (.Dict [] [] pos) tDNewK:=fun pins s σ H Q I h=>
 wpAny_Dict_empty ⟨.ref s.heap.objs.size,_,I.laid (a:=s.heap.objs.size) (o:=.dK []) (t':=s.toks) (fun _ _ q=>Heap.get?_push_of_some _ q) (Nat.le_refl _) (dk_empty s.heap I.big),rfl,h _ (I.hok.fresh (Nat.le_refl _))⟩
theorem pe_dnewT:PE X (.Dict [] [] pos) tDNewT:=fun pins s σ H Q I h=>
 wpAny_Dict_empty ⟨.ref s.heap.objs.size,_,I.laid (a:=s.heap.objs.size) (o:=.dT []) (t':=s.toks) (fun _ _ q=>Heap.get?_push_of_some _ q) (Nat.le_refl _) (dt_empty s.heap I.big),rfl,h _ (I.hok.fresh (Nat.le_refl _))⟩
end
noncomputable def mergeK (kvs more:List (Key × V)):List (Key × V):=more.foldl (fun acc kv=>putK acc kv.1 kv.2) kvs
theorem KV.merge:∀ {more:List (Key × V)}{rs:List (Key × Value)}{kvs:List (Key × V)}{vs:List (Key × Value)},KV more rs->KV kvs vs->KV (mergeK kvs more) (merged vs rs):=by
 intro more rs kvs vs r
 unfold KV at r
 induction r generalizing kvs vs with
 | nil=>intro q; exact q
 | @cons p q ps qs h t ih=>
  intro r0
  have e:KV (putK kvs p.1 p.2) (stored vs q.1 q.2):=by
   have:=r0.put p.1 h.2
   rw [<- h.1]; exact this
  exact ih e
theorem length_mergeK:∀ (more kvs:List (Key × V)),(mergeK kvs more).length<=kvs.length+more.length
 | [],kvs=>by show kvs.length<=kvs.length+0; (first|lia|omega)
 | p :: r,kvs=>by
  have h1:=length_mergeK r (putK kvs p.1 p.2)
  have h2:=length_putK kvs p.1 p.2
  show (mergeK (putK kvs p.1 p.2) r).length<=_
  rw [List.length_cons]; (first|lia|omega)
structure M1 (X:Cx) (o:Expr) (m:Str) (apos:Pos) (e:Expr) (cpos:Pos):Prop where
 base:attributeBase o m X.env (eval o X.env)=eval o X.env
 few:((backTo cpos (starEach [e] X.env)).all (fun x=>!x.1) && (backToKw cpos (keywordEach [] X.env)).all (fun x=>x.1.isSome)
  && decide (([e]:List Expr).length+([]:List Keyword).length+(if ([]:List Keyword).isEmpty then 0 else 1) < 30))=true
 line:(apos.endLine == cpos.line)=true
 trees:backTo cpos (starEach [e] X.env) = [(false,eval e X.env)]
structure M2 (X:Cx) (o:Expr) (m:Str) (apos:Pos) (e f:Expr) (cpos:Pos):Prop where
 base:attributeBase o m X.env (eval o X.env)=eval o X.env
 few:((backTo cpos (starEach [e,f] X.env)).all (fun x=>!x.1) && (backToKw cpos (keywordEach [] X.env)).all (fun x=>x.1.isSome)
  && decide (([e,f]:List Expr).length+([]:List Keyword).length+(if ([]:List Keyword).isEmpty then 0 else 1) < 30))=true
 line:(apos.endLine == cpos.line)=true
 trees:backTo cpos (starEach [e,f] X.env) = [(false,eval e X.env),(false,eval f X.env)]
noncomputable def IsD (H:Hp) (a:Addr):Prop:=(∃ kvs,Rd H a (.dK kvs)) ∨ ∃ kvs,Rd H a (.dT kvs)
theorem isD_at {X:Cx}{pins:List (Addr × Obj)}{σ:St}{H:Hp}{s:Shared}{a:Addr} (I:Inv X pins σ H s) (d:IsD H a) :
  s.TypeIs (.ref a) "dict"/\(∀ b,Value.ref a = .ref b->∃ ob,s.heap.get? b=some ob/\ob.dict=none)/\(a == sysModules)=false:=by
 rcases d with ⟨kvs,e⟩ | ⟨kvs,e⟩
 ·obtain ⟨_,hd,vs,_,dd⟩:=dk_rd I.hok e
  refine⟨dd.typeIs,fun b q=>?_,hd⟩
  cases q
  obtain ⟨ob,_,_,h1,h2,_⟩:=dd
  exact⟨ob,h1,h2.2.1⟩
 ·obtain ⟨_,hd,xs,_,dd⟩:=dt_rd I.hok e
  refine⟨dd.typeIs,fun b q=>?_,hd⟩
  cases q
  obtain ⟨ob,_,_,h1,h2,_⟩:=dd
  exact⟨ob,h1,h2.2.1⟩
section
variable {X : Cx} {pins : List (Addr × Obj)} {σ : St} {H : Hp} {s : Shared} {a : Addr} {y d : V} {u r : Value} {o : Option V} {A : Around} {E : Value → Shared → Prop}
theorem d_get2 {Q:Value->Shared->Prop} (hu:A.units+1 < cLine) (I:Inv X pins σ H s) (g:DGet H a y o) (ry:RelV y u) (rd:RelV d r) (h:∀ w' s',Inv X pins σ H s'->RelV (o.getD d) w'->Q w' s') :
  wpAny (model X.prog X.w) A (call (.builtin "dict.get") [.ref a,u,r]) Q E s:=by
 rcases g with ⟨kvs,k,e,ey,l⟩ | ⟨kvs,k,b,e,ey,eb,l⟩
 ·subst ey
  obtain ⟨z,hd,vs,rel,dd⟩:=dk_rd I.hok e
  refine call_meetsIn PySem.F.slot_dict_get dd.typeIs PySem.F.entry_dict_get (PySem.F.args_dict_get_3 _ _ _) (meets_dict_get_default (mixKind X.prog X.w) a (kV_is ry) hd r) ⟨_,dd.mapOf,h _ _ (I.tok _) ?_⟩
  rw [l]
  exact (rel.val k).getD rd
 ·subst ey
  cases (show u=Value.ref b from ry)
  obtain ⟨z,hd,xs,rel,dd⟩:=dt_rd I.hok e
  refine call_meetsIn PySem.F.slot_dict_get dd.typeIs PySem.F.entry_dict_get (PySem.F.args_dict_get_3 _ _ _) (meetsH_dict_get_default (tupleKind (mixKind X.prog X.w)) a b hd r) ⟨tupleKind_room_in1 hu,k,xs,key_of I.hok eb,dd,h _ _ (I.tok _) ?_⟩
  rw [l]
  exact (rel.val k).getD rd
end
noncomputable def tDGet2 (td ty tx:TE):TE:=fun σ H Q=>td σ H fun x H1=>∃ a,x = .ref a/\IsD H1 a/\ty σ H1 fun y H2=>tx σ H2 fun z H3=>∃ o,DGet H3 a y o/\Q (o.getD z) H3
section
variable {X : Cx} {o e f : Expr} {apos cpos : Pos} {td ty tx : TE}
theorem pe_dget2 (hu:X.A.units+1 < cLine) (ho:PE X o td) (he:PE X e ty) (hf:PE X f tx) (m:M2 X o "get" apos e f cpos):PE X (.Call (.Attribute o "get" apos) [e,f] [] cpos) (tDGet2 td ty tx):=by
 intro pins s σ H Q I h
 refine wpAny_Call_method m.base m.few m.line PySem.F.plainAttrs_dict PySem.F.slot_dict_get PySem.F.type_dict_get (thn (ho pins s σ H _ I h) fun u s1 ⟨x,H1,I1,rx,a,ex,d,q1⟩=>?_)
 subst ex
 obtain rfl:u=Value.ref a:=rx
 obtain ⟨t1,t2,_⟩:=isD_at I1 d
 refine⟨t1,t2,?_⟩
 rw [m.trees]
 refine Calls.callWith_builtin rfl (Calls.evalArgs_plain (Calls.spliced_cons (thn (he pins s1 σ H1 _ I1 q1) fun iv s2 ⟨y,H2,I2,ry,q2⟩=>
  Calls.spliced_cons (thn (hf pins s2 σ H2 _ I2 q2) fun fv s3 ⟨z,H3,I3,rz,ov,g,q3⟩=>Calls.spliced_nil ?_))))
 exact d_get2 hu I3 g ry rz fun w' s4 I4 rw'=>⟨_,H3,I4,rw',q3⟩
end
end L2
namespace Att
open PySem PySem.W PySem.Calls PyProof.Rows
theorem ints_of_wellAll {P:Params}{h:Heap}:∀ (ns:List Int) (vs:List Value),WellAll P h vs (ns.map WData.int)->IntsAre vs ns:=by
 intro ns
 induction ns with
 | nil=>
  intro vs w
  rw [List.map_nil] at w
  cases w
  exact .nil
 | cons n ns ih=>
  intro vs w
  rw [List.map_cons] at w
  cases w with
  | cons a b=>
   cases a
   exact .cons _ _ (ih _ b)
theorem script_of {l:OpenLaw}{n:Nat} (hn:l.most=some n) {P:Params}{h:Heap}{args:List WData}{vals:List Value}
  (hpre:l.row.toRowW.claim.pre args=true) (hwl:WellAll P h vals args) :
  ∃ a vs ns,vals = [Value.ref a]/\args = [WData.list (ns.map WData.int)]/\h.get? a=some { cls:=.type "list",data:=.seq vs.toArray }/\IntsAre vs ns/\ns.length<=n:=by
 have hsh:WShape.hasAll [] args [.list .int]=true:=(pre_splitW hpre).1
 have hc:l.pre.holds [] { args:=args }=true:=(pre_splitW hpre).2
 obtain ⟨d,r,rfl,h1,h2⟩:=hasAllW_cons hsh
 obtain rfl:=hasAllW_nil h2
 obtain ⟨xs,rfl,h3⟩:=hasW_list h1
 obtain ⟨ns,rfl⟩:=items_int h3
 have hlen:ns.length<=n:=by
  unfold OpenLaw.pre at hc
  have h4:(WTm.not (.lt (.lit (.int (n:Int))) (.len (.arg 0)))).holds [] { args:=[.list (ns.map .int)] }=true:=by
   have h4:=(holds_andW hc).1
   rw [hn] at h4
   exact h4
  have h5:=condW_of h4 (w_not (w_lt w_lit (w_len_list (w_arg rfl))))
  rw [List.length_map] at h5
  refine Nat.le_of_not_lt fun q=>?_
  have q':(n:Int) < ((ns.length:Nat):Int):=by (first|lia|omega)
  first
   | (rw [decide_eq_true q'] at h5; exact absurd h5 (by decide))
   | (simp at h5; (first|lia|omega))
 cases hwl with
 | cons w1 w2=>
  cases w2
  cases w1 with
  | list ho hall=>exact⟨_,_,ns,rfl,rfl,ho,ints_of_wellAll ns _ hall,hlen⟩
theorem post_true (l:OpenLaw) (args:List WData):l.row.toRowW.claim.post args (.bool true) args=true:=
 postW_of (r:=l.row.toRowW) (X:=(true == true))
  (show WShape.has [] (.bool true) .bool=true by first | rfl | decide | simp [WShape.has,WShape.arms,WShape.armsAll])
  (show (WTm.eq .res (.lit (.bool true))).value [] { args:=args,res:=some (.bool true),after:=args }=some (.bool (true == true)) from w_eq_bool (w_res rfl) w_lit) rfl
theorem attach {l:OpenLaw}{n:Nat}{q:Program}{loose:List Str}{XP:(Str->Option Value)->Heap->Prop}{YP:World->Heap->Prop}{d:DefRec}{x:Str}
  (hn:l.most=some n) (hdf:d.params.defaults = [])
  (hbind:∀ pm cd doc v:Value,bindArgs (docDef d.name d.params d.body d.scope pm cd doc) ⟨[v],[]⟩=pure [(x,v)])
  (hx:d.scope.names.lookup x=some .local ∨ d.scope.names.lookup x=some .cell)
  (hk:d.scope.kind = .function) (hco:d.scope.isCoroutine=false) (hgen:d.scope.isGenerator=false)
  (body:∀ (w:World) (s₀ s₁ s:Shared) (mg mb:Str->Option Value) (fa:Addr) (o:Obj) (pm cd doc:Value) (a:Addr) (vs:List Value) (ns:List Int),
   Ground q loose [] XP w s₀ mg mb s₁.heap->YP w s₁.heap->
   s₁.heap.get? fa=some o->o.data = .func (docDef d.name d.params d.body d.scope pm cd doc)->s₁.heap.CodeRec cd d.name->mg d.name=some (.ref fa)->
   s₁.heap.get? a=some { cls:=.type "list",data:=.seq vs.toArray }->IntsAre vs ns->ns.length<=n->
   s.gens = #[]->s.os=s₁.os->
   Fr s₁.heap s₁.heap.objs.size s.heap (bindL (envOfC d.name d.scope s₁.heap.objs.size fa cd).kindOf [(x,.ref a)] fun _=>none)->
   Cl s₁.heap.objs.size (cellsFrom (s₁.heap.objs.size+1) d.scope.names []) s.heap (bindC (envOfC d.name d.scope s₁.heap.objs.size fa cd).kindOf [(x,.ref a)] fun _=>none)->
   wpAny (model l.prog w) (callerA.deeper (envOfC d.name d.scope s₁.heap.objs.size fa cd)) (execs d.body (envOfC d.name d.scope s₁.heap.objs.size fa cd))
    (fun f s'=>f = .ret (.bool true)/\OldK s₁.heap s'.heap/\s'.os=s₁.os/\AllBare s'.gens) (fun _ _=>False) s) :
  WalkO q loose XP YP l.row.toRowW d [] (fun f vs=>PySem.call f vs):=by
 intro w s₀ s₁ mg mb G Y fa o pm cd doc dV kV ho hd hcd hD hmg hg args vals as hpre hlay hrd hwl hlo
 obtain rfl:dV = .none:=Dflts.none hD hdf
 obtain rfl:kV = .none:=Dflts.noKw hD
 obtain ⟨a,vs,ns,rfl,rfl,hobj,hints,hlen⟩:=script_of hn hpre hwl
 refine enter_call ?_
 refine call_cells_ret (o:=o) (by rw [depth_caller]; decide) ho (fd_plain hd) G.T.nolimit hcd (hbind pm cd doc (.ref a)) (fun y hy=>?_) (fun h₁ tk F X=>?_) hco hgen hk
 ·obtain rfl:y=(x,Value.ref a):=List.mem_singleton.mp hy
  rcases hx with e | e
  ·exact .inl e
  ·exact .inr ⟨e,cellsFrom_some _ _ _ (.inl e)⟩
 ·refine wpAny_mono (body w s₀ s₁ { s₁ with heap:=h₁,toks:=tk } mg mb fa o pm cd doc a vs ns G Y ho (fd_plain hd) hcd hmg hobj hints hlen hg rfl F X) (fun f s' hq=>?_) (fun _ _ hq=>hq)
  obtain ⟨rfl,h2,h3,h4⟩:=hq
  exact⟨.inl ⟨.bool true,.bool true,[],rfl,fun _=>rfl,.bool true,post_true l _,fun _=>⟨List.Pairwise.nil,fun _ hm=>(nomatch hm)⟩⟩,h2,h3,h4⟩
theorem attach_call {l:OpenLaw}{n:Nat}{q:Program}{loose:List Str}{XP:(Str->Option Value)->Heap->Prop}{YP:World->Heap->Prop}{d:DefRec}
  (hn:l.most=some n) (hdf:d.params.defaults = [])
  (call:∀ (w:World) (s₀ s₁:Shared) (mg mb:Str->Option Value) (fa:Addr) (o:Obj) (pm cd doc:Value) (a:Addr) (vs:List Value) (ns:List Int),
   Ground q loose [] XP w s₀ mg mb s₁.heap->YP w s₁.heap->
   s₁.heap.get? fa=some o->o.data = .func (docDef d.name d.params d.body d.scope pm cd doc)->s₁.heap.CodeRec cd d.name->mg d.name=some (.ref fa)->
   s₁.heap.get? a=some { cls:=.type "list",data:=.seq vs.toArray }->IntsAre vs ns->ns.length<=n->s₁.gens = #[]->
   codeAny (model l.prog w) callerA (.call (.ref fa) ⟨[.ref a],[]⟩) (fun r s'=>r = .ok (.ret (.bool true))/\OldK s₁.heap s'.heap/\s'.os=s₁.os/\AllBare s'.gens) s₁) :
  WalkO q loose XP YP l.row.toRowW d [] (fun f vs=>PySem.call f vs):=by
 intro w s₀ s₁ mg mb G Y fa o pm cd doc dV kV ho hd hcd hD hmg hg args vals as hpre hlay hrd hwl hlo
 obtain rfl:dV = .none:=Dflts.none hD hdf
 obtain rfl:kV = .none:=Dflts.noKw hD
 obtain ⟨a,vs,ns,rfl,rfl,hobj,hints,hlen⟩:=script_of hn hpre hwl
 refine enter_call (codeAny_mono (call w s₀ s₁ mg mb fa o pm cd doc a vs ns G Y ho (fd_plain hd) hcd hmg hobj hints hlen hg) fun r s' hq=>?_)
 obtain ⟨rfl,h2,h3,h4⟩:=hq
 exact⟨.inl ⟨.bool true,.bool true,[],rfl,fun _=>rfl,.bool true,post_true l _,fun _=>⟨List.Pairwise.nil,fun _ hm=>(nomatch hm)⟩⟩,h2,h3,h4⟩
end Att
namespace L2
open PySem PySem.Spec PyProof.Rows
theorem vals_ints:∀ {vs:List Value}{ns:List Int},IntsAre vs ns->Vals (ns.map V.int) vs
 | _,_,.nil=>.nil
 | _,_,.cons n t h=>.cons ⟨t,rfl⟩ (vals_ints h)
noncomputable def Only (H:Hp):Prop:=∀ b,H b=none ∨ ∃ o xs,H b=some (.frz o (.lst xs))
theorem law_call {P:Program}{w:World}{K:PySem.W.Frag}{mg mb:Str->Option Value}{CX:CXT}{k:Nat}{fa a:Addr}{fd:FuncData}{x:Str}{sp:Sp}{s₁:Shared}{vs:List Value}{ns:List Int}
  (KX:K.In s₁.heap) (hns:s₁.heap.Ns mainGlobals mg) (hb:s₁.heap.Ns builtinsNs mb) (hbb:∀ x:Str,x ≠ "__name__"->mb x=bootBuiltins x) (hlim:s₁.heap.NoLimit) (hg:s₁.gens = #[])
  (ha:s₁.heap.get? a=some { cls:=.type "list",data:=.seq vs.toArray }) (hi:IntsAre vs ns) (hl:ns.length<=sizeLine) (hr:Room k callerA)
  (F:∀ base:Heap,K.In base->base.Ns mainGlobals mg->FnOk P w K mg base CX k fa fd [x] sp) (hbind:∀ (s:Shared) (u:Value),BindsTo s fd ⟨[u],[]⟩ [(x,u)])
  (hsp:∀ H:Hp,Only H->SqL K H a (ns.map V.int)->sp [.ref a] H (fun v _=>v = .bl true) fun _ _ _=>False)
  (hCX:∀ H e s',CX [] H s₁ (fun _ _ _=>False) e s'->False) :
  codeAny (model P w) callerA (.call (.ref fa) ⟨[.ref a],[]⟩) (fun r s'=>r = .ok (.ret (.bool true))/\OldK s₁.heap s'.heap/\s'.os=s₁.os/\AllBare s'.gens) s₁:=by
 have rv:=vals_ints hi
 have lenV:=hi.length
 have core:∀ H:Hp,Only H->SqL K H a (ns.map V.int)->HOk P w H s₁.heap->(∀ b,H b ≠ none->b=a)->(H a ≠ none->K.lookup a=none)->
   codeAny (model P w) callerA (.call (.ref fa) ⟨[.ref a],[]⟩) (fun r s'=>r = .ok (.ret (.bool true))/\OldK s₁.heap s'.heap/\s'.os=s₁.os/\AllBare s'.gens) s₁:=by
  intro H hO hS hok hA hK
  have base_of:∀ {b:Addr}{o:Obj},s₁.heap.get? b=some o->H b=none->(hidT s₁.heap H).get? b=some o:=fun e n=>hidT_get e n
  have noA:∀ {b:Addr}{o:Obj}{es:Array DictEntry}{ep:Nat},s₁.heap.get? b=some o->o.data = .dict es ep->H b=none:=fun {b o es ep} e d=>by
   cases q:H b with
   | none=>rfl
   | some u=>
    have e':b=a:=hA b (by rw [q]; simp)
    subst e'
    rw [ha] at e; cases e
    have d':Data.seq vs.toArray _=Data.dict es ep:=d
    cases d'
  have nsK:∀ {b:Addr}{m:Str->Option Value},s₁.heap.Ns b m->(hidT s₁.heap H).Ns b m:=fun {b m} ⟨o,es,ep,e,d,r⟩=>⟨o,es,ep,base_of e (noA e d),d,r⟩
  have hKb:K.In (hidT s₁.heap H):=fun b o e=>base_of (KX b o e) (by
   cases q:H b with
   | none=>rfl
   | some u=>
    have e':b=a:=hA b (by rw [q]; simp)
    subst e'
    rw [hK (by rw [q]; simp)] at e; cases e)
  have hM:Mod K mg (hidT s₁.heap H):=⟨hKb,nsK hns,⟨mb,nsK hb,hbb⟩,let ⟨mc,h1,h2⟩:=hlim; ⟨mc,nsK h1,h2⟩⟩
  have e0:Env0 P w K mg (hidT s₁.heap H) callerA [] s₁ H:=⟨rfl,hM,fun b o e=>of_hidT e,Nat.le_of_eq (hidT_size _ _),trivial,fun b hb=>absurd (show b ∈ ([]:List Addr) from hb) (by simp),hok,.of_eq hg⟩
  refine codeAny_mono ((F _ hKb (nsK hns)).run callerA [] s₁ H ⟨[.ref a],[]⟩ [.ref a] [.ref a] _ _ hr e0 (hbind s₁ (.ref a)) (.cons rfl .nil) (hsp H hO hS)) fun r s' h=>?_
  cases r with
  | error e=>exact (hCX H e s' h).elim
  | ok fl=>
   cases fl with
   | next=>exact False.elim h
   | brk=>exact False.elim h
   | cont=>exact False.elim h
   | ret u=>
    obtain ⟨v,H',os,bare,un,hok',r',q⟩:=h
    have q':v = .bl true:=q
    subst q'
    obtain rfl:u=Value.bool true:=r'
    refine⟨rfl,OldK.of_keep fun b o e=>?_,os,bare⟩
    cases q:H b with
    | none=>exact un.keep b o e q (by intro z; exact absurd (show b ∈ ([]:List Addr) from z) (by simp)) (by simp)
    | some u=>
     rcases hO b with z | ⟨ob,xs,z⟩
     ·rw [q] at z; cases z
     ·have z2:=un.frzs b ob _ z
      obtain ⟨e1,_⟩:=hok b _ z
      obtain ⟨e2,_⟩:=hok' b _ z2
      rw [e] at e1; cases e1
      exact e2
 cases hk:K.lookup a with
 | some o=>
  have e:=KX a o hk
  rw [ha] at e
  cases e
  refine core (fun _=>none) (fun _=>.inl rfl) (.inr ⟨_,vs.toArray,_,hk,rfl,rfl,rfl,by rw [List.size_toArray,lenV]; exact hl,by simpa using rv⟩) (fun b u z=>by have z':(none:Option HO)=some u:=z; cases z') (fun b z=>absurd rfl z) fun z=>absurd rfl z
 | none=>
  refine core (fun b=>if b=a then some (.frz { cls:=.type "list",data:=.seq vs.toArray } (.lst (ns.map V.int))) else none) (fun b=>?_) (.inl (.inr ⟨{ cls:=.type "list",data:=.seq vs.toArray },if_pos rfl⟩)) (fun b u z=>?_) (fun b z=>?_) fun _=>hk
  ·by_cases hb:b=a
   ·exact .inr ⟨_,_,if_pos hb⟩
   ·exact .inl (if_neg hb)
  ·by_cases hb:b=a
   ·have z':=(if_pos hb).symm.trans z
    cases z'
    subst hb
    exact⟨ha,by rw [List.length_map]; exact hl,vs,_,rv,ha⟩
   ·have z':=(if_neg hb).symm.trans z
    cases z'
  ·by_cases hb:b=a
   ·exact hb
   ·exact absurd (if_neg hb) z
end L2
namespace L2
open PySem PySem.Spec PyProof.Rows
theorem walk_of {l:PySem.W.OpenLaw}{n k:Nat}{q:Program}{loose:List Str}{XP:(Str->Option Value)->Heap->Prop}{YP:World->Heap->Prop}{d:DefRec}{K:Params->PySem.W.Frag}{CX:World->CXT}{sp:World->Sp}{x:Str}
  (hn:l.most=some n) (hn2:n<=sizeLine) (hdf:d.params.defaults = []) (hr:Room k callerA)
  (hY:∀ (w:World) (h:Heap),YP w h->(K w.params).In h)
  (F:∀ (w:World) (mg:Str->Option Value) (fa:Addr) (h:Heap),(K w.params).In h->h.Ns mainGlobals mg->mg d.name=some (.ref fa)->
   ∃ fd:FuncData,(∀ (s:Shared) (u:Value),BindsTo s fd ⟨[u],[]⟩ [(x,u)])/\
    ∀ base:Heap,(K w.params).In base->base.Ns mainGlobals mg->FnOk l.prog w (K w.params) mg base (CX w) k fa fd [x] (sp w))
  (hsp:∀ (w:World) (H:Hp) (a:Addr) (ns:List Int),ns.length<=n->Only H->SqL (K w.params) H a (ns.map V.int)->sp w [.ref a] H (fun v _=>v = .bl true) fun _ _ _=>False)
  (hCX:∀ (w:World) (H:Hp) (s:Shared) (e:Value) (s':Shared),CX w [] H s (fun _ _ _=>False) e s'->False) :
  PySem.W.WalkO q loose XP YP l.row.toRowW d [] (fun f vs=>PySem.call f vs):=by
 refine Att.attach_call hn hdf fun w s₀ s₁ mg mb fa o pm cd doc a vs ns G Y ho hd hcd hmg hobj hints hlen hg=>?_
 have KX:=hY w _ Y
 obtain ⟨fd,hb,hF⟩:=F w mg fa _ KX G.T.g hmg
 exact law_call KX G.T.g G.T.b G.T.builtins G.T.nolimit hg hobj hints (Nat.le_trans hlen hn2) hr hF hb (fun H hO hS=>hsp w H a ns hlen hO hS) fun H e s'=>hCX w H s₁ e s'
end L2
namespace L2
open PySem PySem.Spec PyProof.Rows
noncomputable def defArgs (s:Stmt):Arguments:=match s with
 | .FunctionDef _ a _ _ _ _ _ _ _ _=>a
 | _=>{ posonlyargs:=[],args:=[],vararg:=none,kwonlyargs:=[],kw_defaults:=[],kwarg:=none,defaults:=[] }
noncomputable def defBody (s:Stmt):List Stmt:=match s with
 | .FunctionDef _ _ b _ _ _ _ _ _ _=>b
 | _=>[]
noncomputable def defScope (s:Stmt):Scope:=match s with
 | .FunctionDef _ _ _ _ _ _ sc _ _ _=>sc
 | _=>{ kind:=.function,names:=[],isGenerator:=false,isCoroutine:=false }
noncomputable abbrev CX0:CXT:=fun _ _ _ _ _ _=>False
noncomputable abbrev E0:XK:=fun _ _ _=>False
theorem pass0 {X:Cx}:Passes CX0 X E0:=fun _ _ _ _ _ _ _ h=>h.elim
structure Fun (K:PySem.W.Frag) (x qual:Str) (st:Stmt) (f:Addr) (fd:FuncData):Prop where
 ex:∃ (oc:Value) (od:Option Addr) (kV doc pm:Value) (an:Option Addr) (cdv ct:Value) (osl:Array (Option Value)),
  fd=PySem.W.fnOf x qual (defArgs st) (defBody st) (defScope st) .none kV doc pm an cdv ct/\K.lookup f=some ⟨oc,od,.func fd,osl⟩/\PySem.W.codeIn K cdv qual=true
 kp:PySem.W.keepIn K (.ref f)=true
section
variable {P : Program} {w : World} {K : PySem.W.Frag} {mg : Str → Option Value} {base : Heap}
theorem Fun.ok {x qual:Str}{st:Stmt}{f:Addr}{fd:FuncData}{N ps:List Str}{k:Nat}{sp:Sp} (F:Fun K x qual st f fd) (S:FnScope N ps (defScope st)) (len:∀ vs H Q E,sp vs H Q E->vs.length=ps.length)
  (hbody:∀ (cdv:Value) (A:Around) (outer:List Env) (s:Shared) (H:Hp) (vs:List V) (Q:VK) (E:XK),Room k (A.deeper (envOfC qual (defScope st) s.heap.objs.size f cdv))->sp vs H Q E->
   ∃ t,PSs (cxOf CX0 P w K mg base N qual (defScope st) f cdv A outer s H E).nox (defBody st) t/\t { nx:=fun _ H'=>Q .non H',rt:=Q } (start N vs) H):FnOk P w K mg base CX0 (k+1) f fd ps sp:=by
 obtain ⟨oc,od,kV,doc,pm,an,cdv,ct,osl,rfl,lk,hcd⟩:=F.ex
 refine fn_of lk hcd S len fun A outer s H vs Q E hr hsp=>?_
 obtain ⟨t,h,q⟩:=hbody cdv A outer s H vs Q E hr hsp
 exact⟨t,h.nox,q⟩
theorem Fun.binds {x qual:Str}{st:Stmt}{f:Addr}{fd:FuncData}{ps:List Str} (F:Fun K x qual st f fd)
  (h:∀ (kV doc pm:Value) (an:Option Addr) (cdv ct:Value) (us:List Value),us.length=ps.length->bindArgs (PySem.W.fnOf x qual (defArgs st) (defBody st) (defScope st) .none kV doc pm an cdv ct) ⟨us,[]⟩=pure (ps.zip us)):Binds K fd ps []:=by
 obtain ⟨oc,od,kV,doc,pm,an,cdv,ct,osl,rfl,lk,hcd⟩:=F.ex
 exact .all (h kV doc pm an cdv ct)
theorem fun_mk {x qual:Str}{st:Stmt}{f:Addr}{oc:Value}{od an:Option Addr}{osl:Array (Option Value)}{kV doc pm cdv ct:Value} (l:K.lookup f=some ⟨oc,od,.func (PySem.W.fnOf x qual (defArgs st) (defBody st) (defScope st) .none kV doc pm an cdv ct),osl⟩)
  (c:PySem.W.codeIn K cdv qual=true) (k:PySem.W.keepIn K (.ref f)=true):Fun K x qual st f (PySem.W.fnOf x qual (defArgs st) (defBody st) (defScope st) .none kV doc pm an cdv ct):=⟨⟨oc,od,kV,doc,pm,an,cdv,ct,osl,rfl,l,c⟩,k⟩
end
theorem hu_of {A:Around}{k:Nat} (hr:Room k A):A.units+1 < cLine:=Nat.lt_of_le_of_lt (Nat.add_le_add_left (by decide:1<=64) _) hr.units
theorem small1000 {n:Nat} (h:n<=1000):n < sizeLine:=Nat.lt_of_le_of_lt h (by decide)
section
variable {X : Cx}
theorem pv (i:Nat) {x:Str}{pos:Pos} (hN:X.N[i]? = some x:=by rfl) (hv:Vis X.env.scope x:=by first | exact Or.inl rfl | exact Or.inr (Or.inl rfl) | exact Or.inr (Or.inr rfl)) (hd:(x == ("__debug__" : Str))=false:=by decide)
  (hcd:(x == ("__classdict__" : Str))=false:=by decide):PE X (.Name x pos) (tVar i):=pe_var hN hv hd hcd
theorem call_lenD:CallR X (.builtin "len") (fun xs H Q=>∃ a kvs,xs = [V.ref a]/\H a=some (.dK kvs)/\Q (.int kvs.length) H):=by
 intro pins s σ H xs us Q I r h
 obtain ⟨a,kvs,rfl,ha,q⟩:=h
 obtain ⟨u,rfl,ru⟩:=vals1 r
 cases ru
 exact d_len I (.inl ha) fun t s' I'=>⟨.int kvs.length,H,I',⟨t,rfl⟩,q⟩
end
theorem iteF {A B:Prop} (h:B):if false=true then A else B:=by
 rw [if_neg Bool.false_ne_true]
 exact h
theorem iteT {A B:Prop} (h:A):if true=true then A else B:=by
 rw [if_pos rfl]
 exact h
noncomputable def Same (H H':Hp):Prop:=∀ b o,H b=some o->H' b=some o
theorem Same.refl (H:Hp):Same H H:=fun _ _ h=>h
theorem Same.trans {H H1 H2:Hp} (a:Same H H1) (b:Same H1 H2):Same H H2:=fun c o h=>b c o (a c o h)
theorem Same.free {H H':Hp} (e:Same H H') {l:Addr} (h:H' l=Option.none):H l=Option.none:=by
 cases q:H l with
 | none=>rfl
 | some o=>
  rw [e l o q] at h
  cases h
theorem Same.seq {K:PySem.W.Frag}{H H':Hp}{a:Addr}{xs:List V} (e:Same H H') (h:SqL K H a xs):SqL K H' a xs:=by
 rcases h with (h | ⟨o,h⟩) | h
 ·exact .inl (.inl (e _ _ h))
 ·exact .inl (.inr ⟨o,e _ _ h⟩)
 ·exact .inr h
end L2
namespace L2
open PySem PySem.Spec PyProof.Rows
noncomputable def clGo (cells:List (Str × Addr)):List (Str × NameKind)->List (Str × Addr)->List (Str × Addr)
 | [],cs=>cs
 | (n,k) :: r,cs=>clGo cells r (if k == .free then (n,(cells.lookup n).getD 0) :: cs else cs)
theorem closure_go {env:Env}:∀ (ns:List (Str × NameKind)) (cs:List (Str × Addr)),(∀ x ∈ ns,x.2 = .free->∃ c,env.cells.lookup x.1=some c)->
  (forIn ns cs (fun (x:Str × NameKind) r=>(match x with
   | (name,kind)=>if (kind == .free)=true then (do let y <- cellOf env name; pure (ForInStep.yield ((name,y) :: r))) else pure (ForInStep.yield r)):_->_->Sem _))=(pure (clGo env.cells ns cs):Sem (List (Str × Addr)))
 | [],cs,_=>by rw [List.forIn_nil]; rfl
 | (n,k) :: r,cs,h=>by
  rw [List.forIn_cons]
  have hr:∀ x ∈ r,x.2 = .free->∃ c,env.cells.lookup x.1=some c:=fun x hx=>h x (List.mem_cons_of_mem _ hx)
  cases hk:(k == NameKind.free) with
  | true=>
   have e:k = .free:=by simpa using hk
   obtain ⟨c,hc⟩:=h (n,k) List.mem_cons_self e
   simp only [hk,if_true]
   have e1:cellOf env n=pure c:=by unfold cellOf; rw [hc]
   rw [e1]
   show ((pure c >>= fun y=>pure (ForInStep.yield ((n,y) :: cs))) >>= _:Sem _)=_
   rw [pure_bind,pure_bind]
   have:=closure_go (env:=env) r ((n,c) :: cs) hr
   refine this.trans ?_
   unfold clGo
   simp only [hk,if_true,hc,Option.getD_some]
   cases r <;> rfl
  | false=>
   simp only [hk,Bool.false_eq_true,if_false]
   rw [pure_bind]
   have:=closure_go (env:=env) r cs hr
   refine this.trans ?_
   conv=>rhs; unfold clGo
   simp only [hk,Bool.false_eq_true,if_false]
theorem closureFor_eq {scope:Scope}{env:Env} (h:∀ x ∈ scope.names,x.2 = .free->∃ c,env.cells.lookup x.1=some c):closureFor scope env=pure (clGo env.cells scope.names []):=by
 have e:=closure_go (env:=env) scope.names [] h
 unfold closureFor
 rw [show (pure (clGo env.cells scope.names []):Sem (List (Str × Addr)))=(pure (clGo env.cells scope.names []) >>= pure) by rw [pure_bind]]
 rw [<- e]
theorem clGo_sound {cells:List (Str × Addr)}:∀ (ns:List (Str × NameKind)) (cs:List (Str × Addr)) {x:Str}{c:Addr},(∀ y ∈ ns,y.2 = .free->∃ c,cells.lookup y.1=some c)->
  (∀ x c,cs.lookup x=some c->cells.lookup x=some c)->(clGo cells ns cs).lookup x=some c->cells.lookup x=some c
 | [],cs,x,c,_,hc,h=>hc x c h
 | (n,k) :: r,cs,x,c,hn,hc,h=>by
  unfold clGo at h
  have hr:∀ y ∈ r,y.2 = .free->∃ c,cells.lookup y.1=some c:=fun y hy=>hn y (List.mem_cons_of_mem _ hy)
  cases hk:(k == NameKind.free) with
  | false=>
   simp only [hk,Bool.false_eq_true,if_false] at h
   exact clGo_sound r cs hr hc h
  | true=>
   simp only [hk,if_true] at h
   refine clGo_sound r _ hr (fun y d e=>?_) h
   obtain ⟨c0,h0⟩:=hn (n,k) List.mem_cons_self (by simpa using hk)
   have h0:cells.lookup n=some c0:=h0
   rw [h0] at e
   rw [List.lookup_cons] at e
   by_cases hyn:y=n
   ·subst hyn
    simp only [beq_self_eq_true,Option.getD_some] at e
    rw [h0]; exact e
   ·have:(y == n)=false:=beq_eq_false_iff_ne.mpr hyn
    simp only [this] at e
    exact hc y d e
theorem clGo_has {cells:List (Str × Addr)}:∀ (ns:List (Str × NameKind)) (cs:List (Str × Addr)) {x:Str},((x,NameKind.free) ∈ ns ∨ ∃ c,cs.lookup x=some c)->∃ c,(clGo cells ns cs).lookup x=some c
 | [],cs,x,h=>by
  rcases h with h | h
  ·simp at h
  ·exact h
 | (n,k) :: r,cs,x,h=>by
  unfold clGo
  refine clGo_has r _ ?_
  rcases h with h | ⟨c,h⟩
  ·rcases List.mem_cons.mp h with e | e
   ·cases e
    exact .inr ⟨_,by simp [List.lookup_cons]; rfl⟩
   ·exact .inl e
  ·right
   cases hk:(k == NameKind.free) with
   | false=>exact⟨c,by simpa [hk] using h⟩
   | true=>
    simp only [if_true]
    rw [List.lookup_cons]
    by_cases hxn:(x == n)=true
    ·simp only [hxn]; exact⟨_,rfl⟩
    ·simp only [Bool.eq_false_iff.mpr hxn]; exact⟨c,h⟩
theorem lookup_relabel {env:Env}:∀ {names:List (Str × NameKind)}{x:Str}{k:NameKind},(names.map fun (n,k)=>if (k == NameKind.free && env.scope.kind == .function && env.kindOf n == some .cell) then (n,NameKind.cell) else (n,k)).lookup x=some k->
  names.lookup x=some k ∨ (names.lookup x=some .free/\k = .cell)
 | [],_,_,h=>by simp at h
 | (n,q) :: r,x,k,h=>by
  have ih:=@lookup_relabel env r x k
  rw [List.map_cons] at h
  by_cases hx:(x == n)=true
  ·have e:x=n:=by simpa using hx
   subst e
   by_cases hc:(q == NameKind.free && env.scope.kind == .function && env.kindOf x == some .cell)=true
   ·simp only [hc,if_true,List.lookup_cons,beq_self_eq_true] at h
    have hq:q = .free:=by simp at hc; exact hc.1.1
    exact .inr ⟨by simp [List.lookup_cons,hq],(Option.some.inj h).symm⟩
   ·simp only [hc,Bool.false_eq_true,if_false,List.lookup_cons,beq_self_eq_true] at h
    exact .inl (by simp [List.lookup_cons]; exact Option.some.inj h)
  ·have hx':(x == n)=false:=Bool.eq_false_iff.mpr hx
   have h':(r.map fun (n,k)=>if (k == NameKind.free && env.scope.kind == .function && env.kindOf n == some .cell) then (n,NameKind.cell) else (n,k)).lookup x=some k:=by
    by_cases hc:(q == NameKind.free && env.scope.kind == .function && env.kindOf n == some .cell)=true
    ·simp only [hc,if_true,List.lookup_cons,hx'] at h; exact h
    ·simp only [hc,Bool.false_eq_true,if_false,List.lookup_cons,hx'] at h; exact h
   simp only [List.lookup_cons,hx']
   exact ih h'
noncomputable def blockSt (fr:List (Option Nat)) (σ:St):St:=fr.map fun o=>o.bind fun j=>(σ[j]?).join
noncomputable def Wk (σ₁ σ₂:St):Prop:=σ₁.length=σ₂.length/\∀ (i:Nat) v,σ₁[i]? = some (some v)->σ₂[i]? = some (some v)
theorem Wk.refl (σ:St):Wk σ σ:=⟨rfl,fun _ _ h=>h⟩
theorem Wk.set {σ τ:St}{i:Nat}{v:V} (h:Wk σ τ) (hi:σ[i]? = some none):Wk σ (τ.set i (some v)):=by
 refine⟨by rw [List.length_set]; exact h.1,fun j w e=>?_⟩
 by_cases hj:j=i
 ·subst hj; rw [hi] at e; cases e
 ·rw [List.getElem?_set_ne (Ne.symm hj)]; exact h.2 j w e
theorem cellsFrom_app:∀ (ns:List (Str × NameKind)) (n:Nat) (cs:List (Str × Addr)),cellsFrom n ns cs=cellsFrom n ns [] ++ cs
 | [],_,_=>rfl
 | (x,k) :: r,n,cs=>by
  unfold cellsFrom
  split
  ·rw [cellsFrom_app r (n+1) ((x,n) :: cs),cellsFrom_app r (n+1) [(x,n)]]; simp
  ·exact cellsFrom_app r n cs
theorem cellsFrom_mem:∀ (ns:List (Str × NameKind)) (n:Nat) {x:Str}{c:Addr},(x,c) ∈ cellsFrom n ns []->(x,NameKind.cell) ∈ ns
 | [],_,_,_,h=>by simp [cellsFrom] at h
 | (y,k) :: r,n,x,c,h=>by
  unfold cellsFrom at h
  split at h
  ·rename_i hk
   rw [cellsFrom_app] at h
   rcases List.mem_append.mp h with z | z
   ·exact List.mem_cons_of_mem _ (cellsFrom_mem r _ z)
   ·rw [List.mem_singleton] at z
    cases z
    have:k = .cell:=by simpa using hk
    rw [this]; exact List.mem_cons_self
  ·exact List.mem_cons_of_mem _ (cellsFrom_mem r _ h)
theorem cellsFrom_has:∀ (ns:List (Str × NameKind)) (n:Nat) {x:Str},(x,NameKind.cell) ∈ ns->∃ c,(x,c) ∈ cellsFrom n ns []
 | (y,k) :: r,n,x,h=>by
  unfold cellsFrom
  rcases List.mem_cons.mp h with z | z
  ·cases z
   rw [if_pos (by rfl),cellsFrom_app]
   exact⟨n,List.mem_append_right _ (by simp)⟩
  ·split
   ·obtain ⟨c,hc⟩:=cellsFrom_has r (n+1) z
    rw [cellsFrom_app]
    exact⟨c,List.mem_append_left _ hc⟩
   ·exact cellsFrom_has r n z
theorem lookup_of_mem {α:Type}:∀ {l:List (Str × α)}{x:Str}{c:α},(x,c) ∈ l->∃ d,l.lookup x=some d
 | (y,v) :: r,x,c,h=>by
  rw [List.lookup_cons]
  cases hb:x == y with
  | true=>exact⟨v,rfl⟩
  | false=>
   rcases List.mem_cons.mp h with z | z
   ·cases z; simp at hb
   ·exact lookup_of_mem z
theorem lookup_app {α:Type}{x:Str}:∀ (l r:List (Str × α)),(l ++ r).lookup x=(match l.lookup x with | some v=>some v | none=>r.lookup x)
 | [],_=>rfl
 | (y,v) :: l,r=>by
  rw [List.cons_append,List.lookup_cons,List.lookup_cons]
  cases hb:x == y with
  | true=>rfl
  | false=>exact lookup_app l r
noncomputable def ncs (X:Cx) (scope:Scope) (C:Addr):List (Str × Addr):=cellsFrom (C+1) scope.names (clGo X.env.cells scope.names [])
theorem ncs_get {X:Cx}{scope:Scope}{C:Addr}{x:Str}{c:Addr} (h:(ncs X scope C).lookup x=some c) :
  (x,c) ∈ cellsFrom (C+1) scope.names [] ∨ ((∀ d,(x,d) ∉ cellsFrom (C+1) scope.names [])/\(clGo X.env.cells scope.names []).lookup x=some c):=by
 unfold ncs at h
 rw [cellsFrom_app,lookup_app] at h
 cases e:(cellsFrom (C+1) scope.names []).lookup x with
 | some v=>rw [e] at h; cases h; exact .inl (PySem.mem_of_lookup e)
 | none=>
  rw [e] at h
  refine .inr ⟨fun d hd=>?_,h⟩
  obtain ⟨d',z⟩:=lookup_of_mem hd
  rw [e] at z; cases z
theorem ncs_old {X:Cx}{scope:Scope}{C:Addr}{x:Str}{c:Addr} (hn:(x,NameKind.cell) ∉ scope.names) (h:(clGo X.env.cells scope.names []).lookup x=some c):(ncs X scope C).lookup x=some c:=by
 unfold ncs
 rw [cellsFrom_app,lookup_app]
 cases e:(cellsFrom (C+1) scope.names []).lookup x with
 | some v=>exact absurd (cellsFrom_mem _ _ (PySem.mem_of_lookup e)) hn
 | none=>exact h
theorem ncs_has {X:Cx}{scope:Scope}{C:Addr}{x:Str} (h:(x,NameKind.cell) ∈ scope.names ∨ ∃ c,(clGo X.env.cells scope.names []).lookup x=some c):∃ c,(ncs X scope C).lookup x=some c:=by
 unfold ncs
 rw [cellsFrom_app,lookup_app]
 cases e:(cellsFrom (C+1) scope.names []).lookup x with
 | some v=>exact⟨v,rfl⟩
 | none=>
  rcases h with h | h
  ·obtain ⟨c,hc⟩:=cellsFrom_has scope.names (C+1) h
   obtain ⟨d,hd⟩:=lookup_of_mem hc
   rw [e] at hd; cases hd
  ·exact h
noncomputable def cxC (X:Cx) (scope:Scope) (N:List Str) (s:Shared) (H:Hp) (C:Addr) (fp:List Addr) (E:Value->Shared->Prop):Cx:=
 { X with N:=N,s₀:=s,H₀:=H,env:=compEnvC scope (ncs X scope C) C X.env,outer:=X.stack,ex:=fp,fn:=fun x=>scope.names.lookup x == some .cell,pn:=[],xe:=E }
structure CoScope (X:Cx) (scope:Scope) (N:List Str) (fr:List (Option Nat)):Prop where
 kind:scope.kind = .function
 own:∀ y ∈ scope.names,y.2 = .cell->scope.names.lookup y.1=some .cell
 names:∀ y ∈ scope.names,y.2 = .local->scope.names.lookup y.1=some .local
 free:∀ y ∈ scope.names,y.2 = .free->X.env.scope.names.lookup y.1=some .cell ∨ X.env.scope.names.lookup y.1=some .free
 len:fr.length=N.length
 from_:∀ (i j:Nat),fr[i]? = some (some j)->∃ x,N[i]? = some x/\X.N[j]? = some x/\scope.names.lookup x=some .free
section
variable {X : Cx} {pins : List (Addr × Obj)} {σ : St} {H : Hp} {s : Shared} {scope : Scope} {N : List Str} {fr : List (Option Nat)}
theorem CoScope.cells (S:CoScope X scope N fr) (I:Inv X pins σ H s):∀ y ∈ scope.names,y.2 = .free->∃ c,X.env.cells.lookup y.1=some c:=fun y hy hk=>I.ok.has y.1 (S.free y hy hk)
theorem inv_block {C D:Addr}{fp:List Addr}{E:Value->Shared->Prop}{h1:Heap}{tk:Nat}{m:Str->Option Value} (S:CoScope X scope N fr) (I:Inv X pins σ H s)
  (hf:∀ b ∈ fp,FpOk X pins H b) (hfl:∀ b ∈ fp,b < s.heap.objs.size) (hD:s.heap.objs.size<=D) (hC:s.heap.objs.size<=C) (hDC:D < C)
  (old:∀ b o,s.heap.get? b=some o->h1.get? b=some o) (hns:h1.Ns C m) (hacc:h1.get? D=some { cls:=.type "list",data:=.seq #[] 0 }) (hco:CellsOk h1 (C+1) (cellsFrom (C+1) scope.names [])) :
  Inv (cxC X scope N s H C fp E) [] (blockSt fr σ) (upd H D (.lst [])) { s with heap:=h1,toks:=tk }:=by
 have hHD:H D=none:=I.hok.fresh hD
 have cl:=S.cells I
 have cs:∀ {x:Str}{c:Addr},(clGo X.env.cells scope.names []).lookup x=some c->X.env.cells.lookup x=some c:=fun {x c} h=>clGo_sound scope.names [] cl (fun _ _ z=>by simp at z) h
 have clt:∀ {x:Str}{c:Addr},X.env.cells.lookup x=some c->c < s.heap.objs.size:=fun {x c} h=>by obtain ⟨v,z⟩:=I.cell x c h; exact z.lt
 have nge:∀ {x:Str}{c:Addr},(x,c) ∈ cellsFrom (C+1) scope.names []->C < c:=fun {x c} h=>(hco.empty x c h).2
 refine⟨⟨I.ok.mod,?_,I.ok.glob,I.ok.blt,hC,?_,?_,?_,I.ok.hd,I.ok.frames,.inl rfl,?_,I.bs,Nat.le_trans I.ok.bsz I.sz,?_,?_,I.stack,I.stkFree⟩,rfl,I.bare,Un.laid old hD hHD,⟨m,hns,?_⟩,?_,?_,?_,fun p hp=>absurd (show p ∈ ([]:List (Addr × Obj)) from hp) (by simp),?_,?_⟩
 ·exact S.kind
 ·intro x y c h1 h2
  rcases ncs_get h1 with a | ⟨_,a⟩ <;> rcases ncs_get h2 with b | ⟨_,b⟩
  ·exact name_of_addr hco.apart a b
  ·exact absurd (Nat.lt_of_lt_of_le (Nat.lt_trans (nge a) (clt (cs b))) hC) (Nat.lt_irrefl _)
  ·exact absurd (Nat.lt_of_lt_of_le (Nat.lt_trans (nge b) (clt (cs a))) hC) (Nat.lt_irrefl _)
  ·exact I.ok.inj x y c (cs a) (cs b)
 ·intro x hx
  have hx:(relabel scope X.env).names.lookup x=some .cell ∨ (relabel scope X.env).names.lookup x=some .free:=hx
  have fin:(x,NameKind.free) ∈ scope.names->∃ c,(ncs X scope C).lookup x=some c:=fun z=>ncs_has (.inr (clGo_has scope.names [] (.inl z)))
  rcases hx with hx | hx
  ·rcases lookup_relabel hx with z | z
   ·exact ncs_has (.inl (PySem.mem_of_lookup z))
   ·exact fin (PySem.mem_of_lookup z.1)
  ·rcases lookup_relabel hx with z | z
   ·exact fin (PySem.mem_of_lookup z)
   ·exact absurd z.2 (by decide)
 ·intro x c hx h
  have hx:(scope.names.lookup x == some NameKind.cell)=true:=hx
  have hx:scope.names.lookup x=some .cell:=by simpa using hx
  rcases ncs_get h with a | ⟨a,_⟩
  ·exact Nat.le_trans hC (Nat.le_of_lt (nge a))
  ·obtain ⟨d,hd⟩:=cellsFrom_has scope.names (C+1) (PySem.mem_of_lookup hx)
   exact absurd hd (a d)
 ·intro b hb
  refine⟨Nat.ne_of_lt (Nat.lt_of_lt_of_le (hfl b hb) hC),fun x c e=>?_⟩
  rcases ncs_get e with a | ⟨_,a⟩
  ·exact Nat.ne_of_gt (Nat.lt_trans (Nat.lt_of_lt_of_le (hfl b hb) hC) (nge a))
  ·exact (hf b hb).2.2.2.2.1 x c (cs a)
 ·intro b o e hb
  rcases (hf b hb).2.2.2.1 with z | z
  ·exact I.ok.noex b o e z
  ·exact absurd (Nat.lt_of_lt_of_le (Heap.lt_size e) (Nat.le_trans I.ok.bsz z)) (Nat.lt_irrefl _)
 ·intro b hb z
  rcases List.mem_cons.mp (I.stkSub b z) with e | e
  ·exact (hf b hb).2.1 e
  ·exact (hf b hb).2.2.1 e
 ·intro i x v e1 e2 e3
  have e2:(fr.map fun o=>o.bind fun j=>(σ[j]?).join)[i]? = some (some v):=e2
  rw [List.getElem?_map] at e2
  cases ef:fr[i]? with
  | none=>rw [ef] at e2; cases e2
  | some o=>
   rw [ef] at e2
   cases o with
   | none=>cases e2
   | some j=>
    have e2:some ((σ[j]?).join)=some (some v):=e2
    have ej:σ[j]? = some (some v):=by
     cases q:σ[j]? with
     | none=>rw [q] at e2; cases e2
     | some w=>rw [q] at e2; cases w with
      | none=>cases e2
      | some w=>cases e2; rfl
    obtain ⟨y,a1,a2,a4⟩:=S.from_ i j ef
    have e1:N[i]? = some x:=e1
    rw [e1] at a1
    cases a1
    have a3:(x,NameKind.free) ∈ scope.names:=PySem.mem_of_lookup a4
    have vis:Vis X.env.scope x:=(S.free _ a3 rfl).elim (fun z=>.inr (.inl z)) fun z=>.inr (.inr z)
    obtain ⟨m0,hn0,hl0⟩:=I.loc
    obtain ⟨u,r,l⟩:=hl0 j x v a2 ej vis
    refine⟨u,r,.inr ⟨?_,?_⟩⟩
    ·have e3:(relabel scope X.env).names.lookup x=some .local ∨ (relabel scope X.env).names.lookup x=some .cell ∨ (relabel scope X.env).names.lookup x=some .free:=e3
     rcases e3 with z | z | z
     ·rcases lookup_relabel z with y | y
      ·rw [a4] at y; cases y
      ·exact absurd y.2 (by decide)
     ·exact .inl z
     ·exact .inr z
    ·obtain ⟨c,hc⟩:=clGo_has (cells:=X.env.cells) scope.names [] (x:=x) (.inl a3)
     refine⟨c,ncs_old (fun z=>by have:=S.own _ z rfl; rw [a4] at this; cases this) hc,?_⟩
     have hc':=cs hc
     have S1:=S.free (x,.free) a3 rfl
     rcases l with ⟨k,_⟩ | ⟨_,c2,hc2,z⟩
     ·have k:X.env.scope.names.lookup x=some .local:=k
      rcases S1 with q | q <;> (have q:X.env.scope.names.lookup x=_:=q; rw [k] at q; cases q)
     ·rw [hc'] at hc2; cases hc2
      obtain ⟨oc,ho,hd⟩:=z
      exact⟨oc,old c oc ho,hd⟩
 ·intro x c e
  rcases ncs_get e with a | ⟨_,a⟩
  ·exact⟨_,(hco.empty x c a).1⟩
  ·obtain ⟨v,oc,ho,hd⟩:=I.cell x c (cs a)
   exact⟨v,oc,old c oc ho,hd⟩
 ·show upd H D (.lst []) C=none
  rw [upd_ne (Nat.ne_of_gt hDC)]; exact I.hok.fresh hC
 ·intro x c e
  show upd H D (.lst []) c=none
  rcases ncs_get e with a | ⟨_,a⟩
  ·rw [upd_ne (Nat.ne_of_gt (Nat.lt_trans hDC (nge a)))]; exact I.hok.fresh (Nat.le_trans hC (Nat.le_of_lt (nge a)))
  ·have q:=cs a
   rw [upd_ne (Nat.ne_of_lt (Nat.lt_of_lt_of_le (clt q) hD))]
   exact I.freeC x c q
 ·exact I.hok.laid old hD ⟨Nat.zero_le _,[],0,.nil,hacc⟩
 ·show (blockSt fr σ).length=N.length
  unfold blockSt; rw [List.length_map]; exact S.len
end
end L2
namespace L2
open PySem PySem.Spec PyProof.Rows
noncomputable def PTs (X:Cx) (ifs:List Expr) (t:TT):Prop:=
 ∀ (pins:List (Addr × Obj)) (s:Shared) (σ:St) (H:Hp) (Q:Bool->Hp->Prop),Inv X pins σ H s->t σ H Q->
  wpAny (model X.prog X.w) X.A (forIn ifs true fun c r=>if r=true then do let ok <- isTrue c X.env (eval c X.env); pure (ForInStep.yield ok) else pure (ForInStep.yield r)) (TP X pins σ Q) X.xe s
noncomputable def tYes:TT:=fun _ H Q=>Q true H
theorem pts_nil {X:Cx}:PTs X [] tYes:=fun _ _ _ H _ I h=>wpAny_tests_nil ⟨H,I,h⟩
theorem pts_one {X:Cx}{c:Expr}{t:TT} (h:PT X c t):PTs X [c] t:=fun pins s σ H Q I hq=>wpAny_tests_one (h pins s σ H Q I hq)
section
variable {prog : Program} {w : World} {A : Around}
noncomputable def OneTurn (prog:Program) (w:World) (A:Around) (elt tg:Expr) (ifs:List Expr) (it acc:Value) (env:Env) (lost:Value->Shared->Prop) (stop next:Shared->Prop) (s:Shared):Prop:=
 let M:=model prog w
 let tests:Sem Bool:=forIn ifs true fun c r=>if r=true then do let ok <- isTrue c env (eval c env); pure (ForInStep.yield ok) else pure (ForInStep.yield r)
 let put:Shared->Prop:=wpAny M A (eval elt env) (fun x=>wpAny M A (call (.builtin "list.append") [acc,x]) (fun _=>next) lost) lost
 let taken:Value->Shared->Prop:=fun v=>wpAny M A (letOwnedTupleGo tg it v) (fun _=>wpAny M A (assign tg env v) (fun _=>wpAny M A tests (fun ok s'=>if ok=true then put s' else next s') lost) lost) lost
 wpAny M A (pyNext it) (fun r s'=>match r with
  | none=>stop s'
  | some v=>taken v s') lost s
theorem comp_turns {R:Result->Shared->Prop}{s:Shared}{elt tg iter:Expr}{ifs:List Expr}{scope:Scope}{pos:Pos}{it acc:Value}{env:Env} (I:Nat->Shared->Prop)
  (turn:∀ n s,I n s->OneTurn prog w A elt tg ifs it acc env (notedBy (model prog w) A env fun e=>R (.error e)) (R (.ok .next)) (fun s'=>∃ m,m < n/\I m s') s) (n:Nat) (h:I n s) :
  codeAny (model prog w) A (.compLoop (.ListComp elt [⟨tg,iter,ifs,0⟩] scope pos) 0 it acc env) R s:=by
 apply codeAny_loop rfl I _ n h
 intro k s1 h1
 change wpAny _ A ((compTurn _ 0 it acc env).onRaise (fun x=>do noteFrame x env; theTreesLotGoes x)) _ _ s1
 apply wpAny_noted
 rw [compTurn_list]
 have t:=turn k s1 h1
 unfold OneTurn at t
 apply wpAny_bind
 apply wpAny_standAt
 apply wpAny_bind
 refine wpAny_mono t (fun r s2 h2=>?_) fun _ _ z=>z
 cases r with
 | none=>exact wpAny_pure h2
 | some v=>
  apply wpAny_bind
  refine wpAny_mono h2 (fun _ s3 h3=>?_) fun _ _ z=>z
  apply wpAny_bind
  refine wpAny_mono h3 (fun _ s4 h4=>?_) fun _ _ z=>z
  apply wpAny_bind
  refine wpAny_mono h4 (fun ok s5 h5=>?_) fun _ _ z=>z
  cases ok with
  | false=>exact wpAny_pure ⟨rfl,h5⟩
  | true=>
   apply wpAny_bind
   apply wpAny_bind
   refine wpAny_mono h5 (fun x s6 h6=>?_) fun _ _ z=>z
   apply wpAny_bind
   exact wpAny_mono h6 (fun _ s7 h7=>wpAny_pure (wpAny_pure ⟨rfl,h7⟩)) fun _ _ z=>z
end
noncomputable def tTurns (g:TG) (tc:TT) (te:TE) (σ0:St) (J:It) (D:Addr) (Q:VK) (W:Nat->Nat->List V->Hp->Prop):Prop:=
 ∀ i m acc H',W i m acc H'->H' D=some (.lst acc)/\((J.stop i H'/\Q (.ref D) H') ∨ (J.go i H'/\∀ x H2,J.yld i H' x H2->g x σ0 H2 fun σ2 H3=>Wk σ0 σ2/\tc σ2 H3 fun b H4=>
  if b=true then te σ2 H4 fun v H5=>H5 D=some (.lst acc)/\acc.length < sizeLine/\∃ m',m' < m/\W (i+1) m' (acc ++ [v]) (upd H5 D (.lst (acc ++ [v]))) else ∃ m',m' < m/\W (i+1) m' acc H4))
noncomputable def tComp (wi:TI) (fr:List (Option Nat)) (g:TG) (tc:TT) (te:TE):TE:=fun σ H Q=>wi σ H fun J H1=>∀ D,H1 D=none->
 ∃ W:Nat->Nat->List V->Hp->Prop,(∃ m,W 0 m [] (upd H1 D (.lst [])))/\tTurns g tc te (blockSt fr σ) J D Q W
section
variable {M : Model} {A : Around} {E : Value → Shared → Prop} {s : Shared}
theorem wpAny_newEnv {scope:Scope}{globals:Addr}{cl:List (Str × Addr)}{qual:Str}{func:Option Addr}{code:Value}{builtins:Addr}{outer:Env}{Q:Env->Shared->Prop}
  (hQ:∀ h',h'.Ns s.heap.objs.size (fun _=>none)->(∀ b o,s.heap.get? b=some o->h'.get? b=some o)->CellsOk h' (s.heap.objs.size+1) (cellsFrom (s.heap.objs.size+1) scope.names [])->
   Q (newEnv scope s.heap.objs.size globals (cellsFrom (s.heap.objs.size+1) scope.names cl) qual func code (some outer) builtins) { s with heap:=h' }) :
  wpAny M A (newFunctionEnv scope globals cl [] qual func code (some outer) builtins) Q E s:=by
 simp only [newFunctionEnv,Option.isSome_some,if_true]
 refine wpAny_bind (wpAny_alloc ?_)
 refine wpAny_bind (wpAny_layCells _ (fun name kind cells=>by cases hkc:kind == NameKind.cell <;> simp [hkc]) _ _ _ _ ?_)
 have ok:=cellsFrom_ok scope.names (s.heap.push { cls:=.type "dict",data:=.dict #[] }) (s.heap.objs.size+1) [] ⟨fun _ _ hm=>(nomatch hm),List.Pairwise.nil⟩ (by rw [Heap.size_push]; exact Nat.le_refl _)
 rw [Heap.size_push] at ok
 rw [show ({ s with heap:=s.heap.push { cls:=.type "dict",data:=.dict #[] } }:Shared).heap.objs.size=s.heap.objs.size+1 from Heap.size_push ..]
 rw [List.forIn_nil]
 refine wpAny_bind (wpAny_pure (wpAny_pure (hQ _ ((Heap.Ns.new s.heap (.type "dict")).keeps (pushCells_keeps _ _)) (fun b o e=>pushCells_keeps _ _ b o (Heap.get?_push_of_some _ e)) ok)))
end
section
variable {X : Cx} {pins : List (Addr × Obj)} {σ : St} {H : Hp} {s : Shared} {scope : Scope} {N : List Str} {fr : List (Option Nat)} {tg iter elt : Expr} {ifs : List Expr} {pos : Pos} {wi : TI} {g : TG} {tc : TT} {te : TE}
structure BlkAt (X:Cx) (scope:Scope) (N:List Str) (tg:Expr) (ifs:List Expr) (elt:Expr) (s:Shared) (H:Hp) (g:TG) (tc:TT) (te:TE):Prop where
 tg:∀ (C:Addr) (fp:List Addr),PG (cxC X scope N s H C fp fun _ _=>False) tg g
 ifs:∀ (C:Addr) (fp:List Addr),PTs (cxC X scope N s H C fp fun _ _=>False) ifs tc
 elt:∀ (C:Addr) (fp:List Addr),PE (cxC X scope N s H C fp fun _ _=>False) elt te
structure Blk (X:Cx) (scope:Scope) (N:List Str) (tg:Expr) (ifs:List Expr) (elt:Expr) (g:TG) (tc:TT) (te:TE):Prop where
 tg:∀ (s:Shared) (H:Hp) (C:Addr) (fp:List Addr),PG (cxC X scope N s H C fp fun _ _=>False) tg g
 ifs:∀ (s:Shared) (H:Hp) (C:Addr) (fp:List Addr),PTs (cxC X scope N s H C fp fun _ _=>False) ifs tc
 elt:∀ (s:Shared) (H:Hp) (C:Addr) (fp:List Addr),PE (cxC X scope N s H C fp fun _ _=>False) elt te
theorem Blk.at (B:Blk X scope N tg ifs elt g tc te) (s:Shared) (H:Hp):BlkAt X scope N tg ifs elt s H g tc te:=⟨B.tg s H,B.ifs s H,B.elt s H⟩
theorem inv_out {C:Addr}{fp:List Addr}{E:Value->Shared->Prop}{pins':List (Addr × Obj)}{σ':St}{H':Hp}{s':Shared} (I:Inv X pins σ H s) (hf:∀ b ∈ fp,FpOk X pins H b) (I':Inv (cxC X scope N s H C fp E) pins' σ' H' s'):Inv X pins σ H' s':=
 I.call' (ch:=fp) I'.os I'.base I'.hok I'.bare fun b hb=>⟨(hf b hb).2.2.2.1,(hf b hb).2.1,(hf b hb).2.2.2.2.1,(hf b hb).2.2.2.2.2⟩
theorem comp_run {Rr:Value->Addr->Result->Shared->Prop}{J:It}{fp:List Addr}{it:Addr}{tn:Nat->Heap->Prop}{Q:VK}
  (hc:X.calm=true) (S:CoScope X scope N fr) (B:BlkAt X scope N tg ifs elt s H g tc te) (I:Inv X pins σ H s) (T:Turn X.prog X.w X.K tg J fp it tn) (hst:tn 0 s.heap) (hf:∀ b ∈ fp,FpOk X pins H b)
  (h:∀ D,H D=none->∃ W:Nat->Nat->List V->Hp->Prop,(∃ m,W 0 m [] (upd H D (.lst [])))/\tTurns g tc te (blockSt fr σ) J D Q W)
  (hend:∀ (D C:Addr) (s':Shared) (H':Hp) (m:Str->Option Value),s.heap.objs.size<=C->s.heap.objs.size<=D->Inv X pins σ H' s'->s'.heap.Ns C m->H' C=none->Q (.ref D) H'->Rr (.ref D) C (.ok .next) s') :
  wpAny (model X.prog X.w) X.A (newList []) (fun acc s₃=>wpAny (model X.prog X.w) X.A (newFunctionEnv scope X.env.globals (clGo X.env.cells scope.names []) [] X.env.qual none .none (some X.env)) (fun cenv s₄=>
   codeAny (model X.prog X.w) X.A (.compStart (.ListComp elt [⟨tg,iter,ifs,0⟩] scope pos) 0 (.ref it) acc { cenv with scope:=relabel scope X.env }) (Rr acc cenv.locals) s₄) X.xe s₃) X.xe s:=by
 refine wpAny_newObj_type (wpAny_newEnv (fun h₁ hns₁ keep₁ hco₁=>?_))
 dsimp only at hns₁ keep₁ hco₁ ⊢
 generalize hH2:s.heap.push { cls:=.type "list",dict:=none,data:=.seq ([]:List Value).toArray }=H2 at hns₁ keep₁ hco₁ ⊢
 have hC:H2.objs.size=s.heap.objs.size+1:=by rw [<- hH2,Heap.size_push]
 have hDC:s.heap.objs.size < H2.objs.size:=by rw [hC]; exact Nat.lt_succ_self _
 have hCle:s.heap.objs.size<=H2.objs.size:=by rw [hC]; exact Nat.le_succ _
 have old:∀ b o,s.heap.get? b=some o->h₁.get? b=some o:=fun b o e=>keep₁ b o (hH2 ▸ Heap.get?_push_of_some _ e)
 have hacc:h₁.get? s.heap.objs.size=some { cls:=.type "list",data:=.seq #[] 0 }:=keep₁ _ _ (hH2 ▸ Heap.get?_push_size _ rfl)
 have hfl:∀ b ∈ fp,b < s.heap.objs.size:=fun b hb=>by obtain ⟨o,e,_⟩:=T.obj _ _ hst b hb; exact Heap.lt_size e
 obtain ⟨W,⟨m0,w0⟩,turn⟩:=h s.heap.objs.size (I.hok.fresh (Nat.le_refl _))
 have st1:tn 0 h₁:=T.keep _ _ _ hst fun b _ o e=>old b o e
 have fr0:∀ b ∈ fp,upd H s.heap.objs.size (.lst []) b=none:=fun b hb=>by rw [upd_ne (Nat.ne_of_lt (hfl b hb))]; exact (hf b hb).1
 have stat:∀ {H':Hp},(∀ b ∈ fp,H' b=none)->∀ b ∈ fp,FpOk (cxC X scope N s H H2.objs.size fp fun _ _=>False) [] H' b:=fun {H'} hn b hb=>by
  have f:=hf b hb
  refine⟨hn b hb,Nat.ne_of_lt (Nat.lt_of_lt_of_le (hfl b hb) hCle),fun z=>?_,.inl hb,fun x c e=>(ncs_get e).elim (fun z=>Nat.ne_of_gt (Nat.lt_trans (Nat.lt_of_lt_of_le (hfl b hb) hCle) (hco₁.empty x c z).2)) fun z=>f.2.2.2.2.1 x c (clGo_sound scope.names [] (S.cells I) (fun _ _ z=>by simp at z) z.2),fun p hp=>absurd (show p ∈ ([]:List (Addr × Obj)) from hp) (by simp)⟩
  rcases List.mem_cons.mp (I.stkSub b z) with e | e
  ·exact f.2.1 e
  ·exact f.2.2.1 e
 generalize hX:cxC X scope N s H H2.objs.size fp (fun _ _=>False)=Y at stat
 have I0:Inv Y [] (blockSt fr σ) (upd H s.heap.objs.size (.lst [])) { s with heap:=h₁ }:=hX ▸ inv_block S I hf hfl (Nat.le_refl _) hCle hDC old hns₁ hacc hco₁
 have bt:PG Y tg g:=hX ▸ B.tg H2.objs.size fp
 have bi:PTs Y ifs tc:=hX ▸ B.ifs H2.objs.size fp
 have be:PE Y elt te:=hX ▸ B.elt H2.objs.size fp
 have eP:Y.prog=X.prog:=by rw [<- hX]; rfl
 have ew:Y.w=X.w:=by rw [<- hX]; rfl
 have eK:Y.K=X.K:=by rw [<- hX]; rfl
 have eA:Y.A=X.A:=by rw [<- hX]; rfl
 have eE:Y.env=compEnvC scope (ncs X scope H2.objs.size) H2.objs.size X.env:=by rw [<- hX]; rfl
 have eX:Y.xe=fun _ _=>False:=by rw [<- hX]; rfl
 have ec:Y.calm=true:=by rw [<- hX]; exact hc
 have never:∀ {E:Value->Shared->Prop} (e:Value) (s':Shared),Y.xe e s'->E e s':=fun {E} e s' z=>by rw [eX] at z; exact z.elim
 have out:∀ {pins' σ' H' s'},Inv Y pins' σ' H' s'->Inv X pins σ H' s':=fun {_ _ _ _} I'=>inv_out (C:=H2.objs.size) (E:=fun _ _=>False) (scope:=scope) (N:=N) I hf (hX ▸ I')
 have loop:codeAny (model X.prog X.w) X.A (.compLoop (.ListComp elt [⟨tg,iter,ifs,0⟩] scope pos) 0 (.ref it) (.ref s.heap.objs.size) (compEnvC scope (ncs X scope H2.objs.size) H2.objs.size X.env))
   (Rr (.ref s.heap.objs.size) H2.objs.size) { s with heap:=h₁ }:=by
  refine comp_turns (fun n s'=>∃ i acc H',Inv Y [] (blockSt fr σ) H' s'/\tn i s'.heap/\(∀ b ∈ fp,H' b=none)/\W i n acc H') ?_ m0 ⟨0,[],_,I0,st1,fr0,w0⟩
  rintro n s3 ⟨i,acc,H3,I3,st3,fr3,w3⟩
  unfold OneTurn
  dsimp only
  obtain ⟨hD3,step⟩:=turn i n acc H3 w3
  rcases step with ⟨stop,qn⟩ | ⟨go,step⟩
  ·have z:=T.done Y eP ew eK ec i [] s3 _ H3 (notedBy (model X.prog X.w) X.A (compEnvC scope (ncs X scope H2.objs.size) H2.objs.size X.env) fun e s'=>Rr (.ref s.heap.objs.size) H2.objs.size (.error e) s') I3 (stat fr3) st3 stop
   rw [eA] at z
   refine thn z fun r s4 ⟨hr,I4⟩=>?_
   subst hr
   obtain ⟨m4,hn4,_⟩:=I4.loc
   rw [eE] at hn4
   have f4:=I4.free
   rw [eE] at f4
   exact hend _ _ s4 H3 m4 hCle (Nat.le_refl _) (out I4) hn4 f4 qn
  ·have z:=T.item Y eP ew eK ec i [] s3 _ H3 (notedBy (model X.prog X.w) X.A (compEnvC scope (ncs X scope H2.objs.size) H2.objs.size X.env) fun e s'=>Rr (.ref s.heap.objs.size) H2.objs.size (.error e) s') I3 (stat fr3) st3 go
   rw [eA] at z
   refine thn z fun r s4 ⟨u,hr,h4⟩=>?_
   subst hr
   refine thn h4 fun _ s5 ⟨x,H5,I5,r5,y5,st5,fr5⟩=>?_
   have I5':=I5.pinned (stat fr5) (T.obj _ _ st5)
   have q1:=bt _ s5 _ H5 x u _ I5' r5 (step x H5 y5)
   rw [eP,ew,eA,eE] at q1
   refine wpAny_mono q1 (fun _ s6 ⟨σ6,H6,I6,wk,q6⟩=>?_) never
   have q2:=bi _ s6 σ6 H6 _ I6 q6
   rw [eP,ew,eA,eE] at q2
   refine wpAny_mono q2 (fun b s7 ⟨H7,I7,q7⟩=>?_) never
   have again:∀ {H8:Hp}{s8:Shared}{acc':List V},Inv Y ([] ++ pinsAt fp s5.heap) σ6 H8 s8->(∃ m',m' < n/\W (i+1) m' acc' H8)->∃ m,m < n/\∃ i acc H',Inv Y [] (blockSt fr σ) H' s8/\tn i s8.heap/\(∀ b ∈ fp,H' b=none)/\W i m acc H':=fun {H8 s8 acc'} I8 n8=>by
    obtain ⟨m',hm,w8⟩:=n8
    refine⟨m',hm,i+1,acc',H8,(I8.unpinned).weak wk.1 wk.2,T.keep _ _ _ st5 fun b hb o e=>(I8.pin (b,o) (List.mem_append_right _ (List.mem_append_right _ (mem_pinsAt hb e)))).1,fun b hb=>?_,w8⟩
    obtain ⟨o,e,d⟩:=T.obj _ _ st5 b hb
    exact (I8.pin (b,o) (List.mem_append_right _ (List.mem_append_right _ (mem_pinsAt hb e)))).2.1
   cases b with
   | false=>
    rw [if_neg Bool.false_ne_true] at q7 ⊢
    exact again I7 q7
   | true=>
    rw [if_pos rfl] at q7 ⊢
    have q3:=be _ s7 σ6 H7 _ I7 q7
    rw [eP,ew,eA,eE] at q3
    refine wpAny_mono q3 (fun v s8 ⟨y,H8,I8,r8,hD8,hz8,q8⟩=>?_) never
    have q4:=mt_append _ s8 σ6 H8 (.ref s.heap.objs.size) [y] (.ref s.heap.objs.size) [v] (fun _ H9=>∃ m',m' < n/\W (i+1) m' (acc ++ [y]) H9) I8 rfl (.cons r8 .nil) ⟨_,_,_,rfl,rfl,hD8,hz8,q8⟩
    rw [eP,ew,eA] at q4
    exact wpAny_mono q4 (fun _ s9 ⟨_,H9,I9,_,q9⟩=>again I9 q9) never
 exact codeAny_compStart_list loop (T.self _ 0 _ _ _ st1 loop)
end
end L2
namespace L2
open PySem PySem.Spec PyProof.Rows
section
variable {X : Cx} {scope : Scope} {N : List Str} {fr : List (Option Nat)} {tg iter elt : Expr} {ifs : List Expr} {pos : Pos} {wi : TI} {g : TG} {tc : TT} {te : TE}
theorem Inv.drop {pins:List (Addr × Obj)}{σ:St}{H H':Hp}{s s':Shared}{C:Addr}{h':Heap} (I0:Inv X pins σ H s) (hC:s.heap.objs.size<=C) {σ':St} (I:Inv X pins σ' H' s') (hn:H' C=none) (sb:Heap.SameBut C s'.heap h'):Inv X pins σ' H' { s' with heap:=h' }:=by
 refine I.turned (t':=s'.toks) (it:=C) (fun b o hb e=>(sb.2 b hb).trans e) hn (Nat.ne_of_gt (Nat.lt_of_lt_of_le I0.lt hC)) (.inr (Nat.le_trans I0.sz hC)) (fun x c e z=>?_) fun p hp z=>?_
 ·obtain ⟨v,q⟩:=I0.cell x c e
  exact absurd (Nat.lt_of_lt_of_le q.lt (by rw [z]; exact hC)) (Nat.lt_irrefl _)
 ·exact absurd (Nat.lt_of_lt_of_le (Heap.lt_size (I0.pin p hp).1) (by rw [z]; exact hC)) (Nat.lt_irrefl _)
theorem pe_comp (hc:X.calm=true) (S:CoScope X scope N fr) (hi:PI X tg iter wi) (B:Blk X scope N tg ifs elt g tc te)
  (hs:∀ x,foldedSetIterable iter X.env x=pure x:=by intro _; rfl):PE X (.ListComp elt [⟨tg,iter,ifs,0⟩] scope pos) (tComp wi fr g tc te):=by
 intro pins s σ H Q I h
 rw [eval_ListComp]
 refine wpAny_comprehension_free (use:=none) rfl hs (closureFor_eq (S.cells I)) S.kind S.names (thn (hi pins s σ H _ I h) fun v s1 h1=>thn h1 fun itv s2 h2=>?_)
 obtain ⟨it,fp,tn,J,H2,e,I2,T,st2,f2,hW⟩:=h2
 subst e
 refine comp_run (Rr:=fun acc C=>compPost (model X.prog X.w) X.A X.xe none (EP X pins σ Q) acc C) hc S (B.at _ _) I2 T st2 f2 hW ?_
 intro D C s' H' m hC hD I' hns hHC q
 exact⟨m,hns,fun h' sb=>⟨.ref D,H',I2.drop hC I' hHC sb,rfl,q⟩⟩
theorem ps_setC {i:Nat}{x:Str}{px spos:Pos} (hc:X.calm=true) (S:CoScope X scope N fr) (hi:PI X tg iter wi) (B:Blk X scope N tg ifs elt g tc te) (hN:X.N.Nodup) (hix:X.N[i]? = some x) (hx:X.env.scope.names.lookup x=some .local)
  (hsw:swapsWith (.ListComp elt [⟨tg,iter,ifs,0⟩] scope pos) (some (.Name x px)) spos.line X.env=pure true) (hs:∀ x,foldedSetIterable iter X.env x=pure x:=by intro _; rfl) :
  PS X (.Assign [.Name x px] (.ListComp elt [⟨tg,iter,ifs,0⟩] scope pos) spos) (tAsg (tComp wi fr g tc te) (gName i)):=by
 intro pins s σ H D I h
 rw [exec_Assign_Name_used _ _ _ _ hsw]
 refine wpAny_bind (wpAny_standAt (wpAny_bind ?_))
 show wpAny _ _ (do let _ <- comprehension (.ListComp elt [⟨tg,iter,ifs,0⟩] scope pos) scope X.env _ (newList []) false (eval iter X.env) (some (assign (.Name x px) X.env))) _ _ s
 refine wpAny_bind (wpAny_mono (wpAny_comprehension_free (Q:=fun _ s'=>SP X pins D .next s') (use:=some (assign (.Name x px) X.env)) rfl hs (closureFor_eq (S.cells I)) S.kind S.names (thn (hi pins s σ H _ I h) fun v s1 h1=>thn h1 fun itv s2 h2=>?_))
  (fun _ s' hq=>wpAny_pure (wpAny_pure hq)) fun _ _ e=>e)
 obtain ⟨it,fp,tn,J,H2,e,I2,T,st2,f2,hW⟩:=h2
 subst e
 refine comp_run (Rr:=fun acc C=>compPost (model X.prog X.w) X.A X.xe (some (assign (.Name x px) X.env)) (fun _ s'=>SP X pins D .next s') acc C) hc S (B.at _ _) I2 T st2 f2 hW ?_
 intro D' C s' H' m hC hD I' hns hHC q
 refine wpAny_assign_Name (store_ok2 I' hN hix (.inl hx) (v:=.ref D') rfl (fun s'' I'' sb=>?_) (.inr hx))
 obtain ⟨a,sb,ha⟩:=sb
 have hCa:C ≠ a:=by
  rcases ha with z | z
  ·rw [z]; exact Nat.ne_of_gt (Nat.lt_of_lt_of_le I2.lt hC)
  ·intro e; subst e
   obtain ⟨v,q⟩:=I2.cell x _ z
   exact absurd (Nat.lt_of_lt_of_le q.lt hC) (Nat.lt_irrefl _)
 exact⟨m,hns.sameBut sb hCa,fun h' sb'=>⟨_,H',I2.drop hC I'' hHC sb',q⟩⟩
variable {gh : Hp → TG} {tch : Hp → TT} {teh : Hp → TE}
noncomputable def tCompH (wi:TI) (fr:List (Option Nat)) (gh:Hp->TG) (tch:Hp->TT) (teh:Hp->TE):TE:=fun σ H Q=>wi σ H fun J H1=>∀ D,H1 D=none->
 ∃ W:Nat->Nat->List V->Hp->Prop,(∃ m,W 0 m [] (upd H1 D (.lst [])))/\tTurns (gh H1) (tch H1) (teh H1) (blockSt fr σ) J D Q W
theorem pe_compH (hc:X.calm=true) (S:CoScope X scope N fr) (hi:PI X tg iter wi) (B:∀ (s:Shared) (H:Hp),BlkAt X scope N tg ifs elt s H (gh H) (tch H) (teh H))
  (hs:∀ x,foldedSetIterable iter X.env x=pure x:=by intro _; rfl):PE X (.ListComp elt [⟨tg,iter,ifs,0⟩] scope pos) (tCompH wi fr gh tch teh):=by
 intro pins s σ H Q I h
 rw [eval_ListComp]
 refine wpAny_comprehension_free (use:=none) rfl hs (closureFor_eq (S.cells I)) S.kind S.names (thn (hi pins s σ H _ I h) fun v s1 h1=>thn h1 fun itv s2 h2=>?_)
 obtain ⟨it,fp,tn,J,H2,e,I2,T,st2,f2,hW⟩:=h2
 subst e
 refine comp_run (Rr:=fun acc C=>compPost (model X.prog X.w) X.A X.xe none (EP X pins σ Q) acc C) hc S (B _ _) I2 T st2 f2 hW ?_
 intro D C s' H' m hC hD I' hns hHC q
 exact⟨m,hns,fun h' sb=>⟨.ref D,H',I2.drop hC I' hHC sb,rfl,q⟩⟩
theorem ps_setCH {i:Nat}{x:Str}{px spos:Pos} (hc:X.calm=true) (S:CoScope X scope N fr) (hi:PI X tg iter wi) (B:∀ (s:Shared) (H:Hp),BlkAt X scope N tg ifs elt s H (gh H) (tch H) (teh H)) (hN:X.N.Nodup) (hix:X.N[i]? = some x) (hx:X.env.scope.names.lookup x=some .local)
  (hsw:swapsWith (.ListComp elt [⟨tg,iter,ifs,0⟩] scope pos) (some (.Name x px)) spos.line X.env=pure true) (hs:∀ x,foldedSetIterable iter X.env x=pure x:=by intro _; rfl) :
  PS X (.Assign [.Name x px] (.ListComp elt [⟨tg,iter,ifs,0⟩] scope pos) spos) (tAsg (tCompH wi fr gh tch teh) (gName i)):=by
 intro pins s σ H D I h
 rw [exec_Assign_Name_used _ _ _ _ hsw]
 refine wpAny_bind (wpAny_standAt (wpAny_bind ?_))
 show wpAny _ _ (do let _ <- comprehension (.ListComp elt [⟨tg,iter,ifs,0⟩] scope pos) scope X.env _ (newList []) false (eval iter X.env) (some (assign (.Name x px) X.env))) _ _ s
 refine wpAny_bind (wpAny_mono (wpAny_comprehension_free (Q:=fun _ s'=>SP X pins D .next s') (use:=some (assign (.Name x px) X.env)) rfl hs (closureFor_eq (S.cells I)) S.kind S.names (thn (hi pins s σ H _ I h) fun v s1 h1=>thn h1 fun itv s2 h2=>?_))
  (fun _ s' hq=>wpAny_pure (wpAny_pure hq)) fun _ _ e=>e)
 obtain ⟨it,fp,tn,J,H2,e,I2,T,st2,f2,hW⟩:=h2
 subst e
 refine comp_run (Rr:=fun acc C=>compPost (model X.prog X.w) X.A X.xe (some (assign (.Name x px) X.env)) (fun _ s'=>SP X pins D .next s') acc C) hc S (B _ _) I2 T st2 f2 hW ?_
 intro D' C s' H' m hC hD I' hns hHC q
 refine wpAny_assign_Name (store_ok2 I' hN hix (.inl hx) (v:=.ref D') rfl (fun s'' I'' sb=>?_) (.inr hx))
 obtain ⟨a,sb,ha⟩:=sb
 have hCa:C ≠ a:=by
  rcases ha with z | z
  ·rw [z]; exact Nat.ne_of_gt (Nat.lt_of_lt_of_le I2.lt hC)
  ·intro e; subst e
   obtain ⟨v,q⟩:=I2.cell x _ z
   exact absurd (Nat.lt_of_lt_of_le q.lt hC) (Nat.lt_irrefl _)
 exact⟨m,hns.sameBut sb hCa,fun h' sb'=>⟨_,H',I2.drop hC I'' hHC sb',q⟩⟩
end
theorem same_new {H:Hp}{p:Addr} (h:H p=none) (o:HO):Same H (upd H p o):=fun b u q=>by rw [upd_ne (ne_of_none q h)]; exact q
theorem Same.tup {K:PySem.W.Frag}{H H':Hp}{a:Addr}{xs:List V} (e:Same H H') (h:SqT K H a xs):SqT K H' a xs:=by
 rcases h with (h | ⟨o,h⟩) | h
 ·exact .inl (.inl (e _ _ h))
 ·exact .inl (.inr ⟨o,e _ _ h⟩)
 ·exact .inr h
structure Over (H:Hp) (J:It) (xs:List V):Prop where
 go:∀ i H',Same H H'->i < xs.length->J.go i H'
 yld:∀ i H' x H2,Same H H'->J.yld i H' x H2->i < xs.length->xs[i]? = some x/\H2=H'
 stop:∀ H',Same H H'->J.stop xs.length H'
theorem over_tup {K:PySem.W.Frag}{H:Hp}{a:Addr}{xs:List V} (h:SqT K H a xs):Over H (Itt K a) xs:=
 ⟨fun i H' e hi=>⟨xs,xs[i],e.tup h,by simp [hi]⟩,fun i H' x H2 e y hi=>⟨y.2 xs (e.tup h),y.1⟩,fun H' e=>⟨xs,e.tup h,Nat.le_refl _⟩⟩
noncomputable def CW (H1:Hp) (D:Addr) (n:Nat) (Pv:Nat->List V->Hp->Prop):Nat->Nat->List V->Hp->Prop:=fun i m acc H'=>m=n - i/\i<=n/\acc.length<=i/\Same H1 H'/\H' D=some (.lst acc)/\Pv i acc H'
noncomputable def CYes (H1:Hp) (D:Addr) (n:Nat) (Pv:Nat->List V->Hp->Prop) (i:Nat) (acc:List V) (v:V) (H5:Hp):Prop:=H5 D=some (.lst acc)/\acc.length < sizeLine/\∃ m',m' < n - i/\CW H1 D n Pv (i+1) m' (acc ++ [v]) (upd H5 D (.lst (acc ++ [v])))
noncomputable def CNo (H1:Hp) (D:Addr) (n:Nat) (Pv:Nat->List V->Hp->Prop) (i:Nat) (acc:List V) (H4:Hp):Prop:=∃ m',m' < n - i/\CW H1 D n Pv (i+1) m' acc H4
structure CAt (H1:Hp) (D:Addr) (n i:Nat) (acc:List V) (H':Hp):Prop where
 lt:i < n
 few:acc.length<=i
 sz:n<=sizeLine
 same:Same H1 H'
 new:H1 D=none
 acc:H' D=some (.lst acc)
theorem CAt.yes {H1:Hp}{D:Addr}{n i:Nat}{acc:List V}{H' H5:Hp}{Pv:Nat->List V->Hp->Prop}{v:V} (c:CAt H1 D n i acc H') (s:Same H' H5) (p:Pv (i+1) (acc ++ [v]) (upd H5 D (.lst (acc ++ [v])))):CYes H1 D n Pv i acc v H5:=by
 refine⟨s _ _ c.acc,Nat.lt_of_le_of_lt c.few (Nat.lt_of_lt_of_le c.lt c.sz),_,?_,rfl,c.lt,?_,fun b o e=>?_,upd_same,p⟩
 ·have:=c.lt; (first|lia|omega)
 ·rw [List.length_append,List.length_singleton]; exact Nat.succ_le_succ c.few
 ·rw [upd_ne (ne_of_none e c.new)]; exact s _ _ (c.same _ _ e)
theorem comp_by {H1:Hp}{J:It}{xs:List V}{g:TG}{tc:TT}{te:TE}{σ0:St}{Q:VK} (O:Over H1 J xs) (Pv:Nat->List V->Hp->Prop) (hn:xs.length<=sizeLine)
  (h0:∀ D,H1 D=none->Pv 0 [] (upd H1 D (.lst [])))
  (hs:∀ i x acc D H',xs[i]? = some x->CAt H1 D xs.length i acc H'->Pv i acc H'->g x σ0 H' fun σ2 H3=>Wk σ0 σ2/\tc σ2 H3 fun b H4=>
   if b=true then te σ2 H4 fun v H5=>CYes H1 D xs.length Pv i acc v H5 else CNo H1 D xs.length Pv i acc H4)
  (hd:∀ D acc H',H1 D=none->Same H1 H'->H' D=some (.lst acc)->acc.length<=xs.length->Pv xs.length acc H'->Q (.ref D) H') :
  ∀ D,H1 D=none->∃ W:Nat->Nat->List V->Hp->Prop,(∃ m,W 0 m [] (upd H1 D (.lst [])))/\tTurns g tc te σ0 J D Q W:=by
 intro D hD
 refine⟨CW H1 D xs.length Pv,⟨xs.length,rfl,Nat.zero_le _,Nat.le_refl _,same_new hD _,upd_same,h0 D hD⟩,?_⟩
 rintro i m acc H' ⟨rfl,hi,ha,sm,hDa,p⟩
 refine⟨hDa,?_⟩
 by_cases hlt:i < xs.length
 ·refine .inr ⟨O.go i H' sm hlt,fun x H2 y=>?_⟩
  obtain ⟨hx,e⟩:=O.yld i H' x H2 sm y hlt
  subst e
  exact hs i x acc D H2 hx ⟨hlt,ha,hn,sm,hD,hDa⟩ p
 ·have e:i=xs.length:=by (first|lia|omega)
  subst e
  exact .inl ⟨O.stop H' sm,hd D acc H' hD sm hDa ha p⟩
end L2
namespace Srt
open PySem PySem.W PyProof.Rows
noncomputable abbrev G (p:Array Nat) (i:Nat):Nat:=p.getD i 0
theorem G_congr {p q:Array Nat}{i j:Nat} (h:p[i]? = q[j]?):G p i=G q j:=by
 unfold G; rw [Array.getD_eq_getD_getElem?,Array.getD_eq_getD_getElem?,h]
theorem G_rev {p:Array Nat}{i j:Nat} (hj:j<=p.size) (k:Nat):G (kas_rev p i j) k=if i<=k/\k < j then G p (i+j - 1 - k) else G p k:=by
 have e:=getElem?_mirror_all (i:=i) hj k
 unfold kas_rev
 by_cases h1:i<=k/\k < j
 ·rw [if_pos h1] at e ⊢; exact G_congr e
 ·rw [if_neg h1] at e ⊢; exact G_congr e
theorem G_bub {p:Array Nat}{src d:Nat} (hs:src < p.size) (hd:d<=src) (k:Nat):G (bubble p src d) k=if k=src - d then G p src else if src - d < k/\k<=src then G p (k - 1) else G p k:=by
 have e:=getElem?_bubble hs d hd k
 by_cases h1:k=src - d
 ·rw [if_pos h1] at e ⊢; exact G_congr e
 ·rw [if_neg h1] at e ⊢
  by_cases h2:src - d < k/\k<=src
  ·rw [if_pos h2] at e ⊢; exact G_congr e
  ·rw [if_neg h2] at e ⊢; exact G_congr e
noncomputable def PP (n:Nat) (p:Array Nat):Prop:=p.toList.Perm (List.range n)
theorem PP.size {n:Nat}{p:Array Nat} (h:PP n p):p.size=n:=by
 have:=h.length_eq
 rw [List.length_range] at this
 simpa using this
theorem PP.lt {n:Nat}{p:Array Nat} (h:PP n p) {k:Nat} (hk:k < n):G p k < n:=by
 have hs:=h.size
 have hk':k < p.toList.length:=by simpa [hs] using hk
 have e:G p k=p.toList[k]:=by
  unfold G; rw [Array.getD_eq_getD_getElem?]; simp [hs,hk]
 have m:p.toList[k] ∈ p.toList:=List.getElem_mem hk'
 rw [e]
 exact List.mem_range.mp (h.mem_iff.mp m)
theorem PP.of {n:Nat}{p q:Array Nat} (h:PP n p) (e:q.Perm p):PP n q:=(Array.perm_iff_toList_perm.mp e).trans h
theorem PP.rev {n:Nat}{p:Array Nat} (h:PP n p) (i j:Nat):PP n (kas_rev p i j):=h.of (mirror_perm _ _ _ _)
theorem PP.bub {n:Nat}{p:Array Nat} (h:PP n p) (i j:Nat):PP n (bubble p i j):=h.of (bubble_perm _ _ _)
structure Ord (c:Nat->Nat->Bool):Prop where
 asym:∀ {i j},c i j=true->c j i=false
 ntr:∀ {i j k},c i j=false->c j k=false->c i k=false
section
variable {c : Nat → Nat → Bool} (O : Ord c)
noncomputable def Le (c:Nat->Nat->Bool) (i j:Nat):Prop:=c j i=false
include O
theorem le_refl (i:Nat):Le c i i:=by
 unfold Le
 cases h:c i i with
 | false=>rfl
 | true=>have:=O.asym h; rw [h] at this; exact this
theorem le_trans {i j k:Nat} (h1:Le c i j) (h2:Le c j k):Le c i k:=O.ntr h2 h1
theorem le_of {i j:Nat} (h:c i j=true):Le c i j:=O.asym h
omit O
noncomputable def Asc (c:Nat->Nat->Bool) (p:Array Nat) (n:Nat):Prop:=∀ a b,a<=b->b < n->Le c (G p a) (G p b)
noncomputable def Dsc (c:Nat->Nat->Bool) (p:Array Nat) (n:Nat):Prop:=∀ a b,a<=b->b < n->Le c (G p b) (G p a)
include O
theorem asc_succ {p:Array Nat}{n:Nat} (h:Asc c p n) (h1:1<=n) (hl:Le c (G p (n - 1)) (G p n)):Asc c p (n+1):=fun a b hab hb=>by
 by_cases hbn:b < n
 ·exact h a b hab hbn
 ·have e:b=n:=by (first|lia|omega)
  subst e
  by_cases han:a=b
  ·subst han; exact le_refl O _
  ·exact le_trans O (h a (b - 1) (by (first|lia|omega)) (by (first|lia|omega))) hl
theorem dsc_succ {p:Array Nat}{n:Nat} (h:Dsc c p n) (h1:1<=n) (hl:Le c (G p n) (G p (n - 1))):Dsc c p (n+1):=fun a b hab hb=>by
 by_cases hbn:b < n
 ·exact h a b hab hbn
 ·have e:b=n:=by (first|lia|omega)
  subst e
  by_cases han:a=b
  ·subst han; exact le_refl O _
  ·exact le_trans O hl (h a (b - 1) (by (first|lia|omega)) (by (first|lia|omega)))
omit O
noncomputable def KOk {α:Type} (n:Nat) (c:Nat->Nat->Bool) (R:α->Prop):KasT α->Prop
 | .ret a=>R a
 | .ask i j k=>i < n/\j < n/\KOk n c R (k (c i j))
theorem KOk.mono {α:Type}{n:Nat}{R R':α->Prop} (h:∀ a,R a->R' a):∀ (t:KasT α),KOk n c R t->KOk n c R' t
 | .ret a,q=>h a q
 | .ask i j k,q=>⟨q.1,q.2.1,KOk.mono h (k (c i j)) q.2.2⟩
theorem KOk.bind {α β:Type}{n:Nat}{R:α->Prop}{R':β->Prop}{f:α->KasT β} (h:∀ a,R a->KOk n c R' (f a)):∀ (t:KasT α),KOk n c R t->KOk n c R' (t.bind f)
 | .ret a,q=>h a q
 | .ask i j k,q=>⟨q.1,q.2.1,KOk.bind h (k (c i j)) q.2.2⟩
theorem KOk.run {α:Type}{n:Nat}{R:α->Prop}{I:Shared->Prop}{cmp:Nat->Nat->(Bool->Shared->Prop)->Shared->Prop}{Q:α->Shared->Prop}
  (hc:∀ i j C s,i < n->j < n->I s->(∀ s',I s'->C (c i j) s')->cmp i j C s) (hQ:∀ a s,R a->I s->Q a s):∀ (t:KasT α) (s:Shared),I s->KOk n c R t->t.kasWp cmp Q s
 | .ret a,s,hI,q=>hQ a s q hI
 | .ask i j k,s,hI,q=>hc i j _ s q.1 q.2.1 hI fun s' hI'=>KOk.run hc hQ (k (c i j)) s' hI' q.2.2
include O
theorem asc_ok {n:Nat}{p:Array Nat} (hp:PP n p):∀ (f m:Nat),1<=m->m+f<=n->Asc c p m->KOk n c (fun r=>m<=r/\r<=m+f/\Asc c p r/\(r < m+f->c (G p r) (G p (r - 1))=true)) (kas_asc p f m)
 | 0,m,_,_,h=>⟨Nat.le_refl _,Nat.le_refl _,h,fun z=>absurd z (Nat.lt_irrefl _)⟩
 | f+1,m,h1,h2,h=>by
  refine⟨hp.lt (by (first|lia|omega)),hp.lt (by (first|lia|omega)),?_⟩
  by_cases hc:c (p.getD m 0) (p.getD (m - 1) 0)=true
  ·simp only [hc,if_true]
   exact⟨Nat.le_refl _,by (first|lia|omega),h,fun _=>hc⟩
  ·have hc':c (p.getD m 0) (p.getD (m - 1) 0)=false:=Bool.eq_false_iff.mpr hc
   simp only [hc',Bool.false_eq_true,if_false]
   refine KOk.mono (fun r q=>⟨by (first|lia|omega),by (first|lia|omega),q.2.2.1,fun z=>q.2.2.2 (by (first|lia|omega))⟩) _ (asc_ok hp f (m+1) (by (first|lia|omega)) (by (first|lia|omega)) (asc_succ O h h1 hc'))
omit O
noncomputable def Eqv (c:Nat->Nat->Bool) (i j:Nat):Prop:=Le c i j/\Le c j i
include O
theorem dsc_eqv {p q:Array Nat}{n:Nat} (h:Dsc c p n) (e:∀ k,k < n->Eqv c (G q k) (G p k)):Dsc c q n:=fun a b hab hb=>
 le_trans O (e b hb).1 (le_trans O (h a b hab hb) (e a (by (first|lia|omega))).2)
theorem rev_eqv {n m i:Nat}{p:Array Nat} (hp:PP n p) (hm:m<=n) (h:∀ a,i<=a->a < m->Eqv c (G p a) (G p (m - 1))):∀ k,Eqv c (G (kas_rev p i m) k) (G p k):=fun k=>by
 rw [G_rev (by rw [hp.size]; exact hm)]
 by_cases hk:i<=k/\k < m
 ·rw [if_pos hk]
  have h1:=h (i+m - 1 - k) (by (first|lia|omega)) (by (first|lia|omega))
  have h2:=h k hk.1 hk.2
  exact⟨le_trans O h1.1 h2.2,le_trans O h2.1 h1.2⟩
 ·rw [if_neg hk]; exact⟨le_refl O _,le_refl O _⟩
omit O
noncomputable def DI (c:Nat->Nat->Bool) (n:Nat) (p:Array Nat) (m q:Nat):Prop:=PP n p/\1<=m/\m<=n/\Dsc c p m/\q+1<=m/\∀ a,m - (q+1)<=a->a < m->Eqv c (G p a) (G p (m - 1))
include O
theorem di_rev {n m q:Nat}{p:Array Nat} (h:DI c n p m q):PP n (kas_rev p (m - (q+1)) m)/\∀ k,Eqv c (G (kas_rev p (m - (q+1)) m) k) (G p k):=
 ⟨h.1.rev _ _,rev_eqv O h.1 h.2.2.1 h.2.2.2.2.2⟩
theorem desc_ok {n:Nat}:∀ (f:Nat) (p:Array Nat) (m q:Nat),m+f<=n->DI c n p m q->KOk n c (fun r=>DI c n r.1 r.2.1 r.2.2) (kas_desc f p m q)
 | 0,p,m,q,_,h=>h
 | f+1,p,m,q,hf,h=>by
  have hp:=h.1
  have h1:=h.2.1
  refine⟨hp.lt (by (first|lia|omega)),hp.lt (by (first|lia|omega)),?_⟩
  by_cases hc:c (p.getD m 0) (p.getD (m - 1) 0)=true
  ·simp only [hc,if_true]
   have dn:Dsc c p (m+1):=dsc_succ O h.2.2.2.1 h1 (le_of O hc)
   by_cases hq:q > 0
   ·simp only [hq,if_true]
    obtain ⟨pr,er⟩:=di_rev O h
    refine desc_ok f _ (m+1) 0 (by (first|lia|omega)) ⟨pr,by (first|lia|omega),by (first|lia|omega),dsc_eqv O dn fun k _=>er k,by (first|lia|omega),fun a h1 h2=>?_⟩
    have e:a=m+1 - 1:=by (first|lia|omega)
    rw [e]; exact⟨le_refl O _,le_refl O _⟩
   ·simp only [hq,if_false]
    refine desc_ok f p (m+1) 0 (by (first|lia|omega)) ⟨hp,by (first|lia|omega),by (first|lia|omega),dn,by (first|lia|omega),fun a h1 h2=>?_⟩
    have e:a=m+1 - 1:=by (first|lia|omega)
    rw [e]; exact⟨le_refl O _,le_refl O _⟩
  ·have hc':c (p.getD m 0) (p.getD (m - 1) 0)=false:=Bool.eq_false_iff.mpr hc
   simp only [hc',Bool.false_eq_true,if_false]
   refine⟨hp.lt (by (first|lia|omega)),hp.lt (by (first|lia|omega)),?_⟩
   by_cases hd:c (p.getD (m - 1) 0) (p.getD m 0)=true
   ·simp only [hd,if_true]
    exact h
   ·have hd':c (p.getD (m - 1) 0) (p.getD m 0)=false:=Bool.eq_false_iff.mpr hd
    simp only [hd',Bool.false_eq_true,if_false]
    have ee:Eqv c (G p (m - 1)) (G p m):=⟨hc',hd'⟩
    refine desc_ok f p (m+1) (q+1) (by (first|lia|omega)) ⟨hp,by (first|lia|omega),by (first|lia|omega),dsc_succ O h.2.2.2.1 h1 ee.2,by have:=h.2.2.2.2.1; (first|lia|omega),fun a h1 h2=>?_⟩
    rw [Nat.add_sub_cancel]
    by_cases ha:a=m
    ·rw [ha]; exact⟨le_refl O _,le_refl O _⟩
    ·have z:=h.2.2.2.2.2 a (by (first|lia|omega)) (by (first|lia|omega))
     exact⟨le_trans O z.1 ee.1,le_trans O ee.2 z.2⟩
omit O
noncomputable def CI (c:Nat->Nat->Bool) (n:Nat) (r:Nat × Array Nat):Prop:=PP n r.2/\1<=r.1/\r.1<=n/\Asc c r.2 r.1
include O
theorem tail3_ok {n m:Nat}{p:Array Nat} (hp:PP n p) (h1:1<=m) (hm:m<=n) (h:Dsc c p m):KOk n c (CI c n) (kas_tail3 m n p):=by
 have ha:Asc c (kas_rev p 0 m) m:=fun a b hab hb=>by
  rw [G_rev (by rw [hp.size]; exact hm),G_rev (by rw [hp.size]; exact hm),if_pos ⟨Nat.zero_le _,by (first|lia|omega)⟩,if_pos ⟨Nat.zero_le _,hb⟩]
  exact h _ _ (by (first|lia|omega)) (by (first|lia|omega))
 refine KOk.bind (R:=fun r=>m<=r/\r<=m+(n - m)/\Asc c (kas_rev p 0 m) r/\_) (fun r q=>?_) _ (asc_ok O (hp.rev 0 m) (n - m) m h1 (by (first|lia|omega)) ha)
 exact⟨hp.rev _ _,by have:=q.1; (first|lia|omega),by have:=q.2.1; (first|lia|omega),q.2.2.1⟩
theorem descPart_ok {n m:Nat}{p:Array Nat} (hp:PP n p) (h1:1<=m) (hm:m+1<=n) (h:Dsc c p (m+1)):KOk n c (CI c n) (kas_descPart m n p):=by
 refine KOk.bind (R:=fun r=>DI c n r.1 r.2.1 r.2.2) (fun r q=>?_) _ (desc_ok O (n - (m+1)) p (m+1) 0 (by (first|lia|omega)) ⟨hp,by (first|lia|omega),hm,h,by (first|lia|omega),fun a h1 h2=>?_⟩)
 ·by_cases hq:r.2.2 > 0
  ·rw [if_pos hq]
   obtain ⟨pr,er⟩:=di_rev O q
   exact tail3_ok O pr q.2.1 q.2.2.1 (dsc_eqv O q.2.2.2.1 fun k _=>er k)
  ·rw [if_neg hq]
   exact tail3_ok O q.1 q.2.1 q.2.2.1 q.2.2.2.1
 ·have e:a=m+1 - 1:=by (first|lia|omega)
  rw [e]; exact⟨le_refl O _,le_refl O _⟩
theorem count_ok {n:Nat}{p:Array Nat} (hp:PP n p) (hn:1<=n):KOk n c (CI c n) (kas_count n p):=by
 have a1:Asc c p 1:=fun a b hab hb=>by
  have e1:a=0:=by (first|lia|omega)
  have e2:b=0:=by (first|lia|omega)
  rw [e1,e2]; exact le_refl O _
 refine KOk.bind (R:=fun r=>1<=r/\r<=1+(n - 1)/\Asc c p r/\(r < 1+(n - 1)->c (G p r) (G p (r - 1))=true)) (fun m q=>?_) _ (asc_ok O hp (n - 1) 1 (Nat.le_refl _) (by (first|lia|omega)) a1)
 obtain ⟨q1,q2,q3,q4⟩:=q
 by_cases hm:(m == n)=true
 ·rw [if_pos hm]
  exact⟨hp,q1,by (first|lia|omega),q3⟩
 ·rw [if_neg hm]
  have hne:m ≠ n:=by simpa using hm
  have hc:=q4 (by (first|lia|omega))
  by_cases h1:m > 1
  ·rw [if_pos h1]
   refine⟨hp.lt (by (first|lia|omega)),hp.lt (by (first|lia|omega)),?_⟩
   by_cases hd:c (p.getD 0 0) (p.getD (m - 1) 0)=true
   ·simp only [hd,if_true]
    exact⟨hp,q1,by (first|lia|omega),q3⟩
   ·have hd':c (p.getD 0 0) (p.getD (m - 1) 0)=false:=Bool.eq_false_iff.mpr hd
    simp only [hd',Bool.false_eq_true,if_false]
    have eq:∀ a,0<=a->a < m->Eqv c (G p a) (G p (m - 1)):=fun a _ ha=>⟨q3 a (m - 1) (by (first|lia|omega)) (by (first|lia|omega)),le_trans O hd' (q3 0 a (Nat.zero_le _) ha)⟩
    have er:=rev_eqv O hp (by (first|lia|omega):m<=n) eq
    refine descPart_ok O (hp.rev 0 m) q1 (by (first|lia|omega)) (dsc_eqv O (p:=p) ?_ fun k _=>er k)
    refine dsc_succ O (fun a b hab hb=>?_) q1 (le_of O hc)
    exact le_trans O (eq b (Nat.zero_le _) hb).1 (eq a (Nat.zero_le _) (by (first|lia|omega))).2
  ·rw [if_neg h1]
   have e:m=1:=by (first|lia|omega)
   subst e
   refine descPart_ok O hp (Nat.le_refl _) (by (first|lia|omega)) (dsc_succ O (fun a b hab hb=>?_) (Nat.le_refl _) (le_of O hc))
   have e1:a=0:=by (first|lia|omega)
   have e2:b=0:=by (first|lia|omega)
   rw [e1,e2]; exact le_refl O _
theorem place_ok {n k:Nat}{p:Array Nat} (hp:PP n p) (hk:k < n) (ha:Asc c p k):∀ (f l r:Nat),l<=r->r<=k->r - l<=f->(∀ a,a < l->Le c (G p a) (G p k))->(∀ a,r<=a->a < k->Le c (G p k) (G p a))->
  KOk n c (fun l=>l<=k/\(∀ a,a < l->Le c (G p a) (G p k))/\∀ a,l<=a->a < k->Le c (G p k) (G p a)) (kas_place p k f l r)
 | 0,l,r,h1,h2,h3,hl,hr=>⟨by (first|lia|omega),hl,fun a h4 h5=>hr a (by (first|lia|omega)) h5⟩
 | f+1,l,r,h1,h2,h3,hl,hr=>by
  unfold kas_place
  by_cases hlr:l >= r
  ·rw [if_pos hlr]
   exact⟨by (first|lia|omega),hl,fun a h4 h5=>hr a (by (first|lia|omega)) h5⟩
  ·rw [if_neg hlr]
   refine⟨hp.lt hk,hp.lt (by (first|lia|omega)),?_⟩
   by_cases hc:c (p.getD k 0) (p.getD ((l+r) / 2) 0)=true
   ·simp only [hc,if_true]
    exact place_ok hp hk ha f l ((l+r) / 2) (by (first|lia|omega)) (by (first|lia|omega)) (by (first|lia|omega)) hl fun a h4 h5=>le_trans O (le_of O hc) (ha _ _ h4 h5)
   ·have hc':c (p.getD k 0) (p.getD ((l+r) / 2) 0)=false:=Bool.eq_false_iff.mpr hc
    simp only [hc',Bool.false_eq_true,if_false]
    exact place_ok hp hk ha f ((l+r) / 2+1) r (by (first|lia|omega)) h2 (by (first|lia|omega)) (fun a h4=>le_trans O (ha a ((l+r) / 2) (by (first|lia|omega)) (by (first|lia|omega))) hc') hr
theorem bin_ok {n:Nat}:∀ (f:Nat) (p:Array Nat) (k:Nat),PP n p->k+f<=n->Asc c p k->KOk n c (fun q=>PP n q/\Asc c q (k+f)) (kas_bin f p k)
 | 0,p,k,hp,_,h=>⟨hp,h⟩
 | f+1,p,k,hp,hk,h=>by
  refine KOk.bind (R:=fun l=>l<=k/\(∀ a,a < l->Le c (G p a) (G p k))/\∀ a,l<=a->a < k->Le c (G p k) (G p a)) (fun l q=>?_) _ (place_ok O hp (by (first|lia|omega)) h k 0 k (Nat.zero_le _) (Nat.le_refl _) (by (first|lia|omega)) (fun a z=>absurd z (Nat.not_lt_zero _)) fun a h1 h2=>absurd h2 (by (first|lia|omega)))
  obtain ⟨q1,q2,q3⟩:=q
  have e:∀ a,G (bubble p k (k - l)) a=if a=l then G p k else if l < a/\a<=k then G p (a - 1) else G p a:=fun a=>by
   rw [G_bub (by rw [hp.size]; (first|lia|omega)) (by (first|lia|omega)),show k - (k - l)=l by (first|lia|omega)]
  refine KOk.mono (fun r z=>⟨z.1,by rw [show k+(f+1)=k+1+f by (first|lia|omega)]; exact z.2⟩) _ (bin_ok f _ (k+1) (hp.bub _ _) (by (first|lia|omega)) fun a b hab hb=>?_)
  rw [e,e]
  by_cases ha:a=l
  ·rw [if_pos ha]
   by_cases hb':b=l
   ·rw [if_pos hb']; exact le_refl O _
   ·rw [if_neg hb',if_pos (by (first|lia|omega))]; exact q3 _ (by (first|lia|omega)) (by (first|lia|omega))
  ·rw [if_neg ha]
   by_cases ha2:l < a/\a<=k
   ·rw [if_pos ha2,if_neg (by (first|lia|omega)),if_pos (by (first|lia|omega))]
    exact h _ _ (by (first|lia|omega)) (by (first|lia|omega))
   ·rw [if_neg ha2]
    by_cases hb':b=l
    ·rw [if_pos hb']; exact q2 a (by (first|lia|omega))
    ·rw [if_neg hb']
     by_cases hb2:l < b/\b<=k
     ·rw [if_pos hb2]; exact h _ _ (by (first|lia|omega)) (by (first|lia|omega))
     ·rw [if_neg hb2]; exact h _ _ hab (by (first|lia|omega))
theorem sort_ok {n:Nat} (hn:1<=n):KOk n c (fun q=>PP n q/\Asc c q n) (kas_sort n):=by
 have hp:PP n (List.toArray (List.range n)):=by unfold PP; simp
 refine KOk.bind (R:=CI c n) (fun r q=>?_) _ (count_ok O hp hn)
 obtain ⟨q1,q2,q3,q4⟩:=q
 by_cases h:r.1 < n
 ·rw [if_pos h]
  have e:max r.1 1=r.1:=by (first|lia|omega)
  rw [e]
  exact KOk.mono (fun p z=>⟨z.1,by rw [show r.1+(n - r.1)=n by (first|lia|omega)] at z; exact z.2⟩) _ (bin_ok O (n - r.1) r.2 r.1 q1 (by (first|lia|omega)) q4)
 ·rw [if_neg h]
  have e:r.1=n:=by (first|lia|omega)
  exact⟨q1,by rw [e] at q4; exact q4⟩
end
end Srt
namespace L2
open PySem PySem.Spec PyProof.Rows
theorem ObjOk.there {P:Program}{w:World}{H:Hp}{h:Heap}{a:Addr}{o:HO} (x:ObjOk P w H h a o):∃ u,h.get? a=some u:=by
 cases o with
 | lst xs=>obtain ⟨_,_,_,_,e⟩:=x; exact⟨_,e⟩
 | tup xs=>obtain ⟨_,_,_,o,e,_⟩:=x; exact⟨_,e⟩
 | dK kvs=>obtain ⟨_,_,_,_,o,_,_,e,_⟩:=x; exact⟨_,e⟩
 | dT kvs=>obtain ⟨_,_,_,_,o,_,_,e,_⟩:=x; exact⟨_,e⟩
 | set S n=>obtain ⟨o,_,_,_,e,_⟩:=x; exact⟨_,e⟩
 | ins C dx fs=>obtain ⟨_,_,_,e,_⟩:=x; exact⟨_,e⟩
 | own y=>exact x
 | xd fs=>obtain ⟨_,⟨_,_,_,e,_⟩,_⟩:=x; exact⟨_,e⟩
 | rng lo hi=>obtain ⟨_,_,_,e⟩:=x; exact⟨_,e⟩
 | frz ob u=>obtain ⟨e,_⟩:=x; exact⟨_,e⟩
 | tbl ps=>exact⟨_,(show h.get? a=some _ from x)⟩
 | met f y=>exact⟨_,(show h.get? a=some _ from x)⟩
 | ext φ=>obtain ⟨_,z,_⟩:=x; exact z
section
variable {X : Cx} {pins : List (Addr × Obj)} {σ : St} {H : Hp} {s : Shared} {h' : Heap} {a : Addr} {o : HO} {t' : Nat}
theorem Inv.laidF (I:Inv X pins σ H s) (hn:s.heap.get? a=none) (k:∀ b u,b ≠ X.env.locals->s.heap.get? b=some u->h'.get? b=some u) (ns:∀ m,s.heap.Ns X.env.locals m->h'.Ns X.env.locals m)
  (new:ObjOk X.prog X.w (upd H a o) h' a o):H a=none/\Inv X pins σ (upd H a o) { s with heap:=h',toks:=t' }:=by
 have hHn:H a=none:=by
  cases q:H a with
  | none=>rfl
  | some u=>obtain ⟨z,e⟩:=(I.hok a u q).there; rw [hn] at e; cases e
 have ne:∀ b u,s.heap.get? b=some u->b ≠ a:=fun b u e z=>by rw [z,hn] at e; cases e
 have hL:=I.free
 refine⟨hHn,I.step (g':=s.gens) (d':=s.drawn) (ch:=[]) (fun _ z=>nomatch z) (fun b o' h1 _ _ e _=>k b o' h1 e) (fun b o' h1 _ _ e _=>⟨o'.slots,k b o' h1 e⟩) (fun b o' _ e n=>by rw [upd_ne (ne b o' e)]; exact n) (fun b o' _ e=>?_)
  (fun b xs q=>by rw [upd_ne (ne_of_none q hHn)]; exact q) (fun b u xs q=>by rw [upd_ne (ne_of_none q hHn)]; exact q) (fun b ps q=>⟨#[],by rw [upd_ne (ne_of_none q hHn),q]; simp⟩) ns (fun b u q=>?_) I.bare⟩
 ·by_cases hb:b=X.env.locals
  ·obtain ⟨m,hm,_⟩:=I.loc
   obtain ⟨o2,_,_,e2,_⟩:=ns m hm
   exact⟨o2,by rw [hb]; exact e2⟩
  ·exact⟨o',k b o' hb e⟩
 ·by_cases hb:b=a
  ·subst hb; rw [upd_same] at q; cases q; exact new
  ·rw [upd_ne hb] at q
   refine (I.hok b u q).stay (fun c v hc e=>k c v ?_ e) (fun c e=>by rw [upd_ne (ne_of_none e hHn)]; exact e) fun c xs e=>by rw [upd_ne (ne_of_none e hHn)]; exact e
   rcases hc with z | z
   ·rw [z]; intro y; rw [y,hL] at q; cases q
   ·intro y; rw [y,hL] at z; cases z
theorem Inv.newsAll (I:Inv X pins σ H s) {news:List (Addr × Obj)}{m:Str->Option Value} (hs:∀ p ∈ allNews X.base s.heap X.env.locals,p ∈ news) (F:Fr X.base X.env.locals h' m) (N:News X.base X.env.locals h' news) :
  ∀ b o,b ≠ X.env.locals->s.heap.get? b=some o->h'.get? b=some o:=fun b o h1 e=>by
 cases q:X.base.get? b with
 | some u=>
  have:=I.bk b u q
  rw [e] at this; cases this
  exact F.keep b _ q
 | none=>exact (N (b,o) (hs _ (mem_allNews h1 q e))).1
end
theorem perm_getD {α:Type}{d:α} (l:List α) {p:List Nat} (h:p.Perm (List.range l.length)):(p.map fun i=>l.getD i d).Perm l:=by
 have e:(List.range l.length).map (fun i=>l.getD i d)=l:=by
  apply List.ext_getElem
  ·simp
  ·intro i h1 h2
   simp at h1
   simp [h1]
 have:=h.map fun i=>l.getD i d
 rw [e] at this
 exact this
theorem vals_getD:∀ {xs:List V}{us:List Value} (i:Nat),i < xs.length->Vals xs us->RelV (xs.getD i .non) (us.getD i Value.none)
 | _,_,_,h,.nil=>by simp at h
 | _,_,0,_,.cons r _=>by simpa using r
 | _,_,i+1,h,.cons _ t=>by
  have:=vals_getD i (by simpa using h) t
  simpa using this
theorem vals_pick {xs:List V}{us:List Value} (r:Vals xs us):∀ {p:List Nat},(∀ i ∈ p,i < xs.length)->Vals (p.map fun i=>xs.getD i .non) (p.map fun i=>us.getD i Value.none)
 | [],_=>.nil
 | i :: p,h=>.cons (vals_getD i (h i List.mem_cons_self) r) (vals_pick r fun j hj=>h j (List.mem_cons_of_mem _ hj))
theorem zip_snd {α:Type}:∀ l:List α,(l.zip l).map (·.2)=l
 | []=>rfl
 | a :: l=>by
  show a :: ((l.zip l).map (·.2))=a :: l
  rw [zip_snd l]
theorem sort_few {prog:Program}{w:World}{A:Around}{E:Value->Shared->Prop}{s:Shared}{a:Addr}{vs:List Value}{n:Nat}{P:PySem.Fin->Shared->Prop} (e:s.heap.get? a=some (seqObj "list" vs.toArray n)) (few:vs.length < 2)
  (q:P (.done (.ret .none)) { s with heap:=sortedHeap s.heap a vs vs.toArray }):wpAny (model prog w) A (Builtin.«list.sort» ⟨[.ref a],[]⟩) P E s:=by
 have big:vs.length<=sizeLine:=Nat.le_trans (Nat.le_of_lt few) (by decide)
 have la:=Heap.lt_size e
 have c:vs.toArray.size < 2:=by simpa using few
 have same:(arrOf (SortSt.mk' general' (vs.toArray.zip vs.toArray) #[] 7 none)).map (·.2)=vs.toArray:=by
  change (vs.toArray.zip vs.toArray).map (·.2)=vs.toArray
  apply Array.ext'
  simpa using zip_snd vs
 obtain ⟨k,ek⟩:∃ k,(s.heap.update a (Obj.mapSeq fun _=>#[])).get? a=some (seqObj "list" #[] k):=⟨_,get?_update_seq e fun _=>#[]⟩
 have there:(((s.heap.update a (Obj.mapSeq fun _=>#[])).push (seqObj "tuple" vs.toArray 0)).push (seqObj "list" #[] 0)).get? a=some (seqObj "list" #[] k):=
  Heap.get?_push_of_some _ (Heap.get?_push_of_some _ ek)
 rw [list_sort_plain]
 apply wpAny_bind
 apply listItems_at e rfl
 apply wpAny_bind
 refine listUpdate_at e rfl ?_ (by simpa using big) (Nat.zero_le _)
 apply wpAny_bind
 apply seqEpoch_at ek rfl
 apply wpAny_bind
 refine wpAny_newTuple ?_ big
 apply wpAny_bind
 refine wpAny_newList ?_ (Nat.zero_le _)
 apply wpAny_holding
 simp only [c,if_true,StateT.run_pure]
 apply wpAny_bind
 apply wpAny_pure
 apply wpAny_bind
 apply wpAny_pure
 apply wpAny_bind
 apply seqEpoch_at there rfl
 apply wpAny_bind
 refine listUpdate_at there rfl ?_ (Nat.zero_le _) (by rw [same,List.size_toArray]; exact Nat.le_succ_of_le big)
 rw [same]
 simp only [bne_self_eq_false,Bool.false_eq_true,if_false]
 exact wpAny_pure q
theorem sorted_few {prog:Program}{w:World}{A:Around}{E:Value->Shared->Prop}{s:Shared}{l:Addr}{vs:List Value}{Q:Value->Shared->Prop} (hl:s.heap.IsList l vs.toArray) (few:vs.length < 2)
  (q:Q (.ref (s.heap.objs.size+1)) { s with heap:=sortedAll s.heap vs vs.toArray }):wpAny (model prog w) A (call (.builtin "sorted") [.ref l]) Q E s:=by
 have big:vs.length<=sizeLine:=Nat.le_trans (Nat.le_of_lt few) (by decide)
 apply Calls.call_function_entry kind_sorted plain_sorted entry_sorted (args_sorted1 _)
 simp only [Builtin.«sorted»]
 apply wpAny_bind (m:=checkCount "sorted" 1 1 _)
 apply wpAny_pure
 apply wpAny_bind
 refine collect_list hl ?_ big
 apply wpAny_bind
 refine wpAny_newList ?_ big
 have one:((s.heap.push (seqObj "list" #[] 0)).update s.heap.objs.size (Obj.mapSeq (· ++ vs.toArray))).objs.size=s.heap.objs.size+1:=(Heap.size_update _ _ _).trans (size_push' _ _)
 have at1:(((s.heap.push (seqObj "list" #[] 0)).update s.heap.objs.size (Obj.mapSeq (· ++ vs.toArray))).push (seqObj "list" vs.toArray 0)).get? (s.heap.objs.size+1)=some (seqObj "list" vs.toArray 0):=one ▸ Heap.get?_push_size _ rfl
 change wpAny _ _ _ _ _ { s with heap:=((s.heap.push (seqObj "list" #[] 0)).update s.heap.objs.size (Obj.mapSeq (· ++ vs.toArray))).push (seqObj "list" vs.toArray 0) }
 rw [one]
 apply wpAny_bind
 apply wpAny_holding
 refine wpAny_call_entry slot_list_sort ⟨_,at1,rfl⟩ entry_list_sort ?_ (args_list_sort _)
 refine sort_few at1 few ⟨_,rfl,?_⟩
 exact wpAny_pure ⟨_,rfl,q⟩
noncomputable def rSortI (K:PySem.W.Frag):List V->Hp->VK->Prop:=fun xs H Q=>∃ a ns,xs = [.ref a]/\SqL K H a (ns.map V.int)/\ns.length < 64/\∀ l (ms:List Int),H l=none->ms.Perm ns->ms.Pairwise (· <= ·)->Q (.ref l) (upd H l (.lst (ms.map V.int)))
theorem call_sortedI {X:Cx}:CallR X (.builtin "sorted") (rSortI X.K):=by
 intro pins s σ H xs us Q I r h
 obtain ⟨a,ns,rfl,hs,h64,q⟩:=h
 obtain ⟨u,rfl,ru⟩:=vals1 r
 cases ru
 obtain ⟨its,rv,p,hz⟩:=I.list hs
 have hl:=rv.length
 rw [List.length_map] at hl
 refine sorted_ints p.isList (intsAre_of rv) (by (first|lia|omega)) fun out ns' a1 a2 a3=>?_
 obtain ⟨e,he⟩:=sortedAll_at s.heap its out
 have hn:s.heap.objs.size<=s.heap.objs.size+1:=Nat.le_succ _
 have hlen:ns'.length=ns.length:=a2.length_eq
 refine⟨.ref (s.heap.objs.size+1),upd H (s.heap.objs.size+1) (.lst (ns'.map V.int)),I.laid (t':=s.toks) (fun _ _=>sortedAll_old) hn ⟨?_,out.toList,e,vals_ints a1,by simpa using he⟩,rfl,q _ ns' (I.hok.fresh hn) a2 a3⟩
 rw [List.length_map,hlen]
 exact Nat.le_of_lt (small1000 (by (first|lia|omega)))
theorem lexLt_asym:∀ {a b:List Int},HT.lexLt a b=true->HT.lexLt b a=false
 | [],[],h=>by cases h
 | [],_ :: _,_=>rfl
 | _ :: _,[],h=>by cases h
 | x :: xs,y :: ys,h=>by
  rw [HT.lexLt_cons] at h ⊢
  by_cases e:x=y
  ·rw [if_pos e] at h; rw [if_pos e.symm]; exact lexLt_asym h
  ·rw [if_neg e] at h; rw [if_neg (Ne.symm e)]
   have:=of_decide_eq_true h
   exact decide_eq_false (by (first|lia|omega))
theorem lexLt_ntr:∀ {a b c:List Int},HT.lexLt a b=false->HT.lexLt b c=false->HT.lexLt a c=false
 | [],[],c,_,h=>h
 | [],_ :: _,_,h,_=>by cases h
 | _ :: _,[],[],_,_=>rfl
 | _ :: _,[],_ :: _,_,h=>by cases h
 | _ :: _,_ :: _,[],_,_=>rfl
 | x :: xs,y :: ys,z :: zs,h1,h2=>by
  rw [HT.lexLt_cons] at h1 h2 ⊢
  by_cases e1:x=y
  ·rw [if_pos e1] at h1
   by_cases e2:y=z
   ·rw [if_pos e2] at h2; rw [if_pos (e1.trans e2)]; exact lexLt_ntr h1 h2
   ·rw [if_neg e2] at h2; rw [if_neg (by rw [e1]; exact e2)]; rw [e1]; exact h2
  ·rw [if_neg e1] at h1
   have k1:=of_decide_eq_false h1
   by_cases e2:y=z
   ·rw [<- e2,if_neg e1]; exact h1
   ·rw [if_neg e2] at h2
    have k2:=of_decide_eq_false h2
    rw [if_neg (by (first|lia|omega))]
    exact decide_eq_false (by (first|lia|omega))
noncomputable def tupInts (H:Hp):V->List Int
 | .ref b=>match H b with
  | some (.tup xs)=>xs.map fun x=>match x with
   | .int i=>i
   | _=>0
  | _=>[]
 | _=>[]
section
variable {prog : Program} {w : World} {A : Around} {s : Shared} {Q : Bool → Shared → Prop}
theorem katLex_ints:∀ {us ws:List Value}{xs ys:List Int} (i:Nat),IntsAre us xs->IntsAre ws ys->Q (HT.lexLt xs ys) s->PySem.W.KatLex prog w A true (decide (us.length < ws.length)) Q (us.zip ws) i s
 | _,_,_,_,_,.nil,.nil,h=>h
 | _,_,_,_,_,.nil,.cons _ _ _,h=>h
 | _,_,_,_,_,.cons _ _ _,.nil,h=>h
 | _,_,_,_,i,.cons (vs:=us) x t hx,.cons (vs:=ws) y u hy,h=>by
  refine PySem.W.kat_cons (wpAny_eqBool_int ?_)
  rw [HT.lexLt_cons] at h
  by_cases e:x=y
  ·rw [if_pos e] at h
   have eb:(x == y)=true:=by simpa using e
   rw [eb]
   refine PySem.W.kat_yes ?_
   have e2:decide ((Value.int x t :: us).length < (Value.int y u :: ws).length)=decide (us.length < ws.length):=by simp
   rw [e2]
   exact katLex_ints (i+1) hx hy h
  ·rw [if_neg e] at h
   have eb:(x == y)=false:=by simpa using e
   rw [eb]
   refine PySem.W.kat_no ?_
   cases hi:(true && i == 0) with
   | true=>exact PySem.W.kat_lt_int h
   | false=>exact PySem.W.kat_one _ _ (lt_int h)
end
noncomputable def rSortT (K:PySem.W.Frag):List V->Hp->VK->Prop:=fun xs H Q=>∃ (a:Addr) (ys:List V) (key:V->List Int),xs = [.ref a]/\SqL K H a ys/\ys.length < 64/\(∀ y ∈ ys,∃ b,y = .ref b/\SqT K H b ((key y).map V.int)/\key y ≠ [])/\
 ∀ l (zs:List V),H l=none->zs.Perm ys->zs.Pairwise (fun u v=>HT.lexLt (key v) (key u)=false)->Q (.ref l) (upd H l (.lst zs))
theorem pairwise_pick {c:Nat->Nat->Bool}{R:V->V->Prop}{ys:List V}{p:Array Nat}{n:Nat} (hp:Srt.PP n p) (ha:Srt.Asc c p n) (hR:∀ i j,Srt.Le c i j->R (ys.getD i .non) (ys.getD j .non)) :
  (p.toList.map fun i=>ys.getD i .non).Pairwise R:=by
 rw [List.pairwise_map,List.pairwise_iff_getElem]
 intro i j hi hj hij
 have hs:=hp.size
 have h1:i < n:=by rw [<- hs]; simpa using hi
 have h2:j < n:=by rw [<- hs]; simpa using hj
 have q:=ha i j (Nat.le_of_lt hij) h2
 have e:∀ k (hk:k < p.toList.length),Srt.G p k=p.toList[k]:=fun k hk=>by
  have hk':k < p.size:=by simpa using hk
  unfold Srt.G; rw [Array.getD_eq_getD_getElem?]; simp [hk']
 rw [e i hi,e j hj] at q
 exact hR _ _ q
theorem call_sortedT {X:Cx}:CallR X (.builtin "sorted") (rSortT X.K):=by
 intro pins s σ H xs us Q I r h
 obtain ⟨a,ys,key,rfl,hs,h64,hk,q⟩:=h
 obtain ⟨u,rfl,ru⟩:=vals1 r
 cases ru
 obtain ⟨its,rv,p,hz⟩:=I.list hs
 have hl:=rv.length
 by_cases h2:its.length < 2
 ·
  refine sorted_few p.isList h2 ?_
  obtain ⟨e,he⟩:=sortedAll_at s.heap its its.toArray
  have hn:s.heap.objs.size<=s.heap.objs.size+1:=Nat.le_succ _
  refine⟨.ref (s.heap.objs.size+1),upd H (s.heap.objs.size+1) (.lst ys),I.laid (t':=s.toks) (fun _ _=>sortedAll_old) hn ⟨hz,its,e,rv,he⟩,rfl,q _ ys (I.hok.fresh hn) (List.Perm.refl _) ?_⟩
  match ys,hl with
  | [],_=>exact List.Pairwise.nil
  | [_],_=>exact List.pairwise_singleton _ _
  | _ :: _ :: _,hl=>simp at hl; (first|lia|omega)
 ·obtain ⟨m,F⟩:=I.fr
  have hL:∀ {b:Addr}{k:List Int},SqT X.K H b (k.map V.int)->b ≠ X.env.locals:=fun {b k} z e=>by
   obtain ⟨its',_,⟨ob,e1,c1,_⟩,_⟩:=I.tuple z
   obtain ⟨m',⟨o',es',ep',e2,d2,_⟩,_⟩:=I.loc
   rcases z with (z | ⟨_,z⟩) | ⟨o3,its3,n3,z3,zc,zd,_⟩
   ·rw [e,I.free] at z; cases z
   ·rw [e,I.free] at z; cases z
   ·have:=I.kIn b o3 z3
    rw [e,e2] at this
    cases this
    rw [d2] at zd; cases zd
  refine PySem.W.kat_sorted F (news_all (g:=X.base) (h:=s.heap) (L:=X.env.locals)) p.isList (by (first|lia|omega)) (by (first|lia|omega)) fun D e1 h' F' N' hD=>?_
  have keep:=I.newsAll (fun p hp=>List.mem_cons_of_mem _ hp) F' N'
  have look:∀ i,i < ys.length->∃ (b:Addr) (ob:Obj) (us:List Value) (n:Nat),its.getD i Value.none = .ref b/\h'.get? b=some ob/\ob.cls = .type "tuple"/\ob.data = .seq us.toArray n/\IntsAre us (key (ys.getD i .non))/\key (ys.getD i .non) ≠ []:=fun i hi=>by
   have hy:ys.getD i .non ∈ ys:=by
    rw [List.getD_eq_getElem?_getD,List.getElem?_eq_getElem hi]; exact List.getElem_mem hi
   obtain ⟨b,eb,sq,ne⟩:=hk _ hy
   have rr:=vals_getD i hi rv
   rw [eb] at rr
   have rr:its.getD i Value.none = .ref b:=rr
   obtain ⟨us,ru,⟨ob,e1,c1,n1,d1⟩,_⟩:=I.tuple sq
   exact⟨b,ob,us,n1,rr,keep b ob (hL sq) e1,c1,d1,intsAre_of ru,ne⟩
  have firsts:∀ {xs:List V}{vs:List Value},Vals xs vs->(∀ y ∈ xs,∃ b,y = .ref b/\SqT X.K H b ((key y).map V.int)/\key y ≠ [])->∃ fs:List Value,PySem.W.KatTups h' vs fs/\fs.length=vs.length/\∀ v ∈ fs,∃ i t,v=Value.int i t:=by
   intro xs vs r
   induction r with
   | nil=>intro _; exact⟨[],PySem.W.KatTups.nil,rfl,fun _ z=>nomatch z⟩
   | @cons x v xs vs rx rt ih=>
    intro hh
    obtain ⟨fs,t1,t2,t3⟩:=ih fun y hy=>hh y (List.mem_cons_of_mem _ hy)
    obtain ⟨b,eb,sq,ne⟩:=hh x List.mem_cons_self
    subst eb
    cases rx
    obtain ⟨us,ru,⟨ob,e1,c1,n1,d1⟩,_⟩:=I.tuple sq
    have ia:=intsAre_of ru
    generalize key (V.ref b)=kk at ia ne
    cases ia with
    | nil=>exact absurd rfl ne
    | @cons n t vs0 ns0 ht=>
     exact⟨Value.int n t :: fs,PySem.W.KatTups.cons (keep b ob (hL sq) e1) c1 d1 (by simp) t1,by simp [t2],fun v hv=>(List.mem_cons.mp hv).elim (fun z=>⟨n,t,z⟩) (t3 v)⟩
  obtain ⟨fs,t1,t2,t3⟩:=firsts rv hk
  refine PySem.W.kat_kind (T:=.type "int") t1 (by (first|lia|omega)) (fun v hv=>?_) (by decide) ?_
  ·obtain ⟨i,t,rfl⟩:=t3 v hv
   exact PySem.W.Looks.now
  let c:Nat->Nat->Bool:=fun i j=>HT.lexLt (key (ys.getD i .non)) (key (ys.getD j .non))
  have O:Srt.Ord c:=⟨fun h=>lexLt_asym h,fun h1 h2=>lexLt_ntr h1 h2⟩
  have ok:=Srt.sort_ok (n:=its.length) O (by (first|lia|omega))
  refine Srt.KOk.run (I:=fun s'=>s'={ s with heap:=h' }) (fun i j C s' hi hj hI hC=>?_) (fun pa s' hR hI=>?_) _ _ rfl ok
  ·subst hI
   obtain ⟨b1,o1,u1,n1,g1,g2,_,g4,g5,_⟩:=look i (by (first|lia|omega))
   obtain ⟨b2,o2,u2,n2,k1,k2,_,k4,k5,_⟩:=look j (by (first|lia|omega))
   show wpAny _ _ (keyLt' (tuples' (Value.type "int" != Value.type "tuple")) (its.getD i Value.none) (its.getD j Value.none)) _ _ _
   rw [g1,k1]
   have eT:(Value.type "int" != Value.type "tuple")=true:=by decide
   rw [eT]
   refine PySem.W.kat_lt g2 g4 k2 k4 ?_
   have:=katLex_ints (prog:=X.prog) (w:=X.w) (A:=X.A.in1.in1) (s:={ s with heap:=h' }) (Q:=C) 0 g5 k5 (hC _ rfl)
   simpa using this
  ·subst hI
   obtain ⟨hp,hasc⟩:=hR
   refine PySem.W.KasFin.intro F' N' (PySem.W.UpdF.head fun p hp=>Nat.ne_of_lt (hD p hp)) fun h2 cc F2 N2=>?_
   have keep2:=I.newsAll (fun p hp=>List.mem_cons_of_mem _ hp) F2 N2
   have hDn:s.heap.get? D=none:=by
    cases z:s.heap.get? D with
    | none=>rfl
    | some o=>
     obtain ⟨_,n1,n2⟩:=N2 (D,_) List.mem_cons_self
     exact absurd (hD _ (mem_allNews n1 n2 z)) (Nat.lt_irrefl _)
   have hpl:∀ i ∈ pa.toList,i < ys.length:=fun i hi=>by
    have:=List.mem_range.mp (hp.mem_iff.mp hi); (first|lia|omega)
   have hp':pa.toList.Perm (List.range ys.length):=by rw [hl]; exact hp
   have pm:=perm_getD (d:=V.non) ys hp'
   obtain ⟨hDo,hDL,hDb⟩:=N2 (D,_) List.mem_cons_self
   obtain ⟨hHD,I2⟩:=I.laidF (t':=s.toks) (a:=D) (o:=.lst (pa.toList.map fun i=>ys.getD i .non)) hDn keep2 (fun m' hm'=>by
     have e:m'=m:=funext fun nm=>Heap.Ns.agree hm' F.ns nm
     rw [e]; exact F2.ns) ⟨by rw [pm.length_eq]; exact hz,_,cc,vals_pick rv hpl,hDo⟩
   exact⟨.ref D,_,I2,rfl,q D _ hHD pm (pairwise_pick hp hasc fun i j hle=>hle)⟩
end L2
namespace Raw
open PySem PySem.W PySem.Calls PyProof.Rows
noncomputable def RawD (h:Heap) (d:Addr) (es:Array DictEntry) (ep:Nat):Prop:=∃ o,h.get? d=some o/\o.ExactDict/\o.data = .dict es ep
theorem RawD.ty {s:Shared}{d:Addr}{es:Array DictEntry}{ep:Nat} (x:RawD s.heap d es ep):s.TypeIs (.ref d) "dict":=x.elim fun o y=>⟨o,y.1,y.2.1.1⟩
theorem RawD.lt {h:Heap}{d:Addr}{es:Array DictEntry}{ep:Nat} (x:RawD h d es ep):d < h.objs.size:=x.elim fun _ y=>Heap.lt_size y.1
theorem RawD.keep {h h':Heap}{d:Addr}{es:Array DictEntry}{ep:Nat} (x:RawD h d es ep) (k:∀ o,h.get? d=some o->h'.get? d=some o):RawD h' d es ep:=x.elim fun o y=>⟨o,k o y.1,y.2⟩
section
variable {prog : Program} {w : World} {A : Around} {E : Value → Shared → Prop} {s : Shared} {d it : Addr} {es : Array DictEntry} {ep i : Nat}
theorem made (far:(d == sysModules)=false) (x:RawD s.heap d es ep) {Q:Value->Shared->Prop}
  (q:Q (.ref s.heap.objs.size) { s with heap:=s.heap.push { cls:=.type "dict_keyiterator",data:=.fields #[.ref d,.int 0 0,.int es.size 0,.int ep 0] } }):wpAny (model prog w) A (pyIter (.ref d)) Q E s:=by
 have T:=x.ty
 obtain ⟨o,e1,e2,e3⟩:=x
 apply wpAny_pyIter_slot T PySem.F.slot_dict_iter
 apply wpAny_call_entry PySem.F.slot_dict_iter T PySem.F.entry_dict_iter _ (PySem.F.args_dict_iter_1 _)
 simp only [Builtin.«dict.__iter__»,Builtin.Dict.dictSlotNone]
 apply wpAny_bind
 apply wpAny_bind
 apply wpAny_notOrdered_dict T
 apply wpAny_pure
 change wpAny _ _ (Builtin.Dict.showsAll d >>= _) _ _ s
 have far':Builtin.Dict.showsAll d=pure ():=by
  unfold Builtin.Dict.showsAll
  simp only [far,Bool.false_eq_true,if_false]
 rw [far',pure_bind]
 apply wpAny_bind
 apply wpAny_dictEntries e1 e3
 apply wpAny_bind
 apply wpAny_dictEpoch e1 e3
 apply wpAny_bind
 refine wpAny_newObj_type (wpAny_pure ?_)
 refine⟨.ref s.heap.objs.size,rfl,"dict_keyiterator",_,⟨_,Heap.get?_push_size _ rfl,rfl⟩,PySem.F.slot_dict_keyiterator_next.lookup,?_⟩
 simpa only [rawInt] using q
theorem turn (hh:A.handled=none) (hi:s.heap.IsKeyIter it d i es.size ep) (x:RawD s.heap d es ep) {Q:Option Value->Shared->Prop}
  (yes:∀ (lt:i < es.size) h',h'.IsKeyIter it d (i+1) es.size ep->Heap.SameBut it s.heap h'->Q (some es[i].key) { s with heap:=h' })
  (no:es.size<=i->∀ h',Heap.ExtBut it s.heap h'->Q none { s with heap:=h' }):wpAny (model prog w) A (pyNext (.ref it)) Q E s:=by
 have T:=hi.typeIs
 obtain ⟨oi,f1,f2,f3⟩:=hi
 obtain ⟨o,e1,e2,e3⟩:=x
 have slot:=PySem.F.slot_dict_keyiterator_next
 have plain:Builtin.Dict_items.ownsTuple "dict_keyiterator" = false:=by decide
 have isref:(Value.ref d == Value.none)=false:=rfl
 have nn : ¬ (i:Int) < 0:=by (first|lia|omega)
 unfold pyNext
 apply wpAny_bind
 apply wpAny_attempt
 apply wpAny_callSpecial?_slot (name:=Str.ofString "__next__") T slot
 apply wpAny_call_entry slot T PySem.F.entry_dict_keyiterator_next _ (PySem.F.args_dict_keyiterator_next_1 _)
 apply wpAny_bind
 apply wpAny_pure
 apply wpAny_bind
 apply wpAny_bind
 apply wpAny_bind
 first
  | apply wpAny_typeNameOfWhole_keyiter T
  | apply wpAny_typeNameOf_keyiter T
 apply wpAny_pure
 apply wpAny_bind
 apply wpAny_fieldsOf f1 f3
 simp only [plain,Bool.false_eq_true,if_false]
 change wpAny _ _ (if (Value.ref d == Value.none)=true then _ else _) _ _ s
 have adr:Builtin.Dict_items.addrOf (Value.ref d)=pure d:=rfl
 simp only [isref,Bool.false_eq_true,if_false,adr,pure_bind]
 apply wpAny_bind
 apply wpAny_dictEntries e1 e3
 simp only [bne_self_eq_false,Bool.false_eq_true,if_false]
 apply wpAny_bind
 apply wpAny_dictEpoch e1 e3
 simp only [bne_self_eq_false,Bool.false_eq_true,if_false]
 apply wpAny_pure
 simp only [nn,if_false,Int.toNat_natCast]
 by_cases lt:i < es.size
 ·simp only [Array.getElem?_eq_getElem lt]
  apply wpAny_bind
  apply wpAny_bind
  first
   | apply wpAny_typeNameOfWhole_keyiter T
   | apply wpAny_typeNameOf_keyiter T
  apply wpAny_pure
  apply wpAny_bind
  apply wpAny_isOneOf_keyiter T
  change wpAny _ _ (setField (.ref it) 1 (rawInt ((i:Int)+1)) >>= _) _ _ s
  apply wpAny_bind
  refine wpAny_setField f1 f3 (by simp) ?_
  have again:(s.heap.update it (Obj.mapFields (·.setIfInBounds 1 (rawInt ((i:Int)+1))))).IsKeyIter it d (i+1) es.size ep:=by
   refine⟨_,Heap.get?_update_self _ f1 (Obj.isFreed_of_fields (Obj.data_mapFields f3 _)),?_,?_⟩
   ·rw [Obj.cls_mapFields]; exact f2
   ·rw [Obj.data_mapFields f3]; simp [rawInt]
  apply wpAny_bind
  apply wpAny_holding
  apply wpAny_bind
  refine wpAny_isOneOf_keyiter (s:={ s with heap:=s.heap.update it (Obj.mapFields (·.setIfInBounds 1 (rawInt ((i:Int)+1)))) }) again.typeIs ?_
  change wpAny _ _ (pure es[i].key) _ _ _
  apply wpAny_pure
  apply wpAny_pure
  exact⟨es[i].key,rfl,wpAny_pure (yes lt _ again (Heap.SameBut.update ..))⟩
 ·have ge:es.size<=i:=Nat.le_of_not_lt lt
  simp only [Array.getElem?_eq_none ge]
  apply wpAny_bind
  apply wpAny_bind
  first
   | apply wpAny_typeNameOfWhole_keyiter T
   | apply wpAny_typeNameOf_keyiter T
  apply wpAny_pure
  change wpAny _ _ (setField (.ref it) 0 .none >>= _) _ _ s
  apply wpAny_bind
  refine wpAny_setField f1 f3 (by simp) ?_
  apply wpAny_bind
  simp only [newExc,newTuple]
  apply wpAny_bind
  refine wpAny_newObj_type ?_ (by size_fits)
  apply wpAny_bind
  refine wpAny_of_eq (a:=Value.none) (by first | rfl | (simp only [firstArgMember]; rfl)) ?_
  refine wpAny_newObj_type ?_ (by size_fits)
  unfold raiseNew
  apply wpAny_bind
  apply wpAny_handled
  have quiet:A.in1.handled=none:=hh
  rw [quiet]
  refine wpAny_throw ?_
  apply wpAny_bind
  refine wpAny_isInstance (T:="StopIteration") (b:=true) ⟨_,Heap.get?_push_size _ rfl,rfl⟩ isSubtype_stop ?_
  exact wpAny_pure (no ge _ (((Heap.SameBut.update ..).extBut.push _).push _))
theorem walks (hh:A.handled=none) (ne:d ≠ it):Walks prog w A it [it,d] [it] es.size (fun i v=>∃ lt:i < es.size,es[i].key=v) (fun i h=>h.IsKeyIter it d i es.size ep/\RawD h d es ep) where
 sub:=by intro b hb; rw [List.mem_singleton.mp hb]; exact List.mem_cons_self
 frame:=by
  intro i h h' st hk
  exact⟨st.1.at (hk it List.mem_cons_self),st.2.keep (hk d (List.mem_cons_of_mem _ List.mem_cons_self))⟩
 item:=by
  intro i s Q E lt st hQ
  refine turn hh st.1 st.2 (fun lt' h' again sb=>?_) fun ge=>absurd lt (Nat.not_lt.mpr ge)
  exact hQ _ h' s.toks ⟨lt',rfl⟩ ⟨again,st.2.keep fun o e=>sb.extBut d o ne e⟩ fun b o hb e=>sb.extBut b o (fun z=>hb (List.mem_singleton.mpr z)) e
 done:=by
  intro s Q E st hQ
  refine turn hh st.1 st.2 (fun lt=>absurd lt (Nat.lt_irrefl _)) fun _ h' eb=>?_
  exact hQ h' s.toks fun b o hb e=>eb b o (fun z=>hb (List.mem_singleton.mpr z)) e
 self:=by intro i s Q E st hQ; exact wpAny_pyIter_keyiter st.1 hQ
theorem source (far:(d == sysModules)=false):KdlSrc prog w "dict" d d es.size (fun i v=>∃ lt:i < es.size,es[i].key=v) (fun h=>RawD h d es ep) where
 type:=fun _ x=>x.ty
 there:=fun _ x=>⟨x.lt,x.lt⟩
 keep:=fun _ _ x k=>x.keep (k d (.inl rfl))
 notList:=by decide
 notTuple:=by decide
 hint:=fun _ _ _ _ x q=>kdl_hint_dict x.ty q
 iter:=fun _ _ hh x=>⟨_,_,fun _ _ q=>made far x q,walks hh (Nat.ne_of_lt x.lt),⟨_,Heap.get?_push_size _ rfl,rfl,rfl⟩,x.keep fun o e=>Heap.get?_push_of_some _ e⟩
end
end Raw
namespace L2
open PySem PySem.Spec PyProof.Rows
section
variable {X : Cx} {pins : List (Addr × Obj)} {σ : St} {H : Hp} {s : Shared} {a : Addr}
noncomputable def KeyAt (H:Hp) (y:V) (k:List Key):Prop:=∃ q,y = .ref q/\H q=some (.tup (k.map kV))
theorem keys_dT {kvs:List (List Key × V)} (I:Inv X pins σ H s) (h:H a=some (.dT kvs)):∃ es ep ys,Raw.RawD s.heap a es ep/\(a == sysModules)=false/\Paired (KeyAt H) ys (kvs.map (·.1))/\Vals ys (es.toList.map (·.key))/\kvs.length<=sizeLine:=by
 obtain ⟨z,far,xs,rel,o,es,ep,e1,e2,e3,e4,nd⟩:=(show ObjOk X.prog X.w H s.heap a (.dT kvs) from I.hok a _ h)
 refine⟨es,ep,xs.map fun q=>V.ref q.2.1,⟨o,e1,e2,e3⟩,far,?_,?_,z⟩
 ·clear e4 nd h z
  induction rel with
  | nil=>exact .nil
  | cons r rs ih=>exact .cons ⟨_,rfl,r.2.1⟩ ih
 ·rw [e4]
  clear rel e4 nd
  induction xs with
  | nil=>exact .nil
  | cons q qs ih=>exact .cons rfl ih
theorem items_keys {es:Array DictEntry}{acc:Array Value} (h:ItemsOf (fun i v=>∃ lt:i < es.size,es[i].key=v) acc es.size):acc.toList=es.toList.map (·.key):=by
 apply List.ext_getElem?
 intro j
 have h1:=h.1
 by_cases hj:j < es.size
 ·have hj':j < acc.size:=by rw [h1]; exact hj
  obtain ⟨_,e⟩:=h.2 j acc[j] (by simp [hj'])
  rw [List.getElem?_map]
  simp [hj,hj',e]
 ·have hj' : ¬ j < acc.size:=by rw [h1]; exact hj
  rw [List.getElem?_map]
  simp [Nat.le_of_not_lt hj,Nat.le_of_not_lt hj']
theorem call_listDT (hc:X.calm=true):CallR X (.type "list") (fun xs H Q=>∃ a kvs,xs = [.ref a]/\H a=some (.dT kvs)/\∀ l ys,H l=none->Paired (KeyAt H) ys (kvs.map (·.1))->Q (.ref l) (upd H l (.lst ys))):=by
 intro pins s σ H xs us Q I r h
 obtain ⟨a,kvs,rfl,ha,q⟩:=h
 obtain ⟨u,rfl,ru⟩:=vals1 r
 cases ru
 obtain ⟨es,ep,ys,rd,far,pk,vk,z⟩:=keys_dT I ha
 have hl:=vk.length
 have hl2:=pk.length
 rw [List.length_map] at hl hl2
 have hsz:es.toList.length=es.size:=Array.length_toList
 refine PySem.W.kdl_call (Raw.source far) (I.ok.hd hc) rd (by (first|lia|omega)) fun h' tk acc c kp e it=>?_
 refine⟨.ref s.heap.objs.size,_,I.laid (t':=tk) kp (Nat.le_refl _) (show ObjOk X.prog X.w _ h' _ (.lst ys) from ⟨by (first|lia|omega),acc.toList,c,by rw [items_keys it]; exact vk,by simpa using e⟩),rfl,q _ ys (I.hok.fresh (Nat.le_refl _)) pk⟩
end
end L2
namespace L2
open PySem PySem.Spec PyProof.Rows
section
variable {X : Cx}
theorem call_isinst:CallR X (.builtin "isinstance") (fun xs H Q=>∃ x t n b,xs = [x,.ty n]/\TyOf X.K H x t/\PySem.W.kitOne X.K t (.type n)=some b/\Q (.bl b) H):=by
 intro pins s σ H xs us Q I r h
 obtain ⟨x,t,n,b,rfl,ty,e,q⟩:=h
 obtain ⟨u,u',rfl,ru,ru'⟩:=vals2 r
 cases ru'
 exact isinst_ok I ru ty e fun tk=>⟨.bl b,H,I.tok tk,rfl,q⟩
end
end L2
namespace L2
open PySem PySem.Spec PyProof.Rows
noncomputable def coAll (outer:List (Str × NameKind)) (XN:List Str) (names:List (Str × NameKind)) (N:List Str) (fr:List (Option Nat)):Bool:=
 names.all (fun y=>!(y.2 == .cell) || names.lookup y.1 == some .cell) && names.all (fun y=>!(y.2 == .local) || names.lookup y.1 == some .local) &&
 names.all (fun y=>!(y.2 == .free) || (outer.lookup y.1 == some .cell || outer.lookup y.1 == some .free)) && fr.length == N.length &&
 (fr.zip N).all (fun p=>match p.1 with
  | none=>true
  | some j=>XN[j]? == some p.2 && names.lookup p.2 == some .free)
theorem CoScope.of {X:Cx}{scope:Scope}{N:List Str}{fr:List (Option Nat)} (hk:scope.kind = .function) (h:coAll X.env.scope.names X.N scope.names N fr=true):CoScope X scope N fr:=by
 unfold coAll at h
 simp only [Bool.and_eq_true] at h
 obtain ⟨⟨⟨⟨h1,h2⟩,h3⟩,h4⟩,h5⟩:=h
 refine⟨hk,fun y hy e=>?_,fun y hy e=>?_,fun y hy e=>?_,by simpa using h4,fun i j e=>?_⟩
 ·have:=List.all_eq_true.mp h1 y hy
  rw [e] at this; simpa using this
 ·have:=List.all_eq_true.mp h2 y hy
  rw [e] at this; simpa using this
 ·have:=List.all_eq_true.mp h3 y hy
  rw [e] at this; simpa using this
 ·have hl:fr.length=N.length:=by simpa using h4
  have hi:i < fr.length:=(List.getElem?_eq_some_iff.mp e).1
  have m:(some j,N[i]'(by (first|lia|omega))) ∈ fr.zip N:=by
   have:(fr.zip N)[i]? = some (some j,N[i]'(by (first|lia|omega))):=by
    rw [List.getElem?_zip_eq_some]
    exact⟨e,by simp⟩
   exact List.mem_of_getElem? this
  have:=List.all_eq_true.mp h5 _ m
  simp only [Bool.and_eq_true,beq_iff_eq] at this
  exact⟨N[i]'(by (first|lia|omega)),by simp,this.1,this.2⟩
theorem wk0 {n:Option V}{r:St}{v:V}:Wk (none :: r) (some v :: r):=(Wk.refl (none :: r)).set (i:=0) rfl
noncomputable def LinksAt (H:Hp) (ys:List V) (ls:List (Int × Int)):Prop:=Paired (fun y l=>∃ b,y = .ref b/\H b=some (.tup [.int l.1,.int l.2])) ys ls
structure WebAt (H:Hp) (v:V) (ws:List Int) (ls:List (Int × Int)):Prop where
 at_:∃ a p q ys,v = .ref a/\H a=some (.tup [.ref p,.ref q])/\H p=some (.tup (ws.map V.int))/\H q=some (.tup ys)/\LinksAt H ys ls
theorem LinksAt.mono {H H':Hp} (e:Same H H'):∀ {ys:List V}{ls:List (Int × Int)},LinksAt H ys ls->LinksAt H' ys ls
 | _,_,.nil=>.nil
 | _,_,.cons ⟨b,h1,h2⟩ t=>.cons ⟨b,h1,e _ _ h2⟩ (LinksAt.mono e t)
theorem LinksAt.get {H:Hp}:∀ {ys:List V}{ls:List (Int × Int)}{i:Nat}{y:V},LinksAt H ys ls->ys[i]? = some y->∃ l b,ls[i]? = some l/\y = .ref b/\H b=some (.tup [.int l.1,.int l.2])
 | _,_,_,_,.nil,e=>by simp at e
 | _,_,0,_,.cons (b:=l) ⟨b,h1,h2⟩ _,e=>by simp at e; subst e; exact⟨l,b,rfl,h1,h2⟩
 | _,_,i+1,_,.cons _ t,e=>by
  obtain ⟨l,b,h1,h2⟩:=LinksAt.get (i:=i) t (by simpa using e)
  exact⟨l,b,by simpa using h1,h2⟩
noncomputable def nbrs (ls:List (Int × Int)) (k:Int):List Int:=ls.flatMap fun l=>(if l.1=k then [l.2] else []) ++ (if l.2=k then [l.1] else [])
theorem nbrs_snoc (ls:List (Int × Int)) (l:Int × Int) (k:Int):nbrs (ls ++ [l]) k=nbrs ls k ++ ((if l.1=k then [l.2] else []) ++ (if l.2=k then [l.1] else [])):=by
 unfold nbrs; rw [List.flatMap_append]; simp
theorem nbrs_take {ls:List (Int × Int)}{i:Nat}{l:Int × Int} (h:ls[i]? = some l) (k:Int):nbrs (ls.take (i+1)) k=nbrs (ls.take i) k ++ ((if l.1=k then [l.2] else []) ++ (if l.2=k then [l.1] else [])):=by
 rw [List.take_add_one,h]; exact nbrs_snoc _ _ _
structure RowsAt (H H':Hp) (r:Addr) (bs:List Addr) (f:Nat->List Int):Prop where
 new:H r=none
 news:∀ b ∈ bs,H b=none/\b ≠ r
 nd:bs.Nodup
 row:H' r=some (.lst (bs.map V.ref))
 rows:∀ (k:Nat) (b:Addr),bs[k]? = some b->H' b=some (.lst ((f k).map V.int))
 same:Same H H'
theorem RowsAt.congr {H H':Hp}{r:Addr}{bs:List Addr}{f g:Nat->List Int} (h:RowsAt H H' r bs f) (e:∀ k,k < bs.length->f k=g k):RowsAt H H' r bs g:=
 ⟨h.new,h.news,h.nd,h.row,fun k b hb=>by rw [<- e k (List.getElem?_eq_some_iff.mp hb).1]; exact h.rows k b hb,h.same⟩
theorem RowsAt.app {H H':Hp}{r:Addr}{bs:List Addr}{f:Nat->List Int} (h:RowsAt H H' r bs f) {k:Nat}{b:Addr} (hb:bs[k]? = some b) (x:Int) :
  RowsAt H (upd H' b (.lst ((f k).map V.int ++ [V.int x]))) r bs (fun j=>if j=k then f j ++ [x] else f j):=by
 have hm:b ∈ bs:=List.mem_of_getElem? hb
 refine⟨h.new,h.news,h.nd,by rw [upd_ne (Ne.symm (h.news b hm).2)]; exact h.row,fun j c hc=>?_,fun c o e=>by rw [upd_ne (ne_of_none e (h.news b hm).1)]; exact h.same c o e⟩
 by_cases hj:j=k
 ·subst hj
  rw [hb] at hc; cases hc
  rw [upd_same,if_pos rfl]; simp
 ·rw [if_neg hj]
  have ne:c ≠ b:=fun z=>by
   subst z
   obtain ⟨i1,e1⟩:=List.getElem?_eq_some_iff.mp hb
   obtain ⟨i2,e2⟩:=List.getElem?_eq_some_iff.mp hc
   refine hj (Nat.le_antisymm (Nat.le_of_not_lt fun z=>?_) (Nat.le_of_not_lt fun z=>?_))
   ·exact List.pairwise_iff_getElem.mp h.nd _ _ i1 i2 z (e1.trans e2.symm)
   ·exact List.pairwise_iff_getElem.mp h.nd _ _ i2 i1 z (e2.trans e1.symm)
  rw [upd_ne ne]; exact h.rows j c hc
theorem nbrs_len (ls:List (Int × Int)) (k:Int):(nbrs ls k).length<=2 * ls.length:=by
 induction ls with
 | nil=>exact Nat.le_refl _
 | cons l r ih=>
  have e:nbrs (l :: r) k=((if l.1=k then [l.2] else []) ++ (if l.2=k then [l.1] else [])) ++ nbrs r k:=rfl
  rw [e,List.length_append,List.length_append,List.length_cons]
  have h1:(if l.1=k then [l.2] else []).length<=1:=by split <;> simp
  have h2:(if l.2=k then [l.1] else []).length<=1:=by split <;> simp
  (first|lia|omega)
theorem atI_int {α:Type}{xs:List α}{i:Int}{v:α} (h0:0<=i) (h:xs[i.toNat]? = some v):atI xs i=some v:=by
 have:=atI_nat h
 rwa [show ((i.toNat:Nat):Int)=i by (first|lia|omega)] at this
theorem bigEnough {n:Nat} (h:n<=16000000):n < sizeLine:=by rw [sizeLine_eq]; (first|lia|omega)
theorem tyes {σ:St}{H:Hp}{A B:Hp->Prop} (h:A H):tYes σ H fun b H4=>if b=true then A H4 else B H4:=by
 show if true=true then A H else B H
 rw [if_pos rfl]; exact h
theorem tyL {K:PySem.W.Frag}{H:Hp}{p:Addr}{xs:List V} (h:SqL K H p xs):tyV K "list" (.ref p) H:=.inl ⟨rfl,xs,h⟩
end L2
namespace L2
open PySem PySem.Spec PyProof.Rows
noncomputable def pairOf (H:Hp) (y:V):Int × Int:=match tupInts H y with
 | [a,b]=>(a,b)
 | _=>(0,0)
theorem links_of {H:Hp}:∀ {zs:List V},(∀ y ∈ zs,∃ b,y = .ref b/\H b=some (.tup [.int (pairOf H y).1,.int (pairOf H y).2])/\tupInts H y = [(pairOf H y).1,(pairOf H y).2])->LinksAt H zs (zs.map (pairOf H))
 | [],_=>.nil
 | y :: zs,h=>by
  obtain ⟨b,e,hb,_⟩:=h y List.mem_cons_self
  exact .cons ⟨b,e,hb⟩ (links_of fun z hz=>h z (List.mem_cons_of_mem _ hz))
end L2
namespace Zp
open PySem PyProof.Rows
section
variable {prog : Program} {w : World} {A : Around} {E : Value → Shared → Prop} {s : Shared}
theorem tup_item {it t:Addr}{i:Nat}{items:Array Value}{x:Value}{Q:Value->Shared->Prop} (hi:s.heap.IsTupleIter it t i) (ht:s.heap.IsTuple t items) (hx:items[i]? = some x)
  (q:∀ h',h'.IsTupleIter it t (i+1)->Heap.SameBut it s.heap h'->Q x { s with heap:=h' }):wpAny (model prog w) A (Builtin.SmallTypes.nextOf (.ref it)) Q E s:=by
 have T:=hi.typeIs
 obtain ⟨o,e1,e2,e3⟩:=hi
 obtain ⟨u,f1,_,k,f3⟩:=ht
 have slot:=PySem.F.slot_tuple_iterator_next
 have isref:(Value.ref t == Value.none)=false:=rfl
 unfold Builtin.SmallTypes.nextOf
 apply wpAny_bind
 apply wpAny_callSpecial?_slot (name:=Str.ofString "__next__") T slot
 apply wpAny_call_entry slot T PySem.F.entry_tuple_iterator_next _ (PySem.F.args_tuple_iterator_next_1 _)
 change wpAny _ _ (field (.ref it) 0 >>= _) _ _ s
 apply wpAny_bind
 refine wpAny_field e1 e3 (x:=.ref t) rfl ?_
 change wpAny _ _ (if (Value.ref t == Value.none)=true then _ else _) _ _ s
 simp only [isref,Bool.false_eq_true,if_false]
 change wpAny _ _ (field (.ref it) 1 >>= _) _ _ s
 apply wpAny_bind
 refine wpAny_field e1 e3 (x:=.int i 0) rfl ?_
 change wpAny _ _ (seqItems? (.ref t) >>= _) _ _ s
 apply wpAny_bind
 apply wpAny_seqItems f1 f3
 simp only [Int.toNat_natCast,hx]
 apply wpAny_bind
 refine wpAny_setField e1 e3 (by simp) ?_
 apply wpAny_pure
 refine⟨x,rfl,wpAny_pure (q _ ⟨_,Heap.get?_update_self _ e1 (Obj.isFreed_of_fields (Obj.data_mapFields e3 _)),?_,?_⟩ (Heap.SameBut.update ..))⟩
 ·rw [Obj.cls_mapFields]; exact e2
 ·rw [Obj.data_mapFields e3]; simp [rawInt]
theorem tup_end {it t:Addr}{i:Nat}{items:Array Value}{Q:Value->Shared->Prop} (hh:A.handled=none) (hi:s.heap.IsTupleIter it t i) (ht:s.heap.IsTuple t items) (hx:items[i]? = none)
  (q:∀ h' e,Heap.ExtBut it s.heap h'->(∃ o,h'.get? e=some o/\o.cls = .type "StopIteration")->E (.ref e) { s with heap:=h' }):wpAny (model prog w) A (Builtin.SmallTypes.nextOf (.ref it)) Q E s:=by
 have T:=hi.typeIs
 obtain ⟨o,e1,e2,e3⟩:=hi
 obtain ⟨u,f1,_,k,f3⟩:=ht
 have slot:=PySem.F.slot_tuple_iterator_next
 have isref:(Value.ref t == Value.none)=false:=rfl
 unfold Builtin.SmallTypes.nextOf
 apply wpAny_bind
 apply wpAny_callSpecial?_slot (name:=Str.ofString "__next__") T slot
 apply wpAny_call_entry slot T PySem.F.entry_tuple_iterator_next _ (PySem.F.args_tuple_iterator_next_1 _)
 change wpAny _ _ (field (.ref it) 0 >>= _) _ _ s
 apply wpAny_bind
 refine wpAny_field e1 e3 (x:=.ref t) rfl ?_
 change wpAny _ _ (if (Value.ref t == Value.none)=true then _ else _) _ _ s
 simp only [isref,Bool.false_eq_true,if_false]
 change wpAny _ _ (field (.ref it) 1 >>= _) _ _ s
 apply wpAny_bind
 refine wpAny_field e1 e3 (x:=.int i 0) rfl ?_
 change wpAny _ _ (seqItems? (.ref t) >>= _) _ _ s
 apply wpAny_bind
 apply wpAny_seqItems f1 f3
 simp only [Int.toNat_natCast,hx]
 apply wpAny_bind
 apply wpAny_rule
 apply wpAny_bind
 refine wpAny_setField e1 e3 (by simp) ?_
 apply wpAny_bind
 simp only [newExc,newTuple]
 apply wpAny_bind
 refine wpAny_newObj_type ?_ (by size_fits)
 apply wpAny_bind
 refine wpAny_of_eq (a:=Value.none) (by first | rfl | (simp only [firstArgMember]; rfl)) ?_
 refine wpAny_newObj_type ?_ (by size_fits)
 unfold raiseNew
 apply wpAny_bind
 apply wpAny_handled
 have quiet:A.in1.handled=none:=hh
 rw [quiet]
 refine wpAny_throw ?_
 exact q _ _ (((Heap.SameBut.update ..).extBut.push _).push _) ⟨_,Heap.get?_push_size _ rfl,rfl⟩
theorem draws_tuple (hh:A.handled=none) (it t:Addr) (ne:t ≠ it) (items:Array Value):Draws prog w A it [it,t] items.size (fun i v=>items[i]? = some v) (fun i h=>h.IsTupleIter it t i/\h.IsTuple t items) where
 live:=fun _ _ st=>st.1.elim fun o y=>⟨o,y.1⟩
 frame:=fun _ _ _ st k=>⟨st.1.at fun o e=>k it List.mem_cons_self o e,st.2.elim fun o y=>⟨o,k t (List.mem_cons_of_mem _ List.mem_cons_self) o y.1,y.2⟩⟩
 item:=fun i s Q E lt st q=>tup_item st.1 st.2 (Array.getElem?_eq_getElem lt) fun h' again sb=>q _ h' s.toks (Array.getElem?_eq_getElem lt) ⟨again,st.2.elim fun o y=>⟨o,sb.extBut t o ne y.1,y.2⟩⟩ sb
 done:=fun s Q E st q=>tup_end hh st.1 st.2 (Array.getElem?_eq_none (Nat.le_refl _)) q
end
end Zp
namespace Zp
open PySem PyProof.Rows
structure Ap (z TI TO i1 i2:Addr) (fp1 fp2:List Addr):Prop where
 TIz:TI ≠ z
 TOz:TO ≠ z
 TITO:TI ≠ TO
 z1:z ∉ fp1
 z2:z ∉ fp2
 o1:TO ∉ fp1
 o2:TO ∉ fp2
 t1:TI ∉ fp1
 t2:TI ∉ fp2
 m1:i1 ∈ fp1
 m2:i2 ∈ fp2
 n1:i1 ∉ fp2
 n2:i2 ∉ fp1
structure ZSt (z TI TO i1 i2:Addr) (St1 St2:Nat->Heap->Prop) (f0:Value) (i j:Nat) (h:Heap):Prop where
 zz:IsZip h z TI TO f0
 ti:IsPair h TI (.ref i1) (.ref i2)
 to_:∃ a b,IsPair h TO a b
 s1:St1 i h
 s2:St2 j h
section
variable {prog : Program} {w : World} {A : Around} {E : Value → Shared → Prop} {s : Shared} {z TI TO i1 i2 : Addr} {fp1 fp2 : List Addr} {n1 n2 : Nat} {P1 P2 : Nat → Value → Prop} {St1 St2 : Nat → Heap → Prop}
theorem ne1 (ap:Ap z TI TO i1 i2 fp1 fp2) {b:Addr} (h:b ∉ fp1):b ≠ i1:=fun e=>h (e ▸ ap.m1)
theorem ne2 (ap:Ap z TI TO i1 i2 fp1 fp2) {b:Addr} (h:b ∉ fp2):b ≠ i2:=fun e=>h (e ▸ ap.m2)
theorem item (D1:Draws prog w A.in1 i1 fp1 n1 P1 St1) (D2:Draws prog w A.in1 i2 fp2 n2 P2 St2) (ap:Ap z TI TO i1 i2 fp1 fp2) {i:Nat} (l1:i < n1) (l2:i < n2) (st:ZSt z TI TO i1 i2 St1 St2 .none i i s.heap) {Q:Option Value->Shared->Prop}
  (q:∀ x y h' tk,P1 i x->P2 i y->ZSt z TI TO i1 i2 St1 St2 (rawInt s.heap.objs.size) (i+1) (i+1) h'->IsPair h' s.heap.objs.size x y->(∀ c o,c ≠ z->c ≠ TO->c ≠ i1->c ≠ i2->s.heap.get? c=some o->h'.get? c=some o)->
   h'.objs.size=s.heap.objs.size+1->Q (some (.ref s.heap.objs.size)) { s with heap:=h',toks:=tk }):wpAny (model prog w) A (pyNext (.ref z)) Q E s:=by
 obtain ⟨hz,hti,⟨a,b,hto⟩,h1,h2⟩:=st
 have T:s.TypeIs (.ref z) "zip":=⟨_,hz,rfl⟩
 have slot:=PySem.F.slot_zip_next
 unfold pyNext
 apply wpAny_bind
 apply wpAny_attempt
 apply wpAny_callSpecial?_slot (name:=Str.ofString "__next__") T slot
 apply wpAny_call_entry slot T PySem.F.entry_zip_next _ (PySem.F.args_zip_next_1 _)
 change wpAny _ _ (field (.ref z) 2 >>= _) _ _ _
 apply wpAny_bind
 refine wpAny_field hz rfl (x:=.bool false) rfl ?_
 change wpAny _ _ (field (.ref z) 3 >>= _) _ _ _
 apply wpAny_bind
 refine wpAny_field hz rfl (x:=.ref TI) rfl ?_
 apply wpAny_bind
 apply wpAny_seqItems hti rfl
 change wpAny _ _ (Builtin.SmallTypes.ownedTupleIsFree (.ref z) >>= _) _ _ _
 apply wpAny_bind
 unfold Builtin.SmallTypes.ownedTupleIsFree
 apply wpAny_bind
 refine wpAny_field hz rfl (x:=.none) rfl (wpAny_pure ?_)
 simp only [if_true]
 apply wpAny_bind
 apply wpAny_rule
 apply wpAny_bind
 refine wpAny_field hz rfl (x:=.ref TO) rfl ?_
 apply wpAny_bind
 refine wpAny_setField_rec hz (by simp) fun g1 hz1 sb1=>?_
 have k1:∀ c o,c ≠ z->s.heap.get? c=some o->g1.get? c=some o:=fun c o c1 e=>sb1.extBut c o c1 e
 apply wpAny_bind
 simp only [List.zipIdx_cons,List.zipIdx_nil,List.forIn_cons,List.forIn_nil]
 apply wpAny_bind
 apply wpAny_bind
 apply wpAny_onRaise
 change wpAny _ _ (Builtin.SmallTypes.nextOf (.ref i1) >>= _) _ _ _
 apply wpAny_bind
 refine D1.item i { s with heap:=g1 } _ _ l1 (D1.frame _ _ _ h1 fun c hc o e=>k1 c o (fun y=>ap.z1 (y ▸ hc)) e) fun x g2 tk2 px st1 sb2=>wpAny_pure ?_
 have k2:∀ c o,c ≠ z->c ≠ i1->s.heap.get? c=some o->g2.get? c=some o:=fun c o c1 c2 e=>sb2.extBut c o c2 (k1 c o c1 e)
 have to2:IsPair g2 TO a b:=k2 _ _ ap.TOz (ne1 ap ap.o1) hto
 apply wpAny_bind
 apply wpAny_seqItems to2 rfl
 apply wpAny_bind
 refine wpAny_updateSeq_pair to2 fun g3 to3 sb3=>?_
 have to3:IsPair g3 TO x b:=to3
 apply wpAny_bind
 apply wpAny_letGo
 apply wpAny_pure
 apply wpAny_bind
 apply wpAny_bind
 apply wpAny_onRaise
 change wpAny _ _ (Builtin.SmallTypes.nextOf (.ref i2) >>= _) _ _ _
 apply wpAny_bind
 have k3:∀ c o,c ≠ z->c ≠ i1->c ≠ TO->s.heap.get? c=some o->g3.get? c=some o:=fun c o c1 c2 c3 e=>sb3.extBut c o c3 (k2 c o c1 c2 e)
 refine D2.item i { s with heap:=g3,toks:=tk2 } _ _ l2 (D2.frame _ _ _ h2 fun c hc o e=>k3 c o (fun y=>ap.z2 (y ▸ hc)) (fun y=>ap.n1 (y ▸ hc)) (fun y=>ap.o2 (y ▸ hc)) e) fun y g4 tk4 py st2 sb4=>wpAny_pure ?_
 have to4:IsPair g4 TO x b:=sb4.extBut _ _ (ne2 ap ap.o2) to3
 apply wpAny_bind
 apply wpAny_seqItems to4 rfl
 apply wpAny_bind
 refine wpAny_updateSeq_pair to4 fun g5 to5 sb5=>?_
 have to5:IsPair g5 TO x y:=to5
 apply wpAny_bind
 apply wpAny_letGo
 apply wpAny_pure
 apply wpAny_pure
 apply wpAny_bind
 apply wpAny_seqItems to5 rfl
 apply wpAny_bind
 refine wpAny_newTuple ?_ (by show 2<=sizeLine; decide)
 have size:g5.objs.size=s.heap.objs.size:=by rw [sb5.1,sb4.1,sb3.1,sb2.1,sb1.1]
 have k5:∀ c o,c ≠ z->c ≠ TO->c ≠ i1->c ≠ i2->s.heap.get? c=some o->g5.get? c=some o:=fun c o c1 c2 c3 c4 e=>sb5.extBut c o c2 (sb4.extBut c o c4 (k3 c o c1 c3 c2 e))
 have z5:IsZip g5 z TI TO .ellipsis:=sb5.extBut _ _ (Ne.symm ap.TOz) (sb4.extBut _ _ (ne2 ap ap.z2) (sb3.extBut _ _ (Ne.symm ap.TOz) (sb2.extBut _ _ (ne1 ap ap.z1) hz1)))
 change wpAny _ _ (Builtin.SmallTypes.ownedTupleHandOut (.ref z) (.ref g5.objs.size) >>= _) _ _ _
 apply wpAny_bind
 unfold Builtin.SmallTypes.ownedTupleHandOut
 apply wpAny_bind
 have z6:IsZip (g5.push { cls:=.type "tuple",data:=.seq #[x,y] }) z TI TO .ellipsis:=Heap.get?_push_of_some _ z5
 refine wpAny_setField_rec z6 (by simp) fun g7 z7 sb7=>?_
 have z7:IsZip g7 z TI TO (rawInt g5.objs.size):=z7
 refine wpAny_setField_rec z7 (by simp) fun g8 z8 sb8=>?_
 have z8:IsZip g8 z TI TO (rawInt g5.objs.size):=z8
 have zlt:z < g5.objs.size:=Heap.lt_size z5
 have up:∀ c o,c ≠ z->g5.get? c=some o->g8.get? c=some o:=fun c o c1 e=>sb8.extBut c o c1 (sb7.extBut c o c1 (Heap.get?_push_of_some _ e))
 have p8:IsPair g8 g5.objs.size x y:=sb8.extBut _ _ (Nat.ne_of_gt zlt) (sb7.extBut _ _ (Nat.ne_of_gt zlt) (Heap.get?_push_size _ rfl))
 have s8:g8.objs.size=g5.objs.size+1:=by rw [sb8.1,sb7.1,Heap.size_push]
 have f1:St1 (i+1) g8:=D1.frame _ _ _ st1 fun c hc o e=>up c o (fun y=>ap.z1 (y ▸ hc)) (sb5.extBut c o (fun y=>ap.o1 (y ▸ hc)) (sb4.extBut c o (fun y=>ap.n2 (y ▸ hc)) (sb3.extBut c o (fun y=>ap.o1 (y ▸ hc)) e)))
 have f2:St2 (i+1) g8:=D2.frame _ _ _ st2 fun c hc o e=>up c o (fun y=>ap.z2 (y ▸ hc)) (sb5.extBut c o (fun y=>ap.o2 (y ▸ hc)) e)
 have ti8:IsPair g8 TI (.ref i1) (.ref i2):=up _ _ ap.TIz (k5 _ _ ap.TIz ap.TITO (ne1 ap ap.t1) (ne2 ap ap.t2) hti)
 rw [size] at z8 p8 s8
 apply wpAny_pure
 refine⟨_,rfl,wpAny_pure ?_⟩
 change Q (some (.ref g5.objs.size)) _
 rw [size]
 exact q x y g8 tk4 px py ⟨z8,ti8,⟨x,y,up _ _ ap.TOz to5⟩,f1,f2⟩ p8 (fun c o c1 c2 c3 c4 e=>up c o c1 (k5 c o c1 c2 c3 c4 e)) s8
theorem fin (D1:Draws prog w A.in1 i1 fp1 n1 P1 St1) (D2:Draws prog w A.in1 i2 fp2 n2 P2 St2) (ap:Ap z TI TO i1 i2 fp1 fp2) {i:Nat} (le:i=n1 ∨ (i < n1/\i=n2)) (st:ZSt z TI TO i1 i2 St1 St2 .none i i s.heap) {Q:Option Value->Shared->Prop}
  (q:∀ h' tk,(∀ c o,c ≠ z->c ≠ TO->c ≠ i1->c ≠ i2->s.heap.get? c=some o->h'.get? c=some o)->Q none { s with heap:=h',toks:=tk }):wpAny (model prog w) A (pyNext (.ref z)) Q E s:=by
 obtain ⟨hz,hti,⟨a,b,hto⟩,h1,h2⟩:=st
 have T:s.TypeIs (.ref z) "zip":=⟨_,hz,rfl⟩
 have slot:=PySem.F.slot_zip_next
 unfold pyNext
 apply wpAny_bind
 apply wpAny_attempt
 apply wpAny_callSpecial?_slot (name:=Str.ofString "__next__") T slot
 apply wpAny_call_entry slot T PySem.F.entry_zip_next _ (PySem.F.args_zip_next_1 _)
 change wpAny _ _ (field (.ref z) 2 >>= _) _ _ _
 apply wpAny_bind
 refine wpAny_field hz rfl (x:=.bool false) rfl ?_
 change wpAny _ _ (field (.ref z) 3 >>= _) _ _ _
 apply wpAny_bind
 refine wpAny_field hz rfl (x:=.ref TI) rfl ?_
 apply wpAny_bind
 apply wpAny_seqItems hti rfl
 change wpAny _ _ (Builtin.SmallTypes.ownedTupleIsFree (.ref z) >>= _) _ _ _
 apply wpAny_bind
 unfold Builtin.SmallTypes.ownedTupleIsFree
 apply wpAny_bind
 refine wpAny_field hz rfl (x:=.none) rfl (wpAny_pure ?_)
 simp only [if_true]
 apply wpAny_bind
 apply wpAny_rule
 apply wpAny_bind
 refine wpAny_field hz rfl (x:=.ref TO) rfl ?_
 apply wpAny_bind
 refine wpAny_setField_rec hz (by simp) fun g1 hz1 sb1=>?_
 have k1:∀ c o,c ≠ z->s.heap.get? c=some o->g1.get? c=some o:=fun c o c1 e=>sb1.extBut c o c1 e
 apply wpAny_bind
 simp only [List.zipIdx_cons,List.zipIdx_nil,List.forIn_cons,List.forIn_nil]
 apply wpAny_bind
 apply wpAny_bind
 apply wpAny_onRaise
 change wpAny _ _ (Builtin.SmallTypes.nextOf (.ref i1) >>= _) _ _ _
 apply wpAny_bind
 have z1:IsZip g1 z TI TO .ellipsis:=hz1
 rcases le with rfl | ⟨lt,rfl⟩
 ·refine D1.done { s with heap:=g1 } _ _ (D1.frame _ _ _ h1 fun c hc o e=>k1 c o (fun y=>ap.z1 (y ▸ hc)) e) fun g2 e eb ex=>?_
  have z2:IsZip g2 z TI TO .ellipsis:=eb _ _ (ne1 ap ap.z1) z1
  refine wpAny_setField_rec z2 (by simp) fun g3 z3 sb3=>?_
  obtain ⟨oe,eo,co⟩:=ex
  have ne:e ≠ z:=fun y=>by
   rw [y,z2] at eo
   have:=Option.some.inj eo
   rw [<- this] at co; exact absurd (show Value.type "zip" = Value.type "StopIteration" from co) (by decide)
  apply wpAny_bind
  refine wpAny_isInstance (T:="StopIteration") (b:=true) ⟨oe,sb3.extBut _ _ ne eo,co⟩ isSubtype_stop ?_
  exact wpAny_pure (q g3 s.toks fun c o c1 _ c3 _ e=>sb3.extBut c o c1 (eb c o c3 (k1 c o c1 e)))
 ·refine D1.item i { s with heap:=g1 } _ _ lt (D1.frame _ _ _ h1 fun c hc o e=>k1 c o (fun y=>ap.z1 (y ▸ hc)) e) fun x g2 tk2 px st1 sb2=>wpAny_pure ?_
  have k2:∀ c o,c ≠ z->c ≠ i1->s.heap.get? c=some o->g2.get? c=some o:=fun c o c1 c2 e=>sb2.extBut c o c2 (k1 c o c1 e)
  have to2:IsPair g2 TO a b:=k2 _ _ ap.TOz (ne1 ap ap.o1) hto
  apply wpAny_bind
  apply wpAny_seqItems to2 rfl
  apply wpAny_bind
  refine wpAny_updateSeq_pair to2 fun g3 to3 sb3=>?_
  apply wpAny_bind
  apply wpAny_letGo
  apply wpAny_pure
  apply wpAny_bind
  apply wpAny_bind
  apply wpAny_onRaise
  change wpAny _ _ (Builtin.SmallTypes.nextOf (.ref i2) >>= _) _ _ _
  apply wpAny_bind
  have k3:∀ c o,c ≠ z->c ≠ i1->c ≠ TO->s.heap.get? c=some o->g3.get? c=some o:=fun c o c1 c2 c3 e=>sb3.extBut c o c3 (k2 c o c1 c2 e)
  refine D2.done { s with heap:=g3,toks:=tk2 } _ _ (D2.frame _ _ _ h2 fun c hc o e=>k3 c o (fun y=>ap.z2 (y ▸ hc)) (fun y=>ap.n1 (y ▸ hc)) (fun y=>ap.o2 (y ▸ hc)) e) fun g4 e eb ex=>?_
  have z4:IsZip g4 z TI TO .ellipsis:=eb _ _ (ne2 ap ap.z2) (sb3.extBut _ _ (Ne.symm ap.TOz) (sb2.extBut _ _ (ne1 ap ap.z1) z1))
  refine wpAny_setField_rec z4 (by simp) fun g5 z5 sb5=>?_
  obtain ⟨oe,eo,co⟩:=ex
  have ne:e ≠ z:=fun y=>by
   rw [y,z4] at eo
   have:=Option.some.inj eo
   rw [<- this] at co; exact absurd (show Value.type "zip" = Value.type "StopIteration" from co) (by decide)
  apply wpAny_bind
  refine wpAny_isInstance (T:="StopIteration") (b:=true) ⟨oe,sb5.extBut _ _ ne eo,co⟩ isSubtype_stop ?_
  exact wpAny_pure (q g5 tk2 fun c o c1 c2 c3 c4 e=>sb5.extBut c o c1 (eb c o c4 (k3 c o c1 c3 c2 e)))
end
end Zp
namespace Zp
open PySem PyProof.Rows
noncomputable def tup5 (h:Heap) (t u:Addr):Heap:=
 ((((h.push { cls:=.type "tuple_iterator",data:=.fields #[.ref t,.int 0 0] }).push { cls:=.type "tuple_iterator",data:=.fields #[.ref u,.int 0 0] }).push { cls:=.type "tuple",data:=.seq #[.ref h.objs.size,.ref (h.objs.size+1)] }).push
  { cls:=.type "tuple",data:=.seq #[.none,.none] }).push { cls:=.type "zip",data:=.fields #[.none,.bool false,.bool false,.ref (h.objs.size+2),.ref (h.objs.size+3)] }
theorem meets_tt (t u:Addr) (xs ys:Array Value):Meets (Builtin.«zip.__new__» ⟨[.type "zip",.ref t,.ref u],[]⟩) (fun _ R s=>s.heap.IsTuple t xs/\s.heap.IsTuple u ys/\R (.ok (.ret (.ref (s.heap.objs.size+4)))) { s with heap:=tup5 s.heap t u }):=
 .of_wp fun prog w A R s h=>by
  obtain ⟨hp,g,d,tk,os⟩:=s
  obtain ⟨ht,hu,h⟩:=h
  have sub:=sub_zip
  have a1:Heap.IsTuple (Shared.heap ⟨hp,g,d,tk,os⟩) t xs:=ht
  have a2:Heap.IsTuple (Shared.heap ⟨hp.push { cls:=.type "tuple_iterator",data:=.fields #[.ref t,.int 0 0] },g,d,tk,os⟩) u ys:=hu.elim fun o y=>⟨o,Heap.get?_push_of_some _ y.1,y.2⟩
  wp_walk using wpAny_pyIter_tuple a1,wpAny_pyIter_tuple a2
  have e:∀ (o:Obj) (k:Heap),(k.push o).objs.size=k.objs.size+1:=fun o k=>Heap.size_push ..
  refine⟨_,rfl,?_⟩
  simp only [tup5,e] at h ⊢
  exact h
section
variable {prog : Program} {w : World} {A : Around} {E : Value → Shared → Prop} {s : Shared}
theorem call_tt {t u:Addr}{xs ys:Array Value}{Q:Value->Shared->Prop} (ht:s.heap.IsTuple t xs) (hu:s.heap.IsTuple u ys)
  (q:∀ h',IsZip h' (s.heap.objs.size+4) (s.heap.objs.size+2) (s.heap.objs.size+3) .none->IsPair h' (s.heap.objs.size+2) (.ref s.heap.objs.size) (.ref (s.heap.objs.size+1))->
   IsPair h' (s.heap.objs.size+3) .none .none->h'.IsTupleIter s.heap.objs.size t 0->h'.IsTupleIter (s.heap.objs.size+1) u 0->(∀ c o,s.heap.get? c=some o->h'.get? c=some o)->Q (.ref (s.heap.objs.size+4)) { s with heap:=h' }) :
  wpAny (model prog w) A (call (.type "zip") [.ref t,.ref u]) Q E s:=by
 refine callType_new PySem.F.called_zip (by decide) (PySem.F.typeCall_zip_2 _ _) (PySem.F.newCall_zip_2 _ _) (fun obj=>PySem.F.args_object_init_3 obj _ _) PySem.F.entry_zip_new (meets_tt t u xs ys) ⟨ht,hu,?_⟩
 have e:∀ (o:Obj) (k:Heap),(k.push o).objs.size=k.objs.size+1:=fun o k=>Heap.size_push ..
 have p0:∀ (k:Heap) (o:Obj) (m:Nat),o.isFreed=false->m=k.objs.size->(k.push o).get? m=some o:=fun k o m f z=>by rw [z]; exact Heap.get?_push_size _ f
 have g0:(tup5 s.heap t u).get? s.heap.objs.size=some { cls:=.type "tuple_iterator",data:=.fields #[.ref t,.int 0 0] }:=by
  unfold tup5
  exact Heap.get?_push_of_some _ (Heap.get?_push_of_some _ (Heap.get?_push_of_some _ (Heap.get?_push_of_some _ (p0 _ _ _ rfl rfl))))
 have g1:(tup5 s.heap t u).get? (s.heap.objs.size+1)=some { cls:=.type "tuple_iterator",data:=.fields #[.ref u,.int 0 0] }:=by
  unfold tup5
  exact Heap.get?_push_of_some _ (Heap.get?_push_of_some _ (Heap.get?_push_of_some _ (p0 _ _ _ rfl (by simp only [e]))))
 have g2:(tup5 s.heap t u).get? (s.heap.objs.size+2)=some { cls:=.type "tuple",data:=.seq #[.ref s.heap.objs.size,.ref (s.heap.objs.size+1)] }:=by
  unfold tup5
  exact Heap.get?_push_of_some _ (Heap.get?_push_of_some _ (p0 _ _ _ rfl (by simp only [e])))
 have g3:(tup5 s.heap t u).get? (s.heap.objs.size+3)=some { cls:=.type "tuple",data:=.seq #[.none,.none] }:=by
  unfold tup5
  exact Heap.get?_push_of_some _ (p0 _ _ _ rfl (by simp only [e]))
 have g4:(tup5 s.heap t u).get? (s.heap.objs.size+4)=some { cls:=.type "zip",data:=.fields #[.none,.bool false,.bool false,.ref (s.heap.objs.size+2),.ref (s.heap.objs.size+3)] }:=by
  unfold tup5
  exact p0 _ _ _ rfl (by simp only [e])
 refine⟨⟨_,g4,rfl⟩,q _ g4 g2 g3 ⟨_,g0,rfl,rfl⟩ ⟨_,g1,rfl,rfl⟩ fun c o z=>?_⟩
 unfold tup5
 exact Heap.get?_push_of_some _ (Heap.get?_push_of_some _ (Heap.get?_push_of_some _ (Heap.get?_push_of_some _ (Heap.get?_push_of_some _ z))))
end
end Zp
namespace L2
open PySem PySem.Spec PyProof.Rows
noncomputable def Itz (K:PySem.W.Frag) (a b:Addr):It:=
  ⟨fun i H=>∃ xs ys x y,SqT K H a xs/\SqT K H b ys/\xs[i]? = some x/\ys[i]? = some y,
   fun i H v H'=>∃ T x y,H T=none/\v = .ref T/\H'=upd H T (.tup [x,y])/\∀ xs ys,SqT K H a xs->SqT K H b ys->xs[i]? = some x/\ys[i]? = some y,
   fun i H=>∃ xs ys,SqT K H a xs/\SqT K H b ys/\(i=xs.length ∨ (i < xs.length/\i=ys.length))⟩
noncomputable def Sq (t:Bool) (K:PySem.W.Frag) (H:Hp) (a:Addr) (xs:List V):Prop:=match t with
 | true=>SqT K H a xs
 | false=>SqL K H a xs
noncomputable def SIt (t:Bool) (h:Heap) (i a:Addr) (n:Nat):Prop:=match t with
 | true=>h.IsTupleIter i a n
 | false=>h.IsListIter i a n
noncomputable def SIs (t:Bool) (h:Heap) (a:Addr) (xs:Array Value):Prop:=match t with
 | true=>h.IsTuple a xs
 | false=>h.IsList a xs
theorem SIt.at {h h':Heap}{i a:Addr}{n:Nat}:∀ {t:Bool},SIt t h i a n->(∀ o,h.get? i=some o->h'.get? i=some o)->SIt t h' i a n
 | true,x,k=>Heap.IsTupleIter.at x k
 | false,x,k=>Heap.IsListIter.at x k
theorem SIt.ob {h:Heap}{i a:Addr}{n:Nat}:∀ {t:Bool},SIt t h i a n->∃ o,h.get? i=some o/\∀ v,o.data ≠ .cell v
 | true,⟨o,f,_,d⟩=>⟨o,f,fun v q=>by rw [d] at q; cases q⟩
 | false,⟨o,f,_,d⟩=>⟨o,f,fun v q=>by rw [d] at q; cases q⟩
theorem SIt.draws {prog:Program}{w:World}{A:Around}:∀ (t:Bool) (hh:A.handled=none) (it a:Addr) (ne:a ≠ it) (items:Array Value),Draws prog w A it [it,a] items.size (fun i v=>items[i]? = some v) (fun i h=>SIt t h it a i/\SIs t h a items)
 | true,hh,it,a,ne,items=>Zp.draws_tuple hh it a ne items
 | false,hh,it,a,ne,items=>Draws.list hh it a ne items
section
variable {X : Cx} {pins : List (Addr × Obj)} {σ : St} {H : Hp} {s : Shared} {a : Addr} {xs ys : List V}
theorem Sq.get (I:Inv X pins σ H s):∀ {t:Bool},Sq t X.K H a xs->∃ us,Vals xs us/\SIs t s.heap a us.toArray
 | true,h=>by obtain ⟨us,r,p,_⟩:=I.tuple h; exact⟨us,r,p⟩
 | false,h=>by obtain ⟨us,r,p,_⟩:=I.list h; exact⟨us,r,p.isList⟩
theorem Sq.inj (I:Inv X pins σ H s):∀ {t:Bool},Sq t X.K H a xs->Sq t X.K H a ys->xs=ys
 | true,h,g=>I.tuple_inj h g
 | false,h,g=>I.list_inj h g
theorem Sq.off (I:Inv X pins σ H s) (he:H a=none) (hb:X.base.get? a=none):∀ {t:Bool},Sq t X.K H a xs->False
 | true,h=>by
  rcases h with (h | ⟨_,h⟩) | ⟨o,_,_,h,_⟩
  ·rw [he] at h; cases h
  ·rw [he] at h; cases h
  ·have:=I.ok.mod.kin a o h
   rw [hb] at this; cases this
 | false,h=>by
  rcases h with (h | ⟨_,h⟩) | ⟨o,_,_,h,_⟩
  ·rw [he] at h; cases h
  ·rw [he] at h; cases h
  ·have:=I.ok.mod.kin a o h
   rw [hb] at this; cases this
end
noncomputable def ItzG (t1 t2:Bool) (K:PySem.W.Frag) (a b:Addr):It:=
  ⟨fun i H=>∃ xs ys x y,Sq t1 K H a xs/\Sq t2 K H b ys/\xs[i]? = some x/\ys[i]? = some y,
   fun i H v H'=>∃ T x y,H T=none/\v = .ref T/\H'=upd H T (.tup [x,y])/\∀ xs ys,Sq t1 K H a xs->Sq t2 K H b ys->xs[i]? = some x/\ys[i]? = some y,
   fun i H=>∃ xs ys,Sq t1 K H a xs/\Sq t2 K H b ys/\(i=xs.length ∨ (i < xs.length/\i=ys.length))⟩
structure ZNowG (t1 t2:Bool) (z TI TO i1 i2 a b:Addr) (i:Nat) (h:Heap):Prop where
 zz:IsZip h z TI TO .none
 ti:IsPair h TI (.ref i1) (.ref i2)
 to_:∃ x y,IsPair h TO x y
 s1:SIt t1 h i1 a i
 s2:SIt t2 h i2 b i
theorem turn_zipG (t1 t2:Bool) {P:Program}{w:World}{K:PySem.W.Frag}{elts:List Expr}{k:Nat}{pos:Pos} (a b z TI TO i1 i2:Addr) (d : [z,TI,TO,i1,i2].Nodup) :
  Turn P w K (.Tuple elts k pos) (ItzG t1 t2 K a b) [z,TI,TO,i1,i2] z (ZNowG t1 t2 z TI TO i1 i2 a b):=by
 have nd:z ≠ TI/\z ≠ TO/\z ≠ i1/\z ≠ i2/\TI ≠ TO/\TI ≠ i1/\TI ≠ i2/\TO ≠ i1/\TO ≠ i2/\i1 ≠ i2:=by
  simp only [List.nodup_cons,List.mem_cons,List.not_mem_nil,or_false,not_or] at d
  obtain ⟨⟨a1,a2,a3,a4⟩,⟨b1,b2,b3⟩,⟨c1,c2⟩,e1,_⟩:=d
  exact⟨a1,a2,a3,a4,b1,b2,b3,c1,c2,e1⟩
 obtain ⟨n1,n2,n3,n4,n5,n6,n7,n8,n9,n10⟩:=nd
 have offBase:∀ {X:Cx}{pins:List (Addr × Obj)}{σ:St}{H:Hp}{s:Shared},Inv X pins σ H s->(∀ c ∈ [z,TI,TO,i1,i2],FpOk X pins H c)->∀ c ∈ [z,TI,TO,i1,i2],X.base.get? c=none:=by
  intro X pins σ H s I hf c hc
  cases q:X.base.get? c with
  | none=>rfl
  | some o=>
   rcases (hf c hc).2.2.2.1 with h | h
   ·exact absurd h (I.ok.noex c o q)
   ·exact absurd (Nat.lt_of_lt_of_le (Heap.lt_size q) (Nat.le_trans I.ok.bsz h)) (Nat.lt_irrefl _)
 have off:∀ {t:Bool}{X:Cx}{pins:List (Addr × Obj)}{σ:St}{H:Hp}{s:Shared}{c:Addr}{zs:List V},Inv X pins σ H s->(∀ c ∈ [z,TI,TO,i1,i2],FpOk X pins H c)->Sq t X.K H c zs->c ∉ [z,TI,TO,i1,i2]:=by
  intro t X pins σ H s c zs I hf hc hm
  exact Sq.off I (hf c hm).1 (offBase I hf c hm) hc
 have ap:∀ {c e:Addr},c ∉ [z,TI,TO,i1,i2]->e ∉ [z,TI,TO,i1,i2]->Zp.Ap z TI TO i1 i2 [i1,c] [i2,e]:=fun {c e} hc he=>by
  simp only [List.mem_cons,List.not_mem_nil,or_false,not_or] at hc he
  obtain ⟨c1,c2,c3,c4,c5⟩:=hc
  obtain ⟨e1,e2,e3,e4,e5⟩:=he
  have two:∀ {q u v:Addr},q ≠ u->q ≠ v->q ∉ [u,v]:=fun {q u v} h1 h2 hm=>by
   simp only [List.mem_cons,List.not_mem_nil,or_false] at hm
   exact hm.elim h1 h2
  exact⟨n1.symm,n2.symm,n5,two n3 (Ne.symm c1),two n4 (Ne.symm e1),two n8 (Ne.symm c3),two n9 (Ne.symm e3),two n6 (Ne.symm c2),two n7 (Ne.symm e2),List.mem_cons_self,List.mem_cons_self,two n10 (Ne.symm e4),two n10.symm (Ne.symm c5)⟩
 refine⟨by simp,fun i h st c hc=>?_,fun i h h' st kp=>?_,?_,?_,fun A i s Q E st q=>wpAny_pyIter_zip st.zz q⟩
 ·simp only [List.mem_cons,List.not_mem_nil,or_false] at hc
  obtain ⟨x,y,to⟩:=st.to_
  rcases hc with rfl | rfl | rfl | rfl | rfl
  ·exact⟨_,st.zz,fun v q=>by cases q⟩
  ·exact⟨_,st.ti,fun v q=>by cases q⟩
  ·exact⟨_,to,fun v q=>by cases q⟩
  ·exact st.s1.ob
  ·exact st.s2.ob
 ·obtain ⟨x,y,to⟩:=st.to_
  exact⟨kp z (by simp) _ st.zz,kp TI (by simp) _ st.ti,⟨x,y,kp TO (by simp) _ to⟩,st.s1.at fun o e=>kp i1 (by simp) o e,st.s2.at fun o e=>kp i2 (by simp) o e⟩
 ·
  intro X hP hw hK hc i pins s σ H E I hf st hg
  subst hP hw hK
  obtain ⟨xs,ys,x,y,ha,hb,hx,hy⟩:=hg
  obtain ⟨us,ru,pu⟩:=Sq.get I ha
  obtain ⟨vs,rv,pv'⟩:=Sq.get I hb
  obtain ⟨ux,eux,rux⟩:=ru.get hx
  obtain ⟨vy,evy,rvy⟩:=rv.get hy
  have fa:=off I hf ha
  have fb:=off I hf hb
  have hh:X.A.in1.handled=none:=I.ok.hd hc
  have l1:i < us.toArray.size:=by simpa using (List.getElem?_eq_some_iff.mp eux).1
  have l2:i < vs.toArray.size:=by simpa using (List.getElem?_eq_some_iff.mp evy).1
  have fa':a ≠ i1:=fun q=>fa (by rw [q]; simp)
  have fb':b ≠ i2:=fun q=>fb (by rw [q]; simp)
  have D1:=SIt.draws t1 (prog:=X.prog) (w:=X.w) hh i1 a fa' us.toArray
  have D2:=SIt.draws t2 (prog:=X.prog) (w:=X.w) hh i2 b fb' vs.toArray
  refine Zp.item D1 D2 (ap fa fb) l1 l2 ⟨st.zz,st.ti,st.to_,⟨st.s1,pu⟩,⟨st.s2,pv'⟩⟩ fun p q h' tk hp hq st' pr kp sz=>⟨_,rfl,?_⟩
  obtain rfl:p=ux:=by
   have:us.toArray[i]? = some ux:=by simpa using eux
   rw [this] at hp; exact (Option.some.inj hp).symm
  obtain rfl:q=vy:=by
   have:vs.toArray[i]? = some vy:=by simpa using evy
   rw [this] at hq; exact (Option.some.inj hq).symm
  refine wpAny_letOwnedTupleGo_zip (s:={ s with heap:=h',toks:=tk }) st'.zz fun g zz sb=>?_
  have hzl:z < s.heap.objs.size:=Heap.lt_size st.zz
  have up:∀ c o,c ≠ z->c ≠ TO->c ≠ i1->c ≠ i2->s.heap.get? c=some o->g.get? c=some o:=fun c o c1 c2 c3 c4 e=>sb.extBut c o c1 (kp c o c1 c2 c3 c4 e)
  have hT:H s.heap.objs.size=none:=I.hok.fresh (Nat.le_refl _)
  have prG:IsPair g s.heap.objs.size p q:=sb.extBut _ _ (Nat.ne_of_gt hzl) pr
  have fpn:∀ c u,H c=some u->c ∉ [z,TI,TO,i1,i2]:=fun c u e hm=>by rw [(hf c hm).1] at e; cases e
  have upH:∀ c o u,H c=some u->s.heap.get? c=some o->g.get? c=some o:=fun c o u e z=>by
   have:=fpn c u e
   simp only [List.mem_cons,List.not_mem_nil,or_false,not_or] at this
   exact up c o this.1 this.2.2.1 this.2.2.2.1 this.2.2.2.2 z
  have ns:∀ m,s.heap.Ns X.env.locals m->g.Ns X.env.locals m:=fun m hm=>by
   obtain ⟨o,es,ep,e1,e2⟩:=hm
   exact⟨o,es,ep,up _ o (Ne.symm (hf z (by simp)).2.1) (Ne.symm (hf TO (by simp)).2.1) (Ne.symm (hf i1 (by simp)).2.1) (Ne.symm (hf i2 (by simp)).2.1) e1,e2⟩
  have I2:Inv X pins σ (upd H s.heap.objs.size (.tup [x,y])) { s with heap:=g,toks:=tk }:=by
   refine I.step (g':=s.gens) (d':=s.drawn) (ch:=[z,TO,i1,i2]) (fun c hc'=>?_) (fun c o _ _ hc' e _=>?_) (fun c o _ _ hc' e _=>⟨o.slots,?_⟩) (fun c o _ e n=>?_) (fun c o hc' e=>⟨o,?_⟩)
    (fun c zs e=>by rw [upd_ne (ne_of_none e hT)]; exact e) (fun c u zs e=>by rw [upd_ne (ne_of_none e hT)]; exact e) (fun c ps e=>⟨#[],by rw [upd_ne (ne_of_none e hT),e]; simp⟩) ns (fun c u e=>?_) I.bare
   ·have hm:c ∈ [z,TI,TO,i1,i2]:=by
     simp only [List.mem_cons,List.not_mem_nil,or_false] at hc' ⊢
     rcases hc' with h | h | h | h <;> simp [h]
    exact⟨(hf c hm).2.2.2.1,(hf c hm).2.1,(hf c hm).2.2.2.2.1,(hf c hm).2.2.2.2.2⟩
   ·simp only [List.mem_cons,List.not_mem_nil,or_false,not_or] at hc'
    exact up c o hc'.1 hc'.2.1 hc'.2.2.1 hc'.2.2.2 e
   ·simp only [List.mem_cons,List.not_mem_nil,or_false,not_or] at hc'
    exact up c o hc'.1 hc'.2.1 hc'.2.2.1 hc'.2.2.2 e
   ·rw [upd_ne (Nat.ne_of_lt (Heap.lt_size e))]; exact n
   ·simp only [List.mem_cons,List.not_mem_nil,or_false,not_or] at hc'
    exact up c o hc'.1 hc'.2.1 hc'.2.2.1 hc'.2.2.2 e
   ·by_cases hcT:c=s.heap.objs.size
    ·subst hcT
     rw [upd_same] at e; cases e
     exact⟨by show 2<=sizeLine; decide,[p,q],.cons rux (.cons rvy .nil),⟨_,prG,rfl,_,rfl⟩⟩
    ·rw [upd_ne hcT] at e
     refine (I.hok c u e).stay (fun c' o' hc2 q'=>?_) (fun c' q'=>by rw [upd_ne (ne_of_none q' hT)]; exact q') fun c' zs q'=>by rw [upd_ne (ne_of_none q' hT)]; exact q'
     rcases hc2 with rfl | hc2
     ·exact upH _ _ _ e q'
     ·exact upH _ _ _ hc2 q'
  obtain ⟨x',y',to'⟩:=st'.to_
  refine⟨.ref s.heap.objs.size,_,I2,rfl,⟨_,x,y,hT,rfl,rfl,fun xs' ys' ha' hb'=>?_⟩,⟨zz,sb.extBut _ _ n1.symm st'.ti,⟨x',y',sb.extBut _ _ n2.symm to'⟩,st'.s1.1.at fun o e=>sb.extBut _ o n3.symm e,st'.s2.1.at fun o e=>sb.extBut _ o n4.symm e⟩,fun c hc'=>?_⟩
  ·rw [Sq.inj I ha' ha,Sq.inj I hb' hb]; exact⟨hx,hy⟩
  ·obtain ⟨o,e,_⟩:∃ o,s.heap.get? c=some o/\True:=by
    simp only [List.mem_cons,List.not_mem_nil,or_false] at hc'
    obtain ⟨x2,y2,to2⟩:=st.to_
    obtain ⟨o1,f1,_⟩:=st.s1.ob
    obtain ⟨o2,f2,_⟩:=st.s2.ob
    rcases hc' with rfl | rfl | rfl | rfl | rfl
    ·exact⟨_,st.zz,trivial⟩
    ·exact⟨_,st.ti,trivial⟩
    ·exact⟨_,to2,trivial⟩
    ·exact⟨_,f1,trivial⟩
    ·exact⟨_,f2,trivial⟩
   rw [upd_ne (Nat.ne_of_lt (Heap.lt_size e))]; exact (hf c hc').1
 ·
  intro X hP hw hK hc i pins s σ H E I hf st hg
  subst hP hw hK
  obtain ⟨xs,ys,ha,hb,hi⟩:=hg
  obtain ⟨us,ru,pu⟩:=Sq.get I ha
  obtain ⟨vs,rv,pv'⟩:=Sq.get I hb
  have fa:=off I hf ha
  have fb:=off I hf hb
  have hh:X.A.in1.handled=none:=I.ok.hd hc
  have fa':a ≠ i1:=fun q=>fa (by rw [q]; simp)
  have fb':b ≠ i2:=fun q=>fb (by rw [q]; simp)
  have D1:=SIt.draws t1 (prog:=X.prog) (w:=X.w) hh i1 a fa' us.toArray
  have D2:=SIt.draws t2 (prog:=X.prog) (w:=X.w) hh i2 b fb' vs.toArray
  have e1:=ru.length
  have e2:=rv.length
  refine Zp.fin D1 D2 (ap fa fb) (by simp only [List.size_toArray]; (first|lia|omega)) ⟨st.zz,st.ti,st.to_,⟨st.s1,pu⟩,⟨st.s2,pv'⟩⟩ fun g tk kp=>⟨rfl,?_⟩
  have fpn:∀ c u,H c=some u->c ∉ [z,TI,TO,i1,i2]:=fun c u e hm=>by rw [(hf c hm).1] at e; cases e
  have upH:∀ c o u,H c=some u->s.heap.get? c=some o->g.get? c=some o:=fun c o u e z=>by
   have:=fpn c u e
   simp only [List.mem_cons,List.not_mem_nil,or_false,not_or] at this
   exact kp c o this.1 this.2.2.1 this.2.2.2.1 this.2.2.2.2 z
  have ns:∀ m,s.heap.Ns X.env.locals m->g.Ns X.env.locals m:=fun m hm=>by
   obtain ⟨o,es,ep,e1,e2⟩:=hm
   exact⟨o,es,ep,kp _ o (Ne.symm (hf z (by simp)).2.1) (Ne.symm (hf TO (by simp)).2.1) (Ne.symm (hf i1 (by simp)).2.1) (Ne.symm (hf i2 (by simp)).2.1) e1,e2⟩
  refine I.step (g':=s.gens) (d':=s.drawn) (ch:=[z,TO,i1,i2]) (fun c hc'=>?_) (fun c o _ _ hc' e _=>?_) (fun c o _ _ hc' e _=>⟨o.slots,?_⟩) (fun c o _ e n=>n) (fun c o hc' e=>⟨o,?_⟩)
   (fun c zs e=>e) (fun c u zs e=>e) (fun c ps e=>⟨#[],by rw [e]; simp⟩) ns (fun c u e=>?_) I.bare
  ·have hm:c ∈ [z,TI,TO,i1,i2]:=by
    simp only [List.mem_cons,List.not_mem_nil,or_false] at hc' ⊢
    rcases hc' with h | h | h | h <;> simp [h]
   exact⟨(hf c hm).2.2.2.1,(hf c hm).2.1,(hf c hm).2.2.2.2.1,(hf c hm).2.2.2.2.2⟩
  ·simp only [List.mem_cons,List.not_mem_nil,or_false,not_or] at hc'
   exact kp c o hc'.1 hc'.2.1 hc'.2.2.1 hc'.2.2.2 e
  ·simp only [List.mem_cons,List.not_mem_nil,or_false,not_or] at hc'
   exact kp c o hc'.1 hc'.2.1 hc'.2.2.1 hc'.2.2.2 e
  ·simp only [List.mem_cons,List.not_mem_nil,or_false,not_or] at hc'
   exact kp c o hc'.1 hc'.2.1 hc'.2.2.1 hc'.2.2.2 e
  ·refine (I.hok c u e).stay (fun c' o' hc2 q'=>?_) (fun _ q'=>q') fun _ _ q'=>q'
   rcases hc2 with rfl | hc2
   ·exact upH _ _ _ e q'
   ·exact upH _ _ _ hc2 q'
noncomputable abbrev ZNow:=ZNowG true true
theorem turn_zip {P:Program}{w:World}{K:PySem.W.Frag}{elts:List Expr}{k:Nat}{pos:Pos} (a b z TI TO i1 i2:Addr) (d : [z,TI,TO,i1,i2].Nodup) :
  Turn P w K (.Tuple elts k pos) (Itz K a b) [z,TI,TO,i1,i2] z (ZNow z TI TO i1 i2 a b):=turn_zipG true true a b z TI TO i1 i2 d
end L2
namespace L2
open PySem PySem.Spec PyProof.Rows
section
variable {X : Cx}
noncomputable def iZip (K:PySem.W.Frag) (ta:TA):TI:=fun σ H R=>ta σ H fun vs H1=>∃ a b xs ys,vs = [.ref a,.ref b]/\SqT K H1 a xs/\SqT K H1 b ys/\R (Itz K a b) H1
theorem pi_zip {elts:List Expr}{kt:Nat}{pt:Pos}{a b:Expr}{ta:TA}{p pos:Pos} (hg:Gl X "zip") (hm:X.mg "zip" = none) (ha:PA X [a,b] ta) (hs:starEach [a,b] X.env = [(false,eval a X.env),(false,eval b X.env)]:=by rfl) (hs2:starEach [b] X.env = [(false,eval b X.env)]:=by rfl) :
  PI X (.Tuple elts kt pt) (.Call (.Name "zip" p) [a,b] [] pos) (iZip X.K ta):=by
 intro pins s σ H R I h
 refine Call_ (ld_blt I hg hm PyProof.Rows.boot_zip (PyProof.Rows.callWith_type1 (thn (ha pos pins s σ H _ I h) fun us s1 ⟨vs,H1,I1,r1,q1⟩=>?_) (by rw [hs,hs2]) (by rw [hs2]; rfl)))
 obtain ⟨a',b',xs,ys,e,h1,h2,q⟩:=q1
 subst e
 cases r1 with
 | cons r rr=>
  cases rr with
  | cons r' rr=>
   cases rr
   cases r
   cases r'
   obtain ⟨us,_,p1,_⟩:=I1.tuple h1
   obtain ⟨ws,_,p2,_⟩:=I1.tuple h2
   refine Zp.call_tt p1 p2 fun h' z ti to s1' s2' kp=>wpAny_pyIter_zip z ?_
   have fresh:∀ k,H1 (s1.heap.objs.size+k)=none:=fun k=>I1.hok.fresh (Nat.le_add_right _ _)
   refine⟨s1.heap.objs.size+4,[s1.heap.objs.size+4,s1.heap.objs.size+2,s1.heap.objs.size+3,s1.heap.objs.size,s1.heap.objs.size+1],_,_,H1,rfl,I1.kept (t':=s1.toks) kp,
    turn_zip a' b' _ _ _ _ _ (by simp),⟨z,ti,⟨_,_,to⟩,s1',s2'⟩,fun c hc=>?_,q⟩
   simp only [List.mem_cons,List.not_mem_nil,or_false] at hc
   rcases hc with rfl | rfl | rfl | rfl | rfl
   ·exact I1.fpOk (Nat.le_add_right _ _) (fresh 4)
   ·exact I1.fpOk (Nat.le_add_right _ _) (fresh 2)
   ·exact I1.fpOk (Nat.le_add_right _ _) (fresh 3)
   ·exact I1.fpOk (Nat.le_refl _) (fresh 0)
   ·exact I1.fpOk (Nat.le_add_right _ _) (fresh 1)
theorem call_allB (hc:X.calm=true):CallR X (.builtin "all") (fun xs H Q=>∃ (a:Addr) (bs:List Bool),xs = [.ref a]/\SqL X.K H a (bs.map V.bl)/\Q (.bl (bs.all id)) H):=by
 intro pins s σ H xs us Q I r h
 obtain ⟨a,bs,rfl,hq,q⟩:=h
 obtain ⟨u,rfl,ru⟩:=vals1 r
 cases ru
 obtain ⟨its,rv,p,hz⟩:=I.list hq
 have hl:=rv.length
 rw [List.length_map] at hl
 have hlt:a < s.heap.objs.size:=by obtain ⟨o,e,_⟩:=p.isList; exact Heap.lt_size e
 refine call_all_walk (wpAny_pyIter_list p.isList ?_)
 have hh:X.A.in1.handled=none:=I.ok.hd hc
 refine⟨s.heap.objs.size,_,_,_,_,_,fun i=>bs.getD i false,rfl,Walks.list hh s.heap.objs.size a (Nat.ne_of_lt hlt) its.toArray,⟨⟨_,Heap.get?_push_size _ rfl,rfl,rfl⟩,p.isList.push _⟩,?_,fun h' tk kp=>?_⟩
 ·intro i v s' Q' E' hP hQ'
  have hi:its[i]? = some v:=by simpa using hP
  have hil:i < bs.length:=by rw [hl]; exact (List.getElem?_eq_some_iff.mp hi).1
  obtain ⟨u,e1,e2⟩:=rv.get (i:=i) (x:=.bl bs[i]) (by simp [hil])
  rw [hi] at e1; cases e1
  cases e2
  have:bs.getD i false=bs[i]:=by rw [List.getD_eq_getElem?_getD,List.getElem?_eq_getElem hil]; rfl
  have hQ2:Q' (bs.getD i false) s':=hQ'
  rw [this] at hQ2
  exact wpAny_truthy_bool hQ2
 ·have all_eq:(List.range its.toArray.size).all (fun i=>bs.getD i false)=bs.all id:=by
   rw [List.size_toArray,<- hl]
   clear q rv hz hl hq hlt p hh kp
   induction bs with
   | nil=>rfl
   | cons b r ih=>
    rw [List.length_cons,List.range_succ_eq_map,List.all_cons,List.all_map,List.all_cons,<- ih]
    rfl
  rw [all_eq]
  refine⟨.bl (bs.all id),H,I.kept (t':=tk) (h':=h') fun b o e=>kp b o (fun z=>?_) (Heap.get?_push_of_some _ e),rfl,q⟩
  rw [List.mem_singleton.mp z] at e
  exact absurd (Heap.lt_size e) (Nat.lt_irrefl _)
end
structure OverR (H:Hp) (J:It) (n:Nat) (R:Nat->V->Hp->Prop):Prop where
 go:∀ i H',Same H H'->i < n->J.go i H'
 yld:∀ i H' x H2,Same H H'->J.yld i H' x H2->i < n->Same H' H2/\R i x H2
 stop:∀ H',Same H H'->J.stop n H'
theorem comp_byR {H1:Hp}{J:It}{n:Nat}{R:Nat->V->Hp->Prop}{g:TG}{tc:TT}{te:TE}{σ0:St}{Q:VK} (O:OverR H1 J n R) (Pv:Nat->List V->Hp->Prop) (hn:n<=sizeLine)
  (h0:∀ D,H1 D=none->Pv 0 [] (upd H1 D (.lst [])))
  (mono:∀ i acc H' H2,Same H' H2->Pv i acc H'->Pv i acc H2)
  (hs:∀ i x acc D H',i < n->R i x H'->CAt H1 D n i acc H'->Pv i acc H'->g x σ0 H' fun σ2 H3=>Wk σ0 σ2/\tc σ2 H3 fun b H4=>
   if b=true then te σ2 H4 fun v H5=>CYes H1 D n Pv i acc v H5 else CNo H1 D n Pv i acc H4)
  (hd:∀ D acc H',H1 D=none->Same H1 H'->H' D=some (.lst acc)->acc.length<=n->Pv n acc H'->Q (.ref D) H') :
  ∀ D,H1 D=none->∃ W:Nat->Nat->List V->Hp->Prop,(∃ m,W 0 m [] (upd H1 D (.lst [])))/\tTurns g tc te σ0 J D Q W:=by
 intro D hD
 refine⟨CW H1 D n Pv,⟨n,rfl,Nat.zero_le _,Nat.le_refl _,same_new hD _,upd_same,h0 D hD⟩,?_⟩
 rintro i m acc H' ⟨rfl,hi,ha,sm,hDa,p⟩
 refine⟨hDa,?_⟩
 by_cases hlt:i < n
 ·refine .inr ⟨O.go i H' sm hlt,fun x H2 y=>?_⟩
  obtain ⟨s2,r2⟩:=O.yld i H' x H2 sm y hlt
  exact hs i x acc D H2 hlt r2 ⟨hlt,ha,hn,sm.trans s2,hD,s2 _ _ hDa⟩ (mono i acc H' H2 s2 p)
 ·have e:i=n:=by (first|lia|omega)
  subst e
  exact .inl ⟨O.stop H' sm,hd D acc H' hD sm hDa ha p⟩
theorem over_zip {K:PySem.W.Frag}{H:Hp}{a b:Addr}{xs ys:List V} (ha:SqT K H a xs) (hb:SqT K H b ys) (hl:ys.length<=xs.length) :
  OverR H (Itz K a b) ys.length (fun i v H2=>∃ T x y,v = .ref T/\H2 T=some (.tup [x,y])/\xs[i]? = some x/\ys[i]? = some y):=by
 refine⟨fun i H' sm hi=>⟨xs,ys,xs[i]'(by (first|lia|omega)),ys[i],sm.tup ha,sm.tup hb,by simp,by simp⟩,fun i H' v H2 sm y hi=>?_,fun H' sm=>⟨xs,ys,sm.tup ha,sm.tup hb,by (first|lia|omega)⟩⟩
 obtain ⟨T,x,y',hT,hv,e,hxy⟩:=y
 subst e
 obtain ⟨h1,h2⟩:=hxy xs ys (sm.tup ha) (sm.tup hb)
 exact⟨same_new hT _,T,x,y',hv,upd_same,h1,h2⟩
end L2
namespace HT
open PySem PyProof.Rows
section
variable {prog : Program} {w : World} {A : Around} {E : Value → Shared → Prop} {s : Shared}
theorem getItem_tuple_all {t sl:Addr}{items:Array Value}{vl vu:Value}{lo hi:Option Int}{Q:Value->Shared->Prop} (ht:IsTup s.heap t items) (hs:s.heap.IsSliceOf sl vl vu .none) (pl:IsPart vl lo) (pu:IsPart vu hi)
  (h1:sIx items.size 0 lo=0) (h2:sIx items.size items.size hi=items.size) (h:Q (.ref t) s):wpAny (model prog w) A (getItem (.ref t) (.ref sl)) Q E s:=by
 obtain ⟨o,e1,e2,e3⟩:=id hs
 have T:s.TypeIs (.ref sl) "slice":=⟨o,e1,e2⟩
 unfold getItem
 try with_reducible refine wpAny_holding ?_
 first | refine wpAny_bind (wpAny_pure ?_) | skip
 apply wpAny_bind
 apply wpAny_sequenceKey ht.typeIs (by decide)
 apply wpAny_bind
 apply wpAny_callSpecial?_slot (name:=Str.ofString "__getitem__") ht.typeIs PyProof.Rows.slot_tuple_getitem
 apply wpAny_call_entry PyProof.Rows.slot_tuple_getitem ht.typeIs entry_tuple_getitem _ (args_tuple_getitem _ _)
 change wpAny _ _ (Builtin.Tuple.tupleItemsOf (.ref t) >>= _) _ _ s
 apply wpAny_bind
 apply tupleItemsOf_ ht
 apply wpAny_bind
 apply wpAny_typeOf T
 rw [if_pos (by decide)]
 apply wpAny_bind
 apply sliceApplied_gen hs pl pu
 rw [h1,h2]
 have yes:((((0:Nat):Int) == 0 && (1:Int) == 1 && (items.size - 0) == items.size)=true):=by simp
 change wpAny _ _ (if ((((0:Nat):Int) == 0 && (1:Int) == 1 && (items.size - 0) == items.size)=true) then _ else _) _ _ s
 rw [if_pos yes]
 apply wpAny_bind
 unfold Builtin.Tuple.tupleIsExact
 apply wpAny_bind
 apply wpAny_typeOf ht.typeIs
 apply wpAny_pure
 change wpAny _ _ (rule "tuple.getitem.whole" >>= fun _=>ret (Value.ref t)) _ _ s
 apply wpAny_bind
 apply wpAny_rule
 exact wpAny_pure ⟨_,rfl,wpAny_pure h⟩
end
end HT
namespace L2
open PySem PySem.Spec PyProof.Rows
section
variable {X : Cx}
noncomputable def rSlA (K:PySem.W.Frag):V->Option Int->Option Int->Hp->VK->Prop:=fun x lo hi H Q=>∃ a xs,x = .ref a/\SqT K H a xs/\(∀ p,H p=none->Q (.ref p) (upd H p (.tup (cutV xs lo hi))))/\(cutV xs lo hi=xs->Q (.ref a) H)
theorem sl_tupA:SlR X (rSlA X.K):=by
 intro pins s σ H x v vl vu lo hi sl Q I rx hs pl pu h
 obtain ⟨a,xs,ex,hx,q1,q2⟩:=h
 by_cases hw:HT.sIx xs.length 0 lo=0/\HT.sIx xs.length xs.length hi=xs.length
 ·subst ex
  cases rx
  obtain ⟨its,r,ht,hz⟩:=I.tuple hx
  have hlen:its.toArray.size=xs.length:=by rw [List.size_toArray]; exact r.length.symm
  refine⟨"tuple",_,PyProof.Rows.slot_tuple_getitem.lookup,ht.typeIs,?_⟩
  refine HT.getItem_tuple_all ht hs pl pu (by rw [hlen]; exact hw.1) (by rw [hlen]; exact hw.2) ⟨.ref a,H,I,rfl,q2 ?_⟩
  unfold cutV
  rw [hw.1,hw.2]
  simp
 ·exact sl_tup pins s σ H x v vl vu lo hi sl Q I rx hs pl pu ⟨a,xs,ex,hx,hw,q1⟩
end
theorem cut1 (xs:List V):cutV xs (some 1) none=xs.drop 1:=by
 unfold cutV
 have e1:HT.sIx xs.length 0 (some 1)=min 1 xs.length:=HT.sIx_nat xs.length 0 1
 have e2:HT.sIx xs.length xs.length none=xs.length:=rfl
 rw [e1,e2]
 cases xs with
 | nil=>rfl
 | cons x r=>
  have:min 1 (x :: r).length=1:=by simp
  rw [this]
  simp
end L2
namespace L2
open PySem PySem.Spec PyProof.Rows
noncomputable def ItzL (K:PySem.W.Frag) (a b:Addr):It:=
  ⟨fun i H=>∃ xs ys x y,SqL K H a xs/\SqL K H b ys/\xs[i]? = some x/\ys[i]? = some y,
   fun i H v H'=>∃ T x y,H T=none/\v = .ref T/\H'=upd H T (.tup [x,y])/\∀ xs ys,SqL K H a xs->SqL K H b ys->xs[i]? = some x/\ys[i]? = some y,
   fun i H=>∃ xs ys,SqL K H a xs/\SqL K H b ys/\(i=xs.length ∨ (i < xs.length/\i=ys.length))⟩
noncomputable abbrev ZNowL:=ZNowG false false
theorem turn_zipL {P:Program}{w:World}{K:PySem.W.Frag}{elts:List Expr}{k:Nat}{pos:Pos} (a b z TI TO i1 i2:Addr) (d : [z,TI,TO,i1,i2].Nodup) :
  Turn P w K (.Tuple elts k pos) (ItzL K a b) [z,TI,TO,i1,i2] z (ZNowL z TI TO i1 i2 a b):=turn_zipG false false a b z TI TO i1 i2 d
section
variable {X : Cx}
noncomputable def iZipL (K:PySem.W.Frag) (ta:TA):TI:=fun σ H R=>ta σ H fun vs H1=>∃ a b xs ys,vs = [.ref a,.ref b]/\SqL K H1 a xs/\SqL K H1 b ys/\R (ItzL K a b) H1
theorem pi_zipL {elts:List Expr}{kt:Nat}{pt:Pos}{a b:Expr}{ta:TA}{p pos:Pos} (hg:Gl X "zip") (hm:X.mg "zip" = none) (ha:PA X [a,b] ta) (hs:starEach [a,b] X.env = [(false,eval a X.env),(false,eval b X.env)]:=by rfl) (hs2:starEach [b] X.env = [(false,eval b X.env)]:=by rfl) :
  PI X (.Tuple elts kt pt) (.Call (.Name "zip" p) [a,b] [] pos) (iZipL X.K ta):=by
 intro pins s σ H R I h
 refine Call_ (ld_blt I hg hm PyProof.Rows.boot_zip (PyProof.Rows.callWith_type1 (thn (ha pos pins s σ H _ I h) fun us s1 ⟨vs,H1,I1,r1,q1⟩=>?_) (by rw [hs,hs2]) (by rw [hs2]; rfl)))
 obtain ⟨a',b',xs,ys,e,h1,h2,q⟩:=q1
 subst e
 cases r1 with
 | cons r rr=>
  cases rr with
  | cons r' rr=>
   cases rr
   cases r
   cases r'
   obtain ⟨us,_,p1,_⟩:=I1.list h1
   obtain ⟨ws,_,p2,_⟩:=I1.list h2
   refine call_zip_2 p1.isList p2.isList fun h' z ti to s1' s2' _ kp=>wpAny_pyIter_zip z ?_
   have fresh:∀ k,H1 (s1.heap.objs.size+k)=none:=fun k=>I1.hok.fresh (Nat.le_add_right _ _)
   refine⟨s1.heap.objs.size+4,[s1.heap.objs.size+4,s1.heap.objs.size+2,s1.heap.objs.size+3,s1.heap.objs.size,s1.heap.objs.size+1],_,_,H1,rfl,I1.kept (t':=s1.toks) kp,
    turn_zipL a' b' _ _ _ _ _ (by simp),⟨z,ti,⟨_,_,to⟩,s1',s2'⟩,fun c hc=>?_,q⟩
   simp only [List.mem_cons,List.not_mem_nil,or_false] at hc
   rcases hc with rfl | rfl | rfl | rfl | rfl
   ·exact I1.fpOk (Nat.le_add_right _ _) (fresh 4)
   ·exact I1.fpOk (Nat.le_add_right _ _) (fresh 2)
   ·exact I1.fpOk (Nat.le_add_right _ _) (fresh 3)
   ·exact I1.fpOk (Nat.le_refl _) (fresh 0)
   ·exact I1.fpOk (Nat.le_add_right _ _) (fresh 1)
end
theorem over_zipL {K:PySem.W.Frag}{H:Hp}{a b:Addr}{xs ys:List V} (ha:SqL K H a xs) (hb:SqL K H b ys) (hl:ys.length<=xs.length) :
  OverR H (ItzL K a b) ys.length (fun i v H2=>∃ T x y,v = .ref T/\H2 T=some (.tup [x,y])/\xs[i]? = some x/\ys[i]? = some y):=by
 refine⟨fun i H' sm hi=>⟨xs,ys,xs[i]'(by (first|lia|omega)),ys[i],sm.seq ha,sm.seq hb,by simp,by simp⟩,fun i H' v H2 sm y hi=>?_,fun H' sm=>⟨xs,ys,sm.seq ha,sm.seq hb,by (first|lia|omega)⟩⟩
 obtain ⟨T,x,y',hT,hv,e,hxy⟩:=y
 subst e
 obtain ⟨h1,h2⟩:=hxy xs ys (sm.seq ha) (sm.seq hb)
 exact⟨same_new hT _,T,x,y',hv,upd_same,h1,h2⟩
end L2
namespace L2
open PySem PySem.Spec PyProof.Rows
section
variable {X : Cx} {pins : List (Addr × Obj)} {σ : St} {H : Hp} {s : Shared} {a b : Addr} {A : Around} {E : Value → Shared → Prop}
theorem d_upd {kvs more:List (Key × V)}{Q:Value->Shared->Prop} (I:Inv X pins σ H s) (ea:H a=some (.dK kvs)) (eb:H b=some (.dK more)) (hne:a ≠ b) (hl:kvs.length+more.length<=sizeLine)
  (h:∀ s',Inv X pins σ (upd H a (.dK (mergeK kvs more))) s'->Q .none s'):wpAny (model X.prog X.w) A (call (.builtin "dict.update") [.ref a,.ref b]) Q E s:=by
 obtain ⟨z,hd,vs,rel,dd⟩:=dk_of I.hok ea
 obtain ⟨z2,hd2,rs,rel2,dd2⟩:=dk_of I.hok eb
 have l1:=rel.length
 have l2:=rel2.length
 refine call_meetsIn PySem.F.slot_dict_update dd.typeIs PySem.F.entry_dict_update (PySem.F.args_dict_update_2 _ _) (meets_dict_update (mixKind X.prog X.w) a b hne hd2) ⟨vs,rs,dd,dd2,by (first|lia|omega),fun h' dd' _ hs=>h _ ?_⟩
 have he:∃ q,h'.get? a=some q:=let ⟨q,_,_,hq,_⟩:=dd'; ⟨q,hq⟩
 refine d_write I (by rw [ea]; exact True.intro) hs he (dk_new ?_ hd (rel2.merge rel) dd')
 have:=length_mergeK more kvs
 (first|lia|omega)
end
noncomputable def tDUpd (td ty:TE):TE:=fun σ H Q=>td σ H fun x H1=>∃ a,x = .ref a/\IsD H1 a/\ty σ H1 fun y H2=>∃ (b:Addr) (kvs more:List (Key × V)),y = .ref b/\a ≠ b/\H2 a=some (.dK kvs)/\H2 b=some (.dK more)/\kvs.length+more.length<=sizeLine/\Q .non (upd H2 a (.dK (mergeK kvs more)))
section
variable {X : Cx} {o e : Expr} {apos cpos : Pos} {td ty : TE}
theorem pe_dupd (ho:PE X o td) (he:PE X e ty) (m:M1 X o "update" apos e cpos):PE X (.Call (.Attribute o "update" apos) [e] [] cpos) (tDUpd td ty):=by
 intro pins s σ H Q I h
 refine wpAny_Call_method m.base m.few m.line PySem.F.plainAttrs_dict PySem.F.slot_dict_update PySem.F.type_dict_update (thn (ho pins s σ H _ I h) fun u s1 ⟨x,H1,I1,rx,a,ex,d,q1⟩=>?_)
 subst ex
 obtain rfl:u=Value.ref a:=rx
 obtain ⟨t1,t2,_⟩:=isD_at I1 d
 refine⟨t1,t2,?_⟩
 rw [m.trees]
 refine Calls.callWith_builtin rfl (Calls.evalArgs_plain (Calls.spliced_cons (thn (he pins s1 σ H1 _ I1 q1) fun iv s2 ⟨y,H2,I2,ry,b,kvs,more,ey,ne,ea,eb,l,q2⟩=>Calls.spliced_nil ?_)))
 subst ey
 obtain rfl:iv=Value.ref b:=ry
 exact d_upd I2 ea eb ne l fun s3 I3=>⟨.non,_,I3,rfl,q2⟩
end
end L2
namespace PP
open PySem L2
inductive PV where
 | non | bl (b:Bool) | int (i:Int) | str (x:Str) | tup (xs:List PV) | lst (xs:List PV)
 | dK (kvs:List (Key × PV)) | dT (kvs:List (List Key × PV)) | scr (ns:List Int) | kt (xs:List PV) | exc (c:Str)
mutual
noncomputable def flat:PV->Bool
 | .tup xs=>flats xs
 | .lst _=>false
 | .dK _=>false
 | .dT _=>false
 | .non=>true
 | .bl _=>true
 | .int _=>true
 | .str _=>true
 | .scr _=>true
 | .kt xs=>flats xs
 | .exc _=>true
noncomputable def flats:List PV->Bool
 | []=>true
 | x :: r=>flat x && flats r
end
noncomputable def Scr (K:PySem.W.Frag) (H:Hp) (a:Addr) (ns:List Int):Prop:=(∃ o,H a=some (.frz o (.lst (ns.map V.int)))) ∨
  ∃ (o:Obj) (its:Array Value) (n:Nat),K.lookup a=some o/\o.cls = .type "list"/\o.dict=none/\o.data = .seq its n/\its.size<=sizeLine/\Vals (ns.map V.int) its.toList
noncomputable def KtAt (K:PySem.W.Frag) (a:Addr) (us:List V):Prop:=∃ (o:Obj) (its:Array Value) (n:Nat),K.lookup a=some o/\o.cls = .type "tuple"/\o.data = .seq its n/\its.size<=sizeLine/\Vals us its.toList
mutual
inductive Rep (K:PySem.W.Frag) (M:Addr->Prop) (H:Hp):V->PV->Prop
 | non:Rep K M H .non .non
 | bl (b:Bool):Rep K M H (.bl b) (.bl b)
 | int (i:Int):Rep K M H (.int i) (.int i)
 | str (x:Str):Rep K M H (.str x) (.str x)
 | tup {a:Addr}{us:List V}{xs:List PV}:H a=some (.tup us)->Reps K M H us xs->Rep K M H (.ref a) (.tup xs)
 | lst {a:Addr}{us:List V}{xs:List PV}:M a->H a=some (.lst us)->Reps K M H us xs->Rep K M H (.ref a) (.lst xs)
 | dK {a:Addr}{kvs:List (Key × V)}{ps:List (Key × PV)}:M a->H a=some (.dK kvs)->kvs.map (·.1)=ps.map (·.1)->Reps K M H (kvs.map (·.2)) (ps.map (·.2))->Rep K M H (.ref a) (.dK ps)
 | dT {a:Addr}{kvs:List (List Key × V)}{ps:List (List Key × PV)}:M a->H a=some (.dT kvs)->kvs.map (·.1)=ps.map (·.1)->Reps K M H (kvs.map (·.2)) (ps.map (·.2))->Rep K M H (.ref a) (.dT ps)
 | scr {a:Addr}{ns:List Int}:Scr K H a ns->Rep K M H (.ref a) (.scr ns)
 | kt {a:Addr}{us:List V}{xs:List PV}:KtAt K a us->Reps K M H us xs->Rep K M H (.ref a) (.kt xs)
 | exc {a C:Addr}{o:Obj}{c:Str}:H a=some (.frz o (.own a))->PySem.W.nsIn K mainGlobals c=some (some (.ref C))->o.cls = .ref C->Rep K M H (.ref a) (.exc c)
inductive Reps (K:PySem.W.Frag) (M:Addr->Prop) (H:Hp):List V->List PV->Prop
 | nil:Reps K M H [] []
 | cons {v:V}{x:PV}{vs:List V}{xs:List PV}:Rep K M H v x->Reps K M H vs xs->Reps K M H (v :: vs) (x :: xs)
end
structure Keep (M M':Addr->Prop) (H H':Hp):Prop where
 lst:∀ a us,M a->H a=some (.lst us)->M' a/\H' a=some (.lst us)
 dK:∀ a kvs,M a->H a=some (.dK kvs)->M' a/\H' a=some (.dK kvs)
 dT:∀ a kvs,M a->H a=some (.dT kvs)->M' a/\H' a=some (.dT kvs)
 tup:∀ a us,H a=some (.tup us)->H' a=some (.tup us)
 frz:∀ a o u,H a=some (.frz o u)->H' a=some (.frz o u)
theorem Scr.keep {K:PySem.W.Frag}{H H':Hp}{a:Addr}{ns:List Int} (k:∀ a o u,H a=some (.frz o u)->H' a=some (.frz o u)) (h:Scr K H a ns):Scr K H' a ns:=
 h.elim (fun ⟨o,e⟩=>.inl ⟨o,k _ _ _ e⟩) .inr
mutual
theorem Rep.keep {K:PySem.W.Frag}{M M':Addr->Prop}{H H':Hp} (k:Keep M M' H H'):∀ {v:V}{x:PV},Rep K M H v x->Rep K M' H' v x
 | _,_,.non=>.non
 | _,_,.bl b=>.bl b
 | _,_,.int i=>.int i
 | _,_,.str x=>.str x
 | _,_,.tup h r=>.tup (k.tup _ _ h) (Reps.keep k r)
 | _,_,.lst m h r=>.lst (k.lst _ _ m h).1 (k.lst _ _ m h).2 (Reps.keep k r)
 | _,_,.dK m h e r=>.dK (k.dK _ _ m h).1 (k.dK _ _ m h).2 e (Reps.keep k r)
 | _,_,.dT m h e r=>.dT (k.dT _ _ m h).1 (k.dT _ _ m h).2 e (Reps.keep k r)
 | _,_,.scr h=>.scr (h.keep k.frz)
 | _,_,.kt h r=>.kt h (Reps.keep k r)
 | _,_,.exc h e c=>.exc (k.frz _ _ _ h) e c
theorem Reps.keep {K:PySem.W.Frag}{M M':Addr->Prop}{H H':Hp} (k:Keep M M' H H'):∀ {vs:List V}{xs:List PV},Reps K M H vs xs->Reps K M' H' vs xs
 | _,_,.nil=>.nil
 | _,_,.cons r t=>.cons (Rep.keep k r) (Reps.keep k t)
end
mutual
theorem Rep.flat {K:PySem.W.Frag}{M M':Addr->Prop}{H:Hp}{v:V}{x:PV} (f:flat x=true) (r:Rep K M H v x):Rep K M' H v x:=by
 cases r with
 | non=>exact .non
 | bl b=>exact .bl b
 | int i=>exact .int i
 | str x=>exact .str x
 | tup h r=>exact .tup h (Reps.flat (by unfold PP.flat at f; exact f) r)
 | lst m h r=>unfold PP.flat at f; cases f
 | dK m h e r=>unfold PP.flat at f; cases f
 | dT m h e r=>unfold PP.flat at f; cases f
 | scr h=>exact .scr h
 | kt h r=>exact .kt h (Reps.flat (by unfold PP.flat at f; exact f) r)
 | exc h e c=>exact .exc h e c
theorem Reps.flat {K:PySem.W.Frag}{M M':Addr->Prop}{H:Hp}{vs:List V}{xs:List PV} (f:flats xs=true) (r:Reps K M H vs xs):Reps K M' H vs xs:=by
 cases r with
 | nil=>exact .nil
 | cons r t=>
  unfold PP.flats at f
  rw [Bool.and_eq_true] at f
  exact .cons (Rep.flat f.1 r) (Reps.flat f.2 t)
end
theorem Keep.same {M M':Addr->Prop}{H H':Hp} (s:Same H H') (m:∀ a,M a->M' a):Keep M M' H H':=
 ⟨fun a _ h e=>⟨m a h,s _ _ e⟩,fun a _ h e=>⟨m a h,s _ _ e⟩,fun a _ h e=>⟨m a h,s _ _ e⟩,fun _ _ e=>s _ _ e,fun _ _ _ e=>s _ _ e⟩
theorem Rep.same {K:PySem.W.Frag}{M M':Addr->Prop}{H H':Hp}{v:V}{x:PV} (r:Rep K M H v x) (s:Same H H') (m:∀ a,M a->M' a):Rep K M' H' v x:=r.keep (.same s m)
theorem Reps.same {K:PySem.W.Frag}{M M':Addr->Prop}{H H':Hp}{v:List V}{x:List PV} (r:Reps K M H v x) (s:Same H H') (m:∀ a,M a->M' a):Reps K M' H' v x:=r.keep (.same s m)
noncomputable def mutO:HO->Bool
 | .lst _=>true
 | .dK _=>true
 | .dT _=>true
 | _=>false
theorem Keep.upd {M M':Addr->Prop}{H:Hp}{a:Addr}{o o':HO} (h:H a=some o') (mu:mutO o'=true) (m:∀ b,M b->b ≠ a/\M' b):Keep M M' H (upd H a o):=
 ⟨fun b _ hb e=>⟨(m b hb).2,by rw [upd_ne (m b hb).1]; exact e⟩,fun b _ hb e=>⟨(m b hb).2,by rw [upd_ne (m b hb).1]; exact e⟩,fun b _ hb e=>⟨(m b hb).2,by rw [upd_ne (m b hb).1]; exact e⟩,
  fun b _ e=>by rw [upd_ne (fun z=>by rw [z,h] at e; cases e; cases mu)]; exact e,
  fun b _ _ e=>by rw [upd_ne (fun z=>by rw [z,h] at e; cases e; cases mu)]; exact e⟩
theorem Reps.length {K:PySem.W.Frag}{M:Addr->Prop}{H:Hp}:∀ {vs:List V}{xs:List PV},Reps K M H vs xs->vs.length=xs.length
 | _,_,.nil=>rfl
 | _,_,.cons _ t=>congrArg (· + 1) t.length
theorem Reps.get {K:PySem.W.Frag}{M:Addr->Prop}{H:Hp}:∀ {vs:List V}{xs:List PV}{i:Nat}{v:V},Reps K M H vs xs->vs[i]? = some v->∃ x,xs[i]? = some x/\Rep K M H v x
 | _,_,_,_,.nil,e=>by simp at e
 | _,_,0,_,.cons r _,e=>by simp at e; subst e; exact⟨_,rfl,r⟩
 | _,_,i+1,v,.cons _ t,e=>by
  rw [List.getElem?_cons_succ] at e
  obtain ⟨x,h1,h2⟩:=t.get e
  exact⟨x,by rw [List.getElem?_cons_succ]; exact h1,h2⟩
theorem Reps.at {K:PySem.W.Frag}{M:Addr->Prop}{H:Hp}:∀ {vs:List V}{xs:List PV}{i:Nat}{x:PV},Reps K M H vs xs->xs[i]? = some x->∃ v,vs[i]? = some v/\Rep K M H v x
 | _,_,_,_,.nil,e=>by simp at e
 | _,_,0,_,.cons r _,e=>by simp at e; subst e; exact⟨_,rfl,r⟩
 | _,_,i+1,v,.cons _ t,e=>by
  rw [List.getElem?_cons_succ] at e
  obtain ⟨x,h1,h2⟩:=t.at e
  exact⟨x,by rw [List.getElem?_cons_succ]; exact h1,h2⟩
theorem Reps.append {K:PySem.W.Frag}{M:Addr->Prop}{H:Hp}:∀ {vs:List V}{xs:List PV}{us:List V}{ys:List PV},Reps K M H vs xs->Reps K M H us ys->Reps K M H (vs ++ us) (xs ++ ys)
 | _,_,_,_,.nil,s=>s
 | _,_,_,_,.cons r t,s=>.cons r (t.append s)
theorem Reps.set {K:PySem.W.Frag}{M:Addr->Prop}{H:Hp}{v:V}{x:PV} (q:Rep K M H v x):∀ (i:Nat) {vs:List V}{xs:List PV},Reps K M H vs xs->Reps K M H (vs.set i v) (xs.set i x)
 | _,_,_,.nil=>.nil
 | 0,_,_,.cons r t=>.cons q t
 | i+1,_,_,.cons r t=>.cons r (Reps.set q i t)
theorem Reps.take {K:PySem.W.Frag}{M:Addr->Prop}{H:Hp}:∀ (n:Nat) {vs:List V}{xs:List PV},Reps K M H vs xs->Reps K M H (vs.take n) (xs.take n)
 | 0,_,_,_=>by simp; exact .nil
 | _+1,_,_,.nil=>.nil
 | n+1,_,_,.cons r t=>.cons r (Reps.take n t)
theorem Reps.drop {K:PySem.W.Frag}{M:Addr->Prop}{H:Hp}:∀ (n:Nat) {vs:List V}{xs:List PV},Reps K M H vs xs->Reps K M H (vs.drop n) (xs.drop n)
 | 0,_,_,r=>r
 | _+1,_,_,.nil=>.nil
 | n+1,_,_,.cons _ t=>Reps.drop n t
noncomputable abbrev intz (ns:List Int):List PV:=ns.map PV.int
theorem Reps.intz {K:PySem.W.Frag}{M:Addr->Prop}{H:Hp}:∀ (ns:List Int),Reps K M H (ns.map V.int) (intz ns)
 | []=>.nil
 | n :: r=>.cons (.int n) (Reps.intz r)
theorem Reps.ofInts {K:PySem.W.Frag}{M:Addr->Prop}{H:Hp}:∀ {ns:List Int}{us:List V},Reps K M H us (PP.intz ns)->us=ns.map V.int
 | [],_,.nil=>rfl
 | n :: r,_,.cons q t=>by
  cases q
  rw [Reps.ofInts t]; rfl
theorem flats_ints:∀ (ns:List Int),flats (intz ns)=true
 | []=>rfl
 | n :: r=>by show (flat (.int n) && flats (intz r))=true; rw [flats_ints r]; rfl
inductive Tg | rd | sh | nw | fr
inductive Slot | sh (g:Bool) (x:PV) | own (x:PV)
noncomputable def Slot.val:Slot->PV
 | .sh _ x=>x
 | .own x=>x
noncomputable def Slot.tag:Slot->Tg
 | .sh true _=>.nw
 | .sh false _=>.sh
 | .own _=>.rd
noncomputable abbrev PEnv:=List (Option Slot)
noncomputable def Ms (H0:Hp) (W:Addr->Prop):Bool->Addr->Prop
 | false,a=>¬ W a
 | true,a=>¬ W a/\H0 a=none
noncomputable def Mg (H0:Hp) (W:Addr->Prop) (Hs:Hp):Tg->Addr->Prop
 | .rd,_=>True
 | .sh,a=>¬ W a
 | .nw,a=>¬ W a/\H0 a=none
 | .fr,a=>Hs a=none
noncomputable def OwnR (K:PySem.W.Frag) (M:Addr->Prop) (H:Hp) (a:Addr):PV->Prop
 | .lst xs=>∃ us,H a=some (.lst us)/\Reps K M H us xs
 | .dK ps=>∃ kvs,H a=some (.dK kvs)/\kvs.map (·.1)=ps.map (·.1)/\Reps K M H (kvs.map (·.2)) (ps.map (·.2))
 | .dT ps=>∃ kvs,H a=some (.dT kvs)/\kvs.map (·.1)=ps.map (·.1)/\Reps K M H (kvs.map (·.2)) (ps.map (·.2))
 | _=>False
noncomputable def SlotR (K:PySem.W.Frag) (H0:Hp) (W:Addr->Prop) (H:Hp) (v:V):Slot->Prop
 | .sh g x=>Rep K (Ms H0 W g) H v x
 | .own x=>∃ a,v = .ref a/\W a/\OwnR K (Ms H0 W true) H a x
structure PX (K:PySem.W.Frag) (H0:Hp) (W:Addr->Prop) (σ:St) (ρ:PEnv) (H:Hp):Prop where
 len:ρ.length=σ.length
 same:Same H0 H
 wm:∀ a,W a->H0 a=none/\∃ o,H a=some o/\mutO o=true
 sl:∀ (i:Nat) (m:Slot),ρ[i]? = some (some m)->∃ v,σ[i]? = some (some v)/\SlotR K H0 W H v m
 dis:∀ (i j:Nat) (x y:PV) (a:Addr),ρ[i]? = some (some (.own x))->ρ[j]? = some (some (.own y))->σ[i]? = some (some (.ref a))->σ[j]? = some (some (.ref a))->i=j
theorem OwnR.keep {K:PySem.W.Frag}{M M':Addr->Prop}{H H':Hp}{a:Addr} (k:Keep M M' H H') (ha:∀ o,H a=some o->H' a=some o):∀ {x:PV},OwnR K M H a x->OwnR K M' H' a x
 | .lst _,⟨us,e,r⟩=>⟨us,ha _ e,r.keep k⟩
 | .dK _,⟨us,e,q,r⟩=>⟨us,ha _ e,q,r.keep k⟩
 | .dT _,⟨us,e,q,r⟩=>⟨us,ha _ e,q,r.keep k⟩
theorem OwnR.at {K:PySem.W.Frag}{M:Addr->Prop}{H:Hp}{a:Addr}:∀ {x:PV},OwnR K M H a x->∃ o,H a=some o/\mutO o=true
 | .lst _,⟨us,e,r⟩=>⟨_,e,rfl⟩
 | .dK _,⟨us,e,q,r⟩=>⟨_,e,rfl⟩
 | .dT _,⟨us,e,q,r⟩=>⟨_,e,rfl⟩
theorem OwnR.rep {K:PySem.W.Frag}{M M':Addr->Prop}{H:Hp}{a:Addr} (m:∀ b,M b->M' b) (ha:M' a):∀ {x:PV},OwnR K M H a x->Rep K M' H (.ref a) x
 | .lst _,⟨us,e,r⟩=>.lst ha e (r.same (Same.refl _) m)
 | .dK _,⟨us,e,q,r⟩=>.dK ha e q (r.same (Same.refl _) m)
 | .dT _,⟨us,e,q,r⟩=>.dT ha e q (r.same (Same.refl _) m)
section
variable {K : PySem.W.Frag} {H0 : Hp} {W W' : Addr → Prop} {σ : St} {ρ : PEnv} {H H' : Hp}
theorem PX.mono (p:PX K H0 W σ ρ H) (s:Same H H'):PX K H0 W σ ρ H':=by
 refine⟨p.len,p.same.trans s,fun a h=>⟨(p.wm a h).1,let ⟨o,e,m⟩:=(p.wm a h).2; ⟨o,s _ _ e,m⟩⟩,fun i m h=>?_,p.dis⟩
 obtain ⟨v,e,r⟩:=p.sl i m h
 refine⟨v,e,?_⟩
 cases m with
 | sh g x=>exact Rep.same r s fun _ z=>z
 | own x=>
  obtain ⟨a,e1,e2,r⟩:=r
  exact⟨a,e1,e2,r.keep (.same s fun _ z=>z) fun _ z=>s _ _ z⟩
theorem PX.new (p:PX K H0 W σ ρ H) {a:Addr} (h:H a=none) : ¬ W a/\H0 a=none:=
 ⟨fun z=>(by obtain ⟨_,o,e,_⟩:=p.wm a z; rw [h] at e; cases e),p.same.free h⟩
theorem Mg.back {g:Tg}{H1:Hp} (s:Same H H1) {a:Addr} (h:Mg H0 W H1 g a):Mg H0 W H g a:=by
 cases g with
 | fr=>exact s.free h
 | rd=>exact h
 | sh=>exact h
 | nw=>exact h
end
end PP
namespace PP
open PySem L2
noncomputable abbrev PK:=PV->Tg->Prop
noncomputable abbrev PTE:=PEnv->PK->Prop
noncomputable abbrev PTT:=PEnv->(Bool->Prop)->Prop
noncomputable abbrev PTA:=PEnv->(List (PV × Tg)->Prop)->Prop
inductive RepTs (K:PySem.W.Frag) (H0:Hp) (W:Addr->Prop) (Hs H:Hp):List V->List (PV × Tg)->Prop
 | nil:RepTs K H0 W Hs H [] []
 | cons {v:V}{x:PV}{g:Tg}{vs:List V}{xs:List (PV × Tg)}:Rep K (Mg H0 W Hs g) H v x->RepTs K H0 W Hs H vs xs->RepTs K H0 W Hs H (v :: vs) ((x,g) :: xs)
noncomputable def Gives (K:PySem.W.Frag) (H0:Hp) (W:Addr->Prop) (H:Hp) (Q:PK) (Q':VK):Prop:=∀ v H' x g,Same H H'->Rep K (Mg H0 W H g) H' v x->Q x g->Q' v H'
noncomputable def LE (X:Cx) (t:PTE):TE:=fun σ H Q'=>∃ (W:Addr->Prop) (ρ:PEnv) (Q:PK),PX X.K X.H₀ W σ ρ H/\t ρ Q/\Gives X.K X.H₀ W H Q Q'
noncomputable def LT (X:Cx) (t:PTT):TT:=fun σ H Q'=>∃ (W:Addr->Prop) (ρ:PEnv) (Q:Bool->Prop),PX X.K X.H₀ W σ ρ H/\t ρ Q/\∀ b H',Same H H'->Q b->Q' b H'
noncomputable def LA (X:Cx) (t:PTA):TA:=fun σ H Q'=>∃ (W:Addr->Prop) (ρ:PEnv) (Q:List (PV × Tg)->Prop),PX X.K X.H₀ W σ ρ H/\t ρ Q/\∀ vs H' xs,Same H H'->RepTs X.K X.H₀ W H H' vs xs->Q xs->Q' vs H'
theorem RepTs.same {K:PySem.W.Frag}{H0:Hp}{W:Addr->Prop}{Hs Hs' H H':Hp} (s:Same H H') (b:Same Hs' Hs):∀ {vs:List V}{xs:List (PV × Tg)},RepTs K H0 W Hs H vs xs->RepTs K H0 W Hs' H' vs xs
 | _,_,.nil=>.nil
 | _,_,.cons r t=>.cons (r.same s fun _ z=>Mg.back b z) (t.same s b)
theorem RepTs.any {K:PySem.W.Frag}{H0:Hp}{W:Addr->Prop}{Hs H:Hp}:∀ {vs:List V}{xs:List (PV × Tg)},RepTs K H0 W Hs H vs xs->Reps K (fun _=>True) H vs (xs.map (·.1))
 | _,_,.nil=>.nil
 | _,_,.cons r t=>.cons (r.same (Same.refl _) fun _ _=>trivial) t.any
noncomputable def Nw:Tg->PV->Prop
 | .fr,_=>True
 | .nw,_=>True
 | _,x=>flat x=true
section
variable {K : PySem.W.Frag} {H0 Hs H : Hp} {W : Addr → Prop} {σ : St} {ρ : PEnv}
theorem Nw.rep {g:Tg}{x:PV}{v:V} (px:PX K H0 W σ ρ Hs) (n:Nw g x) (r:Rep K (Mg H0 W Hs g) H v x):Rep K (Ms H0 W true) H v x:=by
 cases g with
 | fr=>exact r.same (Same.refl _) fun a z=>px.new z
 | nw=>exact r.same (Same.refl _) fun a z=>z
 | sh=>exact r.flat n
 | rd=>exact r.flat n
theorem slot_rep {v:V}{m:Slot} (r:SlotR K H0 W H v m):Rep K (Mg H0 W Hs m.tag) H v m.val:=by
 cases m with
 | sh g x=>
  cases g with
  | true=>exact Rep.same r (Same.refl _) fun _ z=>z
  | false=>exact Rep.same r (Same.refl _) fun _ z=>z
 | own x=>
  obtain ⟨a,rfl,_,r⟩:=r
  exact r.rep (fun _ _=>trivial) trivial
end
section
variable {X : Cx} {σ : St} {H : Hp} {Q' : VK} {ta tb : PTE}
noncomputable def qVar (i:Nat):PTE:=fun ρ Q=>∃ m,ρ[i]? = some (some m)/\Q m.val m.tag
noncomputable def qC (x:PV):PTE:=fun _ Q=>Q x .fr
theorem le_var {i:Nat} (h:LE X (qVar i) σ H Q'):tVar i σ H Q':=by
 obtain ⟨W,ρ,Q,px,⟨m,e,q⟩,k⟩:=h
 obtain ⟨v,ev,r⟩:=px.sl i m e
 exact⟨v,ev,k v H _ _ (Same.refl _) (slot_rep r) q⟩
theorem le_c {x:PV}{v:V} (hr:∀ M,Rep X.K M H v x) (h:LE X (qC x) σ H Q'):tC v σ H Q':=by
 obtain ⟨W,ρ,Q,px,q,k⟩:=h
 exact k v H _ _ (Same.refl _) (hr _) q
noncomputable def Cov2 (X:Cx) (R:PV->Tg->PV->Tg->PK->Prop) (r:R2):Prop:=∀ (W:Addr->Prop) (Hs H:Hp) (u v:V) (x y:PV) (g g':Tg) (Q:PK) (Q':VK),Same Hs H->
 (∀ a,Hs a=none->¬ W a/\X.H₀ a=none)->Rep X.K (Mg X.H₀ W Hs g) H u x->Rep X.K (Mg X.H₀ W Hs g') H v y->R x g y g' Q->(∀ w H' z gz,Same H H'->Rep X.K (Mg X.H₀ W Hs gz) H' w z->Q z gz->Q' w H')->r u v H Q'
noncomputable def q2 (R:PV->Tg->PV->Tg->PK->Prop) (ta tb:PTE):PTE:=fun ρ Q=>ta ρ fun x g=>tb ρ fun y g'=>R x g y g' Q
theorem le_2 {R:PV->Tg->PV->Tg->PK->Prop}{r:R2} (c:Cov2 X R r) (h:LE X (q2 R ta tb) σ H Q'):tOp r (LE X ta) (LE X tb) σ H Q':=by
 obtain ⟨W,ρ,Q,px,q,k⟩:=h
 refine⟨W,ρ,_,px,q,fun u H1 x g s1 r1 q1=>⟨W,ρ,_,px.mono s1,q1,fun v H2 y g' s2 r2 q2=>?_⟩⟩
 exact c W H H2 u v x y g g' Q Q' (s1.trans s2) (fun a z=>px.new z) (r1.same s2 fun _ z=>z) (r2.same (Same.refl _) fun _ z=>Mg.back s1 z) q2 fun w H' z gz s3 r3 q3=>k w H' z gz ((s1.trans s2).trans s3) r3 q3
noncomputable def RI (C:Int->Int->Prop) (f:Int->Int->PV):PV->Tg->PV->Tg->PK->Prop:=fun x _ y _ Q=>∃ i j,x = .int i/\y = .int j/\C i j/\Q (f i j) .fr
noncomputable def RI0 (f:Int->Int->PV):PV->Tg->PV->Tg->PK->Prop:=fun x _ y _ Q=>∃ i j,x = .int i/\y = .int j/\Q (f i j) .fr
theorem cov_rI {C:Int->Int->Prop}{f:Int->Int->Int}:Cov2 X (RI C fun i j=>.int (f i j)) (rI C fun i j=>.int (f i j)):=by
 rintro W Hs H u v x y g g' Q Q' s n r1 r2 ⟨i,j,rfl,rfl,c,q⟩ k
 cases r1; cases r2
 exact⟨i,j,rfl,rfl,c,k _ _ _ _ (Same.refl _) (.int _) q⟩
theorem cov_rI0 {f:Int->Int->Int}:Cov2 X (RI0 fun i j=>.int (f i j)) (rI0 fun i j=>.int (f i j)):=by
 rintro W Hs H u v x y g g' Q Q' s n r1 r2 ⟨i,j,rfl,rfl,q⟩ k
 cases r1; cases r2
 exact⟨i,j,rfl,rfl,k _ _ _ _ (Same.refl _) (.int _) q⟩
theorem cov_rIB {f:Int->Int->Bool}:Cov2 X (RI0 fun i j=>.bl (f i j)) (rI0 fun i j=>.bl (f i j)):=by
 rintro W Hs H u v x y g g' Q Q' s n r1 r2 ⟨i,j,rfl,rfl,q⟩ k
 cases r1; cases r2
 exact⟨i,j,rfl,rfl,k _ _ _ _ (Same.refl _) (.bl _) q⟩
noncomputable def REqI (neg:Bool):PV->Tg->PV->Tg->PK->Prop:=fun x _ y _ Q=>(∃ i j,x = .int i/\y = .int j/\Q (.bl (if neg=true then !decide (i=j) else decide (i=j))) .fr) ∨ (∃ i j,x = .bl i/\y = .bl j/\Q (.bl (if neg=true then !decide (i=j) else decide (i=j))) .fr)
theorem dec_vi (i j:Int):decide (V.int i=V.int j)=decide (i=j):=by
 rw [Bool.eq_iff_iff,decide_eq_true_eq,decide_eq_true_eq]; exact⟨fun z=>V.int.inj z,fun z=>congrArg V.int z⟩
theorem dec_vb (i j:Bool):decide (V.bl i=V.bl j)=decide (i=j):=by
 rw [Bool.eq_iff_iff,decide_eq_true_eq,decide_eq_true_eq]; exact⟨fun z=>V.bl.inj z,fun z=>congrArg V.bl z⟩
theorem cov_eq:Cov2 X (REqI false) rEq:=by
 rintro W Hs H u v x y g g' Q Q' s n r1 r2 (⟨i,j,rfl,rfl,q⟩ | ⟨i,j,rfl,rfl,q⟩) k
 ·cases r1; cases r2
  exact⟨rfl,by rw [dec_vi]; exact k _ _ _ _ (Same.refl _) (.bl _) q⟩
 ·cases r1; cases r2
  exact⟨rfl,by rw [dec_vb]; exact k _ _ _ _ (Same.refl _) (.bl _) q⟩
theorem cov_ne:Cov2 X (REqI true) rNe:=by
 rintro W Hs H u v x y g g' Q Q' s n r1 r2 (⟨i,j,rfl,rfl,q⟩ | ⟨i,j,rfl,rfl,q⟩) k
 ·cases r1; cases r2
  exact⟨rfl,by rw [dec_vi]; exact k _ _ _ _ (Same.refl _) (.bl _) q⟩
 ·cases r1; cases r2
  exact⟨rfl,by rw [dec_vb]; exact k _ _ _ _ (Same.refl _) (.bl _) q⟩
noncomputable def qTest (t:PTE):PTT:=fun ρ Q=>t ρ fun x _=>∃ b,x = .bl b/\Q b
theorem lt_test {t:PTE}{Q':Bool->Hp->Prop} (h:LT X (qTest t) σ H Q'):LE X t σ H fun x H'=>∃ k,x = .bl k/\Q' k H':=by
 obtain ⟨W,ρ,Q,px,q,k⟩:=h
 refine⟨W,ρ,_,px,q,?_⟩
 rintro v H1 x g s r ⟨b,rfl,q⟩
 cases r
 exact⟨b,rfl,k _ _ s q⟩
noncomputable def qAnd (t u:PTT):PTT:=fun ρ Q=>t ρ fun c=>if c=true then u ρ Q else Q false
noncomputable def qOr (t u:PTT):PTT:=fun ρ Q=>t ρ fun c=>if c=true then Q true else u ρ Q
noncomputable def qNot (t:PTT):PTT:=fun ρ Q=>t ρ fun c=>Q (!c)
variable {t u : PTT} {Qb : Bool → Hp → Prop}
theorem lt_and (h:LT X (qAnd t u) σ H Qb):tAnd (LT X t) (LT X u) σ H Qb:=by
 obtain ⟨W,ρ,Q,px,q,k⟩:=h
 refine⟨W,ρ,_,px,q,fun b H1 s1 q1=>?_⟩
 cases b with
 | true=>exact iteT ⟨W,ρ,Q,px.mono s1,by simpa using q1,fun b H2 s2 q2=>k _ _ (s1.trans s2) q2⟩
 | false=>exact iteF (k _ _ s1 (by simpa using q1))
theorem lt_or (h:LT X (qOr t u) σ H Qb):tOr (LT X t) (LT X u) σ H Qb:=by
 obtain ⟨W,ρ,Q,px,q,k⟩:=h
 refine⟨W,ρ,_,px,q,fun b H1 s1 q1=>?_⟩
 cases b with
 | false=>exact iteF ⟨W,ρ,Q,px.mono s1,by simpa using q1,fun b H2 s2 q2=>k _ _ (s1.trans s2) q2⟩
 | true=>exact iteT (k _ _ s1 (by simpa using q1))
theorem lt_not (h:LT X (qNot t) σ H Qb):tNot (LT X t) σ H Qb:=by
 obtain ⟨W,ρ,Q,px,q,k⟩:=h
 exact⟨W,ρ,_,px,q,fun b H1 s1 q1=>k _ _ s1 q1⟩
noncomputable def qAndV (ta tb:PTE):PTE:=fun ρ Q=>ta ρ fun x _=>∃ c,x = .bl c/\if c=true then tb ρ Q else Q (.bl false) .fr
noncomputable def qOrV (ta tb:PTE):PTE:=fun ρ Q=>ta ρ fun x _=>∃ c,x = .bl c/\if c=true then Q (.bl true) .fr else tb ρ Q
noncomputable def qNotV (ta:PTE):PTE:=fun ρ Q=>ta ρ fun x _=>∃ c,x = .bl c/\Q (.bl (!c)) .fr
theorem Gives.back {K:PySem.W.Frag}{H0:Hp}{W:Addr->Prop}{H H1:Hp}{Q:PK} (k:Gives K H0 W H Q Q') (s:Same H H1):Gives K H0 W H1 Q Q':=fun v H' x g s' r q=>k v H' x g (s.trans s') (r.same (Same.refl _) fun _ z=>Mg.back s z) q
theorem le_and (h:LE X (qAndV ta tb) σ H Q'):tAndV (LE X ta) (LE X tb) σ H Q':=by
 obtain ⟨W,ρ,Q,px,q,k⟩:=h
 refine⟨W,ρ,_,px,q,?_⟩
 rintro v H1 x g s1 r ⟨c,rfl,q⟩
 cases r
 refine⟨c,rfl,?_⟩
 cases c with
 | true=>exact iteT ⟨W,ρ,Q,px.mono s1,by simpa using q,k.back s1⟩
 | false=>exact iteF (k _ _ _ _ s1 (.bl _) (by simpa using q))
theorem le_or (h:LE X (qOrV ta tb) σ H Q'):tOrV (LE X ta) (LE X tb) σ H Q':=by
 obtain ⟨W,ρ,Q,px,q,k⟩:=h
 refine⟨W,ρ,_,px,q,?_⟩
 rintro v H1 x g s1 r ⟨c,rfl,q⟩
 cases r
 refine⟨c,rfl,?_⟩
 cases c with
 | false=>exact iteF ⟨W,ρ,Q,px.mono s1,by simpa using q,k.back s1⟩
 | true=>exact iteT (k _ _ _ _ s1 (.bl _) (by simpa using q))
theorem le_not (h:LE X (qNotV ta) σ H Q'):tNotV (LE X ta) σ H Q':=by
 obtain ⟨W,ρ,Q,px,q,k⟩:=h
 refine⟨W,ρ,_,px,q,?_⟩
 rintro v H1 x g s1 r ⟨c,rfl,q⟩
 cases r
 exact⟨c,rfl,k _ _ _ _ s1 (.bl _) q⟩
noncomputable def qNil:PTA:=fun _ Q=>Q []
noncomputable def qCons (te:PTE) (tr:PTA):PTA:=fun ρ Q=>te ρ fun x g=>tr ρ fun xs=>Q ((x,g) :: xs)
variable {Qa : List V → Hp → Prop} {tr : PTA}
theorem la_nil (h:LA X qNil σ H Qa):tNil σ H Qa:=by
 obtain ⟨W,ρ,Q,px,q,k⟩:=h
 exact k _ _ _ (Same.refl _) .nil q
theorem la_cons (h:LA X (qCons ta tr) σ H Qa):tCons (LE X ta) (LA X tr) σ H Qa:=by
 obtain ⟨W,ρ,Q,px,q,k⟩:=h
 refine⟨W,ρ,_,px,q,fun v H1 x g s1 r1 q1=>⟨W,ρ,_,px.mono s1,q1,fun vs H2 xs s2 r2 q2=>?_⟩⟩
 exact k _ _ _ (s1.trans s2) (.cons (r1.same s2 fun _ z=>z) (r2.same (Same.refl _) s1)) q2
noncomputable def qTupF (t:PTA):PTE:=fun ρ Q=>t ρ fun xs=>xs.length<=1000/\flats (xs.map (·.1))=true/\Q (.tup (xs.map (·.1))) .fr
noncomputable def qLst (t:PTA):PTE:=fun ρ Q=>t ρ fun xs=>xs.length<=1000/\flats (xs.map (·.1))=true/\Q (.lst (xs.map (·.1))) .fr
theorem RepTs.length {K:PySem.W.Frag}{H0:Hp}{W:Addr->Prop}{Hs H:Hp}:∀ {vs:List V}{xs:List (PV × Tg)},RepTs K H0 W Hs H vs xs->vs.length=xs.length
 | _,_,.nil=>rfl
 | _,_,.cons _ t=>congrArg (· + 1) t.length
theorem le1000 {n:Nat} (h:n<=1000):n<=sizeLine:=Nat.le_of_lt (small1000 h)
theorem le_tupF (h:LE X (qTupF tr) σ H Q'):tTup (LA X tr) σ H Q':=by
 obtain ⟨W,ρ,Q,px,q,k⟩:=h
 refine⟨W,ρ,_,px,q,?_⟩
 rintro vs H1 xs s1 r ⟨hl,n,q⟩
 refine⟨by rw [r.length]; exact le1000 hl,fun p hp=>k _ _ _ .fr (s1.trans (same_new hp _)) (.tup upd_same ?_) q⟩
 exact (r.any.flat n).same (same_new hp _) fun _ z=>z
theorem le_lst (h:LE X (qLst tr) σ H Q'):tLst (LA X tr) σ H Q':=by
 obtain ⟨W,ρ,Q,px,q,k⟩:=h
 refine⟨W,ρ,_,px,q,?_⟩
 rintro vs H1 xs s1 r ⟨hl,n,q⟩
 refine⟨by rw [r.length]; exact le1000 hl,fun p hp=>k _ _ _ .fr (s1.trans (same_new hp _)) (.lst (s1.free hp) upd_same ?_) q⟩
 exact (r.any.flat n).same (same_new hp _) fun _ z=>z
noncomputable def CovC (X:Cx) (R:List PV->(PV->Prop)->Prop) (r:List V->Hp->VK->Prop):Prop:=∀ (H:Hp) (vs:List V) (xs:List PV) (Q:PV->Prop) (Q':VK),Reps X.K (fun _=>True) H vs xs->R xs Q->
 (∀ w H' z,Same H H'->Rep X.K (fun a=>H a=none) H' w z->Q z->Q' w H')->r vs H Q'
noncomputable def qCall (R:List PV->(PV->Prop)->Prop) (t:PTA):PTE:=fun ρ Q=>t ρ fun xs=>R (xs.map (·.1)) fun z=>Q z .fr
theorem le_call {R:List PV->(PV->Prop)->Prop}{r:List V->Hp->VK->Prop} (c:CovC X R r) (h:LE X (qCall R tr) σ H Q'):tCB r (LA X tr) σ H Q':=by
 obtain ⟨W,ρ,Q,px,q,k⟩:=h
 refine⟨W,ρ,_,px,q,fun vs H1 xs s1 r1 q1=>c H1 vs _ _ Q' r1.any q1 fun w H' z s2 r2 q2=>k w H' z .fr (s1.trans s2) (r2.same (Same.refl _) fun _ z=>s1.free z) q2⟩
end
end PP
namespace PP
open PySem L2
structure PEnds where
 nx:PEnv->Prop
 rt:PV->Prop
 bk:PEnv->Prop:=fun _=>False
 ct:PEnv->Prop:=fun _=>False
noncomputable abbrev PTS:=PEnds->PEnv->Prop
noncomputable def Ev (W:Addr->Prop) (H:Hp) (W':Addr->Prop) (H':Hp):Prop:=∀ b o,H b=some o->¬ W b->H' b=some o/\¬ W' b
theorem Ev.trans {W W1 W2:Addr->Prop}{H H1 H2:Hp} (a:Ev W H W1 H1) (b:Ev W1 H1 W2 H2):Ev W H W2 H2:=fun c o h n=>let ⟨h1,n1⟩:=a c o h n; b c o h1 n1
theorem Ev.same {W:Addr->Prop}{H H':Hp} (s:Same H H'):Ev W H W H':=fun c o h n=>⟨s _ _ h,n⟩
theorem Ev.refl (W:Addr->Prop) (H:Hp):Ev W H W H:=Ev.same (Same.refl _)
structure EOk (X:Cx) (W:Addr->Prop) (H:Hp) (D':PEnds) (D:Ends):Prop where
 nx:∀ W' σ' H' ρ',Ev W H W' H'->PX X.K X.H₀ W' σ' ρ' H'->D'.nx ρ'->D.nx σ' H'
 rt:∀ v H' x,Same X.H₀ H'->Rep X.K (fun a=>X.H₀ a=none) H' v x->D'.rt x->D.rt v H'
 bk:∀ W' σ' H' ρ',Ev W H W' H'->PX X.K X.H₀ W' σ' ρ' H'->D'.bk ρ'->D.bk σ' H'
 ct:∀ W' σ' H' ρ',Ev W H W' H'->PX X.K X.H₀ W' σ' ρ' H'->D'.ct ρ'->D.ct σ' H'
theorem EOk.step {X:Cx}{W W1:Addr->Prop}{H H1:Hp}{D':PEnds}{D:Ends} (k:EOk X W H D' D) (e:Ev W H W1 H1):EOk X W1 H1 D' D:=
 ⟨fun W' σ' H' ρ' e'=>k.nx W' σ' H' ρ' (e.trans e'),k.rt,fun W' σ' H' ρ' e'=>k.bk W' σ' H' ρ' (e.trans e'),fun W' σ' H' ρ' e'=>k.ct W' σ' H' ρ' (e.trans e')⟩
noncomputable def LS (X:Cx) (t:PTS):TS:=fun D σ H=>∃ (W:Addr->Prop) (ρ:PEnv) (D':PEnds),PX X.K X.H₀ W σ ρ H/\t D' ρ/\EOk X W H D' D
theorem get_set {α:Type}{l:List α}{i j:Nat}{a b:α} (h:(l.set i a)[j]? = some b):(j=i/\i < l.length/\b=a) ∨ (j ≠ i/\l[j]? = some b):=by
 by_cases e:j=i
 ·subst e
  have hl:j < (l.set j a).length:=(List.getElem?_eq_some_iff.mp h).1
  rw [List.length_set] at hl
  rw [List.getElem?_set_self hl] at h
  exact .inl ⟨rfl,hl,(Option.some.inj h).symm⟩
 ·rw [List.getElem?_set_ne (Ne.symm e)] at h
  exact .inr ⟨e,h⟩
section
variable {K : PySem.W.Frag} {H0 : Hp} {W W' : Addr → Prop} {σ : St} {ρ : PEnv} {H H' Hs : Hp}
theorem PX.setSh {i:Nat}{v:V}{g:Bool}{x:PV} (p:PX K H0 W σ ρ H) (r:Rep K (Ms H0 W g) H v x):PX K H0 W (σ.set i (some v)) (ρ.set i (some (.sh g x))) H:=by
 refine⟨by rw [List.length_set,List.length_set]; exact p.len,p.same,p.wm,fun j m h=>?_,fun j k y z a h1 h2 h3 h4=>?_⟩
 ·rcases get_set h with ⟨rfl,hl,e⟩ | ⟨hne,h⟩
  ·cases e
   rw [p.len] at hl
   exact⟨v,List.getElem?_set_self hl,r⟩
  ·obtain ⟨u,e,q⟩:=p.sl j m h
   exact⟨u,by rw [List.getElem?_set_ne (Ne.symm hne)]; exact e,q⟩
 ·rcases get_set h1 with ⟨_,_,e⟩ | ⟨n1,h1⟩
  ·cases e
  ·rcases get_set h2 with ⟨_,_,e⟩ | ⟨n2,h2⟩
   ·cases e
   ·rw [List.getElem?_set_ne (Ne.symm n1)] at h3
    rw [List.getElem?_set_ne (Ne.symm n2)] at h4
    exact p.dis j k y z a h1 h2 h3 h4
noncomputable def orA (W:Addr->Prop) (a:Addr):Addr->Prop:=fun b=>W b ∨ b=a
theorem ms_or {g:Bool}{a b:Addr} (n:b ≠ a) (h:Ms H0 W g b):Ms H0 (orA W a) g b:=by
 cases g with
 | true=>exact⟨fun z=>z.elim h.1 n,h.2⟩
 | false=>exact fun z=>z.elim h n
theorem PX.setOwn {i:Nat}{a:Addr}{x:PV} (p:PX K H0 W σ ρ Hs) (s:Same Hs H) (ha:Hs a=none) (r:OwnR K (Ms H0 (orA W a) true) H a x):PX K H0 (orA W a) (σ.set i (some (.ref a))) (ρ.set i (some (.own x))) H:=by
 have old:∀ b o,Hs b=some o->b ≠ a:=fun b o e z=>by rw [z,ha] at e; cases e
 have kp:∀ g,Keep (Ms H0 W g) (Ms H0 (orA W a) g) Hs H:=fun g=>⟨fun b _ m e=>⟨ms_or (old _ _ e) m,s _ _ e⟩,fun b _ m e=>⟨ms_or (old _ _ e) m,s _ _ e⟩,fun b _ m e=>⟨ms_or (old _ _ e) m,s _ _ e⟩,fun _ _ e=>s _ _ e,fun _ _ _ e=>s _ _ e⟩
 have wa : ¬ W a:=(p.new ha).1
 refine⟨by rw [List.length_set,List.length_set]; exact p.len,p.same.trans s,fun b z=>?_,fun j m h=>?_,fun j k y z b h1 h2 h3 h4=>?_⟩
 ·rcases z with z | rfl
  ·obtain ⟨h1,o,h2,h3⟩:=p.wm b z
   exact⟨h1,o,s _ _ h2,h3⟩
  ·exact⟨(p.new ha).2,r.at⟩
 ·rcases get_set h with ⟨rfl,hl,e⟩ | ⟨hne,h⟩
  ·cases e
   rw [p.len] at hl
   exact⟨_,List.getElem?_set_self hl,a,rfl,.inr rfl,r⟩
  ·obtain ⟨u,e,q⟩:=p.sl j m h
   refine⟨u,by rw [List.getElem?_set_ne (Ne.symm hne)]; exact e,?_⟩
   cases m with
   | sh g y=>exact Rep.keep (kp g) q
   | own y=>
    obtain ⟨b,e1,e2,q⟩:=q
    exact⟨b,e1,.inl e2,q.keep (kp true) fun o z=>s _ _ z⟩
 ·have ne:∀ {j:Nat}{y:PV},ρ[j]? = some (some (.own y))->σ[j]? ≠ some (some (.ref a)):=fun {j y} h1 h2=>by
   obtain ⟨u,e,c,e1,e2,_⟩:=p.sl j _ h1
   rw [h2] at e
   cases e
   cases e1
   exact wa e2
  rcases get_set h1 with ⟨e1,l1,_⟩ | ⟨n1,h1⟩
  ·rcases get_set h2 with ⟨e2,_,_⟩ | ⟨n2,h2⟩
   ·rw [e1,e2]
   ·rw [e1,List.getElem?_set_self (by rw [<- p.len]; exact l1)] at h3
    rw [List.getElem?_set_ne (Ne.symm n2)] at h4
    cases h3
    exact absurd h4 (ne h2)
  ·rw [List.getElem?_set_ne (Ne.symm n1)] at h3
   rcases get_set h2 with ⟨e2,l2,_⟩ | ⟨n2,h2⟩
   ·rw [e2,List.getElem?_set_self (by rw [<- p.len]; exact l2)] at h4
    cases h4
    exact absurd h3 (ne h1)
   ·rw [List.getElem?_set_ne (Ne.symm n2)] at h4
    exact p.dis j k y z b h1 h2 h3 h4
theorem Ev.own {a:Addr} (s:Same Hs H) (ha:Hs a=none):Ev W Hs (orA W a) H:=fun b o e n=>⟨s _ _ e,fun z=>z.elim n fun z=>by rw [z,ha] at e; cases e⟩
theorem ms_ne {g:Bool}{a b:Addr} (wa:W a) (h:Ms H0 W g b):b ≠ a:=by
 cases g with
 | true=>exact fun z=>h.1 (by rw [z]; exact wa)
 | false=>exact fun z=>h (by rw [z]; exact wa)
theorem PX.updOwn {i:Nat}{a:Addr}{x y:PV}{o:HO} (p:PX K H0 W σ ρ H) (hi:ρ[i]? = some (some (.own x))) (ha:σ[i]? = some (some (.ref a))) (wa:W a) (mu:mutO o=true) (r:OwnR K (Ms H0 W true) (upd H a o) a y) :
  PX K H0 W σ (ρ.set i (some (.own y))) (upd H a o):=by
 obtain ⟨w0,o',e',mu'⟩:=p.wm a wa
 have kp:∀ g,Keep (Ms H0 W g) (Ms H0 W g) H (upd H a o):=fun g=>.upd e' mu' fun b m=>⟨ms_ne wa m,m⟩
 refine⟨by rw [List.length_set]; exact p.len,fun b u e=>by rw [upd_ne (fun z=>by rw [z,w0] at e; cases e)]; exact p.same _ _ e,fun b z=>?_,fun j m h=>?_,fun j k y' z b h1 h2 h3 h4=>?_⟩
 ·by_cases e:b=a
  ·subst e; exact⟨w0,o,upd_same,mu⟩
  ·obtain ⟨h1,o2,h2,h3⟩:=p.wm b z
   exact⟨h1,o2,by rw [upd_ne e]; exact h2,h3⟩
 ·rcases get_set h with ⟨rfl,hl,e⟩ | ⟨hne,h⟩
  ·cases e
   exact⟨_,ha,a,rfl,wa,r⟩
  ·obtain ⟨u,e,q⟩:=p.sl j m h
   refine⟨u,e,?_⟩
   cases m with
   | sh g y=>exact Rep.keep (kp g) q
   | own y=>
    obtain ⟨b,e1,e2,q⟩:=q
    have hb:b ≠ a:=fun z=>by
     subst e1
     rw [z] at e
     exact hne (p.dis j i _ _ a h hi e ha)
    exact⟨b,e1,e2,q.keep (kp true) fun o z=>by rw [upd_ne hb]; exact z⟩
 ·have g1:∃ y,ρ[j]? = some (some (.own y)):=by
   rcases get_set h1 with ⟨e,_,_⟩ | ⟨_,h⟩
   ·exact⟨x,by rw [e]; exact hi⟩
   ·exact⟨_,h⟩
  have g2:∃ y,ρ[k]? = some (some (.own y)):=by
   rcases get_set h2 with ⟨e,_,_⟩ | ⟨_,h⟩
   ·exact⟨x,by rw [e]; exact hi⟩
   ·exact⟨_,h⟩
  obtain ⟨y1,g1⟩:=g1
  obtain ⟨y2,g2⟩:=g2
  exact p.dis j k y1 y2 b g1 g2 h3 h4
theorem Ev.upd {a:Addr}{o:HO} (wa:W a):Ev W H W (upd H a o):=fun b u e n=>⟨by rw [upd_ne (fun z=>n (by rw [z]; exact wa))]; exact e,n⟩
noncomputable def offA (W:Addr->Prop) (a:Addr):Addr->Prop:=fun b=>W b/\b ≠ a
theorem ms_off {g:Bool}{a b:Addr} (h:Ms H0 W g b):Ms H0 (offA W a) g b:=by
 cases g with
 | true=>exact⟨fun z=>h.1 z.1,h.2⟩
 | false=>exact fun z=>h z.1
theorem PX.freeze {i:Nat}{a:Addr}{x:PV} (p:PX K H0 W σ ρ H) (hi:ρ[i]? = some (some (.own x))) (ha:σ[i]? = some (some (.ref a))):PX K H0 (offA W a) σ (ρ.set i (some (.sh true x))) H:=by
 obtain ⟨v,ev,a',e1,wa,r⟩:=p.sl i _ hi
 rw [ha] at ev
 cases ev
 cases e1
 refine⟨by rw [List.length_set]; exact p.len,p.same,fun b z=>p.wm b z.1,fun j m h=>?_,fun j k y' z b h1 h2 h3 h4=>?_⟩
 ·rcases get_set h with ⟨rfl,hl,e⟩ | ⟨hne,h⟩
  ·cases e
   exact⟨_,ha,r.rep (M':=Ms H0 (offA W a) true) (fun b m=>ms_off (g:=true) m) (show Ms H0 (offA W a) true a from ⟨fun z=>z.2 rfl,(p.wm a wa).1⟩)⟩
  ·obtain ⟨u,e,q⟩:=p.sl j m h
   refine⟨u,e,?_⟩
   cases m with
   | sh g y=>exact Rep.same q (Same.refl _) fun _ m=>ms_off m
   | own y=>
    obtain ⟨b,e1,e2,q⟩:=q
    have hb:b ≠ a:=fun z=>by
     subst e1
     rw [z] at e
     exact hne (p.dis j i _ _ a h hi e ha)
    exact⟨b,e1,⟨e2,hb⟩,q.keep (.same (Same.refl _) fun _ m=>ms_off m) fun _ z=>z⟩
 ·rcases get_set h1 with ⟨_,_,e⟩ | ⟨_,h1⟩
  ·cases e
  ·rcases get_set h2 with ⟨_,_,e⟩ | ⟨_,h2⟩
   ·cases e
   ·exact p.dis j k _ _ b h1 h2 h3 h4
theorem Ev.off {a:Addr}:Ev W H (offA W a) H:=fun b u e n=>⟨e,fun z=>n z.1⟩
end
section
variable {X : Cx} {σ : St} {H : Hp} {D : Ends} {te : PTE} {t u : PTS}
noncomputable def qNext:PTS:=fun D ρ=>D.nx ρ
noncomputable def qSeq (t u:PTS):PTS:=fun D ρ=>t { D with nx:=u D } ρ
theorem ls_next (h:LS X qNext D σ H):tNext D σ H:=by
 obtain ⟨W,ρ,D',px,q,k⟩:=h
 exact k.nx W σ H ρ (Ev.refl _ _) px q
theorem ls_seq (h:LS X (qSeq t u) D σ H):tSeq (LS X t) (LS X u) D σ H:=by
 obtain ⟨W,ρ,D',px,q,k⟩:=h
 exact⟨W,ρ,_,px,q,fun W' σ' H' ρ' e px' q'=>⟨W',ρ',D',px',q',k.step e⟩,k.rt,k.bk,k.ct⟩
noncomputable def stG:Tg->PV->Bool
 | .fr,_=>true
 | .nw,_=>true
 | _,x=>flat x
noncomputable def Sto:Tg->PV->Prop
 | .rd,x=>flat x=true
 | _,_=>True
theorem sto_rep {K:PySem.W.Frag}{H0 Hs H:Hp}{W:Addr->Prop}{σ:St}{ρ:PEnv}{g:Tg}{x:PV}{v:V} (px:PX K H0 W σ ρ Hs) (n:Sto g x) (r:Rep K (Mg H0 W Hs g) H v x):Rep K (Ms H0 W (stG g x)) H v x:=by
 cases g with
 | fr=>exact Nw.rep (g:=.fr) px trivial r
 | nw=>exact Nw.rep (g:=.nw) px trivial r
 | sh=>
  show Rep K (Ms H0 W (flat x)) H v x
  cases e:flat x with
  | true=>exact r.flat e
  | false=>exact r.same (Same.refl _) fun _ z=>z
 | rd=>exact r.flat n
noncomputable def qSet (i:Nat) (te:PTE):PTS:=fun D ρ=>te ρ fun x g=>Sto g x/\D.nx (ρ.set i (some (.sh (stG g x) x)))
theorem ls_set {i:Nat} (h:LS X (qSet i te) D σ H):tAsg (LE X te) (gName i) D σ H:=by
 obtain ⟨W,ρ,D',px,q,k⟩:=h
 refine⟨W,ρ,_,px,q,?_⟩
 rintro v H1 x g s r ⟨n,q⟩
 exact k.nx W _ H1 _ (Ev.same s) ((px.mono s).setSh (sto_rep px n r)) q
noncomputable def ownable:PV->Bool
 | .lst xs=>flats xs
 | .dK ps=>flats (ps.map (·.2))
 | .dT ps=>flats (ps.map (·.2))
 | _=>false
theorem own_rep {K:PySem.W.Frag}{M:Addr->Prop}{H:Hp}{v:V}{x:PV} (r:Rep K M H v x) (o:ownable x=true):∃ a,v = .ref a/\M a/\∀ M',OwnR K M' H a x:=by
 cases r with
 | lst m e r=>exact⟨_,rfl,m,fun _=>⟨_,e,r.flat o⟩⟩
 | dK m e q r=>exact⟨_,rfl,m,fun _=>⟨_,e,q,r.flat o⟩⟩
 | dT m e q r=>exact⟨_,rfl,m,fun _=>⟨_,e,q,r.flat o⟩⟩
 | _=>cases o
noncomputable def qOwn (i:Nat) (te:PTE):PTS:=fun D ρ=>te ρ fun x g=>g = .fr/\ownable x=true/\D.nx (ρ.set i (some (.own x)))
theorem ls_own {i:Nat} (h:LS X (qOwn i te) D σ H):tAsg (LE X te) (gName i) D σ H:=by
 obtain ⟨W,ρ,D',px,q,k⟩:=h
 refine⟨W,ρ,_,px,q,?_⟩
 rintro v H1 x g s r ⟨rfl,o,q⟩
 obtain ⟨a,rfl,m,w⟩:=own_rep r o
 exact k.nx _ _ H1 _ (Ev.own s m) (px.setOwn s m (w _)) q
noncomputable def qFrz (i:Nat) (t:PTS):PTS:=fun D ρ=>∃ x,ρ[i]? = some (some (.own x))/\t D (ρ.set i (some (.sh true x)))
theorem ls_frz {i:Nat} (h:LS X (qFrz i t) D σ H):LS X t D σ H:=by
 obtain ⟨W,ρ,D',px,⟨x,hi,q⟩,k⟩:=h
 obtain ⟨v,ev,a,rfl,wa,r⟩:=px.sl i _ hi
 exact⟨_,_,D',px.freeze hi ev,q,k.step Ev.off⟩
noncomputable def qRet (te:PTE):PTS:=fun D ρ=>te ρ fun x g=>Nw g x/\D.rt x
theorem ls_ret (h:LS X (qRet te) D σ H):tRet (LE X te) D σ H:=by
 obtain ⟨W,ρ,D',px,q,k⟩:=h
 refine⟨W,ρ,_,px,q,?_⟩
 rintro v H1 x g s r ⟨n,q⟩
 exact k.rt v H1 x (px.same.trans s) ((Nw.rep px n r).same (Same.refl _) fun _ z=>z.2) q
noncomputable def Slot.nw:Slot->Prop
 | .own _=>True
 | .sh true _=>True
 | .sh false x=>flat x=true
noncomputable def qRetV (i:Nat):PTS:=fun D ρ=>∃ m,ρ[i]? = some (some m)/\m.nw/\D.rt m.val
theorem ls_retV {i:Nat} (h:LS X (qRetV i) D σ H):tRet (tVar i) D σ H:=by
 obtain ⟨W,ρ,D',px,⟨m,hi,n,q⟩,k⟩:=h
 obtain ⟨v,ev,r⟩:=px.sl i _ hi
 refine⟨v,ev,k.rt v H _ px.same ?_ q⟩
 cases m with
 | own x=>
  obtain ⟨a,rfl,wa,r⟩:=r
  exact r.rep (fun _ z=>z.2) (px.wm a wa).1
 | sh g x=>
  cases g with
  | true=>exact Rep.same r (Same.refl _) fun _ z=>z.2
  | false=>exact Rep.flat n r
noncomputable def qIf (c:PTT) (t u:PTS):PTS:=fun D ρ=>c ρ fun b=>if b=true then t D ρ else u D ρ
theorem ls_if {c:PTT} (h:LS X (qIf c t u) D σ H):tIfS (LT X c) (LS X t) (LS X u) D σ H:=by
 obtain ⟨W,ρ,D',px,q,k⟩:=h
 refine⟨W,ρ,_,px,q,fun b H1 s q1=>?_⟩
 cases b with
 | true=>exact iteT ⟨W,ρ,D',px.mono s,by simpa using q1,k.step (Ev.same s)⟩
 | false=>exact iteF ⟨W,ρ,D',px.mono s,by simpa using q1,k.step (Ev.same s)⟩
noncomputable def qWhile (c:PTT) (tb:PTS):PTS:=fun D ρ=>∃ I:Nat->PEnv->Prop,(∃ m,I m ρ)/\∀ m ρ',I m ρ'->c ρ' fun b=>if b=true then tb { D with nx:=fun ρ2=>∃ m',m' < m/\I m' ρ2,ct:=fun ρ2=>∃ m',m' < m/\I m' ρ2,bk:=D.nx } ρ' else D.nx ρ'
theorem ls_while {c:PTT}{tb:PTS} (h:LS X (qWhile c tb) D σ H):tWhile (LT X c) (LS X tb) D σ H:=by
 obtain ⟨W,ρ,D',px,⟨I,⟨m0,i0⟩,turn⟩,k⟩:=h
 refine⟨fun m σ2 H2=>∃ W2 ρ2,PX X.K X.H₀ W2 σ2 ρ2 H2/\Ev W H W2 H2/\I m ρ2,⟨m0,W,ρ,px,Ev.refl _ _,i0⟩,?_⟩
 rintro m σ2 H2 ⟨W2,ρ2,px2,e2,i2⟩
 refine⟨W2,ρ2,_,px2,turn m ρ2 i2,fun b H3 s3 q3=>?_⟩
 cases b with
 | true=>
  refine iteT ⟨fun σ4 H4=>∃ W4 ρ4,PX X.K X.H₀ W4 σ4 ρ4 H4/\Ev W H W4 H4/\∃ m',m' < m/\I m' ρ4,fun σ4 H4 ⟨W4,ρ4,a,b,m',c,d⟩=>⟨m',c,W4,ρ4,a,b,d⟩,W2,ρ2,_,px2.mono s3,by simpa using q3,?_⟩
  have e3:Ev W H W2 H3:=e2.trans (Ev.same s3)
  exact⟨fun W' σ' H' ρ' e p q=>⟨W',ρ',p,e3.trans e,q⟩,k.rt,fun W' σ' H' ρ' e p q=>k.nx W' σ' H' ρ' (e3.trans e) p q,fun W' σ' H' ρ' e p q=>⟨W',ρ',p,e3.trans e,q⟩⟩
 | false=>exact iteF (k.nx W2 σ2 H3 ρ2 (e2.trans (Ev.same s3)) (px2.mono s3) (by simpa using q3))
end
end PP
namespace PP
open PySem L2
theorem lim {n:Nat} (h:n<=16000000):n<=sizeLine:=Nat.le_of_lt (bigEnough h)
theorem Rep.sqT {K:PySem.W.Frag}{M:Addr->Prop}{H:Hp}{v:V}{xs:List PV} (r:Rep K M H v (.tup xs)):∃ a us,v = .ref a/\H a=some (.tup us)/\Reps K M H us xs:=by
 cases r with
 | tup e r=>exact⟨_,_,rfl,e,r⟩
theorem Rep.sqL {K:PySem.W.Frag}{M:Addr->Prop}{H:Hp}{v:V}{xs:List PV} (r:Rep K M H v (.lst xs)):∃ a us,v = .ref a/\M a/\H a=some (.lst us)/\Reps K M H us xs:=by
 cases r with
 | lst m e r=>exact⟨_,_,rfl,m,e,r⟩
theorem Scr.sqL {K:PySem.W.Frag}{H:Hp}{a:Addr}{ns:List Int} (h:Scr K H a ns):SqL K H a (ns.map V.int):=h.elim (fun z=>.inl (.inr z)) .inr
noncomputable def seqOf:PV->Option (List PV)
 | .tup xs=>some xs
 | .lst xs=>some xs
 | .scr ns=>some (intz ns)
 | .kt xs=>some xs
 | _=>none
theorem Rep.seq {K:PySem.W.Frag}{M:Addr->Prop}{H:Hp}{v:V}{x:PV}{xs:List PV} (r:Rep K M H v x) (e:seqOf x=some xs):∃ a us,v = .ref a/\(SqL K H a us ∨ SqT K H a us)/\Reps K M H us xs:=by
 cases r with
 | tup h r=>cases e; exact⟨_,_,rfl,.inr (SqT.of h),r⟩
 | lst m h r=>cases e; exact⟨_,_,rfl,.inl (SqL.of h),r⟩
 | scr h=>cases e; exact⟨_,_,rfl,.inl h.sqL,Reps.intz _⟩
 | kt h r=>cases e; exact⟨_,_,rfl,.inr (.inr h),r⟩
 | _=>cases e
section
variable {X : Cx} {σ : St} {H : Hp} {D : Ends} {te ti to : PTE} {t u : PTS} {Q' : VK}
theorem _root_.PP.PX.updL {K:PySem.W.Frag}{H0:Hp}{W:Addr->Prop}{σ:St}{ρ:PEnv}{H:Hp}{i:Nat}{a:Addr}{x:PV}{us:List V}{ys:List PV} (p:PX K H0 W σ ρ H) (hi:ρ[i]? = some (some (.own x))) (ha:σ[i]? = some (some (.ref a))) (wa:W a) (r:Reps K (Ms H0 W true) (upd H a (.lst us)) us ys) :
  PX K H0 W σ (ρ.set i (some (.own (.lst ys)))) (upd H a (.lst us)):=p.updOwn hi ha wa rfl (y:=.lst ys) ⟨us,upd_same,r⟩
noncomputable def qApp (i:Nat) (te:PTE):PTS:=fun D ρ=>∃ xs,ρ[i]? = some (some (.own (.lst xs)))/\te ρ fun x g=>Nw g x/\xs.length < 16000000/\D.nx (ρ.set i (some (.own (.lst (xs ++ [x])))))
theorem ls_app {i:Nat} (h:LS X (qApp i te) D σ H):tDrop (tBM X.K "list" rAppend (tVar i) (tCons (LE X te) tNil)) D σ H:=by
 obtain ⟨W,ρ,D',px,⟨xs,hi,q⟩,k⟩:=h
 obtain ⟨v,ev,a,rfl,wa,us,ea,r⟩:=px.sl i _ hi
 refine⟨_,ev,tyL (SqL.of ea),W,ρ,_,px,q,?_⟩
 rintro w H1 x g s rx ⟨n,hl,q⟩
 have ea1:=s _ _ ea
 refine⟨a,us,w,rfl,rfl,ea1,bigEnough (by rw [r.length]; (first|lia|omega)),?_⟩
 refine k.nx W σ _ _ ((Ev.same s).trans (Ev.upd wa)) ((px.mono s).updL hi ev wa ?_) q
 exact ((r.same s fun _ z=>z).append (.cons (Nw.rep px n rx) .nil)).keep (.upd ea1 rfl fun b m=>⟨ms_ne wa m,m⟩)
noncomputable def qLPut (i:Nat) (tk te:PTE):PTS:=fun D ρ=>te ρ fun x g=>∃ xs,ρ[i]? = some (some (.own (.lst xs)))/\tk ρ fun y _=>∃ n j,y = .int n/\ixN xs.length n=some j/\Nw g x/\D.nx (ρ.set i (some (.own (.lst (xs.set j x)))))
theorem ls_lput {i:Nat}{tk:PTE} (h:LS X (qLPut i tk te) D σ H):tAsg (LE X te) (gSub (tVar i) (LE X tk) rSetL) D σ H:=by
 obtain ⟨W,ρ,D',px,q,k⟩:=h
 refine⟨W,ρ,_,px,q,?_⟩
 rintro w H1 x g s rx ⟨xs,hi,q1⟩
 obtain ⟨v,ev,a,rfl,wa,us,ea,r⟩:=(px.mono s).sl i _ hi
 refine⟨_,ev,W,ρ,_,px.mono s,q1,?_⟩
 rintro kv H2 y gy s2 ry ⟨n,j,rfl,hj,nw,q2⟩
 cases ry
 have ea2:=s2 _ _ ea
 refine⟨a,us,n,j,rfl,rfl,ea2,by rw [r.length]; exact hj,?_⟩
 refine k.nx W σ _ _ ((Ev.same (s.trans s2)).trans (Ev.upd wa)) ((px.mono (s.trans s2)).updL hi ev wa ?_) q2
 exact (Reps.set ((Nw.rep px nw rx).same s2 fun _ z=>z) j (r.same s2 fun _ z=>z)).keep (.upd ea2 rfl fun b m=>⟨ms_ne wa m,m⟩)
end
end PP
namespace PP
open PySem L2
theorem Reps.atI {K:PySem.W.Frag}{M:Addr->Prop}{H:Hp}{us:List V}{xs:List PV}{i:Int}{z:PV} (r:Reps K M H us xs) (h:L2.atI xs i=some z):∃ v,L2.atI us i=some v/\Rep K M H v z:=by
 unfold L2.atI at h ⊢
 rw [r.length]
 cases e:ixN xs.length i with
 | none=>rw [e] at h; cases h
 | some j=>rw [e] at h; exact r.at h
section
variable {X : Cx} {σ : St} {H : Hp} {Q' : VK} {ta tb te : PTE} {tr : PTA}
noncomputable def RIx:PV->Tg->PV->Tg->PK->Prop:=fun x g y _ Q=>∃ xs i z,seqOf x=some xs/\y = .int i/\L2.atI xs i=some z/\Q z g
theorem cov_ix:Cov2 X RIx (rIx X.K):=by
 rintro W Hs H u v x y g g' Q Q' s n r1 r2 ⟨xs,i,z,e,rfl,hz,q⟩ k
 cases r2
 obtain ⟨a,us,rfl,hs,r⟩:=r1.seq e
 obtain ⟨v,hv,rv⟩:=r.atI hz
 rcases hs with hs | hs
 ·exact .inl ⟨a,us,i,v,rfl,rfl,hs,hv,k v H z g (Same.refl _) rv q⟩
 ·exact .inr (.inl ⟨a,us,i,v,rfl,rfl,hs,hv,k v H z g (Same.refl _) rv q⟩)
noncomputable def lenOf:PV->Option Nat
 | .tup xs=>some xs.length
 | .lst xs=>some xs.length
 | .scr ns=>some ns.length
 | .dK ps=>some ps.length
 | .kt xs=>some xs.length
 | _=>none
noncomputable def RLen:List PV->(PV->Prop)->Prop:=fun xs Q=>∃ x n,xs = [x]/\lenOf x=some n/\Q (.int n)
theorem Reps.one {K:PySem.W.Frag}{M:Addr->Prop}{H:Hp}{vs:List V}{x:PV} (r:Reps K M H vs [x]):∃ v,vs = [v]/\Rep K M H v x:=by
 cases r with
 | cons r t=>cases t; exact⟨_,rfl,r⟩
theorem Reps.two {K:PySem.W.Frag}{M:Addr->Prop}{H:Hp}{vs:List V}{x y:PV} (r:Reps K M H vs [x,y]):∃ v w,vs = [v,w]/\Rep K M H v x/\Rep K M H w y:=by
 cases r with
 | cons r t=>
  obtain ⟨w,rfl,q⟩:=t.one
  exact⟨_,_,rfl,r,q⟩
theorem cov_len:CovC X RLen (fun xs H Q=>(∃ p ys,xs = [.ref p]/\(SqL X.K H p ys ∨ SqT X.K H p ys)/\Q (.int ys.length) H) ∨ ∃ a kvs,xs = [V.ref a]/\H a=some (.dK kvs)/\Q (.int kvs.length) H):=by
 rintro H vs xs Q Q' r ⟨x,n,rfl,e,q⟩ k
 obtain ⟨v,rfl,r1⟩:=r.one
 have fin:∀ {m:Nat},m=n->Q' (.int m) H:=fun {m} z=>by rw [z]; exact k _ _ _ (Same.refl _) (.int _) q
 cases r1 with
 | tup h r2=>cases e; exact .inl ⟨_,_,rfl,.inr (SqT.of h),fin r2.length⟩
 | lst m h r2=>cases e; exact .inl ⟨_,_,rfl,.inl (SqL.of h),fin r2.length⟩
 | scr h=>cases e; exact .inl ⟨_,_,rfl,.inl h.sqL,fin (by rw [List.length_map])⟩
 | kt h r2=>cases e; exact .inl ⟨_,_,rfl,.inr (.inr h),fin r2.length⟩
 | dK m h e' r=>
  cases e
  refine .inr ⟨_,_,rfl,h,fin ?_⟩
  have:=congrArg List.length e'
  rw [List.length_map,List.length_map] at this
  exact this
 | _=>cases e
noncomputable def seqT:PV->Option (List PV)
 | .kt _=>none
 | x=>seqOf x
noncomputable def RTup:List PV->(PV->Prop)->Prop:=fun xs Q=>∃ x ys,xs = [x]/\seqT x=some ys/\flats ys=true/\Q (.tup ys)
noncomputable def RLst:List PV->(PV->Prop)->Prop:=fun xs Q=>∃ x ys,xs = [x]/\seqOf x=some ys/\flats ys=true/\Q (.lst ys)
theorem cov_tup:CovC X (fun xs Q=>RTup xs Q/\∀ ns,xs ≠ [.scr ns]) (fun xs H Q=>∃ p ys,xs = [.ref p]/\((SqL X.K H p ys/\∀ l,H l=none->Q (.ref l) (upd H l (.tup ys))) ∨ (SqT X.K H p ys/\Q (.ref p) H))):=by
 rintro H vs xs Q Q' r ⟨⟨x,ys,rfl,e,f,q⟩,nsc⟩ k
 obtain ⟨v,rfl,r1⟩:=r.one
 cases r1 with
 | tup h r2=>cases e; exact⟨_,_,rfl,.inr ⟨SqT.of h,k _ _ _ (Same.refl _) (.tup h (r2.flat f)) q⟩⟩
 | lst m h r2=>cases e; exact⟨_,_,rfl,.inl ⟨SqL.of h,fun l hl=>k _ _ _ (same_new hl _) (.tup upd_same ((r2.flat f).same (same_new hl _) fun _ z=>z)) q⟩⟩
 | scr h=>exact absurd rfl (nsc _)
 | _=>cases e
theorem cov_lst:CovC X RLst (fun xs H Q=>∃ p ys,xs = [.ref p]/\(SqL X.K H p ys ∨ SqT X.K H p ys)/\∀ l,H l=none->Q (.ref l) (upd H l (.lst ys))):=by
 rintro H vs xs Q Q' r ⟨x,ys,rfl,e,f,q⟩ k
 obtain ⟨v,rfl,r1⟩:=r.one
 obtain ⟨a,us,rfl,hs,r2⟩:=r1.seq e
 exact⟨_,_,rfl,hs,fun l hl=>k _ _ _ (same_new hl _) (.lst hl upd_same ((r2.flat f).same (same_new hl _) fun _ z=>z)) q⟩
noncomputable def RSortI:List PV->(PV->Prop)->Prop:=fun xs Q=>∃ ns,xs = [.lst (intz ns)]/\ns.length < 64/\∀ ms:List Int,ms.Perm ns->ms.Pairwise (· <= ·)->Q (.lst (intz ms))
theorem cov_sortI:CovC X RSortI (rSortI X.K):=by
 rintro H vs xs Q Q' r ⟨ns,rfl,hl,q⟩ k
 obtain ⟨v,rfl,r1⟩:=r.one
 obtain ⟨a,us,rfl,_,h,r2⟩:=r1.sqL
 obtain rfl:=r2.ofInts
 exact⟨a,ns,rfl,SqL.of h,hl,fun l ms hl' p o=>k _ _ _ (same_new hl' _) (.lst hl' upd_same (Reps.intz ms)) (q ms p o)⟩
noncomputable def RAll:List PV->(PV->Prop)->Prop:=fun xs Q=>∃ bs:List Bool,xs = [.lst (bs.map PV.bl)]/\Q (.bl (bs.all id))
theorem Reps.ofBls {K:PySem.W.Frag}{M:Addr->Prop}{H:Hp}:∀ {ns:List Bool}{us:List V},Reps K M H us (ns.map PV.bl)->us=ns.map V.bl
 | [],_,.nil=>rfl
 | n :: r,_,.cons q t=>by
  cases q
  rw [Reps.ofBls t]; rfl
theorem cov_all:CovC X RAll (fun xs H Q=>∃ (a:Addr) (bs:List Bool),xs = [.ref a]/\SqL X.K H a (bs.map V.bl)/\Q (.bl (bs.all id)) H):=by
 rintro H vs xs Q Q' r ⟨bs,rfl,q⟩ k
 obtain ⟨v,rfl,r1⟩:=r.one
 obtain ⟨a,us,rfl,_,h,r2⟩:=r1.sqL
 obtain rfl:=r2.ofBls
 exact⟨a,bs,rfl,SqL.of h,k _ _ _ (Same.refl _) (.bl _) q⟩
noncomputable def RMin2:List PV->(PV->Prop)->Prop:=fun xs Q=>∃ i j,xs = [.int i,.int j]/\Q (.int (if j < i then j else i))
noncomputable def RMax2:List PV->(PV->Prop)->Prop:=fun xs Q=>∃ i j,xs = [.int i,.int j]/\Q (.int (if j > i then j else i))
theorem cov_min2:CovC X RMin2 (fun xs H Q=>∃ i j,xs = [.int i,.int j]/\Q (.int (if j < i then j else i)) H):=by
 rintro H vs xs Q Q' r ⟨i,j,rfl,q⟩ k
 obtain ⟨v,w,rfl,r1,r2⟩:=r.two
 cases r1; cases r2
 exact⟨i,j,rfl,k _ _ _ (Same.refl _) (.int _) q⟩
theorem cov_max2:CovC X RMax2 (fun xs H Q=>∃ i j,xs = [.int i,.int j]/\Q (.int (if j > i then j else i)) H):=by
 rintro H vs xs Q Q' r ⟨i,j,rfl,q⟩ k
 obtain ⟨v,w,rfl,r1,r2⟩:=r.two
 cases r1; cases r2
 exact⟨i,j,rfl,k _ _ _ (Same.refl _) (.int _) q⟩
noncomputable abbrev PSp:=List PV->(PV->Prop)->Prop
noncomputable def spP (K:PySem.W.Frag) (p:PSp):Sp:=fun vs H Q _=>∃ xs Qp,Reps K (fun _=>True) H vs xs/\p xs Qp/\∀ v H' x,Same H H'->Rep K (fun a=>H a=none) H' v x->Qp x->Q v H'
theorem le_fn {p:PSp}{E:XK} (h:LE X (qCall p tr) σ H Q'):tCall (spP X.K p) [] E (LA X tr) σ H Q':=by
 obtain ⟨W,ρ,Q,px,q,k⟩:=h
 refine⟨W,ρ,_,px,q,fun vs H1 xs s1 r1 q1=>⟨_,_,by rw [List.append_nil]; exact r1.any,q1,fun v H' x s2 r2 q2=>k v H' x .fr (s1.trans s2) (r2.same (Same.refl _) fun _ z=>s1.free z) q2⟩⟩
noncomputable def truOf:PV->Option Bool
 | .non=>some false
 | .bl b=>some b
 | .int i=>some (i != 0)
 | .tup xs=>some (!xs.isEmpty)
 | .lst xs=>some (!xs.isEmpty)
 | .dK ps=>some (!ps.isEmpty)
 | _=>none
noncomputable def qTru (t:PTE):PTT:=fun ρ Q=>t ρ fun x _=>∃ b,truOf x=some b/\Q b
theorem isEmpty_len {α β:Type}:∀ {l:List α}{m:List β},l.length=m.length->l.isEmpty=m.isEmpty
 | [],[],_=>rfl
 | _ :: _,_ :: _,_=>rfl
theorem lt_tru {t:PTE}{Qb:Bool->Hp->Prop} (h:LT X (qTru t) σ H Qb):LE X t σ H fun x H'=>∃ k,TruV X.K x H' k/\Qb k H':=by
 obtain ⟨W,ρ,Q,px,q,k⟩:=h
 refine⟨W,ρ,_,px,q,?_⟩
 rintro v H1 x g s r ⟨b,e,q⟩
 refine⟨b,?_,k _ _ s q⟩
 cases r with
 | non=>cases e; rfl
 | bl b=>cases e; rfl
 | int i=>cases e; rfl
 | str x=>cases e
 | tup h r=>cases e; exact .inr (.inl ⟨_,SqT.of h,by rw [isEmpty_len r.length]⟩)
 | lst m h r=>cases e; exact .inl ⟨_,SqL.of h,by rw [isEmpty_len r.length]⟩
 | dK m h e' r=>
  cases e
  refine .inr (.inr ⟨_,h,?_⟩)
  have:=congrArg List.length e'
  rw [List.length_map,List.length_map] at this
  rw [isEmpty_len this]
 | dT m h e' r=>cases e
 | scr h=>cases e
 | kt h r=>cases e
 | exc h e' c=>cases e
noncomputable def isNon:PV->Bool
 | .non=>true
 | _=>false
noncomputable def RIsN (neg:Bool):PV->Tg->PV->Tg->PK->Prop:=fun x _ y _ Q=>y = .non/\Q (.bl (if neg=true then !isNon x else isNon x)) .fr
theorem isN_eq {K:PySem.W.Frag}{M:Addr->Prop}{H:Hp}{v:V}{x:PV} (r:Rep K M H v x):decide (v = .non)=isNon x:=by
 cases r <;> rfl
theorem cov_isN:Cov2 X (RIsN false) (fun x y H Q=>y = .non/\Q (.bl (decide (x = .non))) H):=by
 rintro W Hs H u v x y g g' Q Q' s n r1 r2 ⟨rfl,q⟩ k
 cases r2
 exact⟨rfl,by rw [isN_eq r1]; exact k _ _ _ _ (Same.refl _) (.bl _) q⟩
theorem cov_notN:Cov2 X (RIsN true) (fun x y H Q=>y = .non/\Q (.bl (!decide (x = .non))) H):=by
 rintro W Hs H u v x y g g' Q Q' s n r1 r2 ⟨rfl,q⟩ k
 cases r2
 exact⟨rfl,by rw [isN_eq r1]; exact k _ _ _ _ (Same.refl _) (.bl _) q⟩
end
structure IterOk (K:PySem.W.Frag) (H0:Hp) (W:Addr->Prop) (g:Bool) (H1:Hp) (J:It) (xs:List PV):Prop where
 go:∀ W' H' i,Ev W H1 W' H'->i < xs.length->J.go i H'
 yld:∀ W' H' i v H2,Ev W H1 W' H'->J.yld i H' v H2->i < xs.length->Same H' H2/\∃ x,xs[i]? = some x/\Rep K (Ms H0 W' g) H2 v x
 stop:∀ W' H',Ev W H1 W' H'->J.stop xs.length H'
noncomputable abbrev PTI:=PEnv->(List PV->Bool->Prop)->Prop
noncomputable def LI (X:Cx) (t:PTI):TI:=fun σ H R=>∃ (W:Addr->Prop) (ρ:PEnv) (Q:List PV->Bool->Prop),PX X.K X.H₀ W σ ρ H/\t ρ Q/\∀ J H1 xs g,Same H H1->IterOk X.K X.H₀ W g H1 J xs->Q xs g->R J H1
theorem Ev.keep {H0:Hp}{W W':Addr->Prop}{H H':Hp}{g:Bool} (e:Ev W H W' H') (tw:∀ a,W a->∃ o,H a=some o/\mutO o=true):Keep (Ms H0 W g) (Ms H0 W' g) H H':=by
 have m:∀ {a:Addr}{o:HO},Ms H0 W g a->H a=some o->Ms H0 W' g a/\H' a=some o:=fun {a o} z h=>by
  cases g with
  | true=>
   obtain ⟨h1,h2⟩:=e a _ h z.1
   exact⟨⟨h2,z.2⟩,h1⟩
  | false=>
   obtain ⟨h1,h2⟩:=e a _ h z
   exact⟨h2,h1⟩
 refine⟨fun a _ z h=>m z h,fun a _ z h=>m z h,fun a _ z h=>m z h,fun a _ h=>(e a _ h fun z=>?_).1,fun a _ _ h=>(e a _ h fun z=>?_).1⟩
 ·obtain ⟨o,h',mu⟩:=tw a z; rw [h] at h'; cases h'; cases mu
 ·obtain ⟨o,h',mu⟩:=tw a z; rw [h] at h'; cases h'; cases mu
section
variable {X : Cx} {σ : St} {H : Hp} {te : PTE} {tr : PTA} {R : It → Hp → Prop}
noncomputable def iSeq (K:PySem.W.Frag) (tl:TE):TI:=fun σ H R=>tl σ H fun x H1=>∃ a,x = .ref a/\((∃ xs,SqL K H1 a xs/\R (Itl K a) H1) ∨ (∃ xs,SqT K H1 a xs/\R (Itt K a) H1))
noncomputable def itG:Tg->List PV->Bool
 | .fr,_=>true
 | .nw,_=>true
 | _,xs=>flats xs
noncomputable def qSeqI (te:PTE):PTI:=fun ρ Q=>te ρ fun x g=>∃ xs,seqOf x=some xs/\(g = .rd->flat x=true)/\Q xs (itG g xs)
theorem iter_lst {K:PySem.W.Frag}{H0:Hp}{W:Addr->Prop}{g:Bool}{H1:Hp}{a:Addr}{us:List V}{xs:List PV} (tw:∀ a,W a->∃ o,H1 a=some o/\mutO o=true) (ha:∀ W' H',Ev W H1 W' H'->SqL K H' a us) (r:Reps K (Ms H0 W g) H1 us xs):IterOk K H0 W g H1 (Itl K a) xs:=by
 have lr:=r.length
 refine⟨fun W' H' i e hi=>⟨us,us[i]'(by (first|lia|omega)),ha W' H' e,by simp⟩,fun W' H' i v H2 e y hi=>?_,fun W' H' e=>⟨us,ha W' H' e,by (first|lia|omega)⟩⟩
 obtain ⟨rfl,y⟩:=y
 obtain ⟨x,hx,rx⟩:=r.get (y us (ha W' _ e))
 exact⟨Same.refl _,x,hx,rx.keep (e.keep tw)⟩
theorem iter_tup {K:PySem.W.Frag}{H0:Hp}{W:Addr->Prop}{g:Bool}{H1:Hp}{a:Addr}{us:List V}{xs:List PV} (tw:∀ a,W a->∃ o,H1 a=some o/\mutO o=true) (ha:∀ W' H',Ev W H1 W' H'->SqT K H' a us) (r:Reps K (Ms H0 W g) H1 us xs):IterOk K H0 W g H1 (Itt K a) xs:=by
 have lr:=r.length
 refine⟨fun W' H' i e hi=>⟨us,us[i]'(by (first|lia|omega)),ha W' H' e,by simp⟩,fun W' H' i v H2 e y hi=>?_,fun W' H' e=>⟨us,ha W' H' e,by (first|lia|omega)⟩⟩
 obtain ⟨rfl,y⟩:=y
 obtain ⟨x,hx,rx⟩:=r.get (y us (ha W' _ e))
 exact⟨Same.refl _,x,hx,rx.keep (e.keep tw)⟩
theorem itg_reps {K:PySem.W.Frag}{H0 Hs H:Hp}{W:Addr->Prop}{σ:St}{ρ:PEnv}{g:Tg}{us:List V}{xs:List PV} (px:PX K H0 W σ ρ Hs) (hg:g = .rd->flats xs=true) (r:Reps K (Mg H0 W Hs g) H us xs):Reps K (Ms H0 W (itG g xs)) H us xs:=by
 cases g with
 | fr=>exact r.same (Same.refl _) fun _ z=>px.new z
 | nw=>exact r.same (Same.refl _) fun _ z=>z
 | sh=>
  show Reps K (Ms H0 W (flats xs)) H us xs
  cases e:flats xs with
  | true=>exact r.flat e
  | false=>exact r.same (Same.refl _) fun _ z=>z
 | rd=>exact r.flat (hg rfl)
theorem li_seq (h:LI X (qSeqI te) σ H R):iSeq X.K (LE X te) σ H R:=by
 obtain ⟨W,ρ,Q,px,q,k⟩:=h
 refine⟨W,ρ,_,px,q,?_⟩
 rintro v H1 x g s r ⟨xs,e,hg,q⟩
 have px1:=px.mono s
 have tw:∀ a,W a->∃ o,H1 a=some o/\mutO o=true:=fun a z=>(px1.wm a z).2
 cases r with
 | tup h r=>
  cases e
  refine⟨_,rfl,.inr ⟨_,SqT.of h,k _ _ _ _ s (iter_tup tw (fun W' H' e=>SqT.of (e _ _ h fun z=>?_).1) (itg_reps px (fun z=>by have:=hg z; unfold flat at this; exact this) r)) q⟩⟩
  obtain ⟨o,h',mu⟩:=tw _ z; rw [h] at h'; cases h'; cases mu
 | @lst a us xs' m h r=>
  cases e
  have wa : ¬ W a:=by
   cases g with
   | fr=>exact (px.new m).1
   | nw=>exact m.1
   | sh=>exact m
   | rd=>have:=hg rfl; unfold flat at this; cases this
  exact⟨_,rfl,.inl ⟨_,SqL.of h,k _ _ _ _ s (iter_lst tw (fun W' H' e=>SqL.of (e _ _ h wa).1) (itg_reps px (fun z=>by have:=hg z; unfold flat at this; cases this) r)) q⟩⟩
 | scr h=>
  cases e
  refine⟨_,rfl,.inl ⟨_,h.sqL,k _ _ _ _ s (iter_lst tw (fun W' H' e=>(Scr.keep (fun a o u hz=>(e _ _ hz fun z=>?_).1) h).sqL) (itg_reps (g:=g) px (fun z=>flats_ints _) (Reps.intz _))) q⟩⟩
  obtain ⟨o,h',mu⟩:=tw _ z; rw [hz] at h'; cases h'; cases mu
 | kt h r=>
  cases e
  exact⟨_,rfl,.inr ⟨_,.inr h,k _ _ _ _ s (iter_tup tw (fun W' H' e=>.inr h) (itg_reps px (fun z=>by have:=hg z; unfold flat at this; exact this) r)) q⟩⟩
 | _=>cases e
noncomputable def rngP (lo:Int) (n:Nat):List PV:=(List.range n).map fun (i:Nat)=>PV.int (lo+(i:Int))
theorem rngP_length (lo:Int) (n:Nat):(rngP lo n).length=n:=by unfold rngP; rw [List.length_map,List.length_range]
theorem rngP_get {lo:Int}{n i:Nat} (h:i < n):(rngP lo n)[i]? = some (.int (lo+i)):=by unfold rngP; rw [List.getElem?_map,List.getElem?_range h]; rfl
noncomputable def qRng1 (te:PTE):PTI:=fun ρ Q=>te ρ fun x _=>∃ j:Int,x = .int j/\-1000000<=j/\j<=1000000/\Q (rngP 0 j.toNat) true
noncomputable def qRng2 (ta tb:PTE):PTI:=fun ρ Q=>ta ρ fun x _=>tb ρ fun y _=>∃ i j:Int,x = .int i/\y = .int j/\(-1000000<=i/\i<=1000000/\-1000000<=j/\j<=1000000)/\Q (rngP i (j - i).toNat) true
theorem iter_rng {K:PySem.W.Frag}{H0:Hp}{W:Addr->Prop}{H1:Hp} (lo:Int) (n:Nat):IterOk K H0 W true H1 (Itr lo n) (rngP lo n):=by
 refine⟨fun W' H' i e hi=>by rw [rngP_length] at hi; exact hi,fun W' H' i v H2 e y hi=>?_,fun W' H' e=>by show n<=(rngP lo n).length; rw [rngP_length]; exact Nat.le_refl _⟩
 rw [rngP_length] at hi
 obtain ⟨rfl,rfl⟩:=y
 exact⟨Same.refl _,_,rngP_get hi,.int _⟩
theorem li_rng1 (h:LI X (qRng1 te) σ H R):iRng1 (tCons (LE X te) tNil) σ H R:=by
 obtain ⟨W,ρ,Q,px,q,k⟩:=h
 refine⟨W,ρ,_,px,q,?_⟩
 rintro v H1 x g s r ⟨j,rfl,h1,h2,q⟩
 cases r
 exact⟨j,rfl,by (first|lia|omega),by (first|lia|omega),k _ _ _ _ s (iter_rng 0 j.toNat) q⟩
theorem li_rng2 {ta tb:PTE} (h:LI X (qRng2 ta tb) σ H R):iRng2 (tCons (LE X ta) (tCons (LE X tb) tNil)) σ H R:=by
 obtain ⟨W,ρ,Q,px,q,k⟩:=h
 refine⟨W,ρ,_,px,q,fun v H1 x g s r q=>⟨W,ρ,_,px.mono s,q,?_⟩⟩
 rintro w H2 y g' s2 r2 ⟨i,j,rfl,rfl,h,q⟩
 cases r; cases r2
 exact⟨i,j,rfl,by (first|lia|omega),k _ _ _ _ (s.trans s2) (iter_rng i (j - i).toNat) q⟩
end
noncomputable abbrev PTG:=PV->Bool->PEnv->(PEnv->Prop)->Prop
noncomputable def TgOk (K:PySem.W.Frag) (own:Nat->Prop) (p:PTG) (t:TG):Prop:=∀ (H0:Hp) (W:Addr->Prop) (σ:St) (ρ:PEnv) (H:Hp) (v:V) (x:PV) (g:Bool) (Q:PEnv->Prop) (Q':St->Hp->Prop),
 PX K H0 W σ ρ H->Rep K (Ms H0 W g) H v x->p x g ρ Q->(∀ σ' ρ',PX K H0 W σ' ρ' H->(∀ i,¬ own i->σ'[i]? = σ[i]?)->σ'.length=σ.length->Q ρ'->Q' σ' H)->t v σ H Q'
noncomputable def pName (i:Nat):PTG:=fun x g ρ Q=>Q (ρ.set i (some (.sh (g || flat x) x)))
theorem or_rep {K:PySem.W.Frag}{H0 H:Hp}{W:Addr->Prop}{v:V}{x:PV}{g:Bool} (r:Rep K (Ms H0 W g) H v x):Rep K (Ms H0 W (g || flat x)) H v x:=by
 cases g with
 | true=>exact r
 | false=>
  show Rep K (Ms H0 W (flat x)) H v x
  cases e:flat x with
  | true=>exact r.flat e
  | false=>exact r
theorem tg_name (K:PySem.W.Frag) (i:Nat):TgOk K (· = i) (pName i) (gName i):=by
 intro H0 W σ ρ H v x g Q Q' px r q k
 exact k _ _ (px.setSh (or_rep r)) (fun j hj=>by rw [List.getElem?_set_ne (Ne.symm hj)]) (List.length_set ..) q
noncomputable def pPair (i j:Nat):PTG:=fun x g ρ Q=>∃ y z,x = .tup [y,z]/\Q ((ρ.set i (some (.sh (g || flat y) y))).set j (some (.sh (g || flat z) z)))
theorem tg_pair (K:PySem.W.Frag) (i j:Nat):TgOk K (fun k=>k=i ∨ k=j) (pPair i j) (gTup K 2 (gCons (gName i) (gCons (gName j) gNil))):=by
 intro H0 W σ ρ H v x g Q Q' px r q k
 obtain ⟨y,z,rfl,q⟩:=q
 obtain ⟨a,us,rfl,h,r⟩:=r.sqT
 obtain ⟨u1,u2,rfl,r1,r2⟩:=r.two
 refine⟨a,_,rfl,SqT.of h,rfl,u1,_,rfl,u2,_,rfl,rfl,k _ _ ((px.setSh (or_rep r1)).setSh (or_rep r2)) (fun k hk=>?_) (by rw [List.length_set,List.length_set]) q⟩
 rw [List.getElem?_set_ne (fun e=>hk (.inr e.symm)),List.getElem?_set_ne (fun e=>hk (.inl e.symm))]
section
variable {X : Cx} {σ : St} {H : Hp} {D : Ends}
noncomputable def qFor (ti:PTI) (p:PTG) (tb:PTS):PTS:=fun D ρ=>ti ρ fun xs g=>∃ I:Nat->PEnv->Prop,I 0 ρ/\(∀ i x ρ',xs[i]? = some x->I i ρ'->p x g ρ' fun ρ2=>tb { D with nx:=I (i+1),ct:=I (i+1),bk:=D.nx } ρ2)/\∀ ρ',I xs.length ρ'->D.nx ρ'
theorem ls_for {ti:PTI}{p:PTG}{g:TG}{tb:PTS}{own:Nat->Prop} (hg:TgOk X.K own p g) (h:LS X (qFor ti p tb) D σ H):tFor (LI X ti) g (LS X tb) D σ H:=by
 obtain ⟨W,ρ,D',px,q,k⟩:=h
 refine⟨W,ρ,_,px,q,?_⟩
 rintro J H1 xs gb s it ⟨I,i0,turn,fin⟩
 refine⟨fun i m σ2 H2=>m=xs.length - i/\i<=xs.length/\∃ W2 ρ2,PX X.K X.H₀ W2 σ2 ρ2 H2/\Ev W H1 W2 H2/\I i ρ2,⟨xs.length,by (first|lia|omega),Nat.zero_le _,W,ρ,px.mono s,Ev.refl _ _,i0⟩,?_⟩
 rintro i m σ2 H2 ⟨rfl,hi,W2,ρ2,px2,e2,i2⟩
 have e0:Ev W H W2 H2:=(Ev.same s).trans e2
 by_cases hlt:i < xs.length
 ·refine .inr ⟨it.go W2 H2 i e2 hlt,fun σ3 H3=>∃ W3 ρ3,PX X.K X.H₀ W3 σ3 ρ3 H3/\Ev W H1 W3 H3/\I (i+1) ρ3,fun σ3 H3 ⟨W3,ρ3,a,b,c⟩=>⟨xs.length - (i+1),by (first|lia|omega),rfl,hlt,W3,ρ3,a,b,c⟩,fun v H3 y=>?_⟩
  obtain ⟨s3,x,hx,rx⟩:=it.yld W2 H2 i v H3 e2 y hlt
  refine hg X.H₀ W2 σ2 ρ2 H3 v x gb _ _ (px2.mono s3) rx (turn i x ρ2 hx i2) fun σ4 ρ4 px4 _ _ q4=>?_
  have e3:Ev W H1 W2 H3:=e2.trans (Ev.same s3)
  have e3':Ev W H W2 H3:=e0.trans (Ev.same s3)
  exact⟨W2,ρ4,_,px4,q4,fun W' σ' H' ρ' e p q=>⟨W',ρ',p,e3.trans e,q⟩,k.rt,fun W' σ' H' ρ' e p q=>k.nx W' σ' H' ρ' (e3'.trans e) p q,fun W' σ' H' ρ' e p q=>⟨W',ρ',p,e3.trans e,q⟩⟩
 ·have e:i=xs.length:=by (first|lia|omega)
  subst e
  exact .inl ⟨it.stop W2 H2 e2,k.nx W2 σ2 H2 ρ2 e0 px2 (fin ρ2 i2)⟩
end
end PP
namespace PP
open PySem L2
noncomputable def blockρ (fr:List (Option Nat)) (ρ:PEnv):PEnv:=fr.map fun o=>o.bind fun j=>(ρ[j]?).join.map fun m=>Slot.sh false m.val
noncomputable def isA (D:Addr):Addr->Prop:=fun a=>a=D
theorem px_block {K:PySem.W.Frag}{H0:Hp}{W:Addr->Prop}{σ:St}{ρ:PEnv}{H1 H':Hp}{D:Addr}{acc:List V}{fr:List (Option Nat)} (px:PX K H0 W σ ρ H1) (hD:H1 D=none) (s:Same H1 H') (ha:H' D=some (.lst acc)) :
  PX K H1 (isA D) (blockSt fr σ) (blockρ fr ρ) H':=by
 have old:∀ {a:Addr}{o:HO},H1 a=some o->a ≠ D:=fun {a o} e z=>by rw [z,hD] at e; cases e
 refine⟨by unfold blockSt blockρ; rw [List.length_map,List.length_map],s,fun a z=>by cases z; exact⟨hD,_,ha,rfl⟩,fun i m h=>?_,fun i j x y a h1=>?_⟩
 ·unfold blockρ at h
  rw [List.getElem?_map] at h
  cases ef:fr[i]? with
  | none=>rw [ef] at h; cases h
  | some o=>
   rw [ef] at h
   cases o with
   | none=>cases h
   | some j=>
    have h:some ((ρ[j]?).join.map fun m=>Slot.sh false m.val)=some (some m):=h
    cases er:ρ[j]? with
    | none=>rw [er] at h; cases h
    | some o=>
     rw [er] at h
     cases o with
     | none=>cases h
     | some m0=>
      cases h
      obtain ⟨v,ev,r⟩:=px.sl j m0 er
      refine⟨v,?_,?_⟩
      ·unfold blockSt
       rw [List.getElem?_map,ef]
       show some ((σ[j]?).join)=_
       rw [ev]; rfl
      ·have r':Rep K (fun _=>True) H1 v m0.val:=(slot_rep (Hs:=H1) r).same (Same.refl _) fun _ _=>trivial
       exact r'.keep ⟨fun a _ _ e=>⟨old e,s _ _ e⟩,fun a _ _ e=>⟨old e,s _ _ e⟩,fun a _ _ e=>⟨old e,s _ _ e⟩,fun _ _ e=>s _ _ e,fun _ _ _ e=>s _ _ e⟩
 ·unfold blockρ at h1
  rw [List.getElem?_map] at h1
  cases ef:fr[i]? with
  | none=>rw [ef] at h1; cases h1
  | some o=>
   rw [ef] at h1
   cases o with
   | none=>cases h1
   | some j=>
    have h1:some ((ρ[j]?).join.map fun m=>Slot.sh false m.val)=some (some (Slot.own x)):=h1
    cases er:ρ[j]? with
    | none=>rw [er] at h1; cases h1
    | some o=>
     rw [er] at h1
     cases o with
     | none=>cases h1
     | some m0=>cases h1
section
variable {X : Cx} {σ : St} {H : Hp} {Q' : VK}
noncomputable abbrev _root_.L2.Cx.frm (X:Cx) (H1:Hp):Cx:={ X with H₀:=H1 }
noncomputable def qComp (ti:PTI) (fr:List (Option Nat)) (p:PTG) (tc:PTT) (te:PTE):PTE:=fun ρ Q=>ti ρ fun xs g=>xs.length<=16000000/\∃ I:Nat->List PV->Prop,I 0 []/\
 (∀ i x acc,xs[i]? = some x->I i acc->p x false (blockρ fr ρ) fun ρ2=>tc ρ2 fun b=>if b=true then te ρ2 fun y gy=>Nw gy y/\I (i+1) (acc ++ [y]) else I (i+1) acc)/\∀ acc,I xs.length acc->Q (.lst acc) .fr
theorem le_comp {ti:PTI}{fr:List (Option Nat)}{p:PTG}{g:TG}{tc:PTT}{te:PTE}{own:Nat->Prop} (hg:TgOk X.K own p g) (ho:∀ i,own i->fr[i]? = some none) (h:LE X (qComp ti fr p tc te) σ H Q') :
  tCompH (LI X ti) fr (fun _=>g) (fun H1=>LT (X.frm H1) tc) (fun H1=>LE (X.frm H1) te) σ H Q':=by
 obtain ⟨W,ρ,Q,px,q,k⟩:=h
 refine⟨W,ρ,_,px,q,?_⟩
 rintro J H1 xs gb s it ⟨hl,I,i0,turn,fin⟩ D hD
 have px1:=px.mono s
 refine⟨fun i m acc H'=>m=xs.length - i/\i<=xs.length/\Same H1 H'/\H' D=some (.lst acc)/\∃ ys,Reps X.K (Ms H1 (isA D) true) H' acc ys/\ys.length<=i/\I i ys,⟨xs.length,by (first|lia|omega),Nat.zero_le _,same_new hD _,upd_same,[],.nil,Nat.le_refl _,i0⟩,?_⟩
 rintro i m acc H' ⟨rfl,hi,sm,ha,ys,ry,hy,iy⟩
 refine⟨ha,?_⟩
 have ev:Ev W H1 (orA W D) H':=Ev.own sm hD
 by_cases hlt:i < xs.length
 ·refine .inr ⟨it.go _ H' i ev hlt,fun v H2 y=>?_⟩
  obtain ⟨s2,x,hx,rx⟩:=it.yld _ H' i v H2 ev y hlt
  have ha2:=s2 _ _ ha
  have pxb:PX X.K H1 (isA D) (blockSt fr σ) (blockρ fr ρ) H2:=px_block px1 hD (sm.trans s2) ha2
  have rx':Rep X.K (Ms H1 (isA D) false) H2 v x:=rx.same (Same.refl _) fun a z=>by
   cases gb with
   | true=>exact fun e=>z.1 (.inr e)
   | false=>exact fun e=>z (.inr e)
  refine hg H1 (isA D) _ _ H2 v x false _ _ pxb rx' (turn i x ys hx iy) fun σ2 ρ2 px2 hown hlen q2=>⟨⟨hlen.symm,fun j w e=>?_⟩,?_⟩
  ·by_cases oj:own j
   ·have:=ho j oj
    unfold blockSt at e
    rw [List.getElem?_map,this] at e
    cases e
   ·rw [hown j oj]; exact e
  ·refine⟨isA D,ρ2,_,px2,q2,fun b H4 s4 q4=>?_⟩
   have ha4:=s4 _ _ ha2
   have sm4:=(sm.trans s2).trans s4
   cases b with
   | false=>
    refine iteF ⟨xs.length - (i+1),by (first|lia|omega),rfl,hlt,sm4,ha4,ys,ry.same (s2.trans s4) fun _ z=>z,by (first|lia|omega),by simpa using q4⟩
   | true=>
    refine iteT ⟨isA D,ρ2,_,px2.mono s4,by simpa using q4,?_⟩
    rintro w H5 y gy s5 ryy ⟨nw,q5⟩
    have ha5:=s5 _ _ ha4
    have lr:=ry.length
    refine⟨ha5,bigEnough (by (first|lia|omega)),xs.length - (i+1),by (first|lia|omega),rfl,hlt,fun b o e=>?_,upd_same,ys ++ [y],?_,by rw [List.length_append,List.length_singleton]; (first|lia|omega),q5⟩
    ·rw [upd_ne (fun z=>by rw [z,hD] at e; cases e)]
     exact s5 _ _ (sm4 _ _ e)
    ·exact ((ry.same ((s2.trans s4).trans s5) fun _ z=>z).append (.cons (Nw.rep (px2.mono s4) nw ryy) .nil)).keep (.upd ha5 rfl fun b m=>⟨m.1,m⟩)
 ·have e:i=xs.length:=by (first|lia|omega)
  subst e
  refine .inl ⟨it.stop _ H' ev,k _ H' _ .fr (s.trans sm) (.lst (s.free hD) ha (ry.same (Same.refl _) fun _ z=>s.free z.2)) (fin ys iy)⟩
noncomputable def qYes:PTT:=fun _ Q=>Q true
theorem lt_yes {Qb:Bool->Hp->Prop} (h:LT X qYes σ H Qb):tYes σ H Qb:=by
 obtain ⟨W,ρ,Q,px,q,k⟩:=h
 exact k _ _ (Same.refl _) q
end
section
variable {κ : Type} [DecidableEq κ]
noncomputable def valP (ps:List (κ × PV)) (k:κ):Option PV:=(ps.find? fun p=>decide (p.1=k)).map (·.2)
noncomputable def putP (ps:List (κ × PV)) (k:κ) (x:PV):List (κ × PV):=if (ps.any fun p=>decide (p.1=k))=true then ps.map (fun p=>if p.1=k then (p.1,x) else p) else ps ++ [(k,x)]
variable {K : PySem.W.Frag} {M : Addr → Prop} {H : Hp}
theorem val_rep (k:κ):∀ {kvs:List (κ × V)}{ps:List (κ × PV)},kvs.map (·.1)=ps.map (·.1)->Reps K M H (kvs.map (·.2)) (ps.map (·.2))->(valP ps k=none->valV kvs k=none)/\∀ x,valP ps k=some x->∃ v,valV kvs k=some v/\Rep K M H v x
 | [],[],_,_=>⟨fun _=>rfl,fun x h=>by cases h⟩
 | [],_ :: _,e,_=>by cases e
 | _ :: _,[],e,_=>by cases e
 | (k1,v) :: kvs,(k2,x) :: ps,e,r=>by
  injection e with e1 e2
  have e1:k1=k2:=e1
  subst e1
  cases r with
  | cons r t=>
   obtain ⟨h1,h2⟩:=val_rep k e2 t
   unfold valP valV at h1 h2 ⊢
   by_cases e:k1=k
   ·simp only [List.find?_cons,e,decide_true,Option.map_some]
    exact⟨fun z=>(by cases z),fun y z=>(by cases z; exact⟨v,rfl,r⟩)⟩
   ·simp only [List.find?_cons,e,decide_false]
    exact⟨h1,h2⟩
theorem any_key (k:κ) {kvs:List (κ × V)}{ps:List (κ × PV)} (e:kvs.map (·.1)=ps.map (·.1)):(kvs.any fun p=>decide (p.1=k))=ps.any fun p=>decide (p.1=k):=by
 have h1:(kvs.any fun p=>decide (p.1=k))=(kvs.map (·.1)).any fun z=>decide (z=k):=by rw [List.any_map]; rfl
 have h2:(ps.any fun p=>decide (p.1=k))=(ps.map (·.1)).any fun z=>decide (z=k):=by rw [List.any_map]; rfl
 rw [h1,h2,e]
theorem map_rep (k:κ) {w:V}{y:PV} (q:Rep K M H w y):∀ {kvs:List (κ × V)}{ps:List (κ × PV)},kvs.map (·.1)=ps.map (·.1)->Reps K M H (kvs.map (·.2)) (ps.map (·.2))->
  (kvs.map fun kv=>if kv.1=k then (kv.1,w) else kv).map (·.1)=(ps.map fun kv=>if kv.1=k then (kv.1,y) else kv).map (·.1)/\Reps K M H ((kvs.map fun kv=>if kv.1=k then (kv.1,w) else kv).map (·.2)) ((ps.map fun kv=>if kv.1=k then (kv.1,y) else kv).map (·.2))
 | [],[],_,_=>⟨rfl,.nil⟩
 | [],_ :: _,e,_=>by cases e
 | _ :: _,[],e,_=>by cases e
 | (k1,v) :: kvs,(k2,x) :: ps,e,r=>by
  injection e with e1 e2
  have e1:k1=k2:=e1
  subst e1
  cases r with
  | cons r t=>
   obtain ⟨h1,h2⟩:=map_rep k q e2 t
   by_cases e:k1=k
   ·simp only [List.map_cons,e,if_true]
    exact⟨by rw [h1],.cons q h2⟩
   ·simp only [List.map_cons,e,if_false]
    exact⟨by rw [h1],.cons r h2⟩
theorem put_rep (k:κ) {w:V}{y:PV} (q:Rep K M H w y) {kvs:List (κ × V)}{ps:List (κ × PV)} (e:kvs.map (·.1)=ps.map (·.1)) (r:Reps K M H (kvs.map (·.2)) (ps.map (·.2))) :
  (putK kvs k w).map (·.1)=(putP ps k y).map (·.1)/\Reps K M H ((putK kvs k w).map (·.2)) ((putP ps k y).map (·.2)):=by
 unfold putK putP
 rw [any_key k e]
 split
 ·exact map_rep k q e r
 ·rw [List.map_append,List.map_append,List.map_append,List.map_append,e]
  exact⟨rfl,r.append (.cons q .nil)⟩
end
noncomputable def kP:Key->PV
 | .inl i=>.int i
 | .inr x=>.str x
theorem kP_rep {K:PySem.W.Frag}{M:Addr->Prop}{H:Hp}{v:V}{k:Key} (r:Rep K M H v (kP k)):v=kV k:=by
 cases k with
 | inl i=>cases r; rfl
 | inr x=>cases r; rfl
theorem kPs_rep {K:PySem.W.Frag}{M:Addr->Prop}{H:Hp}:∀ {ks:List Key}{us:List V},Reps K M H us (ks.map kP)->us=ks.map kV
 | [],_,.nil=>rfl
 | k :: r,_,.cons q t=>by rw [kP_rep q,kPs_rep t]; rfl
noncomputable def AtKey (x y:PV) (o:Option PV):Prop:=(∃ ps k,x = .dK ps/\y=kP k/\o=valP ps k) ∨ (∃ ps k,x = .dT ps/\y = .tup (k.map kP)/\o=valP ps k)
theorem atKey_get {K:PySem.W.Frag}{M M2:Addr->Prop}{H:Hp}{v w:V}{x y:PV}{o:Option PV} (h:AtKey x y o) (rx:Rep K M H v x) (ry:Rep K M2 H w y):∃ a o',v = .ref a/\DGet H a w o'/\(o=none->o'=none)/\∀ z,o=some z->∃ u,o'=some u/\Rep K M H u z:=by
 rcases h with ⟨ps,k,rfl,rfl,rfl⟩ | ⟨ps,k,rfl,rfl,rfl⟩
 ·obtain rfl:=kP_rep ry
  cases rx with
  | dK m h e r=>exact⟨_,_,rfl,DGet.k h,(val_rep k e r).1,(val_rep k e r).2⟩
 ·obtain ⟨b,us,rfl,hb,rb⟩:=ry.sqT
  obtain rfl:=kPs_rep rb
  cases rx with
  | dT m h e r=>exact⟨_,_,rfl,DGet.t h hb,(val_rep k e r).1,(val_rep k e r).2⟩
section
variable {X : Cx} {σ : St} {H : Hp} {D : Ends} {tk td te : PTE} {Q' : VK}
noncomputable def qDIn (neg:Bool) (tk td:PTE):PTE:=fun ρ Q=>tk ρ fun y _=>td ρ fun x _=>∃ o,AtKey x y o/\Q (.bl (if neg=true then !o.isSome else o.isSome)) .fr
theorem isSome_of {α β:Type}{o:Option α}{o':Option β}{P:β->α->Prop} (h1:o=none->o'=none) (h2:∀ z,o=some z->∃ u,o'=some u/\P u z):o'.isSome=o.isSome:=by
 cases o with
 | none=>rw [h1 rfl]; rfl
 | some z=>obtain ⟨u,e,_⟩:=h2 z rfl; rw [e]; rfl
theorem le_din (h:LE X (qDIn false tk td) σ H Q'):tDIn (LE X tk) (LE X td) σ H Q':=by
 obtain ⟨W,ρ,Q,px,q,k⟩:=h
 refine⟨W,ρ,_,px,q,fun w H1 y g s r q=>⟨W,ρ,_,px.mono s,q,?_⟩⟩
 rintro v H2 x g' s2 r2 ⟨o,ak,q⟩
 obtain ⟨a,o',rfl,dg,h1,h2⟩:=atKey_get ak r2 (r.same s2 fun _ z=>z)
 refine⟨a,o',rfl,dg,?_⟩
 rw [isSome_of h1 h2]
 exact k _ _ _ .fr (s.trans s2) (.bl _) q
theorem le_dnotin (h:LE X (qDIn true tk td) σ H Q'):tDNotIn (LE X tk) (LE X td) σ H Q':=by
 obtain ⟨W,ρ,Q,px,q,k⟩:=h
 refine⟨W,ρ,_,px,q,fun w H1 y g s r q=>⟨W,ρ,_,px.mono s,q,?_⟩⟩
 rintro v H2 x g' s2 r2 ⟨o,ak,q⟩
 obtain ⟨a,o',rfl,dg,h1,h2⟩:=atKey_get ak r2 (r.same s2 fun _ z=>z)
 refine⟨a,o',rfl,dg,?_⟩
 rw [isSome_of h1 h2]
 exact k _ _ _ .fr (s.trans s2) (.bl _) q
noncomputable def qDGet (td tk:PTE):PTE:=fun ρ Q=>td ρ fun x g=>tk ρ fun y _=>∃ z,AtKey x y (some z)/\Q z g
theorem le_dget (h:LE X (qDGet td tk) σ H Q'):tDGet (LE X td) (LE X tk) σ H Q':=by
 obtain ⟨W,ρ,Q,px,q,k⟩:=h
 refine⟨W,ρ,_,px,q,fun v H1 x g s r q=>⟨W,ρ,_,px.mono s,q,?_⟩⟩
 rintro w H2 y g' s2 r2 ⟨z,ak,q⟩
 obtain ⟨a,o',rfl,dg,h1,h2⟩:=atKey_get ak (r.same s2 fun _ z=>z) r2
 obtain ⟨u,rfl,ru⟩:=h2 z rfl
 exact⟨a,u,rfl,dg,k _ _ _ g (s.trans s2) ru q⟩
theorem PX.updD {K:PySem.W.Frag}{H0:Hp}{W:Addr->Prop}{σ:St}{ρ:PEnv}{H:Hp}{i:Nat}{a:Addr}{x:PV}{kvs:List (Key × V)}{ps:List (Key × PV)} (p:PX K H0 W σ ρ H) (hi:ρ[i]? = some (some (.own x))) (ha:σ[i]? = some (some (.ref a))) (wa:W a)
  (r:kvs.map (·.1)=ps.map (·.1)/\Reps K (Ms H0 W true) (upd H a (.dK kvs)) (kvs.map (·.2)) (ps.map (·.2))):PX K H0 W σ (ρ.set i (some (.own (.dK ps)))) (upd H a (.dK kvs)):=p.updOwn hi ha wa rfl (y:=.dK ps) ⟨kvs,upd_same,r⟩
theorem PX.updT {K:PySem.W.Frag}{H0:Hp}{W:Addr->Prop}{σ:St}{ρ:PEnv}{H:Hp}{i:Nat}{a:Addr}{x:PV}{kvs:List (List Key × V)}{ps:List (List Key × PV)} (p:PX K H0 W σ ρ H) (hi:ρ[i]? = some (some (.own x))) (ha:σ[i]? = some (some (.ref a))) (wa:W a)
  (r:kvs.map (·.1)=ps.map (·.1)/\Reps K (Ms H0 W true) (upd H a (.dT kvs)) (kvs.map (·.2)) (ps.map (·.2))):PX K H0 W σ (ρ.set i (some (.own (.dT ps)))) (upd H a (.dT kvs)):=p.updOwn hi ha wa rfl (y:=.dT ps) ⟨kvs,upd_same,r⟩
theorem keys_len {κ α β:Type}{l:List (κ × α)}{m:List (κ × β)} (e:l.map (·.1)=m.map (·.1)):l.length=m.length:=by
 have:=congrArg List.length e
 rw [List.length_map,List.length_map] at this
 exact this
noncomputable def qDPut (i:Nat) (tk te:PTE):PTS:=fun D ρ=>te ρ fun z g=>∃ ps,ρ[i]? = some (some (.own (.dK ps)))/\tk ρ fun y _=>∃ k,y=kP k/\Nw g z/\ps.length < 16000000/\D.nx (ρ.set i (some (.own (.dK (putP ps k z)))))
noncomputable def qDPutT (i:Nat) (tk te:PTE):PTS:=fun D ρ=>te ρ fun z g=>∃ ps,ρ[i]? = some (some (.own (.dT ps)))/\tk ρ fun y _=>∃ k,y = .tup (k.map kP)/\Nw g z/\ps.length < 16000000/\D.nx (ρ.set i (some (.own (.dT (putP ps k z)))))
theorem ls_dput {i:Nat} (h:LS X (qDPut i tk te) D σ H):sDPut (tVar i) (LE X tk) (LE X te) D σ H:=by
 obtain ⟨W,ρ,D',px,q,k⟩:=h
 refine⟨W,ρ,_,px,q,?_⟩
 rintro w H1 z g s rz ⟨ps,hi,q⟩
 obtain ⟨v,ev,a,rfl,wa,kvs,ea,e1,r⟩:=(px.mono s).sl i _ hi
 refine⟨_,ev,W,ρ,_,px.mono s,q,?_⟩
 rintro kv H2 y g' s2 ry ⟨kk,rfl,nw,hl,q⟩
 obtain rfl:=kP_rep ry
 have ea2:=s2 _ _ ea
 refine⟨a,_,rfl,DPut.k ea2 (bigEnough (by rw [keys_len e1]; (first|lia|omega))),?_⟩
 refine k.nx W σ _ _ ((Ev.same (s.trans s2)).trans (Ev.upd wa)) ((px.mono (s.trans s2)).updD hi ev wa ?_) q
 obtain ⟨h1,h2⟩:=put_rep kk ((Nw.rep px nw rz).same s2 fun _ z=>z) e1 (r.same s2 fun _ z=>z)
 exact⟨h1,h2.keep (.upd ea2 rfl fun b m=>⟨ms_ne wa m,m⟩)⟩
theorem ls_dputT {i:Nat} (h:LS X (qDPutT i tk te) D σ H):sDPut (tVar i) (LE X tk) (LE X te) D σ H:=by
 obtain ⟨W,ρ,D',px,q,k⟩:=h
 refine⟨W,ρ,_,px,q,?_⟩
 rintro w H1 z g s rz ⟨ps,hi,q⟩
 obtain ⟨v,ev,a,rfl,wa,kvs,ea,e1,r⟩:=(px.mono s).sl i _ hi
 refine⟨_,ev,W,ρ,_,px.mono s,q,?_⟩
 rintro kv H2 y g' s2 ry ⟨kk,rfl,nw,hl,q⟩
 obtain ⟨b,us,rfl,hb,rb⟩:=ry.sqT
 obtain rfl:=kPs_rep rb
 have ea2:=s2 _ _ ea
 refine⟨a,_,rfl,DPut.t ea2 hb (bigEnough (by rw [keys_len e1]; (first|lia|omega))),?_⟩
 refine k.nx W σ _ _ ((Ev.same (s.trans s2)).trans (Ev.upd wa)) ((px.mono (s.trans s2)).updT hi ev wa ?_) q
 obtain ⟨h1,h2⟩:=put_rep kk ((Nw.rep px nw rz).same s2 fun _ z=>z) e1 (r.same s2 fun _ z=>z)
 exact⟨h1,h2.keep (.upd ea2 rfl fun b m=>⟨ms_ne wa m,m⟩)⟩
theorem le_dnewK (h:LE X (qC (.dK [])) σ H Q'):tDNewK σ H Q':=by
 obtain ⟨W,ρ,Q,px,q,k⟩:=h
 exact fun p hp=>k _ _ _ .fr (same_new hp _) (.dK hp upd_same rfl .nil) q
theorem le_dnewT (h:LE X (qC (.dT [])) σ H Q'):tDNewT σ H Q':=by
 obtain ⟨W,ρ,Q,px,q,k⟩:=h
 exact fun p hp=>k _ _ _ .fr (same_new hp _) (.dT hp upd_same rfl .nil) q
noncomputable def mergeP (ps more:List (Key × PV)):List (Key × PV):=more.foldl (fun acc kv=>putP acc kv.1 kv.2) ps
theorem merge_rep {K:PySem.W.Frag}{M:Addr->Prop}{H:Hp}:∀ {more:List (Key × V)}{mp:List (Key × PV)}{kvs:List (Key × V)}{ps:List (Key × PV)},more.map (·.1)=mp.map (·.1)->Reps K M H (more.map (·.2)) (mp.map (·.2))->kvs.map (·.1)=ps.map (·.1)->Reps K M H (kvs.map (·.2)) (ps.map (·.2))->
  (mergeK kvs more).map (·.1)=(mergeP ps mp).map (·.1)/\Reps K M H ((mergeK kvs more).map (·.2)) ((mergeP ps mp).map (·.2))
 | [],[],_,_,_,_,e,r=>⟨e,r⟩
 | [],_ :: _,_,_,e,_,_,_=>by cases e
 | _ :: _,[],_,_,e,_,_,_=>by cases e
 | (k1,v) :: more,(k2,x) :: mp,kvs,ps,e,r,e',r'=>by
  injection e with e1 e2
  have e1:k1=k2:=e1
  subst e1
  cases r with
  | cons q t=>
   obtain ⟨h1,h2⟩:=put_rep k1 q e' r'
   exact merge_rep (more:=more) (mp:=mp) e2 t h1 h2
noncomputable def qDUpd (i:Nat) (te:PTE):PTS:=fun D ρ=>∃ ps,ρ[i]? = some (some (.own (.dK ps)))/\te ρ fun y g=>∃ mp,y = .dK mp/\(g = .fr ∨ (g = .nw/\False))/\ps.length+mp.length<=16000000/\D.nx (ρ.set i (some (.own (.dK (mergeP ps mp)))))
theorem ls_dupd {i:Nat} (h:LS X (qDUpd i te) D σ H):tDrop (tDUpd (tVar i) (LE X te)) D σ H:=by
 obtain ⟨W,ρ,D',px,⟨ps,hi,q⟩,k⟩:=h
 obtain ⟨v,ev,a,rfl,wa,kvs,ea,e1,r⟩:=px.sl i _ hi
 refine⟨_,ev,a,rfl,.inl ⟨kvs,.inl ea⟩,W,ρ,_,px,q,?_⟩
 rintro w H1 y g s ry ⟨mp,rfl,hg,hl,q⟩
 rcases hg with rfl | ⟨_,z⟩
 ·cases ry with
  | @dK b more _ m hb e2 rb=>
   have hab:a ≠ b:=fun z=>by subst z; rw [show H a=none from m] at ea; cases ea
   have ea1:=s _ _ ea
   refine⟨b,kvs,more,rfl,hab,ea1,hb,lim (by rw [keys_len e1,keys_len e2]; exact hl),?_⟩
   refine k.nx W σ _ _ ((Ev.same s).trans (Ev.upd wa)) ((px.mono s).updD hi ev wa ?_) q
   obtain ⟨h1,h2⟩:=merge_rep e2 (rb.same (M':=Ms X.H₀ W true) (Same.refl _) fun _ z=>px.new z) e1 (r.same s fun _ z=>z)
   exact⟨h1,h2.keep (.upd ea1 rfl fun b m=>⟨ms_ne wa m,m⟩)⟩
 ·exact z.elim
end
end PP
namespace PP
open PySem L2
noncomputable def eqP:Nat->PV->PV->Bool
 | _,.non,.non=>true
 | _,.bl a,.bl b=>a == b
 | _,.int a,.int b=>a == b
 | _,.str a,.str b=>a == b
 | n+1,.tup xs,.tup ys=>(xs.zip ys).all (fun p=>eqP n p.1 p.2) && xs.length == ys.length
 | n+1,.lst xs,.lst ys=>(xs.zip ys).all (fun p=>eqP n p.1 p.2) && xs.length == ys.length
 | n+1,.kt xs,.kt ys=>(xs.zip ys).all (fun p=>eqP n p.1 p.2) && xs.length == ys.length
 | _,_,_=>false
noncomputable def okE:Nat->PV->PV->Bool
 | _,.non,.non=>true
 | _,.bl _,.bl _=>true
 | _,.int _,.int _=>true
 | _,.str _,.str _=>true
 | _,.non,.int _=>true
 | _,.int _,.non=>true
 | n+1,.tup xs,.tup ys=>(xs.zip ys).all (fun p=>okE n p.1 p.2)
 | n+1,.lst xs,.lst ys=>(xs.zip ys).all (fun p=>okE n p.1 p.2)
 | n+1,.kt xs,.kt ys=>(xs.zip ys).all (fun p=>okE n p.1 p.2)
 | _+1,.non,.tup _=>true
 | _+1,.tup _,.non=>true
 | _,_,_=>false
theorem eqP_int (n:Nat) (a b:Int):eqP n (.int a) (.int b)=(a == b):=by cases n <;> rfl
theorem all_ints (n:Nat):∀ (a b:List Int),((((intz a).zip (intz b)).all fun p=>eqP n p.1 p.2) && (intz a).length == (intz b).length)=decide (a=b)
 | [],[]=>rfl
 | [],_ :: _=>by simp
 | _ :: _,[]=>by simp
 | x :: a,y :: b=>by
  have ih:=all_ints n a b
  simp only [List.map_cons,List.zip_cons_cons,List.all_cons,List.length_cons,eqP_int] at ih ⊢
  by_cases e:x=y
  ·subst e
   have:((intz a).length+1 == (intz b).length+1)=((intz a).length == (intz b).length):=by simp
   rw [this,beq_self_eq_true,Bool.true_and,ih]
   simp
  ·have:(x == y)=false:=beq_eq_false_iff_ne.mpr e
   rw [this,Bool.false_and,Bool.false_and]
   simp [e]
theorem eqP_tupI (n:Nat) (a b:List Int):eqP (n+1) (.tup (intz a)) (.tup (intz b))=decide (a=b):=all_ints n a b
theorem eqP_lstI (n:Nat) (a b:List Int):eqP (n+1) (.lst (intz a)) (.lst (intz b))=decide (a=b):=all_ints n a b
theorem ok_ints (n:Nat):∀ (a b:List Int),(((intz a).zip (intz b)).all fun p=>okE n p.1 p.2)=true
 | [],_=>by simp
 | _ :: _,[]=>by simp
 | x :: a,y :: b=>by
  simp only [List.map_cons,List.zip_cons_cons,List.all_cons,ok_ints n a b,Bool.and_true]
  cases n <;> rfl
theorem okE_tupI (n:Nat) (a b:List Int):okE (n+1) (.tup (intz a)) (.tup (intz b))=true:=ok_ints n a b
theorem okE_lstI (n:Nat) (a b:List Int):okE (n+1) (.lst (intz a)) (.lst (intz b))=true:=ok_ints n a b
noncomputable def qNeg (ta:PTE):PTE:=fun ρ Q=>ta ρ fun x _=>∃ i,x = .int i/\Q (.int (-i)) .fr
noncomputable def RIn (neg:Bool):PV->Tg->PV->Tg->PK->Prop:=fun x _ y _ Q=>∃ i ns,x = .int i/\seqOf y=some (intz ns)/\Q (.bl (if neg=true then !decide (i ∈ ns) else decide (i ∈ ns))) .fr
noncomputable def tyP:PV->Option String
 | .non=>some "NoneType"
 | .bl _=>some "bool"
 | .int _=>some "int"
 | .str _=>some "str"
 | .tup _=>some "tuple"
 | .kt _=>some "tuple"
 | .lst _=>some "list"
 | _=>none
noncomputable def qIsI (K:PySem.W.Frag) (n:String) (te:PTE):PTE:=fun ρ Q=>te ρ fun x _=>∃ T b,tyP x=some T/\PySem.W.kitOne K (.type T) (.type n)=some b/\Q (.bl b) .fr
noncomputable def REqS (n:Nat) (neg:Bool):PV->Tg->PV->Tg->PK->Prop:=fun x _ y _ Q=>((∃ xs ys,x = .tup xs/\y = .tup ys) ∨ (∃ xs ys,x = .lst xs/\y = .lst ys))/\okE (n+1) x y=true/\Q (.bl (if neg=true then !eqP (n+1) x y else eqP (n+1) x y)) .fr
noncomputable abbrev PTO:=PEnv->(Option Int->Prop)->Prop
noncomputable def cutP (xs:List PV) (lo hi:Option Int):List PV:=(xs.drop (HT.sIx xs.length 0 lo)).take (HT.sIx xs.length xs.length hi - HT.sIx xs.length 0 lo)
noncomputable def reSeq:PV->List PV->PV
 | .tup _,ys=>.tup ys
 | .kt _,ys=>.tup ys
 | _,ys=>.lst ys
noncomputable def qOn:PTO:=fun _ Q=>Q none
noncomputable def qOs (te:PTE):PTO:=fun ρ Q=>te ρ fun x _=>∃ i,x = .int i/\Q (some i)
noncomputable def qSl (te:PTE) (tl th:PTO):PTE:=fun ρ Q=>te ρ fun x _=>tl ρ fun lo=>th ρ fun hi=>∃ xs,seqT x=some xs/\flats xs=true/\Q (reSeq x (cutP xs lo hi)) .fr
noncomputable def startP (N:List Str) (xs:List PV):PEnv:=xs.map (fun x=>some (.sh (flat x) x)) ++ List.replicate (N.length - xs.length) none
noncomputable abbrev qAdd (ta tb:PTE):PTE:=q2 (RI0 fun i j=>.int (i+j)) ta tb
noncomputable abbrev qMul (ta tb:PTE):PTE:=q2 (RI CMul fun i j=>.int (i * j)) ta tb
noncomputable abbrev qDiv (ta tb:PTE):PTE:=q2 (RI CDiv fun i j=>.int (i / j)) ta tb
noncomputable abbrev qMod (ta tb:PTE):PTE:=q2 (RI (fun _ j=>0 < j) fun i j=>.int (i % j)) ta tb
noncomputable abbrev qPow (ta tb:PTE):PTE:=q2 (RI CPow fun i j=>.int (i ^ j.toNat)) ta tb
noncomputable abbrev qLt (ta tb:PTE):PTE:=q2 (RI0 fun i j=>.bl (decide (i < j))) ta tb
noncomputable abbrev qLe (ta tb:PTE):PTE:=q2 (RI0 fun i j=>.bl (decide (i<=j))) ta tb
noncomputable abbrev qGt (ta tb:PTE):PTE:=q2 (RI0 fun i j=>.bl (decide (j < i))) ta tb
noncomputable abbrev qGe (ta tb:PTE):PTE:=q2 (RI0 fun i j=>.bl (decide (j<=i))) ta tb
noncomputable abbrev qEq (ta tb:PTE):PTE:=q2 (REqI false) ta tb
noncomputable abbrev qNe (ta tb:PTE):PTE:=q2 (REqI true) ta tb
noncomputable abbrev qIsN (ta tb:PTE):PTE:=q2 (RIsN false) ta tb
noncomputable abbrev qNotN (ta tb:PTE):PTE:=q2 (RIsN true) ta tb
noncomputable abbrev qIx (ta tb:PTE):PTE:=q2 RIx ta tb
noncomputable def RTuple:List PV->(PV->Prop)->Prop:=fun xs Q=>RTup xs Q/\∀ ns,xs ≠ [.scr ns]
noncomputable def qNever:PTS:=fun _ _=>False
end PP
namespace PP
open PySem L2
noncomputable def QE (X:Cx) (e:Expr) (t:PTE):Prop:=PE X e (LE X t)
noncomputable def QT (X:Cx) (e:Expr) (t:PTT):Prop:=PT X e (LT X t)
noncomputable def QW (X:Cx) (e:Expr) (t:PTT):Prop:=PW X e (LT X t)
noncomputable def QA (X:Cx) (es:List Expr) (t:PTA):Prop:=PA X es (LA X t)
noncomputable def QS (X:Cx) (st:Stmt) (t:PTS):Prop:=PS X st (LS X t)
noncomputable def QSs (X:Cx) (st:List Stmt) (t:PTS):Prop:=PSs X st (LS X t)
noncomputable def QI (X:Cx) (tg iter:Expr) (t:PTI):Prop:=PI X tg iter (LI X t)
section
variable {X : Cx}
theorem peI {e:Expr}{t t':TE} (h:PE X e t) (m:∀ σ H Q,t' σ H Q->t σ H Q):PE X e t':=fun pins s σ H Q I q=>h pins s σ H Q I (m σ H Q q)
theorem ptI {e:Expr}{t t':TT} (h:PT X e t) (m:∀ σ H Q,t' σ H Q->t σ H Q):PT X e t':=fun pins s σ H Q I q=>h pins s σ H Q I (m σ H Q q)
theorem pwI {e:Expr}{t t':TT} (h:PW X e t) (m:∀ σ H Q,t' σ H Q->t σ H Q):PW X e t':=fun wh pins s σ H Q I q=>h wh pins s σ H Q I (m σ H Q q)
theorem paI {e:List Expr}{t t':TA} (h:PA X e t) (m:∀ σ H Q,t' σ H Q->t σ H Q):PA X e t':=fun pos pins s σ H Q I q=>h pos pins s σ H Q I (m σ H Q q)
theorem psI {e:Stmt}{t t':TS} (h:PS X e t) (m:∀ D σ H,t' D σ H->t D σ H):PS X e t':=fun pins s σ H D I q=>h pins s σ H D I (m D σ H q)
theorem pssI {e:List Stmt}{t t':TS} (h:PSs X e t) (m:∀ D σ H,t' D σ H->t D σ H):PSs X e t':=fun pins s σ H D I q=>h pins s σ H D I (m D σ H q)
theorem piI {tg e:Expr}{t t':TI} (h:PI X tg e t) (m:∀ σ H R,t' σ H R->t σ H R):PI X tg e t':=fun pins s σ H R I q=>h pins s σ H R I (m σ H R q)
variable {a b c e o : Expr} {es rest : List Expr} {ta tb te to tk : PTE} {tr : PTA} {tA tB' tc : PTT} {pos p2 px : Pos} {st : Stmt} {sts : List Stmt} {t u : PTS}
theorem qv (i:Nat) {x:Str}{pos:Pos} (hN:X.N[i]? = some x:=by rfl) (hv:Vis X.env.scope x:=by first | exact Or.inl rfl | exact Or.inr (Or.inl rfl) | exact Or.inr (Or.inr rfl)) (hd:(x == ("__debug__" : Str))=false:=by decide)
  (hcd:(x == ("__classdict__" : Str))=false:=by decide):QE X (.Name x pos) (qVar i):=peI (pe_var hN hv hd hcd) fun _ _ _=>le_var
theorem q_int {i j}:QE X (.Constant (.int i) j pos) (qC (.int i)):=peI pe_int fun _ _ _=>le_c fun _=>.int i
theorem q_bl {i j}:QE X (.Constant (.bool i) j pos) (qC (.bl i)):=peI pe_bl fun _ _ _=>le_c fun _=>.bl i
theorem q_non {j}:QE X (.Constant .none j pos) (qC .non):=peI pe_non fun _ _ _=>le_c fun _=>.non
theorem q_op {op:Operator}{R:PV->Tg->PV->Tg->PK->Prop}{r:R2} (ho:OpR X (binaryOp op) r) (cv:Cov2 X R r) (ha:QE X a ta) (hb:QE X b tb):QE X (.BinOp a op b pos) (q2 R ta tb):=peI (pe_op ho ha hb) fun _ _ _=>le_2 cv
theorem q_add (ha:QE X a ta) (hb:QE X b tb):QE X (.BinOp a .Add b pos) (q2 (RI0 fun i j=>.int (i+j)) ta tb):=q_op op_add cov_rI0 ha hb
theorem q_mul (ha:QE X a ta) (hb:QE X b tb):QE X (.BinOp a .Mult b pos) (q2 (RI CMul fun i j=>.int (i * j)) ta tb):=q_op op_mul cov_rI ha hb
theorem q_div (ha:QE X a ta) (hb:QE X b tb):QE X (.BinOp a .FloorDiv b pos) (q2 (RI CDiv fun i j=>.int (i / j)) ta tb):=q_op op_fdiv cov_rI ha hb
theorem q_mod (ha:QE X a ta) (hb:QE X b tb):QE X (.BinOp a .Mod b pos) (q2 (RI (fun _ j=>0 < j) fun i j=>.int (i % j)) ta tb):=q_op op_mod cov_rI ha hb
theorem q_pow (ha:QE X a ta) (hb:QE X b tb):QE X (.BinOp a .Pow b pos) (q2 (RI CPow fun i j=>.int (i ^ j.toNat)) ta tb):=q_op op_pow cov_rI ha hb
theorem q_cmp {op:CmpOp}{R:PV->Tg->PV->Tg->PK->Prop}{r:R2} (ho:OpR X (compareOp op) r) (cv:Cov2 X R r) (ha:QE X a ta) (hb:QE X b tb) (hm:behindInMarks op b=false):QE X (.Compare a [op] [b] pos) (q2 R ta tb):=peI (pe_cmpR ho ha hb hm) fun _ _ _=>le_2 cv
theorem t_cmp {op:CmpOp}{R:PV->Tg->PV->Tg->PK->Prop}{r:R2} (ho:OpR X (compareOp op) r) (cv:Cov2 X R r) (ha:QE X a ta) (hb:QE X b tb) (hm:behindInMarks op b=false):QT X (.Compare a [op] [b] pos) (qTest (q2 R ta tb)):=ptI (pt_cmpR ho ha hb hm) fun _ _ _ h=>le_2 cv (lt_test h)
theorem q_lt (ha:QE X a ta) (hb:QE X b tb):QE X (.Compare a [.Lt] [b] pos) (q2 (RI0 fun i j=>.bl (decide (i < j))) ta tb):=q_cmp op_lt cov_rIB ha hb (nomark _)
theorem q_le (ha:QE X a ta) (hb:QE X b tb):QE X (.Compare a [.LtE] [b] pos) (q2 (RI0 fun i j=>.bl (decide (i<=j))) ta tb):=q_cmp op_le cov_rIB ha hb (nomark _)
theorem q_ge (ha:QE X a ta) (hb:QE X b tb):QE X (.Compare a [.GtE] [b] pos) (q2 (RI0 fun i j=>.bl (decide (j<=i))) ta tb):=q_cmp op_ge cov_rIB ha hb (nomark _)
theorem q_eq (ha:QE X a ta) (hb:QE X b tb):QE X (.Compare a [.Eq] [b] pos) (q2 (REqI false) ta tb):=q_cmp op_eq cov_eq ha hb (nomark _)
theorem q_isN (ha:QE X a ta) (hb:QE X b tb):QE X (.Compare a [.Is] [b] pos) (q2 (RIsN false) ta tb):=q_cmp op_isN cov_isN ha hb (nomark _)
theorem t_lt (ha:QE X a ta) (hb:QE X b tb):QT X (.Compare a [.Lt] [b] pos) (qTest (q2 (RI0 fun i j=>.bl (decide (i < j))) ta tb)):=t_cmp op_lt cov_rIB ha hb (nomark _)
theorem t_le (ha:QE X a ta) (hb:QE X b tb):QT X (.Compare a [.LtE] [b] pos) (qTest (q2 (RI0 fun i j=>.bl (decide (i<=j))) ta tb)):=t_cmp op_le cov_rIB ha hb (nomark _)
theorem t_gt (ha:QE X a ta) (hb:QE X b tb):QT X (.Compare a [.Gt] [b] pos) (qTest (q2 (RI0 fun i j=>.bl (decide (j < i))) ta tb)):=t_cmp op_gt cov_rIB ha hb (nomark _)
theorem t_ge (ha:QE X a ta) (hb:QE X b tb):QT X (.Compare a [.GtE] [b] pos) (qTest (q2 (RI0 fun i j=>.bl (decide (j<=i))) ta tb)):=t_cmp op_ge cov_rIB ha hb (nomark _)
theorem t_eq (ha:QE X a ta) (hb:QE X b tb):QT X (.Compare a [.Eq] [b] pos) (qTest (q2 (REqI false) ta tb)):=t_cmp op_eq cov_eq ha hb (nomark _)
theorem t_ne (ha:QE X a ta) (hb:QE X b tb):QT X (.Compare a [.NotEq] [b] pos) (qTest (q2 (REqI true) ta tb)):=t_cmp op_ne cov_ne ha hb (nomark _)
theorem t_isN (ha:QE X a ta) (hb:QE X b tb):QT X (.Compare a [.Is] [b] pos) (qTest (q2 (RIsN false) ta tb)):=t_cmp op_isN cov_isN ha hb (nomark _)
theorem t_notN (ha:QE X a ta) (hb:QE X b tb):QT X (.Compare a [.IsNot] [b] pos) (qTest (q2 (RIsN true) ta tb)):=t_cmp op_notN cov_notN ha hb (nomark _)
theorem t_din (hu:X.A.units+1 < cLine) (hk:QE X a tk) (hd:QE X b te) (hm:behindInMarks .In b=false:=by rfl):QT X (.Compare a [.In] [b] pos) (qTest (qDIn false tk te)):=ptI (pt_cmp (pc_din hu hk hd) hm) fun _ _ _ h=>le_din (lt_test h)
theorem t_dnotin (hu:X.A.units+1 < cLine) (hk:QE X a tk) (hd:QE X b te) (hm:behindInMarks .NotIn b=false:=by rfl):QT X (.Compare a [.NotIn] [b] pos) (qTest (qDIn true tk te)):=ptI (pt_cmp (pc_dnotin hu hk hd) hm) fun _ _ _ h=>le_dnotin (lt_test h)
theorem q_dnotin (hu:X.A.units+1 < cLine) (hk:QE X a tk) (hd:QE X b te) (hm:behindInMarks .NotIn b=false:=by rfl):QE X (.Compare a [.NotIn] [b] pos) (qDIn true tk te):=peI (pe_cmp (pc_dnotin hu hk hd) hm) fun _ _ _ h=>le_dnotin h
theorem t_val (h:QE X e te) (he:∀ whole,isTrue e X.env whole=(do let v <- whole; standAt e.pos; holding [v] (truthy v)):=by intro _; rfl):QT X e (qTest te):=ptI (pt_val h he) fun _ _ _ h=>lt_test h
theorem t_tru (h:QE X e te) (he:∀ whole,isTrue e X.env whole=(do let v <- whole; standAt e.pos; holding [v] (truthy v)):=by intro _; rfl):QT X e (qTru te):=ptI (pt_truth h he) fun _ _ _ h=>lt_tru h
theorem w_and1 (ha:QT X a tA):QW X (.BoolOp .And [a] pos) tA:=pw_and1 ha
theorem w_or1 (ha:QT X a tA):QW X (.BoolOp .Or [a] pos) tA:=pw_or1 ha
theorem w_and (ha:QT X a tA) (hb:QW X (.BoolOp .And (b :: rest) pos) tB'):QW X (.BoolOp .And (a :: b :: rest) pos) (qAnd tA tB'):=pwI (pw_and ha hb) fun _ _ _=>lt_and
theorem w_or (ha:QT X a tA) (hb:QW X (.BoolOp .Or (b :: rest) pos) tB'):QW X (.BoolOp .Or (a :: b :: rest) pos) (qOr tA tB'):=pwI (pw_or ha hb) fun _ _ _=>lt_or
theorem t_w (h:QW X e tA):QT X e tA:=PW.pt h
theorem t_not (ha:QT X a tA):QT X (.UnaryOp .Not a pos) (qNot tA):=ptI (pt_not ha) fun _ _ _=>lt_not
theorem q_one {op} (h:QE X a ta):QE X (.BoolOp op [a] pos) ta:=pe_one h
theorem q_and (ha:QE X a ta) (hb:QE X (.BoolOp .And (b :: rest) pos) tb):QE X (.BoolOp .And (a :: b :: rest) pos) (qAndV ta tb):=peI (pe_and ha hb) fun _ _ _=>le_and
theorem q_or (ha:QE X a ta) (hb:QE X (.BoolOp .Or (b :: rest) pos) tb):QE X (.BoolOp .Or (a :: b :: rest) pos) (qOrV ta tb):=peI (pe_or ha hb) fun _ _ _=>le_or
theorem q_not (ha:QE X a ta):QE X (.UnaryOp .Not a pos) (qNotV ta):=peI (pe_not ha) fun _ _ _=>le_not
theorem a_nil:QA X [] qNil:=paI pa_nil fun _ _ _=>la_nil
theorem a_cons (ha:QE X e te) (hr:QA X es tr) (hs:starEach (e :: es) X.env=(false,eval e X.env) :: starEach es X.env:=by rfl):QA X (e :: es) (qCons te tr):=paI (pa_cons ha hr hs) fun _ _ _=>la_cons
theorem q_tup {x1} (h:QA X es tr):QE X (.Tuple es x1 pos) (qTupF tr):=peI (pe_tup h) fun _ _ _=>le_tupF
theorem q_lst (h:QA X es tr):QE X (.List es pos) (qLst tr):=peI (pe_lst h) fun _ _ _=>le_lst
theorem q_ix (ha:QE X a ta) (hb:QE X b tb) (hs:PlainIx b:=by exact fun _ _=>rfl):QE X (.Subscript a b pos) (q2 RIx ta tb):=peI (pe_ix ix_seq ha hb hs) fun _ _ _=>le_2 cov_ix
theorem q_dget (hu:X.A.units+1 < cLine) (ha:QE X a ta) (hb:QE X b tb) (hs:NoSl b:=by exact fun _ _=>rfl):QE X (.Subscript a b pos) (qDGet ta tb):=peI (pe_dget hu ha hb hs) fun _ _ _=>le_dget
theorem q_dK:QE X (.Dict [] [] pos) (qC (.dK [])):=peI pe_dnewK fun _ _ _=>le_dnewK
theorem q_dT:QE X (.Dict [] [] pos) (qC (.dT [])):=peI pe_dnewT fun _ _ _=>le_dnewT
theorem q_blt {x:Str}{id:String}{R:List PV->(PV->Prop)->Prop}{r:List V->Hp->VK->Prop} (hc:CallR X (.builtin id) r) (cv:CovC X R r) (hg:Gl X x) (hm:X.mg x=none) (hv:bootBuiltins x=some (.builtin id)) (ha:QA X (e :: es) tr) (hn:x ≠ "__name__":=by decide) (hdb:(x == ("__debug__" : Str))=false:=by decide)
  (he:starEach (e :: es) X.env=(false,eval e X.env) :: starEach es X.env:=by rfl) (hpl:(backTo pos (starEach es X.env)).any (·.1)=false:=by rfl):QE X (.Call (.Name x p2) (e :: es) [] pos) (qCall R tr):=peI (pe_callB hc hg hm hv ha hn hdb he hpl) fun _ _ _=>le_call cv
theorem q_blt_ty {x:Str}{T:String}{R:List PV->(PV->Prop)->Prop}{r:List V->Hp->VK->Prop} (hc:CallR X (.type T) r) (cv:CovC X R r) (hg:Gl X x) (hm:X.mg x=none) (hv:bootBuiltins x=some (.type T)) (ha:QA X (e :: es) tr) (hn:x ≠ "__name__":=by decide) (hdb:(x == ("__debug__" : Str))=false:=by decide)
  (he:starEach (e :: es) X.env=(false,eval e X.env) :: starEach es X.env:=by rfl) (hpl:(backTo pos (starEach es X.env)).any (·.1)=false:=by rfl):QE X (.Call (.Name x p2) (e :: es) [] pos) (qCall R tr):=peI (pe_callTy hc hg hm hv ha hn hdb he hpl) fun _ _ _=>le_call cv
theorem s_nil:QSs X [] qNext:=pssI pss_nil fun _ _ _=>ls_next
theorem s_cons (h1:QS X st t) (h2:QSs X sts u):QSs X (st :: sts) (qSeq t u):=pssI (pss_cons h1 h2) fun _ _ _=>ls_seq
theorem s_one (h1:QS X st t):QSs X [st] t:=pss_one h1
theorem s_never:QS X st qNever:=psI ps_never fun _ _ _ ⟨_,_,_,_,h,_⟩=>h
theorem s_set {i:Nat}{x:Str} (hN:X.N.Nodup) (he:QE X e te) (hi:X.N[i]? = some x:=by rfl) (hx:Loc X.env.scope x:=by first | exact Or.inl rfl | exact Or.inr rfl) (hs:swapsWith e (some (.Name x p2)) pos.line X.env=pure false:=by rfl) (hf:X.fn x=true ∨ X.env.scope.names.lookup x=some .local:=by first | exact .inl rfl | exact .inr rfl) :
  QS X (.Assign [.Name x p2] e pos) (qSet i te):=psI (ps_set hN hi hx he hs hf) fun _ _ _=>ls_set
theorem s_own {i:Nat}{x:Str} (hN:X.N.Nodup) (he:QE X e te) (hi:X.N[i]? = some x:=by rfl) (hx:Loc X.env.scope x:=by first | exact Or.inl rfl | exact Or.inr rfl) (hs:swapsWith e (some (.Name x p2)) pos.line X.env=pure false:=by rfl) (hf:X.fn x=true ∨ X.env.scope.names.lookup x=some .local:=by first | exact .inl rfl | exact .inr rfl) :
  QS X (.Assign [.Name x p2] e pos) (qOwn i te):=psI (ps_set hN hi hx he hs hf) fun _ _ _=>ls_own
theorem s_frz (i:Nat) (h:QS X st t):QS X st (qFrz i t):=psI h fun _ _ _=>ls_frz
theorem s_ret (he:QE X e te):QS X (.Return (some e) pos) (qRet te):=psI (ps_ret he) fun _ _ _=>ls_ret
theorem s_retv (i:Nat) {x:Str} (hN:X.N[i]? = some x:=by rfl) (hv:Vis X.env.scope x:=by first | exact Or.inl rfl | exact Or.inr (Or.inl rfl) | exact Or.inr (Or.inr rfl)) (hd:(x == ("__debug__" : Str))=false:=by decide) (hcd:(x == ("__classdict__" : Str))=false:=by decide) :
  QS X (.Return (some (.Name x p2)) pos) (qRetV i):=psI (ps_ret (pe_var hN hv hd hcd)) fun _ _ _=>ls_retV
theorem s_if {sa sb:List Stmt} (hc:QT X c tc) (ha:QSs X sa t) (hb:QSs X sb u):QS X (.If c sa sb pos) (qIf tc t u):=psI (ps_if hc ha hb) fun _ _ _=>ls_if
theorem s_while {body:List Stmt} (hp:PassesOwn (model X.prog X.w) X.A X.env X.xe) (hc:QT X c tc) (hb:QSs X body t):QS X (.While c body [] pos) (qWhile tc t):=psI (ps_while hp hc hb) fun _ _ _=>ls_while
theorem s_app (i:Nat) {x:Str}{apos cpos xpos:Pos} (he:QE X e te) (hN:X.N[i]? = some x:=by rfl) (hv:Vis X.env.scope x:=by first | exact Or.inl rfl | exact Or.inr (Or.inl rfl) | exact Or.inr (Or.inr rfl)) (hd:(x == ("__debug__" : Str))=false:=by decide) (hcd:(x == ("__classdict__" : Str))=false:=by decide)
  (hbase:attributeBase (.Name x xpos) "append" X.env (eval (.Name x xpos) X.env)=eval (.Name x xpos) X.env:=by rfl)
  (hfew:((backTo cpos (starEach [e] X.env)).all (fun x=>!x.1) && (backToKw cpos (keywordEach [] X.env)).all (fun x=>x.1.isSome) && decide (([e]:List Expr).length+([]:List Keyword).length+(if ([]:List Keyword).isEmpty then 0 else 1) < 30))=true:=by rfl)
  (hline:(apos.endLine == cpos.line)=true:=by rfl) (hs:starEach [e] X.env=(false,eval e X.env) :: starEach [] X.env:=by rfl) (hplain:(backTo cpos (starEach [] X.env)).any (·.1)=false:=by rfl)
  (hsw:swapsWith (.Call (.Attribute (.Name x xpos) "append" apos) [e] [] cpos) none pos.line X.env=pure false:=by rfl) :
  QS X (.Expr (.Call (.Attribute (.Name x xpos) "append" apos) [e] [] cpos) pos) (qApp i te):=
 psI (ps_expr (pe_bm PySem.F.plainAttrs_list PySem.F.slot_list_append PySem.F.type_list_append mt_append (pe_var hN hv hd hcd) (pa_cons he pa_nil hs) hbase hfew hline hs hplain) hsw) fun _ _ _=>ls_app
theorem s_dput {i:Nat}{x:Str}{xpos tpos:Pos} (hu:X.A.units+1 < cLine) (hk:QE X a tk) (he:QE X e te) (hN:X.N[i]? = some x:=by rfl) (hv:Vis X.env.scope x:=by first | exact Or.inl rfl | exact Or.inr (Or.inl rfl) | exact Or.inr (Or.inr rfl)) (hd:(x == ("__debug__" : Str))=false:=by decide) (hcd:(x == ("__classdict__" : Str))=false:=by decide)
  (hs:swapsWith e (some (.Subscript (.Name x xpos) a tpos)) pos.line X.env=pure false:=by rfl):QS X (.Assign [.Subscript (.Name x xpos) a tpos] e pos) (qDPut i tk te):=psI (ps_dput hu (pe_var hN hv hd hcd) hk he hs) fun _ _ _=>ls_dput
theorem s_dputT {i:Nat}{x:Str}{xpos tpos:Pos} (hu:X.A.units+1 < cLine) (hk:QE X a tk) (he:QE X e te) (hN:X.N[i]? = some x:=by rfl) (hv:Vis X.env.scope x:=by first | exact Or.inl rfl | exact Or.inr (Or.inl rfl) | exact Or.inr (Or.inr rfl)) (hd:(x == ("__debug__" : Str))=false:=by decide) (hcd:(x == ("__classdict__" : Str))=false:=by decide)
  (hs:swapsWith e (some (.Subscript (.Name x xpos) a tpos)) pos.line X.env=pure false:=by rfl):QS X (.Assign [.Subscript (.Name x xpos) a tpos] e pos) (qDPutT i tk te):=psI (ps_dput hu (pe_var hN hv hd hcd) hk he hs) fun _ _ _=>ls_dputT
theorem pi_seq {tg l:Expr}{tl:TE} (hl:PE X l tl):PI X tg l (iSeq X.K tl):=by
 intro pins s σ H R I h
 refine thn (hl pins s σ H _ I h) fun v s1 ⟨x,H1,I1,r1,q1⟩=>?_
 obtain ⟨a,e,q⟩:=q1
 subst e
 cases r1
 rcases q with ⟨xs,hq,q⟩ | ⟨xs,hq,q⟩
 ·obtain ⟨its,rv,p,hz⟩:=I1.list hq
  refine wpAny_pyIter_list p.isList ?_
  refine⟨s1.heap.objs.size,[s1.heap.objs.size],_,_,H1,rfl,I1.kept (t':=s1.toks) fun b o e=>Heap.get?_push_of_some _ e,turn_list a _,⟨_,Heap.get?_push_size _ rfl,rfl,rfl⟩,fun b hb=>?_,q⟩
  have e:b=s1.heap.objs.size:=by simpa using hb
  subst e
  exact I1.fpOk (Nat.le_refl _) (I1.hok.fresh (Nat.le_refl _))
 ·obtain ⟨its,rv,p,hz⟩:=I1.tuple hq
  refine wpAny_pyIter_tuple (show s1.heap.IsTuple a its.toArray from p) ?_
  refine⟨s1.heap.objs.size,[s1.heap.objs.size],_,_,H1,rfl,I1.kept (t':=s1.toks) fun b o e=>Heap.get?_push_of_some _ e,turn_tuple a _,⟨_,Heap.get?_push_size _ rfl,rfl,rfl⟩,fun b hb=>?_,q⟩
  have e:b=s1.heap.objs.size:=by simpa using hb
  subst e
  exact I1.fpOk (Nat.le_refl _) (I1.hok.fresh (Nat.le_refl _))
theorem i_seq {tg l:Expr} (hl:QE X l te):QI X tg l (qSeqI te):=piI (pi_seq hl) fun _ _ _=>li_seq
theorem i_rng1 {tg:Expr} (hg:Gl X "range") (hm:X.mg "range" = none) (ha:QE X a ta) (hs:starEach [a] X.env = [(false,eval a X.env)]:=by rfl):QI X tg (.Call (.Name "range" p2) [a] [] pos) (qRng1 ta):=piI (pi_range1 hg hm (pa_cons ha pa_nil hs) hs) fun _ _ _=>li_rng1
theorem i_rng2 {tg:Expr} (hg:Gl X "range") (hm:X.mg "range" = none) (ha:QE X a ta) (hb:QE X b tb) (hs:starEach [a,b] X.env = [(false,eval a X.env),(false,eval b X.env)]:=by rfl) (hs2:starEach [b] X.env = [(false,eval b X.env)]:=by rfl) :
  QI X tg (.Call (.Name "range" p2) [a,b] [] pos) (qRng2 ta tb):=piI (pi_range2 hg hm (pa_cons ha (pa_cons hb pa_nil hs2) (by rw [hs,hs2])) hs hs2) fun _ _ _=>li_rng2
theorem s_for {tg:Expr}{body:List Stmt}{ti:PTI}{p:PTG}{g:TG}{own:Nat->Prop} (hp:PassesOwn (model X.prog X.w) X.A X.env X.xe) (hc:X.calm=true) (hi:QI X tg e ti) (hg:PG X tg g) (ht:TgOk X.K own p g) (hb:QSs X body t)
  (hs:∀ x,foldedSetIterable e X.env x=pure x:=by intro _; rfl):QS X (.For tg e body [] pos) (qFor ti p t):=psI (ps_for hp hc hi hg hb hs) fun _ _ _=>ls_for ht
end
end PP
namespace PP
open PySem L2
section
variable {X : Cx} {pins : List (Addr × Obj)} {σ : St} {H : Hp} {s : Shared} {K : PySem.W.Frag} {M M' : Addr → Prop}
theorem KtAt.inj {a:Addr}{us ws:List V} (h:KtAt K a us) (h':KtAt K a ws):us=ws:=by
 obtain ⟨o,its,n,e1,_,e2,_,v⟩:=h
 obtain ⟨o',its',n',e1',_,e2',_,v'⟩:=h'
 rw [e1] at e1'; cases e1'
 rw [e2] at e2'; cases e2'
 exact v.inj v'
theorem Reps.self_of {n:Nat} (ih:∀ {v:V}{x y:PV},Rep K M H v x->Rep K M' H v y->okE n x y=true->eqP n x y=true):∀ {vs:List V}{xs ys:List PV},Reps K M H vs xs->Reps K M' H vs ys->((xs.zip ys).all fun p=>okE n p.1 p.2)=true->(((xs.zip ys).all fun p=>eqP n p.1 p.2) && xs.length == ys.length)=true
 | _,_,_,.nil,.nil,_=>rfl
 | _,_,_,.cons r t,.cons r' t',o=>by
  simp only [List.zip_cons_cons,List.all_cons,Bool.and_eq_true] at o
  have h1:=ih r r' o.1
  have h2:=Reps.self_of ih t t' o.2
  simp only [List.zip_cons_cons,List.all_cons,h1,Bool.true_and,List.length_cons] at h2 ⊢
  rw [<- h2]
  congr 1
  simp
theorem Rep.self:∀ (n:Nat) {v:V}{x y:PV},Rep K M H v x->Rep K M' H v y->okE n x y=true->eqP n x y=true:=by
 intro n
 induction n with
 | zero=>
  intro v x y r r' o
  cases r with
  | non=>cases r'; rfl
  | bl b=>cases r'; exact beq_self_eq_true b
  | int i=>cases r'; exact beq_self_eq_true i
  | str z=>cases r'; exact beq_self_eq_true z
  | _=>cases o
 | succ n ih=>
  intro v x y r r' o
  cases r with
  | non=>cases r'; rfl
  | bl b=>cases r'; exact beq_self_eq_true b
  | int i=>cases r'; exact beq_self_eq_true i
  | str z=>cases r'; exact beq_self_eq_true z
  | tup h rr=>
   cases r' with
   | tup h' rr'=>rw [h] at h'; cases h'; exact Reps.self_of ih rr rr' o
   | _=>cases o
  | lst _ h rr=>
   cases r' with
   | lst _ h' rr'=>rw [h] at h'; cases h'; exact Reps.self_of ih rr rr' o
   | _=>cases o
  | kt h rr=>
   cases r' with
   | kt h' rr'=>cases KtAt.inj h h'; exact Reps.self_of ih rr rr' o
   | _=>cases o
  | _=>cases o
theorem Reps.self (n:Nat) {vs:List V}{xs ys:List PV} (r:Reps K M H vs xs) (r':Reps K M' H vs ys) (o:((xs.zip ys).all fun p=>okE n p.1 p.2)=true):(((xs.zip ys).all fun p=>eqP n p.1 p.2) && xs.length == ys.length)=true:=Reps.self_of (Rep.self n) r r' o
theorem all_range (n:Nat) (xs ys:List PV):(List.range (min xs.length ys.length)).all (fun j=>eqP n (xs.getD j .non) (ys.getD j .non))=(xs.zip ys).all fun p=>eqP n p.1 p.2:=by
 rw [Bool.eq_iff_iff]
 simp only [List.all_eq_true,List.mem_range]
 constructor
 ·intro h p hp
  obtain ⟨j,hj,e⟩:=List.getElem_of_mem hp
  have hj':j < min xs.length ys.length:=by simpa using hj
  have:=h j hj'
  rw [List.getElem_zip] at e
  subst e
  have h1:j < xs.length:=by (first|lia|omega)
  have h2:j < ys.length:=by (first|lia|omega)
  simpa [List.getD_eq_getElem?_getD,h1,h2] using this
 ·intro h j hj
  have h1:j < xs.length:=by (first|lia|omega)
  have h2:j < ys.length:=by (first|lia|omega)
  have hz:j < (xs.zip ys).length:=by simp; (first|lia|omega)
  have:=h _ (List.getElem_mem hz)
  rw [List.getElem_zip] at this
  simpa [List.getD_eq_getElem?_getD,h1,h2] using this
theorem eqAt_rep (I:Inv X pins σ H s):∀ (n:Nat) {A:Around}{v w:V}{x y:PV}{a b:Value},A.units+n < cLine->Rep X.K M H v x->Rep X.K M' H w y->RelV v a->RelV w b->okE n x y=true->SeqAt.EqAt A s a b (eqP n x y):=by
 intro n
 induction n with
 | zero=>
  intro A v w x y a b hu rx ry ra rb o
  cases rx with
  | non=>
   cases ra
   cases ry with
   | non=>cases rb; exact SeqAt.EqAt.same _
   | int i=>obtain ⟨t',rfl⟩:=rb; exact SeqAt.EqAt.none_int _ _
   | _=>cases o
  | bl i=>
   cases ra
   cases ry with
   | bl j=>cases rb; exact SeqAt.EqAt.bool_bool _ _
   | _=>cases o
  | int i=>
   obtain ⟨t,rfl⟩:=ra
   cases ry with
   | int j=>obtain ⟨t',rfl⟩:=rb; exact SeqAt.EqAt.int_int _ _ _ _
   | non=>cases rb; exact SeqAt.EqAt.int_none _ _
   | _=>cases o
  | str i=>
   obtain ⟨t,rfl⟩:=ra
   cases ry with
   | str j=>obtain ⟨t',rfl⟩:=rb; exact SeqAt.EqAt.str_str _ _ _ _
   | _=>cases o
  | _=>cases o
 | succ n ih=>
  intro A v w x y a b hu rx ry ra rb o
  have items:∀ {us ws:List V}{xs ys:List PV}{its its2:List Value},Reps X.K M H us xs->Reps X.K M' H ws ys->Vals us its->Vals ws its2->((xs.zip ys).all fun p=>okE n p.1 p.2)=true->
    ∀ j (h1:j < its.toArray.size) (h2:j < its2.toArray.size),SeqAt.EqAt A.in1 s its.toArray[j] its2.toArray[j] (eqP n (xs.getD j .non) (ys.getD j .non)):=fun {us ws xs ys its its2} r1 r2 v1 v2 ok j h1 h2=>by
   have l1:=v1.length
   have l2:=v2.length
   have m1:=r1.length
   have m2:=r2.length
   have k1:j < its.length:=by simpa using h1
   have k2:j < its2.length:=by simpa using h2
   have j1:j < us.length:=by (first|lia|omega)
   have j2:j < ws.length:=by (first|lia|omega)
   have i1:j < xs.length:=by (first|lia|omega)
   have i2:j < ys.length:=by (first|lia|omega)
   obtain ⟨u,hu',ru⟩:=v1.get (List.getElem?_eq_getElem j1)
   obtain ⟨u2,hu2',ru2⟩:=v2.get (List.getElem?_eq_getElem j2)
   obtain ⟨x,hx,rx⟩:=r1.get (List.getElem?_eq_getElem j1)
   obtain ⟨y,hy,ry⟩:=r2.get (List.getElem?_eq_getElem j2)
   have e1:its.toArray[j]=u:=by
    rw [List.getElem?_eq_getElem k1] at hu'
    simpa using hu'
   have e2:its2.toArray[j]=u2:=by
    rw [List.getElem?_eq_getElem k2] at hu2'
    simpa using hu2'
   have ok':okE n x y=true:=by
    rw [List.all_eq_true] at ok
    have hz:j < (xs.zip ys).length:=by simp; (first|lia|omega)
    have:=ok _ (List.getElem_mem hz)
    rw [List.getElem_zip] at this
    rw [List.getElem?_eq_getElem i1] at hx
    rw [List.getElem?_eq_getElem i2] at hy
    cases hx; cases hy
    exact this
   rw [e1,e2]
   have g1:xs.getD j .non=x:=by rw [List.getD_eq_getElem?_getD,hx]; rfl
   have g2:ys.getD j .non=y:=by rw [List.getD_eq_getElem?_getD,hy]; rfl
   rw [g1,g2]
   exact ih (by show A.units+1+n < cLine; (first|lia|omega)) rx ry ru ru2 ok'
  have huA:A.units < cLine:=by (first|lia|omega)
  cases rx with
  | @kt p us xs h1 r1=>
   obtain ⟨its,v1,p1,_⟩:=I.tuple (.inr h1)
   cases (show a=Value.ref p from ra)
   cases ry with
   | @kt p2 ws ys h2 r2=>
    obtain ⟨its2,v2,p2',_⟩:=I.tuple (.inr h2)
    cases (show b=Value.ref p2 from rb)
    by_cases e:p=p2
    ·subst e
     have:=Rep.self (K:=X.K) (M:=M) (M':=M') (n+1) (.kt h1 r1) (.kt h2 r2) o
     rw [this]
     exact SeqAt.EqAt.same _
    ·have:=SeqAt.RcAt.tuples p1 p2' huA (items r1 r2 v1 v2 o)
     refine .of_refs e ?_
     have l1:=v1.length
     have l2:=v2.length
     have m1:=r1.length
     have m2:=r2.length
     rw [List.size_toArray,List.size_toArray,<- l1,<- l2,m1,m2,all_range] at this
     exact this
   | _=>cases o
  | @tup p us xs h1 r1=>
   obtain ⟨its,v1,p1,_⟩:=I.tuple (SqT.of (K:=X.K) h1)
   cases (show a=Value.ref p from ra)
   cases ry with
   | @tup p2 ws ys h2 r2=>
    obtain ⟨its2,v2,p2',_⟩:=I.tuple (SqT.of (K:=X.K) h2)
    cases (show b=Value.ref p2 from rb)
    by_cases e:p=p2
    ·subst e
     have:=Rep.self (K:=X.K) (M:=M) (M':=M') (n+1) (.tup h1 r1) (.tup h2 r2) o
     rw [this]
     exact SeqAt.EqAt.same _
    ·have:=SeqAt.RcAt.tuples p1 p2' huA (items r1 r2 v1 v2 o)
     refine .of_refs e ?_
     have l1:=v1.length
     have l2:=v2.length
     have m1:=r1.length
     have m2:=r2.length
     rw [List.size_toArray,List.size_toArray,<- l1,<- l2,m1,m2,all_range] at this
     exact this
   | non=>cases rb; exact SeqAt.EqAt.tuple_none p1 huA
   | _=>cases o
  | @lst p us xs _ h1 r1=>
   obtain ⟨its,v1,p1,_⟩:=I.list (SqL.of (K:=X.K) h1)
   cases (show a=Value.ref p from ra)
   cases ry with
   | @lst p2 ws ys _ h2 r2=>
    obtain ⟨its2,v2,p2',_⟩:=I.list (SqL.of (K:=X.K) h2)
    cases (show b=Value.ref p2 from rb)
    have l1:=v1.length
    have l2:=v2.length
    have m1:=r1.length
    have m2:=r2.length
    by_cases e:p=p2
    ·subst e
     rw [h1] at h2; cases h2
     have:=Reps.self n r1 r2 o
     show SeqAt.EqAt A s _ _ ((xs.zip ys).all (fun p=>eqP n p.1 p.2) && xs.length == ys.length)
     rw [this]
     exact SeqAt.EqAt.same _
    ·refine .of_refs e ?_
     by_cases hl:xs.length=ys.length
     ·have:=SeqAt.RcAt.lists p1.isList p2'.isList (by rw [List.size_toArray,List.size_toArray]; (first|lia|omega)) huA (items r1 r2 v1 v2 o)
      have hm:min xs.length ys.length=its.length:=by (first|lia|omega)
      rw [List.size_toArray,<- hm,all_range] at this
      show SeqAt.RcAt A s _ _ ((xs.zip ys).all (fun p=>eqP n p.1 p.2) && xs.length == ys.length)
      rw [show (xs.length == ys.length)=true by simpa using hl,Bool.and_true]
      exact this
     ·have:=SeqAt.RcAt.lists_lengths (A:=A) p1.isList p2'.isList (by rw [List.size_toArray,List.size_toArray]; simp; (first|lia|omega)) huA
      show SeqAt.RcAt A s _ _ ((xs.zip ys).all (fun p=>eqP n p.1 p.2) && xs.length == ys.length)
      rw [show (xs.length == ys.length)=false by simpa using hl,Bool.and_false]
      exact this
   | _=>cases o
  | non=>
   cases ra
   cases ry with
   | non=>cases rb; exact SeqAt.EqAt.same _
   | int i=>obtain ⟨t',rfl⟩:=rb; exact SeqAt.EqAt.none_int _ _
   | @tup p2 ws ys h2 r2=>
    obtain ⟨its2,v2,p2',_⟩:=I.tuple (SqT.of (K:=X.K) h2)
    cases (show b=Value.ref p2 from rb)
    exact SeqAt.EqAt.none_tuple p2' huA
   | _=>cases o
  | bl i=>
   cases ra
   cases ry with
   | bl j=>cases rb; exact SeqAt.EqAt.bool_bool _ _
   | _=>cases o
  | int i=>
   obtain ⟨t,rfl⟩:=ra
   cases ry with
   | int j=>obtain ⟨t',rfl⟩:=rb; exact SeqAt.EqAt.int_int _ _ _ _
   | non=>cases rb; exact SeqAt.EqAt.int_none _ _
   | _=>cases o
  | str i=>
   obtain ⟨t,rfl⟩:=ra
   cases ry with
   | str j=>obtain ⟨t',rfl⟩:=rb; exact SeqAt.EqAt.str_str _ _ _ _
   | _=>cases o
  | _=>cases o
end
end PP
namespace PP
open PySem L2
structure Bt (mg:Str->Option Value):Prop where
 len:mg "len" = none
 range:mg "range" = none
 tuple:mg "tuple" = none
 list:mg "list" = none
 sorted:mg "sorted" = none
 all:mg "all" = none
 any:mg "any" = none
 zip:mg "zip" = none
 min:mg "min" = none
 max:mg "max" = none
 sum:mg "sum" = none
 isinst:mg "isinstance" = none
 int:mg "int" = none
 bool:mg "bool" = none
 enum:mg "enumerate" = none
section
variable {X : Cx} {a b c e o : Expr} {es rest : List Expr} {ta tb te to tk : PTE} {tr : PTA} {tA tB' tc : PTT} {pos p2 px : Pos} {st : Stmt} {sts : List Stmt} {t u : PTS}
theorem q_len (B:Bt X.mg) (ha:QA X [e] tr) (hg:Gl X "len":=by rfl) (he:starEach [e] X.env=(false,eval e X.env) :: starEach [] X.env:=by rfl) (hpl:(backTo pos (starEach [] X.env)).any (·.1)=false:=by rfl):QE X (.Call (.Name "len" p2) [e] [] pos) (qCall RLen tr):=
 q_blt (call_len_seq.or call_lenD) cov_len hg B.len PySem.boot_len ha (he:=he) (hpl:=hpl)
theorem q_tuple (B:Bt X.mg) (ha:QA X [e] tr) (hg:Gl X "tuple":=by rfl) (he:starEach [e] X.env=(false,eval e X.env) :: starEach [] X.env:=by rfl) (hpl:(backTo pos (starEach [] X.env)).any (·.1)=false:=by rfl):QE X (.Call (.Name "tuple" p2) [e] [] pos) (qCall RTuple tr):=
 q_blt_ty call_tuple_of cov_tup hg B.tuple PyProof.Rows.boot_tuple ha (he:=he) (hpl:=hpl)
theorem q_list (B:Bt X.mg) (ha:QA X [e] tr) (hg:Gl X "list":=by rfl) (he:starEach [e] X.env=(false,eval e X.env) :: starEach [] X.env:=by rfl) (hpl:(backTo pos (starEach [] X.env)).any (·.1)=false:=by rfl):QE X (.Call (.Name "list" p2) [e] [] pos) (qCall RLst tr):=
 q_blt_ty call_list_of cov_lst hg B.list PyProof.Rows.boot_list ha (he:=he) (hpl:=hpl)
theorem q_sortedI (B:Bt X.mg) (ha:QA X [e] tr) (hg:Gl X "sorted":=by rfl) (he:starEach [e] X.env=(false,eval e X.env) :: starEach [] X.env:=by rfl) (hpl:(backTo pos (starEach [] X.env)).any (·.1)=false:=by rfl):QE X (.Call (.Name "sorted" p2) [e] [] pos) (qCall RSortI tr):=
 q_blt call_sortedI cov_sortI hg B.sorted PyProof.Rows.boot_sorted ha (he:=he) (hpl:=hpl)
theorem q_all (B:Bt X.mg) (hc:X.calm=true) (ha:QA X [e] tr) (hg:Gl X "all":=by rfl) (he:starEach [e] X.env=(false,eval e X.env) :: starEach [] X.env:=by rfl) (hpl:(backTo pos (starEach [] X.env)).any (·.1)=false:=by rfl):QE X (.Call (.Name "all" p2) [e] [] pos) (qCall RAll tr):=
 q_blt (call_allB hc) cov_all hg B.all PyProof.Rows.boot_all ha (he:=he) (hpl:=hpl)
theorem q_min2 (B:Bt X.mg) (hc:X.calm=true) (ha:QA X [a,b] tr) (hg:Gl X "min":=by rfl) (he:starEach [a,b] X.env=(false,eval a X.env) :: starEach [b] X.env:=by rfl) (hpl:(backTo pos (starEach [b] X.env)).any (·.1)=false:=by rfl):QE X (.Call (.Name "min" p2) [a,b] [] pos) (qCall RMin2 tr):=
 q_blt (call_min2 hc) cov_min2 hg B.min PyProof.Rows.boot_min ha (he:=he) (hpl:=hpl)
theorem q_max2 (B:Bt X.mg) (hc:X.calm=true) (ha:QA X [a,b] tr) (hg:Gl X "max":=by rfl) (he:starEach [a,b] X.env=(false,eval a X.env) :: starEach [b] X.env:=by rfl) (hpl:(backTo pos (starEach [b] X.env)).any (·.1)=false:=by rfl):QE X (.Call (.Name "max" p2) [a,b] [] pos) (qCall RMax2 tr):=
 q_blt (call_max2 hc) cov_max2 hg B.max PyProof.Rows.boot_max ha (he:=he) (hpl:=hpl)
theorem q_neg (ha:QE X a ta):QE X (.UnaryOp .USub a pos) (qNeg ta):=peI (pe_un un_neg ha) fun σ H Q' h=>by
 obtain ⟨W,ρ,Q,px,q,k⟩:=h
 refine⟨W,ρ,_,px,q,?_⟩
 rintro v H1 x g s r ⟨i,rfl,q⟩
 cases r
 exact⟨i,rfl,k _ _ _ .fr s (.int _) q⟩
theorem inV_dec (x:Int):∀ (xs:List Int),inV (.int x) (xs.map V.int)=decide (x ∈ xs)
 | []=>by simp [inV]
 | y :: r=>by
  have ih:=inV_dec x r
  unfold inV at ih ⊢
  rw [List.map_cons,List.any_cons,ih]
  by_cases e:y=x
  ·subst e; simp [eqV]
  ·have:eqV (.int y) (.int x)=false:=by simpa [eqV] using e
   rw [this,Bool.false_or,Bool.eq_iff_iff]
   simp [Ne.symm e]
theorem flat_all:∀ (xs:List Int),(xs.map V.int).all flatV=true
 | []=>rfl
 | _ :: r=>by rw [List.map_cons,List.all_cons,flat_all r]; rfl
theorem cov_in (neg:Bool):Cov2 X (RIn neg) (rIn X.K neg):=by
 rintro W Hs H u v x y g g' Q Q' s n r1 r2 ⟨i,ns,rfl,e,q⟩ k
 cases r1
 obtain ⟨a,us,rfl,hs,r⟩:=r2.seq e
 obtain rfl:=r.ofInts
 refine⟨a,_,rfl,hs,rfl,flat_all ns,?_⟩
 have:=k _ _ _ .fr (Same.refl _) (.bl _) q
 rw [inV_dec]
 cases neg <;> exact this
theorem q_in (ha:QE X a ta) (hb:QE X b tb) (hm:behindInMarks .In b=false:=by rfl):QE X (.Compare a [.In] [b] pos) (q2 (RIn false) ta tb):=q_cmp op_in_seq (cov_in false) ha hb hm
theorem t_in (ha:QE X a ta) (hb:QE X b tb) (hm:behindInMarks .In b=false:=by rfl):QT X (.Compare a [.In] [b] pos) (qTest (q2 (RIn false) ta tb)):=t_cmp op_in_seq (cov_in false) ha hb hm
theorem t_notin (ha:QE X a ta) (hb:QE X b tb) (hm:behindInMarks .NotIn b=false:=by rfl):QT X (.Compare a [.NotIn] [b] pos) (qTest (q2 (RIn true) ta tb)):=t_cmp op_notIn_seq (cov_in true) ha hb hm
theorem Rep.kt_ {K:PySem.W.Frag}{M:Addr->Prop}{H:Hp}{v:V}{xs:List PV} (r:Rep K M H v (.kt xs)):∃ a us,v = .ref a/\KtAt K a us/\Reps K M H us xs:=by
 cases r with
 | kt h r=>exact⟨_,_,rfl,h,r⟩
noncomputable def TyOf2 (K:PySem.W.Frag) (H:Hp) (x:V) (t:Value):Prop:=TyOf K H x t ∨ ∃ a us,x = .ref a/\SqT K H a us/\t = .type "tuple"
theorem call_isinst2:CallR X (.builtin "isinstance") (fun xs H Q=>∃ x t n b,xs = [x,.ty n]/\TyOf2 X.K H x t/\PySem.W.kitOne X.K t (.type n)=some b/\Q (.bl b) H):=by
 intro pins s σ H xs us Q I r h
 obtain ⟨x,t,n,b,rfl,ty,e,q⟩:=h
 rcases ty with ty | ⟨a,ws,rfl,hs,rfl⟩
 ·exact call_isinst pins s σ H _ us Q I r ⟨x,t,n,b,rfl,ty,e,q⟩
 obtain ⟨u,u',rfl,ru,ru'⟩:=vals2 r
 cases ru'
 cases (show u=Value.ref a from ru)
 obtain ⟨its,_,⟨o,h1,h2,_⟩,_⟩:=I.tuple hs
 exact PySem.W.kia_one PySem.W.kitx_tuple I.kIn ⟨o,h1,h2⟩ e (fun z=>nomatch z) fun tk=>⟨.bl b,H,I.tok tk,rfl,q⟩
theorem tyP_of {K:PySem.W.Frag}{M:Addr->Prop}{H:Hp}{v:V}{x:PV}{T:String} (r:Rep K M H v x) (e:tyP x=some T):TyOf2 K H v (.type T):=by
 cases r with
 | non=>cases e; exact .inl .non
 | bl b=>cases e; exact .inl (.bl b)
 | int i=>cases e; exact .inl (.int i)
 | str i=>cases e; exact .inl (.str i)
 | tup h _=>cases e; exact .inl (.tup h)
 | lst _ h _=>cases e; exact .inl (.lst h)
 | kt h _=>cases e; exact .inr ⟨_,_,rfl,.inr h,rfl⟩
 | _=>cases e
theorem q_isI {x:Str}{n:String} (B:Bt X.mg) (hn:bootBuiltins x=some (.type n)) (hm:X.mg x=none) (ha:QE X a ta) (hg:Gl X "isinstance":=by rfl) (hgx:Gl X x:=by rfl) (hx:x ≠ "__name__":=by decide) (hdx:(x == ("__debug__" : Str))=false:=by decide)
  (he:starEach [a,.Name x px] X.env=(false,eval a X.env) :: starEach [.Name x px] X.env:=by rfl) (he2:starEach [.Name x px] X.env=(false,eval (.Name x px) X.env) :: starEach [] X.env:=by rfl) (hpl:(backTo pos (starEach [.Name x px] X.env)).any (·.1)=false:=by rfl):QE X (.Call (.Name "isinstance" p2) [a,.Name x px] [] pos) (qIsI X.K n ta):=
 peI (pe_callB call_isinst2 hg B.isinst PyProof.Rows.boot_isinstance (pa_cons ha (pa_cons (pe_bltn (v:=.ty n) hgx hm hn rfl hx hdx) pa_nil he2) he) (he:=he) (hpl:=hpl)) fun σ H Q' h=>by
  obtain ⟨W,ρ,Q,px,q,k⟩:=h
  refine⟨W,ρ,_,px,q,?_⟩
  rintro v H1 x g s r ⟨T,b,e,kt,q⟩
  exact⟨v,_,n,b,rfl,tyP_of r e,kt,k _ _ _ .fr s (.bl _) q⟩
theorem q_isinst_int (B:Bt X.mg) (ha:QE X a ta) (hg:Gl X "isinstance":=by rfl) (hgx:Gl X "int":=by rfl)
  (he:starEach [a,.Name "int" px] X.env=(false,eval a X.env) :: starEach [.Name "int" px] X.env:=by rfl) (he2:starEach [.Name "int" px] X.env=(false,eval (.Name "int" px) X.env) :: starEach [] X.env:=by rfl) (hpl:(backTo pos (starEach [.Name "int" px] X.env)).any (·.1)=false:=by rfl):QE X (.Call (.Name "isinstance" p2) [a,.Name "int" px] [] pos) (qIsI X.K "int" ta):=q_isI B PyProof.Rows.boot_int B.int ha (hg:=hg) (hgx:=hgx) (he:=he) (he2:=he2) (hpl:=hpl)
theorem q_isinst_bool (B:Bt X.mg) (ha:QE X a ta) (hg:Gl X "isinstance":=by rfl) (hgx:Gl X "bool":=by rfl)
  (he:starEach [a,.Name "bool" px] X.env=(false,eval a X.env) :: starEach [.Name "bool" px] X.env:=by rfl) (he2:starEach [.Name "bool" px] X.env=(false,eval (.Name "bool" px) X.env) :: starEach [] X.env:=by rfl) (hpl:(backTo pos (starEach [.Name "bool" px] X.env)).any (·.1)=false:=by rfl):QE X (.Call (.Name "isinstance" p2) [a,.Name "bool" px] [] pos) (qIsI X.K "bool" ta):=q_isI B PyProof.Rows.boot_bool B.bool ha (hg:=hg) (hgx:=hgx) (he:=he) (he2:=he2) (hpl:=hpl)
theorem q_isinst_list (B:Bt X.mg) (ha:QE X a ta) (hg:Gl X "isinstance":=by rfl) (hgx:Gl X "list":=by rfl)
  (he:starEach [a,.Name "list" px] X.env=(false,eval a X.env) :: starEach [.Name "list" px] X.env:=by rfl) (he2:starEach [.Name "list" px] X.env=(false,eval (.Name "list" px) X.env) :: starEach [] X.env:=by rfl) (hpl:(backTo pos (starEach [.Name "list" px] X.env)).any (·.1)=false:=by rfl):QE X (.Call (.Name "isinstance" p2) [a,.Name "list" px] [] pos) (qIsI X.K "list" ta):=q_isI B PyProof.Rows.boot_list B.list ha (hg:=hg) (hgx:=hgx) (he:=he) (he2:=he2) (hpl:=hpl)
noncomputable def rEqS (K:PySem.W.Frag) (n:Nat) (neg:Bool):R2:=fun v w H Q=>∃ x y,Rep K (fun _=>True) H v x/\Rep K (fun _=>True) H w y/\((∃ xs ys,x = .tup xs/\y = .tup ys) ∨ (∃ xs ys,x = .lst xs/\y = .lst ys) ∨ (∃ xs ys,x = .kt xs/\y = .kt ys))/\okE (n+1) x y=true/\Q (.bl (if neg=true then !eqP (n+1) x y else eqP (n+1) x y)) H
theorem eq_items {pins:List (Addr × Obj)}{σ:St}{H:Hp}{s:Shared}{M M':Addr->Prop} (I:Inv X pins σ H s) {n:Nat}{A:Around} (hu:A.units+(n+1) < cLine) {us ws:List V}{xs ys:List PV}{its its2:List Value} (r1:Reps X.K M H us xs) (r2:Reps X.K M' H ws ys) (v1:Vals us its) (v2:Vals ws its2)
  (ok:((xs.zip ys).all fun p=>okE n p.1 p.2)=true):∀ j (h1:j < its.toArray.size) (h2:j < its2.toArray.size),SeqAt.EqAt A.in1 s its.toArray[j] its2.toArray[j] (eqP n (xs.getD j .non) (ys.getD j .non)):=by
 intro j h1 h2
 have l1:=v1.length
 have l2:=v2.length
 have m1:=r1.length
 have m2:=r2.length
 have k1:j < its.length:=by simpa using h1
 have k2:j < its2.length:=by simpa using h2
 have j1:j < us.length:=by (first|lia|omega)
 have j2:j < ws.length:=by (first|lia|omega)
 have i1:j < xs.length:=by (first|lia|omega)
 have i2:j < ys.length:=by (first|lia|omega)
 obtain ⟨u,hu',ru⟩:=v1.get (List.getElem?_eq_getElem j1)
 obtain ⟨u2,hu2',ru2⟩:=v2.get (List.getElem?_eq_getElem j2)
 obtain ⟨x,hx,rx⟩:=r1.get (List.getElem?_eq_getElem j1)
 obtain ⟨y,hy,ry⟩:=r2.get (List.getElem?_eq_getElem j2)
 have e1:its.toArray[j]=u:=by
  rw [List.getElem?_eq_getElem k1] at hu'
  simpa using hu'
 have e2:its2.toArray[j]=u2:=by
  rw [List.getElem?_eq_getElem k2] at hu2'
  simpa using hu2'
 have ok':okE n x y=true:=by
  rw [List.all_eq_true] at ok
  have hz:j < (xs.zip ys).length:=by simp; (first|lia|omega)
  have:=ok _ (List.getElem_mem hz)
  rw [List.getElem_zip] at this
  rw [List.getElem?_eq_getElem i1] at hx
  rw [List.getElem?_eq_getElem i2] at hy
  cases hx; cases hy
  exact this
 rw [e1,e2]
 have g1:xs.getD j .non=x:=by rw [List.getD_eq_getElem?_getD,hx]; rfl
 have g2:ys.getD j .non=y:=by rw [List.getD_eq_getElem?_getD,hy]; rfl
 rw [g1,g2]
 exact eqAt_rep I n (by show A.units+1+n < cLine; (first|lia|omega)) rx ry ru ru2 ok'
theorem op_eqS (n:Nat) (hu:X.A.units+(n+1) < cLine):OpR X (compareOp .Eq) (rEqS X.K n false):=by
 intro pins s σ H v w a b Q I ra rb h
 obtain ⟨x,y,rx,ry,kd,o,q⟩:=h
 have hu0:X.A.units < cLine:=by (first|lia|omega)
 rcases kd with ⟨xs,ys,rfl,rfl⟩ | ⟨xs,ys,rfl,rfl⟩ | ⟨xs,ys,rfl,rfl⟩
 ·obtain ⟨p,us,rfl,h1,r1⟩:=rx.sqT
  obtain ⟨p2,ws,rfl,h2,r2⟩:=ry.sqT
  cases ra; cases rb
  obtain ⟨its,v1,p1,_⟩:=I.tuple (SqT.of (K:=X.K) h1)
  obtain ⟨its2,v2,p2',_⟩:=I.tuple (SqT.of (K:=X.K) h2)
  have l1:=v1.length
  have l2:=v2.length
  have m1:=r1.length
  have m2:=r2.length
  have:=SeqAt.RcAt.tuples p1 p2' hu0 (eq_items I hu r1 r2 v1 v2 o)
  rw [List.size_toArray,List.size_toArray,<- l1,<- l2,m1,m2,all_range] at this
  exact this _ _ _ _ ⟨.bl _,H,I,rfl,q⟩
 ·obtain ⟨p,us,rfl,_,h1,r1⟩:=rx.sqL
  obtain ⟨p2,ws,rfl,_,h2,r2⟩:=ry.sqL
  cases ra; cases rb
  obtain ⟨its,v1,p1,_⟩:=I.list (SqL.of (K:=X.K) h1)
  obtain ⟨its2,v2,p2',_⟩:=I.list (SqL.of (K:=X.K) h2)
  have l1:=v1.length
  have l2:=v2.length
  have m1:=r1.length
  have m2:=r2.length
  have q:Q (.bl ((xs.zip ys).all (fun p=>eqP n p.1 p.2) && xs.length == ys.length)) H:=q
  by_cases hl:xs.length=ys.length
  ·have:=SeqAt.RcAt.lists p1.isList p2'.isList (by rw [List.size_toArray,List.size_toArray]; (first|lia|omega)) hu0 (eq_items I hu r1 r2 v1 v2 o)
   have hm:min xs.length ys.length=its.length:=by (first|lia|omega)
   rw [List.size_toArray,<- hm,all_range] at this
   rw [show (xs.length == ys.length)=true by simpa using hl,Bool.and_true] at q
   exact this _ _ _ _ ⟨.bl _,H,I,rfl,q⟩
  ·have:=SeqAt.RcAt.lists_lengths (A:=X.A) p1.isList p2'.isList (by rw [List.size_toArray,List.size_toArray]; simp; (first|lia|omega)) hu0
   rw [show (xs.length == ys.length)=false by simpa using hl,Bool.and_false] at q
   exact this _ _ _ _ ⟨.bl _,H,I,rfl,q⟩
 ·obtain ⟨p,us,rfl,h1,r1⟩:=rx.kt_
  obtain ⟨p2,ws,rfl,h2,r2⟩:=ry.kt_
  cases ra; cases rb
  obtain ⟨its,v1,p1,_⟩:=I.tuple (.inr h1)
  obtain ⟨its2,v2,p2',_⟩:=I.tuple (.inr h2)
  have l1:=v1.length
  have l2:=v2.length
  have m1:=r1.length
  have m2:=r2.length
  have:=SeqAt.RcAt.tuples p1 p2' hu0 (eq_items I hu r1 r2 v1 v2 o)
  rw [List.size_toArray,List.size_toArray,<- l1,<- l2,m1,m2,all_range] at this
  exact this _ _ _ _ ⟨.bl _,H,I,rfl,q⟩
theorem op_neS (n:Nat) (hu:X.A.units+(n+1) < cLine):OpR X (compareOp .NotEq) (rEqS X.K n true):=by
 intro pins s σ H v w a b Q I ra rb h
 obtain ⟨x,y,rx,ry,kd,o,q⟩:=h
 have hu0:X.A.units < cLine:=by (first|lia|omega)
 rcases kd with ⟨xs,ys,rfl,rfl⟩ | ⟨xs,ys,rfl,rfl⟩ | ⟨xs,ys,rfl,rfl⟩
 ·obtain ⟨p,us,rfl,h1,r1⟩:=rx.sqT
  obtain ⟨p2,ws,rfl,h2,r2⟩:=ry.sqT
  cases ra; cases rb
  obtain ⟨its,v1,p1,_⟩:=I.tuple (SqT.of (K:=X.K) h1)
  obtain ⟨its2,v2,p2',_⟩:=I.tuple (SqT.of (K:=X.K) h2)
  have l1:=v1.length
  have l2:=v2.length
  have m1:=r1.length
  have m2:=r2.length
  have:=SeqAt.RcNeAt.tuples p1 p2' hu0 (eq_items I hu r1 r2 v1 v2 o)
  rw [List.size_toArray,List.size_toArray,<- l1,<- l2,m1,m2,all_range] at this
  exact this _ _ _ _ ⟨.bl _,H,I,rfl,q⟩
 ·obtain ⟨p,us,rfl,_,h1,r1⟩:=rx.sqL
  obtain ⟨p2,ws,rfl,_,h2,r2⟩:=ry.sqL
  cases ra; cases rb
  obtain ⟨its,v1,p1,_⟩:=I.list (SqL.of (K:=X.K) h1)
  obtain ⟨its2,v2,p2',_⟩:=I.list (SqL.of (K:=X.K) h2)
  have l1:=v1.length
  have l2:=v2.length
  have m1:=r1.length
  have m2:=r2.length
  have q:Q (.bl (!((xs.zip ys).all (fun p=>eqP n p.1 p.2) && xs.length == ys.length))) H:=q
  by_cases hl:xs.length=ys.length
  ·have:=SeqAt.RcNeAt.lists p1.isList p2'.isList (by rw [List.size_toArray,List.size_toArray]; (first|lia|omega)) hu0 (eq_items I hu r1 r2 v1 v2 o)
   have hm:min xs.length ys.length=its.length:=by (first|lia|omega)
   rw [List.size_toArray,<- hm,all_range] at this
   rw [show (xs.length == ys.length)=true by simpa using hl,Bool.and_true] at q
   exact this _ _ _ _ ⟨.bl _,H,I,rfl,q⟩
  ·have:=SeqAt.RcNeAt.lists_lengths (A:=X.A) p1.isList p2'.isList (by rw [List.size_toArray,List.size_toArray]; simp; (first|lia|omega)) hu0
   rw [show (xs.length == ys.length)=false by simpa using hl,Bool.and_false] at q
   exact this _ _ _ _ ⟨.bl _,H,I,rfl,q⟩
 ·obtain ⟨p,us,rfl,h1,r1⟩:=rx.kt_
  obtain ⟨p2,ws,rfl,h2,r2⟩:=ry.kt_
  cases ra; cases rb
  obtain ⟨its,v1,p1,_⟩:=I.tuple (.inr h1)
  obtain ⟨its2,v2,p2',_⟩:=I.tuple (.inr h2)
  have l1:=v1.length
  have l2:=v2.length
  have m1:=r1.length
  have m2:=r2.length
  have:=SeqAt.RcNeAt.tuples p1 p2' hu0 (eq_items I hu r1 r2 v1 v2 o)
  rw [List.size_toArray,List.size_toArray,<- l1,<- l2,m1,m2,all_range] at this
  exact this _ _ _ _ ⟨.bl _,H,I,rfl,q⟩
theorem cov_eqS {n:Nat}{neg:Bool}:Cov2 X (REqS n neg) (rEqS X.K n neg):=by
 rintro W Hs H u v x y g g' Q Q' s n r1 r2 ⟨kd,o,q⟩ k
 exact⟨x,y,r1.same (Same.refl _) fun _ _=>trivial,r2.same (Same.refl _) fun _ _=>trivial,kd.elim .inl fun z=>.inr (.inl z),o,k _ _ _ .fr (Same.refl _) (.bl _) q⟩
theorem t_neP (hu:X.A.units+3 < cLine) (ha:QE X a ta) (hb:QE X b tb):QT X (.Compare a [.NotEq] [b] pos) (qTest (q2 (REqS 2 true) ta tb)):=t_cmp (op_neS 2 hu) cov_eqS ha hb (nomark _)
end
end PP
namespace PP
open PySem L2 PyProof.Rows
noncomputable def LO (X:Cx) (t:PTO):TO:=fun σ H Q'=>∃ (W:Addr->Prop) (ρ:PEnv) (Q:Option Int->Prop),PX X.K X.H₀ W σ ρ H/\t ρ Q/\∀ o H',Same H H'->Q o->Q' o H'
noncomputable def QO (X:Cx) (e:Option Expr) (t:PTO):Prop:=PO X e (LO X t)
theorem Reps.cut {K:PySem.W.Frag}{M:Addr->Prop}{H:Hp}{us:List V}{xs:List PV} (r:Reps K M H us xs) (lo hi:Option Int):Reps K M H (cutV us lo hi) (cutP xs lo hi):=by
 unfold cutV cutP
 rw [r.length]
 exact (r.drop _).take _
section
variable {X : Cx} {a b c e o : Expr} {es rest : List Expr} {ta tb te to tk : PTE} {tr : PTA} {tA tB' tc : PTT} {pos p2 px : Pos} {st : Stmt} {sts : List Stmt} {t u : PTS}
theorem o_none:QO X none qOn:=fun pins s σ H Q I h=>po_none pins s σ H Q I (by
 obtain ⟨W,ρ,Q1,px,q,k⟩:=h
 exact k _ _ (Same.refl _) q)
theorem o_some (h:QE X e te):QO X (some e) (qOs te):=fun pins s σ H Q I hq=>po_some h pins s σ H Q I (by
 obtain ⟨W,ρ,Q1,px,q,k⟩:=hq
 refine⟨W,ρ,_,px,q,?_⟩
 rintro v H1 x g s r ⟨i,rfl,q⟩
 cases r
 exact⟨i,rfl,k _ _ s q⟩)
theorem q_slice {lo hi:Option Expr}{tl th:PTO}{sp:Pos} (he:QE X e te) (hl:QO X lo tl) (hh:QO X hi th):QE X (.Subscript e (.Slice lo hi none sp) pos) (qSl te tl th):=peI (pe_slice (sl_list.or sl_tupA) he hl hh) fun σ H Q' h=>by
 obtain ⟨W,ρ,Q,px,q,k⟩:=h
 refine⟨W,ρ,_,px,q,fun v H1 x g s1 r1 q1=>⟨W,ρ,_,px.mono s1,q1,fun lo H2 s2 q2=>⟨W,ρ,_,px.mono (s1.trans s2),q2,?_⟩⟩⟩
 rintro hi H3 s3 ⟨xs,e,f,q3⟩
 have S:=(s1.trans s2).trans s3
 have r3:=r1.same (M':=Mg X.H₀ W H g) (s2.trans s3) fun _ z=>z
 cases r3 with
 | tup h r=>
  cases e
  refine .inr ⟨_,_,rfl,SqT.of h,fun p hp=>k _ _ _ .fr (S.trans (same_new hp _)) (.tup upd_same (((r.flat f).cut lo hi).same (same_new hp _) fun _ z=>z)) q3,fun ec=>k _ _ _ .fr S (.tup h ?_) q3⟩
  have:=(r.flat (M':=Mg X.H₀ W H .fr) f).cut lo hi
  rw [ec] at this
  exact this
 | lst m h r=>
  cases e
  exact .inl ⟨_,_,rfl,SqL.of h,fun p hp=>k _ _ _ .fr (S.trans (same_new hp _)) (.lst (S.free hp) upd_same (((r.flat f).cut lo hi).same (same_new hp _) fun _ z=>z)) q3⟩
 | scr h=>
  cases e
  exact .inl ⟨_,_,rfl,h.sqL,fun p hp=>k _ _ _ .fr (S.trans (same_new hp _)) (.lst (S.free hp) upd_same (((Reps.intz _).cut lo hi).same (same_new hp _) fun _ z=>z)) q3⟩
 | _=>cases e
structure Df (P:Program) (w:World) (K:PySem.W.Frag) (mg:Str->Option Value) (base:Heap) (k:Nat) (x:Str) (ps:List Str) (p:PSp):Prop where
 ex:∃ f fd,FnOk P w K mg base CX0 k f fd ps (spP K p)/\Binds K fd ps []/\PySem.W.keepIn K (.ref f)=true/\mg x=some (.ref f)
theorem q_call {k j:Nat}{x:Str}{ps:List Str}{p:PSp} (d:Df X.prog X.w X.K X.mg X.base k x ps p) (hr:Room j X.A) (ha:QA X (e :: es) tr) (hkj:k<=j:=by decide) (hg:Gl X x:=by rfl) (hdb:(x == ("__debug__" : Str))=false:=by decide)
  (he:starEach (e :: es) X.env=(false,eval e X.env) :: starEach es X.env:=by rfl) (hpl:(backTo pos (starEach es X.env)).any (·.1)=false:=by rfl):QE X (.Call (.Name x p2) (e :: es) [] pos) (qCall p tr):=by
 obtain ⟨f,fd,F,b,kp,m⟩:=d.ex
 exact peI (pe_call F (hr.mono hkj) hg m kp b .nil pass0 ha hdb he hpl) fun _ _ _=>le_fn
theorem startP_px {K:PySem.W.Frag}{H:Hp}{N:List Str}{vs:List V}{xs:List PV} (r:Reps K (fun _=>True) H vs xs):PX K H (fun _=>False) (L2.start N vs) (startP N xs) H:=by
 have lr:=r.length
 have own:∀ {i:Nat}{m:Slot},(startP N xs)[i]? = some (some m)->∃ x,xs[i]? = some x/\m = .sh (flat x) x:=fun {i m} h=>by
  unfold startP at h
  by_cases hi:i < xs.length
  ·rw [List.getElem?_append_left (by simpa using hi),List.getElem?_map] at h
   rw [List.getElem?_eq_getElem hi] at h ⊢
   cases h
   exact⟨_,rfl,rfl⟩
  ·rw [List.getElem?_append_right (by simpa using hi),List.getElem?_replicate] at h
   split at h <;> cases h
 refine⟨by unfold L2.start startP; simp [lr],Same.refl _,fun a z=>z.elim,fun i m h=>?_,fun i j x y a h1=>?_⟩
 ·obtain ⟨x,hx,rfl⟩:=own h
  obtain ⟨v,hv,rx⟩:=r.at hx
  refine⟨v,?_,or_rep (g:=false) (rx.same (Same.refl _) fun _ _ z=>z)⟩
  have hi:i < vs.length:=(List.getElem?_eq_some_iff.mp hv).1
  unfold L2.start
  rw [List.getElem?_append_left (by simpa using hi),List.getElem?_map,hv]; rfl
 ·obtain ⟨x,_,e⟩:=own h1
  cases e
theorem Df.of {P:Program}{w:World}{K:PySem.W.Frag}{mg:Str->Option Value}{base:Heap}{k:Nat}{x:Str}{ps N:List Str}{p:PSp}{st:Stmt}{f:Addr}{fd:FuncData} (F:Fun K x x st f fd) (m:mg x=some (.ref f)) (S:FnScope N ps (defScope st))
  (hb:∀ (kV doc pm:Value) (an:Option Addr) (cdv ct:Value) (us:List Value),us.length=ps.length->bindArgs (PySem.W.fnOf x x (defArgs st) (defBody st) (defScope st) .none kV doc pm an cdv ct) ⟨us,[]⟩=pure (ps.zip us))
  (len:∀ xs Q,p xs Q->xs.length=ps.length)
  (body:∀ (cdv:Value) (A:Around) (outer:List Env) (s:Shared) (H:Hp) (E:XK),Room k (A.deeper (envOfC x (defScope st) s.heap.objs.size f cdv))->
   ∃ t,QSs (cxOf CX0 P w K mg base N x (defScope st) f cdv A outer s H E).nox (defBody st) t/\∀ xs Q,p xs Q->t { nx:=fun _=>Q .non,rt:=Q } (startP N xs)):Df P w K mg base (k+1) x ps p:=by
 refine⟨f,fd,F.ok S (fun vs H Q E h=>?_) (fun cdv A outer s H vs Q E hr h=>?_),F.binds hb,F.kp,m⟩
 ·obtain ⟨xs,Qp,r,q,_⟩:=h
  rw [r.length]; exact len xs Qp q
 ·obtain ⟨xs,Qp,r,q,k⟩:=h
  obtain ⟨t,ht,hq⟩:=body cdv A outer s H E hr
  refine⟨_,ht,fun _=>False,startP N xs,_,startP_px r,hq xs Qp q,?_,?_,?_,?_⟩
  ·exact fun W' σ' H' ρ' e px q=>k _ _ _ px.same .non q
  ·exact fun v H' x s r q=>k _ _ _ s r q
  ·exact fun W' σ' H' ρ' e px q=>q
  ·exact fun W' σ' H' ρ' e px q=>q
theorem s_for1 (i:Nat) {x:Str}{tp:Pos}{body:List Stmt}{ti:PTI} (hN:X.N.Nodup) (hi:QI X (.Name x tp) e ti) (hb:QSs X body t) (hx:X.N[i]? = some x:=by rfl) (hl:Loc X.env.scope x:=by first | exact Or.inl rfl | exact Or.inr rfl) (hf:X.fn x=true ∨ X.env.scope.names.lookup x=some .local:=by first | exact .inl rfl | exact .inr rfl)
  (hp:PassesOwn (model X.prog X.w) X.A X.env X.xe:=by exact PassesOwn.never) (hc:X.calm=true:=by rfl) (hs:∀ x,foldedSetIterable e X.env x=pure x:=by intro _; rfl):QS X (.For (.Name x tp) e body [] pos) (qFor ti (pName i) t):=
 s_for hp hc hi (pg_name hN hx hl hf) (tg_name _ i) hb hs
theorem s_for2 (i j:Nat) {x y:Str}{tp xp yp:Pos}{kt:Nat}{body:List Stmt}{ti:PTI} (hN:X.N.Nodup) (hi:QI X (.Tuple [.Name x xp,.Name y yp] kt tp) e ti) (hb:QSs X body t) (hx:X.N[i]? = some x:=by rfl) (hy:X.N[j]? = some y:=by rfl) (hlx:Loc X.env.scope x:=by first | exact Or.inl rfl | exact Or.inr rfl) (hly:Loc X.env.scope y:=by first | exact Or.inl rfl | exact Or.inr rfl)
  (hfx:X.fn x=true ∨ X.env.scope.names.lookup x=some .local:=by first | exact .inl rfl | exact .inr rfl) (hfy:X.fn y=true ∨ X.env.scope.names.lookup y=some .local:=by first | exact .inl rfl | exact .inr rfl)
  (hp:PassesOwn (model X.prog X.w) X.A X.env X.xe:=by exact PassesOwn.never) (hc:X.calm=true:=by rfl) (hs:∀ x,foldedSetIterable e X.env x=pure x:=by intro _; rfl):QS X (.For (.Tuple [.Name x xp,.Name y yp] kt tp) e body [] pos) (qFor ti (pPair i j) t):=
 s_for hp hc hi (pg_tup hc (pgs_cons (pg_name hN hx hlx hfx) (pgs_cons (pg_name hN hy hly hfy) pgs_nil))) (tg_pair _ i j) hb hs
noncomputable abbrev nxx:Value->Shared->Prop:=fun _ _=>False
section
variable {scope : Scope} {N : List Str} {fr : List (Option Nat)} {x y : Str} {tp xp yp : Pos} {kt : Nat} {iter elt : Expr} {ti : PTI}
theorem blk1 {ifs:List Expr}{tcs:PTT} (he:∀ (s:Shared) (H:Hp) (C:Addr) (fp:List Addr),QE (cxC X scope N s H C fp nxx) elt te) (hi:∀ (s:Shared) (H:Hp) (C:Addr) (fp:List Addr),PTs (cxC X scope N s H C fp nxx) ifs (LT (cxC X scope N s H C fp nxx) tcs))
  (hN:N.Nodup) (h0:N[0]? = some x) (hl:∀ (s:Shared) (H:Hp) (C:Addr) (fp:List Addr),(cxC X scope N s H C fp nxx).env.scope.names.lookup x=some .local) (s:Shared) (H:Hp) :
  BlkAt X scope N (.Name x tp) ifs elt s H (gName 0) (LT (X.frm H) tcs) (LE (X.frm H) te):=
 ⟨fun C fp=>pg_name (X:=cxC X scope N s H C fp nxx) hN h0 (.inl (hl s H C fp)) (.inr (hl s H C fp)),fun C fp=>hi s H C fp,fun C fp=>he s H C fp⟩
theorem ptsI {Y:Cx}:PTs Y [] (LT Y qYes):=fun pins s σ H Q I h=>pts_nil pins s σ H Q I (lt_yes h)
theorem q_comp1 (hi:QI X (.Name x tp) iter ti) (he:∀ (s:Shared) (H:Hp) (C:Addr) (fp:List Addr),QE (cxC X scope N s H C fp nxx) elt te)
  (hc:X.calm=true:=by rfl) (S:CoScope X scope N fr:=by exact CoScope.of rfl rfl) (hN:N.Nodup:=by decide +kernel) (h0:N[0]? = some x:=by rfl) (hl:∀ (s:Shared) (H:Hp) (C:Addr) (fp:List Addr),(cxC X scope N s H C fp nxx).env.scope.names.lookup x=some .local:=by intro _ _ _ _; rfl) (hf:fr[0]? = some none:=by rfl)
  (hs:∀ x,foldedSetIterable iter X.env x=pure x:=by intro _; rfl):QE X (.ListComp elt [⟨.Name x tp,iter,[],0⟩] scope pos) (qComp ti fr (pName 0) qYes te):=
 peI (pe_compH (gh:=fun _=>gName 0) (tch:=fun H=>LT (X.frm H) qYes) (teh:=fun H=>LE (X.frm H) te) hc S hi (blk1 he (fun _ _ _ _=>ptsI) hN h0 hl) hs) fun _ _ _=>le_comp (tg_name _ 0) (fun i e=>by subst e; exact hf)
theorem q_comp1i {c:Expr}{tcs:PTT} (hi:QI X (.Name x tp) iter ti) (ht:∀ (s:Shared) (H:Hp) (C:Addr) (fp:List Addr),QT (cxC X scope N s H C fp nxx) c tcs) (he:∀ (s:Shared) (H:Hp) (C:Addr) (fp:List Addr),QE (cxC X scope N s H C fp nxx) elt te)
  (hc:X.calm=true:=by rfl) (S:CoScope X scope N fr:=by exact CoScope.of rfl rfl) (hN:N.Nodup:=by decide +kernel) (h0:N[0]? = some x:=by rfl) (hl:∀ (s:Shared) (H:Hp) (C:Addr) (fp:List Addr),(cxC X scope N s H C fp nxx).env.scope.names.lookup x=some .local:=by intro _ _ _ _; rfl) (hf:fr[0]? = some none:=by rfl)
  (hs:∀ x,foldedSetIterable iter X.env x=pure x:=by intro _; rfl):QE X (.ListComp elt [⟨.Name x tp,iter,[c],0⟩] scope pos) (qComp ti fr (pName 0) tcs te):=
 peI (pe_compH (gh:=fun _=>gName 0) (tch:=fun H=>LT (X.frm H) tcs) (teh:=fun H=>LE (X.frm H) te) hc S hi (blk1 he (fun s H C fp=>pts_one (ht s H C fp)) hN h0 hl) hs) fun _ _ _=>le_comp (tg_name _ 0) (fun i e=>by subst e; exact hf)
theorem s_setC1 {i:Nat}{z:Str}{zp:Pos} (nd:X.N.Nodup) (hi:QI X (.Name x tp) iter ti) (he:∀ (s:Shared) (H:Hp) (C:Addr) (fp:List Addr),QE (cxC X scope N s H C fp nxx) elt te)
  (hz:X.N[i]? = some z:=by rfl) (hzl:X.env.scope.names.lookup z=some .local:=by rfl) (hsw:swapsWith (.ListComp elt [⟨.Name x tp,iter,[],0⟩] scope p2) (some (.Name z zp)) pos.line X.env=pure true:=by rfl)
  (hc:X.calm=true:=by rfl) (S:CoScope X scope N fr:=by exact CoScope.of rfl rfl) (hN:N.Nodup:=by decide +kernel) (h0:N[0]? = some x:=by rfl) (hl:∀ (s:Shared) (H:Hp) (C:Addr) (fp:List Addr),(cxC X scope N s H C fp nxx).env.scope.names.lookup x=some .local:=by intro _ _ _ _; rfl) (hf:fr[0]? = some none:=by rfl)
  (hs:∀ x,foldedSetIterable iter X.env x=pure x:=by intro _; rfl):QS X (.Assign [.Name z zp] (.ListComp elt [⟨.Name x tp,iter,[],0⟩] scope p2) pos) (qSet i (qComp ti fr (pName 0) qYes te)):=
 psI (ps_setCH (gh:=fun _=>gName 0) (tch:=fun H=>LT (X.frm H) qYes) (teh:=fun H=>LE (X.frm H) te) hc S hi (blk1 he (fun _ _ _ _=>ptsI) hN h0 hl) nd hz hzl hsw hs) fun D σ H h=>le_comp (tg_name _ 0) (fun i e=>by subst e; exact hf) (ls_set h)
theorem s_setC1i {c:Expr}{tcs:PTT}{i:Nat}{z:Str}{zp:Pos} (nd:X.N.Nodup) (hi:QI X (.Name x tp) iter ti) (ht:∀ (s:Shared) (H:Hp) (C:Addr) (fp:List Addr),QT (cxC X scope N s H C fp nxx) c tcs) (he:∀ (s:Shared) (H:Hp) (C:Addr) (fp:List Addr),QE (cxC X scope N s H C fp nxx) elt te)
  (hz:X.N[i]? = some z:=by rfl) (hzl:X.env.scope.names.lookup z=some .local:=by rfl) (hsw:swapsWith (.ListComp elt [⟨.Name x tp,iter,[c],0⟩] scope p2) (some (.Name z zp)) pos.line X.env=pure true:=by rfl)
  (hc:X.calm=true:=by rfl) (S:CoScope X scope N fr:=by exact CoScope.of rfl rfl) (hN:N.Nodup:=by decide +kernel) (h0:N[0]? = some x:=by rfl) (hl:∀ (s:Shared) (H:Hp) (C:Addr) (fp:List Addr),(cxC X scope N s H C fp nxx).env.scope.names.lookup x=some .local:=by intro _ _ _ _; rfl) (hf:fr[0]? = some none:=by rfl)
  (hs:∀ x,foldedSetIterable iter X.env x=pure x:=by intro _; rfl):QS X (.Assign [.Name z zp] (.ListComp elt [⟨.Name x tp,iter,[c],0⟩] scope p2) pos) (qSet i (qComp ti fr (pName 0) tcs te)):=
 psI (ps_setCH (gh:=fun _=>gName 0) (tch:=fun H=>LT (X.frm H) tcs) (teh:=fun H=>LE (X.frm H) te) hc S hi (blk1 he (fun s H C fp=>pts_one (ht s H C fp)) hN h0 hl) nd hz hzl hsw hs) fun D σ H h=>le_comp (tg_name _ 0) (fun i e=>by subst e; exact hf) (ls_set h)
end
theorem s_dupd (i:Nat) {x:Str}{apos cpos xpos:Pos} (he:QE X e te) (hm:M1 X (.Name x xpos) "update" apos e cpos:=by exact⟨rfl,rfl,rfl,rfl⟩) (hN:X.N[i]? = some x:=by rfl) (hv:Vis X.env.scope x:=by first | exact Or.inl rfl | exact Or.inr (Or.inl rfl) | exact Or.inr (Or.inr rfl)) (hd:(x == ("__debug__" : Str))=false:=by decide) (hcd:(x == ("__classdict__" : Str))=false:=by decide)
  (hsw:swapsWith (.Call (.Attribute (.Name x xpos) "update" apos) [e] [] cpos) none pos.line X.env=pure false:=by rfl):QS X (.Expr (.Call (.Attribute (.Name x xpos) "update" apos) [e] [] cpos) pos) (qDUpd i te):=
 psI (ps_expr (pe_dupd (pe_var hN hv hd hcd) he hm) hsw) fun _ _ _=>ls_dupd
theorem s_lput {i:Nat}{x:Str}{xpos tpos:Pos} (hk:QE X a tk) (he:QE X e te) (hN:X.N[i]? = some x:=by rfl) (hv:Vis X.env.scope x:=by first | exact Or.inl rfl | exact Or.inr (Or.inl rfl) | exact Or.inr (Or.inr rfl)) (hd:(x == ("__debug__" : Str))=false:=by decide) (hcd:(x == ("__classdict__" : Str))=false:=by decide)
  (hp:∀ (tx:TE) (tg:TE),PE X (.Name x xpos) tx->PE X a tg->PG X (.Subscript (.Name x xpos) a tpos) (gSub tx tg rSetL):=by intro _ _ h1 h2; exact pg_sub h1 h2 set_list)
  (hs:swapsWithSole [.Subscript (.Name x xpos) a tpos] e pos.line X.env=pure false:=by rfl) (hw:swappedStores [.Subscript (.Name x xpos) a tpos] e X.env=pure none:=by rfl) :
  QS X (.Assign [.Subscript (.Name x xpos) a tpos] e pos) (qLPut i tk te):=psI (ps_asg he (hp _ _ (pe_var hN hv hd hcd) hk) hs hw) fun _ _ _=>ls_lput
end
end PP
namespace L2
open PySem PySem.Spec PyProof.Rows
section
variable {X : Cx} {pins : List (Addr × Obj)} {σ : St} {H H1 H' : Hp} {s s1 s' : Shared} {B h2 : Heap} {a C : Addr}
noncomputable abbrev Cx.suite (X:Cx) (a:Addr):Cx:={ X with A:=X.A.mark (some (.ref a)),calm:=false,xe:=fun _ _=>False }
end
end L2
namespace L2
open PySem PySem.Spec PyProof.Rows
noncomputable abbrev TB:=Ends->XK->St->Hp->Prop
end L2
namespace Core
open PySem L2 PP
noncomputable def risesB (ns:List Int):Bool:=((ns.zip (ns.drop 1)).map fun p=>decide (p.1 < p.2)).all id
theorem take_map_succ {α β:Type}{l:List α}{f:α->β}{i:Nat}{x:α} (h:l[i]? = some x):(l.take (i+1)).map f=(l.take i).map f ++ [f x]:=by
 rw [List.take_add_one,h]; simp
theorem up_pair:∀ {ns:List Int},risesB ns=true->ns.Pairwise (· < ·)
 | [],_=>.nil
 | [x],_=>List.pairwise_singleton _ _
 | x :: y :: r,h=>by
  have e:risesB (x :: y :: r)=(decide (x < y) && risesB (y :: r)):=rfl
  rw [e,Bool.and_eq_true] at h
  have ih:=up_pair h.2
  refine List.pairwise_cons.mpr ⟨fun z hz=>?_,ih⟩
  rcases List.mem_cons.mp hz with rfl | hz
  ·exact of_decide_eq_true h.1
  ·exact Int.lt_trans (of_decide_eq_true h.1) (List.rel_of_pairwise_cons ih hz)
theorem pair_up:∀ {ns:List Int},ns.Pairwise (· < ·)->risesB ns=true
 | [],_=>rfl
 | [x],_=>rfl
 | x :: y :: r,h=>by
  have e:risesB (x :: y :: r)=(decide (x < y) && risesB (y :: r)):=rfl
  have h':=List.pairwise_cons.mp h
  rw [e,pair_up h'.2,Bool.and_true]
  exact decide_eq_true (h'.1 y List.mem_cons_self)
noncomputable def kin (ws:List Int) (ls:List (Int × Int)) (S:List Int) (h:Int):Bool:=!decide (h ∈ S) && decide (ws.getD h.toNat 0<=(((nbrs ls h).filter fun x=>decide (x ∈ S)).length:Int))
noncomputable def nextOf (ws:List Int) (ls:List (Int × Int)) (S:List Int):List Int:=((List.range ws.length).map fun (i:Nat)=>(i:Int)).filter (kin ws ls S)
noncomputable def stp (ws:List Int) (ls:List (Int × Int)) (S:List Int):Nat->List Int
 | 0=>S
 | k+1=>stp ws ls S k ++ nextOf ws ls (stp ws ls S k)
noncomputable def cold (ws:List Int) (S:List Int):Nat:=(((List.range ws.length).map fun (i:Nat)=>(i:Int)).filter fun x=>!decide (x ∈ S)).length
theorem cut_two {α:Type} (p q:α->Bool) (h:∀ x,q x=true->p x=false):∀ L:List α,(L.filter fun x=>!p x && !q x).length+(L.filter q).length=(L.filter fun x=>!p x).length
 | []=>rfl
 | x :: r=>by
  have ih:=cut_two p q h r
  cases e1:p x with
  | true=>
   have e2:q x=false:=by
    cases e:q x with
    | false=>rfl
    | true=>have:=h x e; rw [e1] at this; cases this
   simp only [List.filter_cons,e1,e2,Bool.not_true,Bool.false_and,Bool.false_eq_true,if_false]
   exact ih
  | false=>
   cases e2:q x with
   | true=>
    simp only [List.filter_cons,e1,e2,Bool.not_true,Bool.not_false,Bool.and_false,Bool.false_eq_true,if_false,if_true,List.length_cons]
    (first|lia|omega)
   | false=>
    simp only [List.filter_cons,e1,e2,Bool.not_false,Bool.and_true,Bool.false_eq_true,if_false,if_true,List.length_cons]
    (first|lia|omega)
theorem kin_not {ws:List Int}{ls:List (Int × Int)}{S:List Int}{x:Int} (h:kin ws ls S x=true):decide (x ∈ S)=false:=by
 unfold kin at h
 cases e:decide (x ∈ S) with
 | false=>rfl
 | true=>rw [e] at h; cases h
theorem cold_step (ws:List Int) (ls:List (Int × Int)) (S:List Int):cold ws (S ++ nextOf ws ls S)+(nextOf ws ls S).length=cold ws S:=by
 have e:=cut_two (fun x=>decide (x ∈ S)) (kin ws ls S) (fun x h=>kin_not h) ((List.range ws.length).map fun (i:Nat)=>(i:Int))
 unfold cold
 rw [<- e]
 congr 2
 refine List.filter_congr fun x hx=>?_
 have:decide (x ∈ S ++ nextOf ws ls S)=(decide (x ∈ S) || kin ws ls S x):=by
  rw [Bool.eq_iff_iff]
  unfold nextOf
  simp only [decide_eq_true_eq,List.mem_append,List.mem_filter,Bool.or_eq_true]
  exact⟨fun z=>z.elim .inl fun z=>.inr z.2,fun z=>z.elim .inl fun z=>.inr ⟨hx,z⟩⟩
 rw [this]
 cases decide (x ∈ S) <;> cases kin ws ls S x <;> rfl
theorem cold_le (ws:List Int) (S:List Int):cold ws S<=ws.length:=by
 unfold cold
 refine Nat.le_trans (List.length_filter_le _ _) ?_
 rw [List.length_map,List.length_range]; exact Nat.le_refl _
theorem next_le (ws:List Int) (ls:List (Int × Int)) (S:List Int):(nextOf ws ls S).length<=ws.length:=by
 unfold nextOf
 refine Nat.le_trans (List.length_filter_le _ _) ?_
 rw [List.length_map,List.length_range]; exact Nat.le_refl _
noncomputable def after (ws:List Int) (ls:List (Int × Int)) (S:List Int) (m:Nat):List (List Int):=(List.range m).map fun k=>nextOf ws ls (stp ws ls S k)
theorem after_succ (ws:List Int) (ls:List (Int × Int)) (S:List Int) (m:Nat):after ws ls S (m+1)=after ws ls S m ++ [nextOf ws ls (stp ws ls S m)]:=by
 unfold after
 rw [List.range_succ,List.map_append]; rfl
theorem len_stp (ws:List Int) (ls:List (Int × Int)) (ns:List Int):∀ k,(stp ws ls ns k).length+cold ws (stp ws ls ns k)=ns.length+cold ws ns
 | 0=>rfl
 | k+1=>by
  have ih:=len_stp ws ls ns k
  have cs:=cold_step ws ls (stp ws ls ns k)
  show (stp ws ls ns k ++ nextOf ws ls (stp ws ls ns k)).length+cold ws (stp ws ls ns k ++ nextOf ws ls (stp ws ls ns k))=_
  rw [List.length_append]; (first|lia|omega)
theorem seeds_cold {ws ns:List Int} (hu:ns.Pairwise (· < ·)) (hin:∀ x ∈ ns,0<=x/\x < (ws.length:Int)):ns.length+cold ws ns<=ws.length:=by
 have nd:ns.Nodup:=hu.imp fun h=>Int.ne_of_lt h
 have sub:ns ⊆ ((List.range ws.length).map fun (i:Nat)=>(i:Int)).filter fun x=>decide (x ∈ ns):=fun x hx=>by
  refine List.mem_filter.mpr ⟨List.mem_map.mpr ⟨x.toNat,List.mem_range.mpr ?_,?_⟩,decide_eq_true hx⟩
  ·have:=hin x hx; (first|lia|omega)
  ·have:=hin x hx; (first|lia|omega)
 have h1:=nd.length_le_of_subset sub
 have h2:=cut_two (fun _=>false) (fun x=>decide (x ∈ ns)) (fun _ _=>rfl) ((List.range ws.length).map fun (i:Nat)=>(i:Int))
 have h3:(((List.range ws.length).map fun (i:Nat)=>(i:Int)).filter fun x=>!false && !decide (x ∈ ns)).length=cold ws ns:=rfl
 have h4:(((List.range ws.length).map fun (i:Nat)=>(i:Int)).filter fun x=>!false).length<=ws.length:=by
  refine Nat.le_trans (List.length_filter_le _ _) ?_
  rw [List.length_map,List.length_range]; exact Nat.le_refl _
 rw [h3] at h2
 (first|lia|omega)
theorem stp_flat (ws:List Int) (ls:List (Int × Int)) (ns:List Int):∀ m,(ns :: after ws ls ns m).flatten=stp ws ls ns m
 | 0=>by simp [after,stp]
 | m+1=>by
  rw [after_succ,<- List.cons_append,List.flatten_append,stp_flat ws ls ns m]
  simp [stp]
noncomputable def Ends (ws:List Int) (ls:List (Int × Int)) (ns:List Int) (m:Nat):Prop:=(∀ k < m,nextOf ws ls (stp ws ls ns k) ≠ [])/\nextOf ws ls (stp ws ls ns m) = []
theorem nbrs_len1 (k:Int):∀ ls:List (Int × Int),(∀ l ∈ ls,l.1 ≠ l.2)->(nbrs ls k).length<=ls.length
 | [],_=>Nat.le_refl _
 | l :: r,h=>by
  have e:nbrs (l :: r) k=((if l.1=k then [l.2] else []) ++ (if l.2=k then [l.1] else [])) ++ nbrs r k:=rfl
  have ih:=nbrs_len1 k r fun m hm=>h m (List.mem_cons_of_mem _ hm)
  have h0:=h l List.mem_cons_self
  rw [e,List.length_append,List.length_append,List.length_cons]
  by_cases h1:l.1=k
  ·rw [if_pos h1,if_neg (fun z=>h0 (h1.trans z.symm))]; simp; (first|lia|omega)
  ·rw [if_neg h1]
   by_cases h2:l.2=k
   ·rw [if_pos h2]; simp; (first|lia|omega)
   ·rw [if_neg h2]; simp; (first|lia|omega)
theorem ends_eq {ws:List Int}{ls:List (Int × Int)}{ns:List Int}{m n:Nat} (h:Ends ws ls ns m) (g:Ends ws ls ns n):m=n:=by
 rcases Nat.lt_trichotomy m n with z | z | z
 ·exact absurd h.2 (g.1 m z)
 ·exact z
 ·exact absurd g.2 (h.1 n z)
theorem ends_le {ws:List Int}{ls:List (Int × Int)}{ns:List Int}:∀ (m:Nat),(∀ k < m,nextOf ws ls (stp ws ls ns k) ≠ [])->m+cold ws (stp ws ls ns m)<=ws.length
 | 0,_=>by have:=cold_le ws ns; show 0+cold ws ns<=_; (first|lia|omega)
 | m+1,h=>by
  have ih:=ends_le m fun k hk=>h k (by (first|lia|omega))
  have cs:=cold_step ws ls (stp ws ls ns m)
  have:1<=(nextOf ws ls (stp ws ls ns m)).length:=by
   cases e:nextOf ws ls (stp ws ls ns m) with
   | nil=>exact absurd e (h m (by (first|lia|omega)))
   | cons _ _=>exact Nat.succ_le_succ (Nat.zero_le _)
  show m+1+cold ws (stp ws ls ns m ++ nextOf ws ls (stp ws ls ns m))<=_
  (first|lia|omega)
end Core
namespace Core
open PySem L2 PP
theorem ints_get {ns:List Int}{i:Nat}{x:PV} (h:(intz ns)[i]? = some x):∃ n,x = .int n/\ns[i]? = some n:=by
 rw [List.getElem?_map] at h
 cases e:ns[i]? with
 | none=>rw [e] at h; cases h
 | some n=>rw [e] at h; exact⟨n,(Option.some.inj h).symm,rfl⟩
theorem rngP_at {lo:Int}{n i:Nat}{x:PV} (h:(rngP lo n)[i]? = some x):x = .int (lo+i)/\i < n:=by
 have hi:i < n:=by
  have:=(List.getElem?_eq_some_iff.mp h).1
  rwa [rngP_length] at this
 rw [rngP_get hi] at h
 exact⟨(Option.some.inj h).symm,hi⟩
noncomputable def rng (n:Nat):List Int:=(List.range n).map fun (i:Nat)=>(i:Int)
theorem rng_len (n:Nat):(rng n).length=n:=by unfold rng; rw [List.length_map,List.length_range]
theorem rng_at {n i:Nat} (h:i < n):(rng n)[i]? = some (i:Int):=by unfold rng; rw [List.getElem?_map,List.getElem?_range h]; rfl
theorem mem_rng {n:Nat}{x:Int}:x ∈ rng n ↔ 0<=x/\x < (n:Int):=by
 unfold rng
 rw [List.mem_map]
 constructor
 ·rintro ⟨i,hi,rfl⟩
  have:=List.mem_range.mp hi
  (first|lia|omega)
 ·intro h
  exact⟨x.toNat,List.mem_range.mpr (by (first|lia|omega)),by (first|lia|omega)⟩
theorem take_filter_succ' {α:Type}{l:List α}{p:α->Bool}{i:Nat}{x:α} (h:l[i]? = some x):(l.take (i+1)).filter p=(l.take i).filter p ++ (if p x=true then [x] else []):=by
 rw [List.take_add_one,h,List.filter_append]
 congr 1
 cases e:p x <;> simp [e]
theorem ints_app (a b:List Int):intz (a ++ b)=intz a ++ intz b:=List.map_append
theorem ints_len (a:List Int):(intz a).length=a.length:=List.length_map _
noncomputable def webP (ws:List Int) (ls:List (Int × Int)):PV:=.tup [.tup (intz ws),.tup (ls.map fun l=>.tup [.int l.1,.int l.2])]
structure Wb (ws:List Int) (ls:List (Int × Int)):Prop where
 few:ws.length<=40
 most:ls.length<=1700
 links:∀ l ∈ ls,(0<=l.1/\l.1 < ws.length)/\0<=l.2/\l.2 < ws.length
noncomputable def IsI (x:PV) (ns:List Int):Prop:=x = .tup (intz ns) ∨ x = .lst (intz ns)
theorem IsI.seq {x:PV}{ns:List Int} (h:IsI x ns):seqOf x=some (intz ns):=by rcases h with rfl | rfl <;> rfl
theorem IsI.seqT {x:PV}{ns:List Int} (h:IsI x ns):seqT x=some (intz ns):=by rcases h with rfl | rfl <;> rfl
theorem flats_pairs:∀ (ls:List (Int × Int)),flats (ls.map fun l=>PV.tup [.int l.1,.int l.2])=true
 | []=>rfl
 | l :: r=>by
  show (flat (.tup [.int l.1,.int l.2]) && flats (r.map fun l=>PV.tup [.int l.1,.int l.2]))=true
  rw [flats_pairs r]; rfl
theorem flat_web (ws:List Int) (ls:List (Int × Int)):flat (webP ws ls)=true:=by
 show flats [.tup (intz ws),.tup (ls.map fun l=>PV.tup [.int l.1,.int l.2])]=true
 show (flat (.tup (intz ws)) && (flat (.tup (ls.map fun l=>PV.tup [.int l.1,.int l.2])) && true))=true
 show (flats (intz ws) && (flats (ls.map fun l=>PV.tup [.int l.1,.int l.2]) && true))=true
 rw [flats_ints,flats_pairs]; rfl
theorem flat_tupI (ns:List Int):flat (.tup (intz ns))=true:=flats_ints ns
noncomputable def p_hearths_in:PSp:=fun xs Q=>∃ ws ls,xs = [webP ws ls]/\Q (.int ws.length)
noncomputable def t_hearths_in:PTS:=(qRet (qCall RLen (qCons (qIx (qVar 0) (qC (.int 0))) qNil)))
noncomputable abbrev Rd1 (t:PTS) (N:List Str) (p:PSp):Prop:=∀ xs Q,p xs Q->t { nx:=fun _=>Q .non,rt:=Q } (startP N xs)
theorem rd_hearths_in:Rd1 t_hearths_in ["web"] p_hearths_in:=by
 rintro xs Q ⟨ws,ls,rfl,q⟩
 refine⟨_,rfl,_,_,_,rfl,rfl,rfl,_,_,rfl,rfl,trivial,?_⟩
 rw [ints_len]; exact q
noncomputable def p_rises:PSp:=fun xs Q=>∃ x ns,xs = [x]/\IsI x ns/\ns.length<=1000/\Q (.bl (risesB ns))
noncomputable def inB (n:Nat) (x:Int):Bool:=decide (0<=x) && decide (x < (n:Int))
noncomputable def p_is_hearth:PSp:=fun xs Q=>∃ ws ls n,xs = [webP ws ls,.int n]/\Q (.bl (inB ws.length n))
noncomputable def t_is_hearth:PTS:=(qRet (qAndV (qGe (qVar 1) (qC (.int 0))) (qLt (qVar 1) (qCall p_hearths_in (qCons (qVar 0) qNil)))))
theorem rd_is_hearth:Rd1 t_is_hearth ["web","number"] p_is_hearth:=by
 rintro xs Q ⟨ws,ls,n,rfl,q⟩
 refine⟨_,rfl,_,_,rfl,rfl,_,rfl,?_⟩
 unfold inB at q
 by_cases h:(0:Int)<=n
 ·rw [decide_eq_true h] at q ⊢
  refine iteT ⟨_,rfl,_,rfl,ws,ls,rfl,_,_,rfl,rfl,trivial,?_⟩
  simpa using q
 ·rw [decide_eq_false h] at q ⊢
  exact iteF ⟨trivial,by simpa using q⟩
noncomputable def isSetB (n:Nat) (ns:List Int):Bool:=risesB ns && (ns.map (inB n)).all id
noncomputable def p_is_set:PSp:=fun xs Q=>∃ ws ls x ns,xs = [webP ws ls,x]/\IsI x ns/\ns.length<=1000/\Q (.bl (isSetB ws.length ns))
noncomputable def t_is_set:PTS:=(qRet (qAndV (qCall p_rises (qCons (qVar 1) qNil)) (qCall RAll (qCons (qComp (qSeqI (qVar 1)) [none,some 0] (pName 0) qYes (qCall p_is_hearth (qCons (qVar 1) (qCons (qVar 0) qNil)))) qNil))))
theorem seq_tag {x:PV}{ns:List Int} (h:IsI x ns):(Slot.sh (flat x) x).tag = .rd->flat x=true:=by
 cases flat x <;> intro z <;> cases z
theorem rd_is_set:Rd1 t_is_set ["web","numbers"] p_is_set:=by
 rintro xs Q ⟨ws,ls,x,ns,rfl,hx,hl,q⟩
 refine⟨_,rfl,x,ns,rfl,hx,hl,_,rfl,?_⟩
 unfold isSetB at q
 cases h:risesB ns with
 | false=>rw [h] at q; exact iteF ⟨trivial,q⟩
 | true=>
  rw [h] at q
  refine iteT ⟨_,rfl,_,hx.seq,seq_tag hx,by rw [ints_len]; (first|lia|omega),fun i acc=>acc=(((ns.take i).map (inB ws.length)).map PV.bl),rfl,?_,?_⟩
  ·rintro i y acc hy rfl
   obtain ⟨n,rfl,hn⟩:=ints_get hy
   have tk:((ns.take (i+1)).map (inB ws.length)).map PV.bl=((ns.take i).map (inB ws.length)).map PV.bl ++ [PV.bl (inB ws.length n)]:=by rw [take_map_succ hn,List.map_append]; rfl
   exact⟨_,rfl,_,rfl,ws,ls,n,rfl,trivial,tk.symm⟩
  ·rintro acc rfl
   rw [ints_len,List.take_length]
   exact⟨_,rfl,trivial,by simpa using q⟩
noncomputable def p_made_set:PSp:=fun xs Q=>∃ ws ls x ns,xs = [webP ws ls,x]/\IsI x ns/\ns.length<=1000/\isSetB ws.length ns=true/\Q (.tup (intz ns))
noncomputable def t_made_set:PTS:=(qSeq (qIf (qNot (qTest (qCall p_is_set (qCons (qVar 0) (qCons (qVar 1) qNil))))) qNever qNext)
 (qRet (qCall RTuple (qCons (qVar 1) qNil))))
theorem IsI.noscr {x:PV}{ns:List Int} (h:IsI x ns):∀ ms,([x]:List PV) ≠ [.scr ms]:=by
 rcases h with rfl | rfl <;> intro ms z <;> cases z
theorem rd_made_set:Rd1 t_made_set ["web","hearths"] p_made_set:=by
 rintro xs Q ⟨ws,ls,x,ns,rfl,hx,hl,hs,q⟩
 refine⟨_,rfl,_,rfl,ws,ls,x,ns,rfl,hx,hl,_,rfl,?_⟩
 rw [hs]
 refine iteF ⟨_,rfl,⟨_,_,rfl,hx.seqT,flats_ints _,trivial,q⟩,hx.noscr⟩
structure DS (ps:List (Key × PV)) (S:List Int):Prop where
 has:∀ i:Int,(valP ps (Sum.inl i:Key)).isSome=decide (i ∈ S)
 len:ps.length<=S.length
 fl:flats (ps.map (·.2))=true
theorem DS.nil:DS [] []:=⟨fun i=>rfl,Nat.le_refl _,rfl⟩
section
variable {κ : Type} [DecidableEq κ]
theorem valP_nil {k:κ}:valP ([]:List (κ × PV)) k=none:=rfl
theorem valP_pos {p:κ × PV}{r:List (κ × PV)}{k:κ} (e:p.1=k):valP (p :: r) k=some p.2:=by simp [valP,List.find?_cons,e]
theorem valP_neg {p:κ × PV}{r:List (κ × PV)}{k:κ} (e : ¬ p.1=k):valP (p :: r) k=valP r k:=by simp [valP,List.find?_cons,e]
theorem valP_any (k:κ):∀ kvs:List (κ × PV),(kvs.any fun kv=>decide (kv.1=k))=(valP kvs k).isSome
 | []=>rfl
 | p :: r=>by
  rw [List.any_cons]
  by_cases e:p.1=k
  ·simp only [valP_pos e,decide_eq_true e,Bool.true_or,Option.isSome_some]
  ·rw [valP_neg e,decide_eq_false e,Bool.false_or]; exact valP_any k r
theorem valP_map (k j:κ) (y:PV):∀ kvs:List (κ × PV),valP (kvs.map fun kv=>if kv.1=k then (kv.1,y) else kv) j=(valP kvs j).map fun x=>if j=k then y else x
 | []=>rfl
 | p :: r=>by
  have ih:=valP_map k j y r
  rw [List.map_cons]
  by_cases h:p.1=k
  ·rw [if_pos h]
   by_cases e:p.1=j
   ·rw [valP_pos (p:=(p.1,y)) e,valP_pos e,Option.map_some,if_pos (e.symm.trans h)]
   ·rw [valP_neg (p:=(p.1,y)) e,valP_neg e,ih]
  ·rw [if_neg h]
   by_cases e:p.1=j
   ·rw [valP_pos (p:=p) e,valP_pos e,Option.map_some,if_neg (fun z=>h (e.trans z))]
   ·rw [valP_neg (p:=p) e,valP_neg e,ih]
theorem valP_snoc (k j:κ) (y:PV):∀ kvs:List (κ × PV),valP kvs k=none->valP (kvs ++ [(k,y)]) j=if j=k then some y else valP kvs j
 | [],_=>by
  by_cases e:k=j
  ·rw [if_pos e.symm]; exact valP_pos (p:=(k,y)) e
  ·rw [if_neg (fun z=>e z.symm)]; exact valP_neg (p:=(k,y)) e
 | p :: r,hn=>by
  rw [List.cons_append]
  have hk : ¬ p.1=k:=fun z=>by rw [valP_pos z] at hn; cases hn
  rw [valP_neg hk] at hn
  have ih:=valP_snoc k j y r hn
  by_cases e:p.1=j
  ·rw [valP_pos e,valP_pos e,if_neg (fun z=>hk (e.trans z))]
  ·rw [valP_neg e,valP_neg e,ih]
theorem valP_put (kvs:List (κ × PV)) (k j:κ) (y:PV):valP (putP kvs k y) j=if j=k then some y else valP kvs j:=by
 unfold putP
 by_cases a:(kvs.any fun kv=>decide (kv.1=k))=true
 ·rw [if_pos a,valP_map]
  rw [valP_any] at a
  by_cases e:j=k
  ·obtain ⟨x,hx⟩:=Option.isSome_iff_exists.mp a
   rw [if_pos e,e,hx,Option.map_some,if_pos rfl]
  ·rw [if_neg e]
   cases valP kvs j with
   | none=>rfl
   | some x=>rw [Option.map_some,if_neg e]
 ·rw [if_neg a]
  refine valP_snoc k j y kvs ?_
  rw [valP_any] at a
  cases q:valP kvs k with
  | none=>rfl
  | some x=>rw [q] at a; exact (a rfl).elim
theorem length_putP (kvs:List (κ × PV)) (k:κ) (v:PV):(putP kvs k v).length<=kvs.length+1:=by
 unfold putP
 split
 ·rw [List.length_map]; (first|lia|omega)
 ·rw [List.length_append,List.length_cons,List.length_nil]; (first|lia|omega)
end
theorem flats_iff:∀ (xs:List PV),flats xs=true ↔ ∀ x ∈ xs,flat x=true
 | []=>by simp [flats]
 | x :: r=>by
  unfold flats
  rw [Bool.and_eq_true,flats_iff r]; simp
theorem put_mem {κ:Type} [DecidableEq κ] {ps:List (κ × PV)}{k:κ}{v:PV}{p:κ × PV} (h:p ∈ putP ps k v):p.2=v ∨ p ∈ ps:=by
 unfold putP at h
 split at h
 ·obtain ⟨q,hq,e⟩:=List.mem_map.mp h
  split at e
  ·subst e; exact .inl rfl
  ·subst e; exact .inr hq
 ·rcases List.mem_append.mp h with h | h
  ·exact .inr h
  ·rw [List.mem_singleton.mp h]; exact .inl rfl
theorem flats_put {κ:Type} [DecidableEq κ] {ps:List (κ × PV)}{k:κ}{v:PV} (h:flats (ps.map (·.2))=true) (hv:flat v=true):flats ((putP ps k v).map (·.2))=true:=by
 rw [flats_iff] at h ⊢
 intro x hx
 obtain ⟨p,hp,rfl⟩:=List.mem_map.mp hx
 rcases put_mem hp with e | e
 ·rw [e]; exact hv
 ·exact h _ (List.mem_map.mpr ⟨p,e,rfl⟩)
theorem DS.put {ps:List (Key × PV)}{S:List Int} (h:DS ps S) (x:Int) (v:PV) (hv:flat v=true):DS (putP ps (Sum.inl x:Key) v) (S ++ [x]):=by
 refine⟨fun i=>?_,?_,flats_put h.fl hv⟩
 ·rw [valP_put]
  by_cases e:i=x
  ·subst e; rw [if_pos rfl]; simp
  ·rw [if_neg (fun z=>e (Sum.inl.inj z)),h.has]
   simp [e]
 ·have:=length_putP ps (Sum.inl x:Key) v
  have:=h.len
  rw [List.length_append,List.length_singleton]; (first|lia|omega)
theorem DS.merge {S:List Int}:∀ {mp ps:List (Key × PV)}{T:List Int},DS ps S->DS mp T->DS (mergeP ps mp) (S ++ T):=by
 have key:∀ (mp:List (Key × PV)) {ps:List (Key × PV)} (i:Int),(valP (mergeP ps mp) (Sum.inl i:Key)).isSome=((valP ps (Sum.inl i:Key)).isSome || (valP mp (Sum.inl i:Key)).isSome):=fun mp=>by
  induction mp with
  | nil=>intro ps i; show (valP ps (Sum.inl i:Key)).isSome=_; rw [valP_nil]; simp
  | cons p r ih=>
   intro ps i
   show (valP (mergeP (putP ps p.1 p.2) r) (Sum.inl i:Key)).isSome=_
   rw [ih,valP_put]
   by_cases e:(Sum.inl i:Key)=p.1
   ·rw [if_pos e,valP_pos e.symm]; simp
   ·rw [if_neg e,valP_neg (Ne.symm e)]
 have keyl:∀ (mp:List (Key × PV)) {ps:List (Key × PV)},(mergeP ps mp).length<=ps.length+mp.length:=fun mp=>by
  induction mp with
  | nil=>intro ps; exact Nat.le_refl _
  | cons p r ih=>
   intro ps
   have h1:=ih (ps:=putP ps p.1 p.2)
   have h2:=length_putP ps p.1 p.2
   show (mergeP (putP ps p.1 p.2) r).length<=_
   rw [List.length_cons]; (first|lia|omega)
 have keyf:∀ (mp:List (Key × PV)) {ps:List (Key × PV)},flats (ps.map (·.2))=true->flats (mp.map (·.2))=true->flats ((mergeP ps mp).map (·.2))=true:=fun mp=>by
  induction mp with
  | nil=>intro ps h _; exact h
  | cons p r ih=>
   intro ps h g
   have g:(flat p.2 && flats (r.map (·.2)))=true:=g
   rw [Bool.and_eq_true] at g
   exact ih (ps:=putP ps p.1 p.2) (flats_put h g.1) g.2
 intro mp ps T h g
 refine⟨fun i=>?_,?_,keyf mp h.fl g.fl⟩
 ·rw [key,h.has,g.has,Bool.eq_iff_iff]; simp
 ·have:=keyl mp (ps:=ps)
  have:=h.len
  have:=g.len
  rw [List.length_append]; (first|lia|omega)
noncomputable def p_marked:PSp:=fun xs Q=>∃ x ns,xs = [x]/\IsI x ns/\ns.length<=1000/\∀ ps,DS ps ns->Q (.dK ps)
noncomputable def t_marked:PTS:=(qSeq (qOwn 1 (qC (.dK [])))
 (qSeq (qFor (qSeqI (qVar 0)) (pName 2)
  (qDPut 1 (qVar 2) (qC (.bl true))))
 (qRetV 1)))
theorem rd_marked:Rd1 t_marked ["hearths","inside","hearth"] p_marked:=by
 rintro xs Q ⟨x,ns,rfl,hx,hl,q⟩
 refine⟨rfl,rfl,_,rfl,_,hx.seq,seq_tag hx,fun i ρ=>∃ y ps,ρ = [some (.sh (flat x) x),some (.own (.dK ps)),y]/\DS ps (ns.take i),⟨none,[],rfl,DS.nil⟩,?_,?_⟩
 ·rintro i y ρ hy ⟨y0,ps,rfl,d⟩
  obtain ⟨n,rfl,hn⟩:=ints_get hy
  have hlen:=d.len
  rw [List.length_take] at hlen
  refine⟨_,rfl,_,rfl,Sum.inl n,rfl,trivial,by (first|lia|omega),_,_,rfl,?_⟩
  rw [List.take_add_one,hn]
  exact d.put n _ rfl
 ·rintro ρ ⟨y,ps,rfl,d⟩
  rw [ints_len,List.take_length] at d
  exact⟨_,rfl,trivial,q ps d⟩
noncomputable def p_count_inside:PSp:=fun xs Q=>∃ x ns ps S,xs = [x,.dK ps]/\IsI x ns/\DS ps S/\ns.length<=10000/\Q (.int ((ns.filter fun x=>decide (x ∈ S)).length:Nat))
noncomputable def t_count_inside:PTS:=(qRet (qCall RLen (qCons (qComp (qSeqI (qVar 0)) [none,some 1] (pName 0) (qTest (qDIn false (qVar 0) (qVar 1))) (qVar 0)) qNil)))
theorem rd_count_inside:Rd1 t_count_inside ["hearths","inside"] p_count_inside:=by
 rintro xs Q ⟨x,ns,ps,S,rfl,hx,d,hl,q⟩
 refine⟨_,rfl,_,hx.seq,seq_tag hx,by rw [ints_len]; (first|lia|omega),fun i acc=>acc=intz ((ns.take i).filter fun x=>decide (x ∈ S)),rfl,?_,?_⟩
 ·rintro i y acc hy rfl
  obtain ⟨n,rfl,hn⟩:=ints_get hy
  have tk:=take_filter_succ' (p:=fun x=>decide (x ∈ S)) hn
  refine⟨_,rfl,_,rfl,_,.inl ⟨ps,Sum.inl n,rfl,rfl,rfl⟩,_,rfl,?_⟩
  show if (valP ps (Sum.inl n:Key)).isSome=true then _ else _
  rw [d.has n]
  by_cases h:n ∈ S
  ·rw [decide_eq_true h] at tk ⊢
   refine iteT ⟨_,rfl,trivial,?_⟩
   rw [if_pos rfl] at tk
   show _=intz (List.filter _ (List.take (i+1) ns))
   rw [tk,ints_app]; rfl
  ·rw [decide_eq_false h] at tk ⊢
   refine iteF ?_
   rw [if_neg (by decide),List.append_nil] at tk
   show _=intz (List.filter _ (List.take (i+1) ns))
   rw [tk]
 ·rintro acc rfl
  rw [ints_len,List.take_length]
  refine⟨_,_,rfl,rfl,trivial,?_⟩
  rw [ints_len]; exact q
noncomputable def nearP (n:Nat) (ls:List (Int × Int)):List PV:=(List.range n).map fun (k:Nat)=>PV.lst (intz (nbrs ls k))
noncomputable def p_near_lists:PSp:=fun xs Q=>∃ ws ls,xs = [webP ws ls]/\Wb ws ls/\Q (.lst (nearP ws.length ls))
theorem nearP_at {n:Nat}{ls:List (Int × Int)}{h:Int} (h0:0<=h) (h1:h < (n:Int)):atI (nearP n ls) h=some (.lst (intz (nbrs ls h))):=by
 refine atI_int h0 ?_
 unfold nearP
 rw [List.getElem?_map,List.getElem?_range (by (first|lia|omega))]
 show some (PV.lst (intz (nbrs ls ((h.toNat:Nat):Int))))=_
 rw [show ((h.toNat:Nat):Int)=h by (first|lia|omega)]
noncomputable def p_can_kindle:PSp:=fun xs Q=>∃ ws ls ps S h,xs = [webP ws ls,.lst (nearP ws.length ls),.dK ps,.int h]/\Wb ws ls/\DS ps S/\0<=h/\h < (ws.length:Int)/\Q (.bl (kin ws ls S h))
noncomputable def t_can_kindle:PTS:=(qRet (qAndV (qDIn true (qVar 3) (qVar 2)) (qGe (qCall p_count_inside (qCons (qIx (qVar 1) (qVar 3)) (qCons (qVar 2) qNil))) (qIx (qIx (qVar 0) (qC (.int 0))) (qVar 3)))))
theorem atI_ints {ws:List Int}{h:Int} (h0:0<=h) (h1:h < (ws.length:Int)):atI (intz ws) h=some (.int (ws.getD h.toNat 0)):=by
 refine atI_int h0 ?_
 have:h.toNat < ws.length:=by (first|lia|omega)
 rw [List.getElem?_map,List.getD_eq_getElem?_getD,List.getElem?_eq_getElem this]; rfl
theorem rd_can_kindle:Rd1 t_can_kindle ["web","around","burning","hearth"] p_can_kindle:=by
 rintro xs Q ⟨ws,ls,ps,S,h,rfl,wb,d,h0,h1,q⟩
 refine⟨_,rfl,_,rfl,_,.inl ⟨ps,Sum.inl h,rfl,rfl,rfl⟩,_,rfl,?_⟩
 show if (!(valP ps (Sum.inl h:Key)).isSome)=true then _ else _
 rw [d.has h]
 unfold kin at q
 by_cases hm:h ∈ S
 ·rw [decide_eq_true hm] at q ⊢
  exact iteF ⟨trivial,by simpa using q⟩
 ·rw [decide_eq_false hm] at q ⊢
  have nl:=nbrs_len ls h
  have:=wb.most
  refine iteT ⟨_,rfl,_,rfl,_,_,_,rfl,rfl,nearP_at h0 h1,_,rfl,_,nbrs ls h,ps,S,rfl,.inr rfl,d,by (first|lia|omega),_,rfl,_,_,_,rfl,rfl,rfl,_,rfl,_,_,_,rfl,rfl,atI_ints h0 h1,_,_,rfl,rfl,trivial,?_⟩
  simpa using q
noncomputable def p_kindling:PSp:=fun xs Q=>∃ ws ls ps S,xs = [webP ws ls,.lst (nearP ws.length ls),.dK ps]/\Wb ws ls/\DS ps S/\Q (.tup (intz (nextOf ws ls S)))
noncomputable def t_kindling:PTS:=(qRet (qCall RTuple (qCons (qComp (qRng1 (qCall p_hearths_in (qCons (qVar 0) qNil))) [none,some 0,some 1,some 2] (pName 0) (qTest (qCall p_can_kindle (qCons (qVar 1) (qCons (qVar 2) (qCons (qVar 3) (qCons (qVar 0) qNil)))))) (qVar 0)) qNil)))
theorem rd_kindling:Rd1 t_kindling ["web","around","burning"] p_kindling:=by
 rintro xs Q ⟨ws,ls,ps,S,rfl,wb,d,q⟩
 have few:=wb.few
 refine⟨_,rfl,ws,ls,rfl,_,rfl,by (first|lia|omega),by (first|lia|omega),by rw [rngP_length]; (first|lia|omega),fun i acc=>acc=intz (((rng ws.length).take i).filter (kin ws ls S)),rfl,?_,?_⟩
 ·rintro i y acc hy rfl
  obtain ⟨rfl,hi⟩:=rngP_at hy
  have hi':i < ws.length:=by (first|lia|omega)
  have tk:=take_filter_succ' (p:=kin ws ls S) (rng_at hi')
  have e0:(0:Int)+(i:Int)=(i:Int):=by (first|lia|omega)
  refine⟨_,rfl,_,rfl,_,rfl,_,rfl,ws,ls,ps,S,_,rfl,wb,d,by (first|lia|omega),by (first|lia|omega),_,rfl,?_⟩
  show if kin ws ls S ((0:Int)+(i:Int))=true then _ else _
  rw [e0]
  cases h:kin ws ls S (i:Int) with
  | true=>
   refine iteT ⟨_,rfl,trivial,?_⟩
   rw [h,if_pos rfl] at tk
   show _=intz (List.filter _ (List.take (i+1) _))
   rw [tk,ints_app]
   show _ ++ [PV.int _]=_
   rfl
  | false=>
   refine iteF ?_
   rw [h,if_neg (by decide),List.append_nil] at tk
   show _=intz (List.filter _ (List.take (i+1) _))
   rw [tk]
 ·rintro acc rfl
  rw [rngP_length,List.take_of_length_le (by rw [rng_len]; (first|lia|omega))]
  exact⟨⟨_,_,rfl,rfl,flats_ints _,trivial,q⟩,fun ns z=>by cases z⟩
end Core
namespace Core
open PySem L2 PP
noncomputable def tups (rs:List (List Int)):List PV:=rs.map fun r=>PV.tup (intz r)
theorem tups_get {rs:List (List Int)}{i:Nat}{x:PV} (h:(tups rs)[i]? = some x):∃ r,x = .tup (intz r)/\rs[i]? = some r:=by
 unfold tups at h
 rw [List.getElem?_map] at h
 cases e:rs[i]? with
 | none=>rw [e] at h; cases h
 | some n=>rw [e] at h; exact⟨n,(Option.some.inj h).symm,rfl⟩
theorem tups_len (rs:List (List Int)):(tups rs).length=rs.length:=List.length_map _
theorem flats_tups:∀ (rs:List (List Int)),flats (tups rs)=true
 | []=>rfl
 | r :: t=>by
  show (flat (.tup (intz r)) && flats (tups t))=true
  rw [flat_tupI,flats_tups t]; rfl
theorem set_ok {n:Nat}{ns:List Int} (h:isSetB n ns=true):risesB ns=true/\∀ x ∈ ns,0<=x/\x < (n:Int):=by
 unfold isSetB at h
 rw [Bool.and_eq_true,List.all_eq_true] at h
 refine⟨h.1,fun x hx=>?_⟩
 have:=h.2 _ (List.mem_map.mpr ⟨x,hx,rfl⟩)
 unfold inB at this
 simpa using this
theorem set_len {n:Nat}{ns:List Int} (h:isSetB n ns=true):ns.length<=n:=by
 obtain ⟨h1,h2⟩:=set_ok h
 have:=seeds_cold (ws:=List.replicate n (0:Int)) (up_pair h1) (by rw [List.length_replicate]; exact h2)
 rw [List.length_replicate] at this
 (first|lia|omega)
theorem stp_len {ws:List Int}{ls:List (Int × Int)}{ns:List Int} (h:isSetB ws.length ns=true) (k:Nat):(stp ws ls ns k).length<=ws.length:=by
 have h1:=len_stp ws ls ns k
 have h2:=seeds_cold (up_pair (set_ok h).1) (set_ok h).2
 (first|lia|omega)
noncomputable def p_rounds:PSp:=fun xs Q=>∃ ws ls x ns,xs = [webP ws ls,x]/\Wb ws ls/\IsI x ns/\isSetB ws.length ns=true/\∀ m,Ends ws ls ns m->Q (.lst (tups (ns :: after ws ls ns m)))
noncomputable def t_rounds:PTS:=(qSeq (qOwn 2 (qLst (qCons (qCall p_made_set (qCons (qVar 0) (qCons (qVar 1) qNil))) qNil)))
 (qSeq (qOwn 3 (qCall p_marked (qCons (qIx (qVar 2) (qC (.int 0))) qNil)))
 (qSeq (qSet 4 (qCall p_near_lists (qCons (qVar 0) qNil)))
 (qSeq (qSet 5 (qCall p_kindling (qCons (qVar 0) (qCons (qVar 4) (qCons (qVar 3) qNil)))))
 (qSeq (qWhile (qTru (qVar 5))
  (qSeq (qApp 2 (qVar 5))
  (qSeq (qDUpd 3 (qCall p_marked (qCons (qVar 5) qNil)))
  (qSet 5 (qCall p_kindling (qCons (qVar 0) (qCons (qVar 4) (qCons (qVar 3) qNil))))))))
 (qRetV 2))))))
theorem rd_rounds:Rd1 t_rounds ["web","seeds","told","burning","around","lit"] p_rounds:=by
 rintro xs Q ⟨ws,ls,x,ns,rfl,wb,hx,hs,q⟩
 have few:=wb.few
 have ln:=set_len hs
 refine⟨_,rfl,_,rfl,ws,ls,x,ns,rfl,hx,by (first|lia|omega),hs,by show 1<=1000; decide,?_,rfl,?_,?_⟩
 ·show (flat (.tup (intz ns)) && true)=true
  rw [flat_tupI]; rfl
 ·show (flat (.tup (intz ns)) && true)=true
  rw [flat_tupI]; rfl
 refine⟨_,rfl,_,_,_,rfl,rfl,rfl,_,ns,rfl,.inl rfl,by (first|lia|omega),fun ps d=>⟨rfl,d.fl,?_⟩⟩
 refine⟨_,rfl,ws,ls,rfl,wb,trivial,?_⟩
 refine⟨_,rfl,_,rfl,_,rfl,ws,ls,ps,ns,rfl,wb,d,trivial,?_⟩
 refine⟨fun n ρ=>∃ k ps,ρ = [some (.sh (flat (webP ws ls)) (webP ws ls)),some (.sh (flat x) x),some (.own (.lst (tups (ns :: after ws ls ns k)))),some (.own (.dK ps)),some (.sh true (.lst (nearP ws.length ls))),some (.sh true (.tup (intz (nextOf ws ls (stp ws ls ns k)))))]/\
   n=cold ws (stp ws ls ns k)/\DS ps (stp ws ls ns k)/\∀ j < k,nextOf ws ls (stp ws ls ns j) ≠ [],⟨_,0,ps,rfl,rfl,d,fun _ z=>absurd z (Nat.not_lt_zero _)⟩,?_⟩
 rintro n ρ ⟨k,ps,rfl,rfl,d,ne⟩
 refine⟨_,rfl,_,rfl,?_⟩
 cases hn:nextOf ws ls (stp ws ls ns k) with
 | nil=>exact iteF ⟨_,rfl,trivial,q k ⟨ne,hn⟩⟩
 | cons y yr=>
  refine iteT ?_
  rw [<- hn]
  have cs:=cold_step ws ls (stp ws ls ns k)
  have nl:1<=(nextOf ws ls (stp ws ls ns k)).length:=by rw [hn]; exact Nat.succ_le_succ (Nat.zero_le _)
  have nle:=next_le ws ls (stp ws ls ns k)
  have sl:=stp_len (ls:=ls) hs k
  have dl:=d.len
  have ke:=ends_le k ne
  refine⟨_,rfl,_,rfl,trivial,?_,?_⟩
  ·rw [tups_len,List.length_cons]
   unfold after
   rw [List.length_map,List.length_range]; (first|lia|omega)
  refine⟨_,rfl,_,rfl,_,_,rfl,.inl rfl,by (first|lia|omega),fun mp dm=>⟨mp,rfl,.inl rfl,?_,?_⟩⟩
  ·have:=dm.len; (first|lia|omega)
  have D7:DS (mergeP ps mp) (stp ws ls ns (k+1)):=d.merge dm
  refine⟨_,rfl,_,rfl,_,rfl,ws,ls,_,_,rfl,wb,D7,trivial,?_⟩
  refine⟨_,?_,k+1,mergeP ps mp,?_,rfl,D7,fun j hj=>?_⟩
  ·show cold ws (stp ws ls ns k ++ nextOf ws ls (stp ws ls ns k)) < _
   (first|lia|omega)
  ·rw [after_succ,<- List.cons_append]
   unfold tups
   rw [List.map_append]; rfl
  ·by_cases e:j=k
   ·rw [e,hn]; exact fun z=>nomatch z
   ·exact ne j (by (first|lia|omega))
end Core
namespace PP
open PySem L2
noncomputable def RSortT:List PV->(PV->Prop)->Prop:=fun xs Q=>∃ ys:List (List Int),xs = [.lst (ys.map fun r=>PV.tup (intz r))]/\ys.length < 64/\(∀ y ∈ ys,y ≠ [])/\∀ zs:List (List Int),zs.Perm ys->zs.Pairwise (fun u v=>HT.lexLt v u=false)->Q (.lst (zs.map fun r=>PV.tup (intz r)))
noncomputable def RList_dT:List PV->(PV->Prop)->Prop:=fun xs Q=>∃ ps:List (List Key × PV),xs = [.dT ps]/\Q (.lst (ps.map fun p=>PV.tup (p.1.map kP)))
end PP
namespace Core
open PySem L2 PP
theorem nw_int (g:Tg) (n:Int):Nw g (.int n):=by cases g <;> first | exact trivial | rfl
noncomputable def IsF (x:PV) (ns:List Int):Prop:=x = .scr ns ∨ x = .lst (intz ns)
theorem IsF.seq {x:PV}{ns:List Int} (h:IsF x ns):seqOf x=some (intz ns):=by rcases h with rfl | rfl <;> rfl
theorem IsF.len {x:PV}{ns:List Int} (h:IsF x ns):lenOf x=some ns.length:=by
 rcases h with rfl | rfl
 ·rfl
 ·show some (intz ns).length=_
  rw [ints_len]
noncomputable def p_law_cell_at:PSp:=fun xs Q=>∃ x ns k,xs = [x,.int k]/\IsF x ns/\0<=k/\Q (.int (ns.getD k.toNat 0))
noncomputable def t_law_cell_at:PTS:=(qSeq (qIf (qTest (qLt (qVar 1) (qCall RLen (qCons (qVar 0) qNil)))) (qRet (qIx (qVar 0) (qVar 1))) qNext)
 (qRet (qC (.int 0))))
theorem rd_law_cell_at:Rd1 t_law_cell_at ["script","k"] p_law_cell_at:=by
 rintro xs Q ⟨x,ns,k,rfl,hx,h0,q⟩
 refine⟨_,rfl,_,rfl,_,_,rfl,hx.len,_,_,rfl,rfl,_,rfl,?_⟩
 by_cases h:k < (ns.length:Int)
 ·rw [decide_eq_true h]
  exact iteT ⟨_,rfl,_,rfl,_,_,_,hx.seq,rfl,atI_ints h0 h,nw_int _ _,q⟩
 ·rw [decide_eq_false h]
  rw [List.getD_eq_getElem?_getD,List.getElem?_eq_none (by (first|lia|omega))] at q
  exact iteF ⟨trivial,q⟩
noncomputable def pairs (ls:List (Int × Int)):List PV:=ls.map fun l=>PV.tup [.int l.1,.int l.2]
theorem pairs_len (ls:List (Int × Int)):(pairs ls).length=ls.length:=List.length_map _
noncomputable def ltP (l m:Int × Int):Prop:=l.1 < m.1 ∨ (l.1=m.1/\l.2 < m.2)
structure LkA (n:Int) (ls:List (Int × Int)) (a b:Int):Prop where
 inn:∀ l ∈ ls,0<=l.1/\l.1 < l.2/\l.2 < n
 ord:ls.Pairwise ltP
 low:∀ l ∈ ls,ltP l (a,b)
theorem LkA.mono {n a b a' b':Int}{ls:List (Int × Int)} (h:LkA n ls a b) (m:a < a' ∨ (a=a'/\b<=b')):LkA n ls a' b':=
 ⟨h.inn,h.ord,fun l hl=>by have:=h.low l hl; unfold ltP at *; dsimp only at *; (first|lia|omega)⟩
theorem LkA.add {n a b:Int}{ls:List (Int × Int)} (h:LkA n ls a b) (h0:0<=a/\a < b/\b < n):LkA n (ls ++ [(a,b)]) a (b+1):=by
 refine⟨fun l hl=>?_,?_,fun l hl=>?_⟩
 ·rcases List.mem_append.mp hl with hl | hl
  ·exact h.inn l hl
  ·rw [List.mem_singleton.mp hl]; exact h0
 ·exact List.pairwise_append.mpr ⟨h.ord,List.pairwise_singleton _ _,fun l hl m hm=>by rw [List.mem_singleton.mp hm]; exact h.low l hl⟩
 ·rcases List.mem_append.mp hl with hl | hl
  ·have:=h.low l hl; unfold ltP at *; dsimp only at *; (first|lia|omega)
  ·rw [List.mem_singleton.mp hl]; unfold ltP; dsimp only; (first|lia|omega)
structure W63 (n:Int) (ws:List Int) (ls:List (Int × Int)):Prop where
 many:(ws.length:Int)=n
 inn:∀ l ∈ ls,0<=l.1/\l.1 < l.2/\l.2 < n
 most:ls.length<=63
 ord:ls.Pairwise ltP
 pos:∀ w ∈ ws,0<=w
noncomputable def p_law_web_of_digits:PSp:=fun xs Q=>∃ c d n m:Int,xs = [.int c,.int d,.int n,.int m]/\0<=n/\n<=8/\0 < m/\m < 1000/\∀ ws ls,W63 n ws ls->Q (webP ws ls)
noncomputable def t_law_web_of_digits:PTS:=(qSeq (qOwn 4 (qLst qNil))
 (qSeq (qFor (qRng1 (qVar 2)) (pName 5)
  (qSeq (qApp 4 (qMod (qVar 0) (qVar 3)))
  (qSet 0 (qDiv (qVar 0) (qVar 3)))))
 (qSeq (qOwn 6 (qLst qNil))
 (qSeq (qFor (qRng1 (qVar 2)) (pName 7)
  (qFor (qRng2 (qAdd (qVar 7) (qC (.int 1))) (qVar 2)) (pName 8)
   (qSeq (qIf (qTest (qEq (qMod (qVar 1) (qC (.int 2))) (qC (.int 1)))) (qApp 6 (qTupF (qCons (qVar 7) (qCons (qVar 8) qNil)))) qNext)
   (qSet 1 (qDiv (qVar 1) (qC (.int 2)))))))
 (qRet (qTupF (qCons (qCall RTuple (qCons (qVar 4) qNil)) (qCons (qCall RTuple (qCons (qVar 6) qNil)) qNil))))))))
noncomputable abbrev si (n:Int):Option Slot:=some (.sh true (.int n))
theorem rd_law_web_of_digits : Rd1 t_law_web_of_digits ["wants_cell", "links_cell", "many", "most", "wants", "k", "links", "one", "other"] p_law_web_of_digits := by
  rintro xs Q ⟨c, d, n, m, rfl, n0, n1, m0, m1, q⟩
  refine ⟨by decide, rfl, rfl, rfl, ?_⟩
  refine ⟨_, rfl, n, rfl, by (first|lia|omega), by (first|lia|omega), fun i ρ => ∃ (c' : Int) (y : Option Slot) (ws : List Int), ρ = [si c', si d, si n, si m, some (.own (.lst (intz ws))), y, none, none, none] /\ ws.length = i /\ ∀ w ∈ ws, 0 <= w, ⟨c, none, [], rfl, rfl, fun _ h => nomatch h⟩, ?_, ?_⟩
  · rintro i y ρ hy ⟨c', y0, ws, rfl, hl, hp⟩
    obtain ⟨rfl, hi⟩ := rngP_at hy
    refine ⟨_, rfl, _, rfl, _, rfl, _, _, rfl, rfl, m0, trivial, by rw [ints_len]; (first|lia|omega), ?_⟩
    refine ⟨_, rfl, _, rfl, _, _, rfl, rfl, ⟨m0, by (first|lia|omega)⟩, trivial, ?_⟩
    refine ⟨c' / m, si (0 + (i : Int)), ws ++ [c' % m], ?_, by rw [List.length_append, hl]; rfl, fun w hw => ?_⟩
    · rw [ints_app]; rfl
    · rcases List.mem_append.mp hw with hw | hw
      · exact hp w hw
      · rw [List.mem_singleton.mp hw]; exact Int.emod_nonneg _ (by (first|lia|omega))
  rintro ρ ⟨c', y0, ws, rfl, hl, hp⟩
  rw [rngP_length] at hl
  refine ⟨by decide, rfl, rfl, rfl, ?_⟩
  refine ⟨_, rfl, n, rfl, by (first|lia|omega), by (first|lia|omega), fun i ρ => ∃ (d' : Int) (y z : Option Slot) (ls : List (Int × Int)), ρ = [si c', si d', si n, si m, some (.own (.lst (intz ws))), y0, some (.own (.lst (pairs ls))), y, z] /\ LkA n ls i 0 /\ ls.length <= i * 7, ⟨d, none, none, [], rfl, ⟨(fun _ h => nomatch h), .nil, (fun _ h => nomatch h)⟩, Nat.zero_le _⟩, ?_, ?_⟩
  · rintro i y ρ hy ⟨d', y1, z, ls, rfl, hin, hll⟩
    obtain ⟨rfl, hi⟩ := rngP_at hy
    refine ⟨_, rfl, _, _, rfl, rfl, _, rfl, _, _, rfl, rfl, by (first|lia|omega), fun j ρ => ∃ (d' : Int) (z : Option Slot) (ls : List (Int × Int)), ρ = [si c', si d', si n, si m, some (.own (.lst (intz ws))), y0, some (.own (.lst (pairs ls))), si (0 + (i : Int)), z] /\ LkA n ls i (i + 1 + j) /\ ls.length <= i * 7 + j, ⟨d', z, ls, rfl, hin.mono (.inr ⟨rfl, by (first|lia|omega)⟩), by (first|lia|omega)⟩, ?_, ?_⟩
    · rintro j y ρ hy ⟨d2, z2, ls2, rfl, hin2, hl2⟩
      obtain ⟨rfl, hj⟩ := rngP_at hy
      refine ⟨_, rfl, _, _, rfl, rfl, (by show (0 : Int) < 2; decide), .inl ⟨_, _, rfl, rfl, _, rfl, ?_⟩⟩
      have tail : ∀ ls3 : List (Int × Int), LkA n ls3 i (i + 1 + (j + 1 : Nat)) -> ls3.length <= i * 7 + (j + 1) -> (qSet 1 (qDiv (qVar 1) (qC (.int 2)))) { nx := fun ρ => ∃ (d' : Int) (z : Option Slot) (ls : List (Int × Int)), ρ = [si c', si d', si n, si m, some (.own (.lst (intz ws))), y0, some (.own (.lst (pairs ls))), si (0 + (i : Int)), z] /\ LkA n ls i (i + 1 + (j + 1 : Nat)) /\ ls.length <= i * 7 + (j + 1), rt := Q }
          [si c', si d2, si n, si m, some (.own (.lst (intz ws))), y0, some (.own (.lst (pairs ls3))), si (0 + (i : Int)), si (0 + (i : Int) + 1 + (j : Int))] := fun ls3 h3 h4 =>
        ⟨_, rfl, _, _, rfl, rfl, ⟨by decide, by decide⟩, trivial, _, _, ls3, rfl, h3, h4⟩
      by_cases h : d2 % 2 = 1
      · show if decide (d2 % 2 = 1) = true then _ else _
        rw [decide_eq_true h]
        refine iteT ⟨_, rfl, _, rfl, _, rfl, by show 2 <= 1000; decide, rfl, trivial, by rw [pairs_len]; (first|lia|omega), ?_⟩
        have ad := hin2.add (by (first|lia|omega))
        have := tail (ls2 ++ [((i : Int), (i : Int) + 1 + (j : Int))]) (by have e : (i : Int) + 1 + ((j + 1 : Nat) : Int) = (i : Int) + 1 + (j : Int) + 1 := by (first|lia|omega)
                                                                           rw [e]; exact ad) (by rw [List.length_append, List.length_singleton]; (first|lia|omega))
        unfold pairs at this
        rw [List.map_append] at this
        rw [show (0 : Int) + (i : Int) = (i : Int) by (first|lia|omega)] at this ⊢
        exact this
      · show if decide (d2 % 2 = 1) = true then _ else _
        rw [decide_eq_false h]
        exact iteF (tail ls2 (hin2.mono (.inr ⟨rfl, by (first|lia|omega)⟩)) (by (first|lia|omega)))
    · rintro ρ ⟨d2, z2, ls2, rfl, hin2, hl2⟩
      rw [rngP_length] at hl2
      exact ⟨d2, _, z2, ls2, rfl, hin2.mono (.inl (by (first|lia|omega))), by (first|lia|omega)⟩
  rintro ρ ⟨d', y1, z, ls, rfl, hin, hll⟩
  rw [rngP_length] at hll
  refine ⟨_, rfl, ⟨_, _, rfl, rfl, flats_ints _, _, rfl, ⟨_, _, rfl, rfl, flats_pairs _, by show 2 <= 1000; decide, ?_, trivial, q ws ls ⟨by (first|lia|omega), hin.inn, by (first|lia|omega), hin.ord, hp⟩⟩, fun ns z => by cases z⟩, fun ns z => by cases z⟩
  show (flat (.tup (intz ws)) && (flat (.tup (pairs ls)) && true)) = true
  rw [flat_tupI]
  show (true && (flats (pairs ls) && true)) = true
  rw [show flats (pairs ls) = true from flats_pairs ls]; rfl
noncomputable def p_law_whole_number:PSp:=fun xs Q=>∃ i,xs = [.int i]/\Q (.bl true)
noncomputable def t_law_whole_number (K:PySem.W.Frag):PTS:=(qRet (qAndV (qIsI K "int" (qVar 0)) (qNotV (qIsI K "bool" (qVar 0)))))
theorem IsI.len {x:PV}{ns:List Int} (h:IsI x ns):lenOf x=some ns.length:=by
 rcases h with rfl | rfl <;> (show some (intz ns).length=_; rw [ints_len])
theorem rd_law_whole_number {K:PySem.W.Frag} (k1:PySem.W.kitOne K (.type "int") (.type "int")=some true) (k2:PySem.W.kitOne K (.type "int") (.type "bool")=some false):Rd1 (t_law_whole_number K) ["found"] p_law_whole_number:=by
 rintro xs Q ⟨i,rfl,q⟩
 exact⟨_,rfl,_,_,rfl,k1,_,rfl,iteT ⟨_,rfl,_,_,rfl,k2,_,rfl,trivial,q⟩⟩
noncomputable def p_law_near:PSp:=fun xs Q=>∃ ws ls h,xs = [webP ws ls,.int h]/\(∀ l ∈ ls,l.1 ≠ l.2)/\ls.length<=63/\∀ ms:List Int,ms.Perm (nbrs ls h)->ms.Pairwise (· <= ·)->Q (.lst (intz ms))
noncomputable def t_law_near:PTS:=(qSeq (qOwn 2 (qLst qNil))
 (qSeq (qFor (qSeqI (qIx (qVar 0) (qC (.int 1)))) (pPair 3 4)
  (qSeq (qIf (qTest (qEq (qVar 3) (qVar 1))) (qApp 2 (qVar 4)) qNext)
  (qIf (qTest (qEq (qVar 4) (qVar 1))) (qApp 2 (qVar 3)) qNext)))
 (qRet (qCall RSortI (qCons (qVar 2) qNil)))))
theorem pairs_get {ls:List (Int × Int)}{i:Nat}{x:PV} (h:(pairs ls)[i]? = some x):∃ l,x = .tup [.int l.1,.int l.2]/\ls[i]? = some l:=by
 unfold pairs at h
 rw [List.getElem?_map] at h
 cases e:ls[i]? with
 | none=>rw [e] at h; cases h
 | some n=>rw [e] at h; exact⟨n,(Option.some.inj h).symm,rfl⟩
theorem rd_law_near:Rd1 t_law_near ["web","hearth","found","one","other"] p_law_near:=by
 rintro xs Q ⟨ws,ls,h,rfl,hne,hl,q⟩
 refine⟨by decide,rfl,rfl,rfl,?_⟩
 refine⟨_,rfl,_,_,_,rfl,rfl,rfl,pairs ls,rfl,?_,fun i ρ=>∃ y z,ρ = [some (.sh true (webP ws ls)),si h,some (.own (.lst (intz (nbrs (ls.take i) h)))),y,z],⟨none,none,?_⟩,?_,?_⟩
 ·intro z
  exact flats_pairs ls
 ·show List.set (startP _ _) _ _=_
  unfold startP
  show [some (Slot.sh (flat (webP ws ls)) (webP ws ls)),_,_,_,_]=_
  rw [flat_web]; rfl
 ·rintro i y ρ hy ⟨y0,z0,rfl⟩
  obtain ⟨l,rfl,hi⟩:=pairs_get hy
  have nl:=nbrs_len (ls.take i) h
  have lt:(ls.take i).length<=63:=by rw [List.length_take]; (first|lia|omega)
  have tk:=nbrs_take hi h
  refine⟨_,_,rfl,?_⟩
  generalize itG (Slot.sh (flat (webP ws ls)) (webP ws ls)).tag (pairs ls)=gg
  refine⟨_,rfl,_,rfl,.inl ⟨_,_,rfl,rfl,_,rfl,?_⟩⟩
  by_cases h1:l.1=h
  ·show if decide (l.1=h)=true then _ else _
   rw [decide_eq_true h1]
   rw [if_pos h1] at tk
   refine iteT ⟨_,rfl,_,rfl,nw_int _ _,by rw [ints_len]; (first|lia|omega),?_⟩
   refine⟨_,rfl,_,rfl,.inl ⟨_,_,rfl,rfl,_,rfl,?_⟩⟩
   by_cases h2:l.2=h
   ·exact absurd (h1.trans h2.symm) (hne l (List.mem_of_getElem? hi))
   ·show if decide (l.2=h)=true then _ else _
    rw [decide_eq_false h2]
    rw [if_neg h2] at tk
    refine iteF ⟨some (.sh (gg || true) (.int l.1)),some (.sh (gg || true) (.int l.2)),?_⟩
    rw [tk,ints_app]; rfl
  ·show if decide (l.1=h)=true then _ else _
   rw [decide_eq_false h1]
   rw [if_neg h1] at tk
   refine iteF ⟨_,rfl,_,rfl,.inl ⟨_,_,rfl,rfl,_,rfl,?_⟩⟩
   by_cases h2:l.2=h
   ·show if decide (l.2=h)=true then _ else _
    rw [decide_eq_true h2]
    rw [if_pos h2] at tk
    refine iteT ⟨_,rfl,_,rfl,nw_int _ _,by rw [ints_len]; (first|lia|omega),some (.sh (gg || true) (.int l.1)),some (.sh (gg || true) (.int l.2)),?_⟩
    rw [tk,ints_app]; rfl
   ·show if decide (l.2=h)=true then _ else _
    rw [decide_eq_false h2]
    rw [if_neg h2] at tk
    refine iteF ⟨some (.sh (gg || true) (.int l.1)),some (.sh (gg || true) (.int l.2)),?_⟩
    rw [tk,List.append_nil,List.append_nil]; rfl
 ·rintro ρ ⟨y,z,rfl⟩
  rw [pairs_len,List.take_length]
  have:=nbrs_len1 h ls hne
  exact⟨_,rfl,_,rfl,by (first|lia|omega),fun ms p o=>⟨trivial,q ms p o⟩⟩
end Core
namespace PP
open PySem L2 PyProof.Rows
theorem Reps.rep {K:PySem.W.Frag}{M:Addr->Prop}{H:Hp}{us:List V}{xs:List PV} (r:Reps K M H us xs):∀ k:Nat,Reps K M H (List.replicate k us).flatten (List.replicate k xs).flatten
 | 0=>.nil
 | k+1=>by rw [List.replicate_succ,List.replicate_succ,List.flatten_cons,List.flatten_cons]; exact r.append (Reps.rep r k)
section
variable {X : Cx} {a b e : Expr} {ta tb te : PTE} {tr : PTA} {pos p2 p3 pos2 : Pos}
theorem cov_list_dT:CovC X RList_dT (fun xs H Q=>∃ a kvs,xs = [.ref a]/\H a=some (.dT kvs)/\∀ l ys,H l=none->Paired (KeyAt H) ys (kvs.map (·.1))->Q (.ref l) (upd H l (.lst ys))):=by
 rintro H vs xs Q Q' r ⟨ps,rfl,q⟩ k
 obtain ⟨v,rfl,r1⟩:=r.one
 cases r1 with
 | @dT a kvs _ m h e r2=>
  refine⟨a,kvs,rfl,h,fun l ys hl pr=>k _ _ _ (same_new hl _) (.lst hl upd_same ?_) q⟩
  have kv:∀ (k:List Key),Reps X.K (fun a=>H a=none) H (k.map kV) (k.map kP):=fun k=>by
   induction k with
   | nil=>exact .nil
   | cons a r ih=>exact .cons (by cases a <;> constructor) ih
  have go:∀ {ys:List V}{ks:List (List Key)},Paired (KeyAt H) ys ks->Reps X.K (fun a=>H a=none) H ys (ks.map fun k=>PV.tup (k.map kP)):=fun {ys ks} pr=>by
   induction pr with
   | nil=>exact .nil
   | cons h t ih=>
    obtain ⟨q,rfl,hq⟩:=h
    exact .cons (.tup hq (kv _)) ih
  have e2:(ps.map fun p=>PV.tup (p.1.map kP))=(kvs.map (·.1)).map fun k=>PV.tup (k.map kP):=by rw [e,List.map_map]; rfl
  rw [e2]
  exact (go pr).same (same_new hl _) fun _ z=>z
theorem q_list_dT (B:Bt X.mg) (hc:X.calm=true) (ha:QA X [e] tr) (hg:Gl X "list":=by rfl) (he:starEach [e] X.env=(false,eval e X.env) :: starEach [] X.env:=by rfl) (hpl:(backTo pos (starEach [] X.env)).any (·.1)=false:=by rfl):QE X (.Call (.Name "list" p2) [e] [] pos) (qCall RList_dT tr):=
 q_blt_ty (call_listDT hc) cov_list_dT hg B.list PyProof.Rows.boot_list ha (he:=he) (hpl:=hpl)
noncomputable def valI:V->Int
 | .int i=>i
 | _=>0
noncomputable def keyT (H:Hp):V->List Int
 | .ref a=>match H a with
  | some (.tup us)=>us.map valI
  | _=>[]
 | _=>[]
theorem keyT_of {H:Hp}{a:Addr}{ns:List Int} (h:H a=some (.tup (ns.map V.int))):keyT H (.ref a)=ns:=by
 show (match H a with | some (.tup us)=>us.map valI | _=>[])=ns
 rw [h]
 show (ns.map V.int).map valI=ns
 rw [List.map_map]
 exact List.map_id _
theorem reps_keys {K:PySem.W.Frag}{M:Addr->Prop}{H:Hp}:∀ {us:List V}{ys:List (List Int)},Reps K M H us (ys.map fun r=>PV.tup (intz r))->us.map (keyT H)=ys/\∀ u ∈ us,∃ b,u = .ref b/\H b=some (.tup ((keyT H u).map V.int))
 | _,[],.nil=>⟨rfl,fun u h=>nomatch h⟩
 | _,y :: ys,.cons r t=>by
  obtain ⟨a,us,rfl,h,r1⟩:=r.sqT
  obtain rfl:=r1.ofInts
  obtain ⟨h1,h2⟩:=reps_keys t
  have hk:=keyT_of h
  refine⟨by rw [List.map_cons,h1,hk],fun u hu=>?_⟩
  rcases List.mem_cons.mp hu with rfl | hu
  ·exact⟨a,rfl,by rw [hk]; exact h⟩
  ·exact h2 u hu
theorem reps_of_keys {K:PySem.W.Frag}{M:Addr->Prop}{H:Hp}:∀ {us:List V},(∀ u ∈ us,∃ b,u = .ref b/\H b=some (.tup ((keyT H u).map V.int)))->Reps K M H us ((us.map (keyT H)).map fun r=>PV.tup (intz r))
 | [],_=>.nil
 | u :: us,h=>by
  obtain ⟨b,rfl,hb⟩:=h u List.mem_cons_self
  exact .cons (.tup hb (Reps.intz _)) (reps_of_keys fun v hv=>h v (List.mem_cons_of_mem _ hv))
theorem cov_sortT:CovC X RSortT (rSortT X.K):=by
 rintro H vs xs Q Q' r ⟨ys,rfl,hl,hne,q⟩ k
 obtain ⟨v,rfl,r1⟩:=r.one
 obtain ⟨a,us,rfl,_,h,r2⟩:=r1.sqL
 obtain ⟨h1,h2⟩:=reps_keys r2
 have lr:=r2.length
 rw [List.length_map] at lr
 refine⟨a,us,keyT H,rfl,SqL.of h,by (first|lia|omega),fun y hy=>?_,fun l zs hl' pm so=>?_⟩
 ·obtain ⟨b,rfl,hb⟩:=h2 y hy
  refine⟨b,rfl,SqT.of hb,hne _ ?_⟩
  rw [<- h1]; exact List.mem_map.mpr ⟨_,hy,rfl⟩
 ·have hz:∀ u ∈ zs,∃ b,u = .ref b/\H b=some (.tup ((keyT H u).map V.int)):=fun u hu=>h2 u (pm.mem_iff.mp hu)
  refine k _ _ _ (same_new hl' _) (.lst hl' upd_same ((reps_of_keys hz).same (same_new hl' _) fun _ z=>z)) (q _ ?_ ?_)
  ·rw [<- h1]; exact pm.map _
  ·rw [List.pairwise_map]; exact so
theorem q_sortedT (B:Bt X.mg) (ha:QA X [e] tr) (hg:Gl X "sorted":=by rfl) (he:starEach [e] X.env=(false,eval e X.env) :: starEach [] X.env:=by rfl) (hpl:(backTo pos (starEach [] X.env)).any (·.1)=false:=by rfl):QE X (.Call (.Name "sorted" p2) [e] [] pos) (qCall RSortT tr):=
 q_blt call_sortedT cov_sortT hg B.sorted PyProof.Rows.boot_sorted ha (he:=he) (hpl:=hpl)
end
noncomputable def spRises (K:PySem.W.Frag):Sp:=fun vs H Q _=>∃ (a:Addr) (ns:List Int),vs = [.ref a]/\(SqT K H a (ns.map V.int) ∨ SqL K H a (ns.map V.int))/\ns.length<=1000/\∀ H',Same H H'->Q (.bl (Core.risesB ns)) H'
noncomputable def spNearLists:Sp:=fun vs H Q _=>∃ v ws ls,vs = [v]/\WebAt H v ws ls/\ws.length<=1000/\ls.length<=2000/\(∀ l ∈ ls,(0<=l.1/\l.1 < ws.length)/\0<=l.2/\l.2 < ws.length)/\
 ∀ (r:Addr) (bs:List Addr) (H':Hp),bs.length=ws.length->RowsAt H H' r bs (fun k=>nbrs ls k)->Q (.ref r) H'
section
variable {P : Program} {w : World} {K : PySem.W.Frag} {mg : Str → Option Value} {base : Heap} {f : Addr} {fd : FuncData} {k : Nat}
theorem df_rises (F:FnOk P w K mg base CX0 k f fd ["things"] (spRises K)) (b:Binds K fd ["things"] []) (kp:PySem.W.keepIn K (.ref f)=true) (m:mg "rises" = some (.ref f)):Df P w K mg base k "rises" ["things"] Core.p_rises:=by
 refine⟨f,fd,F.imp fun vs H Q E h=>?_,b,kp,m⟩
 obtain ⟨xs,Qp,r,⟨x,ns,rfl,hx,hl,q⟩,k⟩:=h
 obtain ⟨v,rfl,r1⟩:=r.one
 rcases hx with rfl | rfl
 ·obtain ⟨a,us,rfl,h,r2⟩:=r1.sqT
  obtain rfl:=r2.ofInts
  exact⟨a,ns,rfl,.inl (SqT.of h),hl,fun H' s=>k _ H' _ s (.bl _) q⟩
 ·obtain ⟨a,us,rfl,_,h,r2⟩:=r1.sqL
  obtain rfl:=r2.ofInts
  exact⟨a,ns,rfl,.inr (SqL.of h),hl,fun H' s=>k _ H' _ s (.bl _) q⟩
theorem links_of {M:Addr->Prop}{H:Hp}:∀ {us:List V}{ls:List (Int × Int)},Reps K M H us (ls.map fun l=>PV.tup [.int l.1,.int l.2])->LinksAt H us ls
 | _,[],.nil=>.nil
 | _,l :: ls,.cons r t=>by
  obtain ⟨a,us,rfl,h,r1⟩:=r.sqT
  obtain ⟨u1,u2,rfl,q1,q2⟩:=r1.two
  cases q1; cases q2
  exact .cons ⟨a,rfl,h⟩ (links_of t)
theorem web_of {M:Addr->Prop}{H:Hp}{v:V}{ws:List Int}{ls:List (Int × Int)} (r:Rep K M H v (Core.webP ws ls)):WebAt H v ws ls:=by
 obtain ⟨a,us,rfl,h,r1⟩:=Rep.sqT r
 obtain ⟨u1,u2,rfl,q1,q2⟩:=r1.two
 obtain ⟨p,up,rfl,hp,rp⟩:=q1.sqT
 obtain ⟨q,uq,rfl,hq,rq⟩:=q2.sqT
 obtain rfl:=rp.ofInts
 exact⟨a,p,q,uq,rfl,h,hp,hq,links_of rq⟩
theorem reps_rows {M:Addr->Prop}{H:Hp}:∀ {bs:List Addr}{ls:List (Int × Int)} (off:Nat),(∀ b ∈ bs,M b)->(∀ (k:Nat) b,bs[k]? = some b->H b=some (.lst ((nbrs ls ((off+k:Nat):Int)).map V.int)))->Reps K M H (bs.map V.ref) ((List.range' off bs.length).map fun (k:Nat)=>PV.lst (intz (nbrs ls k)))
 | [],_,_,_,_=>.nil
 | b :: bs,ls,off,hm,h=>by
  refine .cons (.lst (hm b List.mem_cons_self) (h 0 b rfl) (Reps.intz _)) (reps_rows (off+1) (fun c hc=>hm c (List.mem_cons_of_mem _ hc)) fun k c hk=>?_)
  have:=h (k+1) c (by rw [List.getElem?_cons_succ]; exact hk)
  rw [show off+1+k=off+(k+1) by (first|lia|omega)]; exact this
theorem df_near_lists (F:FnOk P w K mg base CX0 k f fd ["web"] spNearLists) (b:Binds K fd ["web"] []) (kp:PySem.W.keepIn K (.ref f)=true) (m:mg "near_lists" = some (.ref f)):Df P w K mg base k "near_lists" ["web"] Core.p_near_lists:=by
 refine⟨f,fd,F.imp fun vs H Q E h=>?_,b,kp,m⟩
 obtain ⟨xs,Qp,r,⟨ws,ls,rfl,wb,q⟩,k⟩:=h
 obtain ⟨v,rfl,r1⟩:=r.one
 have:=wb.few
 have:=wb.most
 refine⟨v,ws,ls,rfl,web_of r1,by (first|lia|omega),by (first|lia|omega),wb.links,fun t bs H' hb R=>k _ H' _ R.same (.lst R.new R.row ?_) q⟩
 have:=reps_rows (K:=K) (M:=fun a=>H a=none) (H:=H') (bs:=bs) (ls:=ls) 0 (fun b hb=>(R.news b hb).1) fun k b hk=>by rw [Nat.zero_add]; exact R.rows k b hk
 rw [hb,<- List.range_eq_range'] at this
 exact this
end
end PP
namespace Core
open PySem L2 PP
theorem rng_nodup (n:Nat):(rng n).Nodup:=by
 unfold rng
 rw [List.nodup_iff_pairwise_ne,List.pairwise_map]
 exact (List.nodup_range (n:=n)).imp fun h e=>h (by (first|lia|omega))
noncomputable def two (l:Int × Int):List Int:=[l.1,l.2]
noncomputable def unTwo (r:List Int):Int × Int:=(r.getD 0 0,r.getD 1 0)
theorem pairs_two (ls:List (Int × Int)):pairs ls=(ls.map two).map fun r=>PV.tup (intz r):=by
 unfold pairs
 rw [List.map_map]; rfl
theorem perm_two {zs:List (List Int)}{ls:List (Int × Int)} (h:zs.Perm (ls.map two)):∃ ls':List (Int × Int),zs=ls'.map two/\ls'.Perm ls:=by
 refine⟨zs.map unTwo,?_,?_⟩
 ·rw [List.map_map]
  have:∀ z ∈ zs,(two ∘ unTwo) z=z:=fun z hz=>by
   obtain ⟨l,_,rfl⟩:=List.mem_map.mp (h.mem_iff.mp hz)
   rfl
  rw [List.map_congr_left this,List.map_id']
 ·have:=h.map unTwo
  rw [List.map_map] at this
  have e:ls.map (unTwo ∘ two)=ls:=by
   have:∀ l ∈ ls,(unTwo ∘ two) l=id l:=fun l _=>rfl
   rw [List.map_congr_left this,List.map_id]
  rw [e] at this
  exact this
theorem ord_of {ls:List (Int × Int)} (so:(ls.map two).Pairwise fun u v=>HT.lexLt v u=false) (nd:ls.Nodup):ls.Pairwise ltP:=by
 rw [List.pairwise_map] at so
 refine (List.pairwise_and_iff.mpr ⟨so,nd⟩).imp fun {a b} h=>?_
 obtain ⟨h1,h2⟩:=h
 unfold two at h1
 rw [HT.lexLt_cons] at h1
 unfold ltP
 by_cases e:b.1=a.1
 ·rw [if_pos e,HT.lexLt_cons] at h1
  by_cases e2:b.2=a.2
  ·exact absurd (Prod.ext e.symm e2.symm) h2
  ·rw [if_neg e2] at h1
   have:=of_decide_eq_false h1
   (first|lia|omega)
 ·rw [if_neg e] at h1
  have:=of_decide_eq_false h1
  (first|lia|omega)
theorem W63.perm {n:Int}{ws:List Int}{ls ls':List (Int × Int)} (h1:(ws.length:Int)=n) (h2:∀ l ∈ ls,0<=l.1/\l.1 < l.2/\l.2 < n) (h3:ls.length<=63) (nd:ls.Nodup) (h4:∀ w ∈ ws,0<=w) (p:ls'.Perm ls) (so:(ls'.map two).Pairwise fun u v=>HT.lexLt v u=false):W63 n ws ls':=
 ⟨h1,fun l hl=>h2 l (p.mem_iff.mp hl),by rw [p.length_eq]; exact h3,ord_of so (p.nodup_iff.mpr nd),h4⟩
theorem flat_webs (ws:List Int) (ls:List (Int × Int)):flats [.tup (intz ws),.tup (pairs ls)]=true:=flat_web ws ls
end Core
namespace Core
open PySem L2 PP
noncomputable def p_law_web:PSp:=fun xs Q=>∃ x ns n wy,xs = [x,.int n,.int wy]/\IsF x ns/\ns.length<=63/\0<=n/\n<=40/\∀ ws ls,W63 n ws ls->Q (webP ws ls)
noncomputable def t_law_web3:PTS:=(qSeq (qOwn 3 (qLst qNil))
 (qSeq (qFor (qRng1 (qVar 1)) (pName 4)
  (qSeq (qSet 5 (qCall p_law_cell_at (qCons (qVar 0) (qCons (qVar 4) qNil))))
  (qApp 3 (qIx (qLst (qCons (qMod (qDiv (qVar 5) (qC (.int 5))) (qC (.int 4))) (qCons (qMod (qDiv (qVar 5) (qC (.int 5))) (qC (.int 3))) (qCons (qMod (qDiv (qVar 5) (qC (.int 5))) (qC (.int 6))) (qCons (qMod (qDiv (qVar 5) (qC (.int 5))) (qC (.int 61))) qNil))))) (qMod (qVar 2) (qC (.int 4)))))))
 (qSeq (qOwn 6 (qC (.dT [])))
 (qSeq (qFor (qSeqI (qVar 0)) (pName 5)
  (qIf (qTest (qGt (qVar 1) (qC (.int 1)))) (qSeq (qSet 7 (qMod (qVar 5) (qVar 1)))
   (qSeq (qSet 8 (qMod (qDiv (qMod (qMul (qMod (qVar 5) (qC (.int 1000000007))) (qC (.int 48271))) (qC (.int 2147483647))) (qC (.int 89))) (qVar 1)))
   (qIf (qTest (qNe (qVar 7) (qVar 8))) (qDPutT 6 (qTupF (qCons (qCall RMin2 (qCons (qVar 7) (qCons (qVar 8) qNil))) (qCons (qCall RMax2 (qCons (qVar 7) (qCons (qVar 8) qNil))) qNil))) (qC (.bl true))) qNext))) qNext))
 (qRet (qTupF (qCons (qCall RTuple (qCons (qVar 3) qNil)) (qCons (qCall RTuple (qCons (qCall RSortT (qCons (qCall RList_dT (qCons (qVar 6) qNil)) qNil)) qNil)) qNil))))))))
noncomputable def t_law_web2:PTS:=(qSeq (qIf (qAnd (qTest (qEq (qMod (qDiv (qVar 2) (qC (.int 4))) (qC (.int 2))) (qC (.int 1)))) (qTest (qLt (qVar 1) (qC (.int 9))))) (qRet (qCall p_law_web_of_digits (qCons (qCall p_law_cell_at (qCons (qVar 0) (qCons (qC (.int 0)) qNil))) (qCons (qCall p_law_cell_at (qCons (qVar 0) (qCons (qC (.int 1)) qNil))) (qCons (qVar 1) (qCons (qIx (qLst (qCons (qC (.int 4)) (qCons (qC (.int 3)) (qCons (qC (.int 6)) (qCons (qC (.int 61)) qNil))))) (qMod (qVar 2) (qC (.int 4)))) qNil)))))) qNext)
 t_law_web3)
theorem four {a b c d:PV}{i:Int} (h0:0<=i) (h1:i < 4):∃ z,atI [a,b,c,d] i=some z/\(z=a ∨ z=b ∨ z=c ∨ z=d):=by
 have:i=0 ∨ i=1 ∨ i=2 ∨ i=3:=by (first|lia|omega)
 rcases this with rfl | rfl | rfl | rfl
 ·exact⟨a,rfl,.inl rfl⟩
 ·exact⟨b,rfl,.inr (.inl rfl)⟩
 ·exact⟨c,rfl,.inr (.inr (.inl rfl))⟩
 ·exact⟨d,rfl,.inr (.inr (.inr rfl))⟩
theorem four_i {a b c d:Int}{i:Int} (h0:0<=i) (h1:i < 4):∃ z:Int,atI [PV.int a,PV.int b,PV.int c,PV.int d] i=some (.int z)/\(z=a ∨ z=b ∨ z=c ∨ z=d):=by
 obtain ⟨z,h,e⟩:=four (a:=PV.int a) (b:=PV.int b) (c:=PV.int c) (d:=PV.int d) h0 h1
 rcases e with rfl | rfl | rfl | rfl
 ·exact⟨a,h,.inl rfl⟩
 ·exact⟨b,h,.inr (.inl rfl)⟩
 ·exact⟨c,h,.inr (.inr (.inl rfl))⟩
 ·exact⟨d,h,.inr (.inr (.inr rfl))⟩
noncomputable def kTwo (l:Int × Int):List Key:=[Sum.inl l.1,Sum.inl l.2]
structure DL (n:Int) (ps:List (List Key × PV)) (i:Nat):Prop where
 key:∀ p ∈ ps,∃ l:Int × Int,p.1=kTwo l/\0<=l.1/\l.1 < l.2/\l.2 < n
 len:ps.length<=i
 fl:flats (ps.map (·.2))=true
 nd:(ps.map (·.1)).Nodup
theorem put_nodup {κ:Type} [DecidableEq κ] {ps:List (κ × PV)} (k:κ) (v:PV) (h:(ps.map (·.1)).Nodup):((putP ps k v).map (·.1)).Nodup:=by
 unfold putP
 split
 ·rw [List.map_map]
  have:((fun x:κ × PV=>x.1) ∘ fun kv:κ × PV=>if kv.1=k then (kv.1,v) else kv)=fun x=>x.1:=by
   funext x
   show (if x.1=k then (x.1,v) else x).1=x.1
   split <;> rfl
  rw [this]; exact h
 ·rename_i hn
  rw [List.map_append]
  refine List.nodup_append.mpr ⟨h,List.pairwise_singleton _ _,fun x hx y hy e=>hn ?_⟩
  obtain ⟨p,hp,rfl⟩:=List.mem_map.mp hx
  rw [List.mem_singleton.mp hy] at e
  exact List.any_eq_true.mpr ⟨p,hp,decide_eq_true e⟩
theorem put_key {κ:Type} [DecidableEq κ] {ps:List (κ × PV)}{k:κ}{v:PV}{p:κ × PV} (h:p ∈ putP ps k v):p.1=k ∨ ∃ q ∈ ps,q.1=p.1:=by
 unfold putP at h
 split at h
 ·obtain ⟨q,hq,e⟩:=List.mem_map.mp h
  split at e
  ·subst e; exact .inr ⟨q,hq,rfl⟩
  ·subst e; exact .inr ⟨q,hq,rfl⟩
 ·rcases List.mem_append.mp h with h | h
  ·exact .inr ⟨p,h,rfl⟩
  ·rw [List.mem_singleton.mp h]; exact .inl rfl
theorem DL.put {n:Int}{ps:List (List Key × PV)}{i:Nat} (h:DL n ps i) (l:Int × Int) (hl:0<=l.1/\l.1 < l.2/\l.2 < n):DL n (putP ps (kTwo l) (.bl true)) (i+1):=by
 refine⟨fun p hp=>?_,?_,flats_put h.fl rfl,put_nodup _ _ h.nd⟩
 ·rcases put_key hp with e | ⟨q,hq,e⟩
  ·exact⟨l,e,hl⟩
  ·obtain ⟨l',e',h'⟩:=h.key q hq
   exact⟨l',e ▸ e',h'⟩
 ·have:=length_putP ps (kTwo l) (.bl true)
  have:=h.len
  (first|lia|omega)
theorem DL.links {n:Int}:∀ {ps:List (List Key × PV)},(∀ p ∈ ps,∃ l:Int × Int,p.1=kTwo l/\0<=l.1/\l.1 < l.2/\l.2 < n)->∃ ls:List (Int × Int),(ps.map fun p=>PV.tup (p.1.map kP))=pairs ls/\(∀ l ∈ ls,0<=l.1/\l.1 < l.2/\l.2 < n)/\ls.length=ps.length/\ps.map (·.1)=ls.map kTwo
 | [],_=>⟨[],rfl,(fun _ h=>nomatch h),rfl,rfl⟩
 | p :: ps,h=>by
  obtain ⟨l,e,hl⟩:=h p List.mem_cons_self
  obtain ⟨ls,h1,h2,h3,h4⟩:=DL.links (ps:=ps) fun q hq=>h q (List.mem_cons_of_mem _ hq)
  refine⟨l :: ls,?_,fun m hm=>?_,by rw [List.length_cons,List.length_cons,h3],by rw [List.map_cons,List.map_cons,h4,e]⟩
  ·rw [List.map_cons,h1,e]; rfl
  ·rcases List.mem_cons.mp hm with rfl | hm
   ·exact hl
   ·exact h2 m hm
theorem f_tag {x:PV}{ns:List Int} (h:IsF x ns):(Slot.sh (flat x) x).tag = .rd->flat x=true:=by
 cases flat x <;> intro z <;> cases z
theorem rd_web2 {x:PV}{ns:List Int}{n wy:Int}{Q:PV->Prop} (hx:IsF x ns) (hns:ns.length<=63) (n0:0<=n) (n1:n<=40) (q:∀ ws ls,W63 n ws ls->Q (webP ws ls)):t_law_web2 { nx:=fun _=>Q .non,rt:=Q } [some (.sh (flat x) x),si n,si wy,none,none,none,none,none,none]:=by
 have d4:(0:Int) < 4:=by decide
 have last:t_law_web3 { nx:=fun _=>Q .non,rt:=Q } [some (.sh (flat x) x),si n,si wy,none,none,none,none,none,none]:=by
  refine⟨by decide,rfl,rfl,rfl,?_⟩
  refine⟨_,rfl,n,rfl,by (first|lia|omega),by (first|lia|omega),fun i ρ=>∃ (y z:Option Slot) (ws:List Int),ρ = [some (.sh (flat x) x),si n,si wy,some (.own (.lst (intz ws))),y,z,none,none,none]/\ws.length=i/\∀ w ∈ ws,0<=w,⟨none,none,[],rfl,rfl,fun _ h=>nomatch h⟩,?_,?_⟩
  ·rintro i y ρ hy ⟨y0,z0,ws,rfl,hl,hp⟩
   obtain ⟨rfl,hi⟩:=rngP_at hy
   refine⟨_,rfl,_,rfl,x,ns,_,rfl,hx,by (first|lia|omega),trivial,?_⟩
   generalize ns.getD ((0:Int)+(i:Int)).toNat 0=cell
   obtain ⟨z,hz,hzz⟩:=four_i (a:=cell / 5 % 4) (b:=cell / 5 % 3) (c:=cell / 5 % 6) (d:=cell / 5 % 61) (i:=wy % 4) (Int.emod_nonneg _ (by decide)) (Int.emod_lt_of_pos _ d4)
   refine⟨_,rfl,_,rfl,_,_,rfl,rfl,⟨by decide,by decide⟩,_,_,rfl,rfl,d4,_,rfl,_,_,rfl,rfl,⟨by decide,by decide⟩,_,_,rfl,rfl,(by show (0:Int) < 3; decide),_,rfl,_,_,rfl,rfl,⟨by decide,by decide⟩,_,_,rfl,rfl,(by show (0:Int) < 6; decide),_,rfl,_,_,rfl,rfl,⟨by decide,by decide⟩,_,_,rfl,rfl,(by show (0:Int) < 61; decide),by show 4<=1000; decide,rfl,_,rfl,_,_,rfl,rfl,d4,_,_,_,rfl,rfl,hz,nw_int _ _,by rw [ints_len]; (first|lia|omega),?_⟩
   refine⟨si (0+(i:Int)),si cell,ws ++ [z],?_,by rw [List.length_append,hl]; rfl,fun w hw=>?_⟩
   ·rw [ints_app]; rfl
   ·rcases List.mem_append.mp hw with hw | hw
    ·exact hp w hw
    ·rw [List.mem_singleton.mp hw]
     rcases hzz with e | e | e | e <;> rw [e] <;> exact Int.emod_nonneg _ (by decide)
  rintro ρ ⟨y0,z0,ws,rfl,hl,hp⟩
  rw [rngP_length] at hl
  refine⟨rfl,rfl,?_⟩
  refine⟨_,rfl,_,hx.seq,f_tag hx,fun i ρ=>∃ (y z u:Option Slot) (ps:List (List Key × PV)),ρ = [some (.sh (flat x) x),si n,si wy,some (.own (.lst (intz ws))),y0,y,some (.own (.dT ps)),z,u]/\DL n ps i,⟨z0,none,none,[],rfl,⟨(fun _ h=>nomatch h),Nat.le_refl _,rfl,.nil⟩⟩,?_,?_⟩
  ·rintro i y ρ hy ⟨y1,z1,u1,ps,rfl,dl⟩
   obtain ⟨cell,rfl,hc⟩:=ints_get hy
   have hi:i < ns.length:=(List.getElem?_eq_some_iff.mp hc).1
   generalize itG _ _=gg
   have dl1:DL n ps (i+1):=⟨dl.key,Nat.le_succ_of_le dl.len,dl.fl,dl.nd⟩
   refine⟨_,rfl,_,_,rfl,rfl,_,rfl,?_⟩
   by_cases h1:(1:Int) < n
   ·dsimp only
    rw [decide_eq_true h1]
    have np:(0:Int) < n:=by (first|lia|omega)
    refine iteT ⟨_,rfl,_,rfl,_,_,rfl,rfl,np,trivial,?_⟩
    refine⟨_,rfl,_,_,rfl,rfl,(by show (0:Int) < 1000000007; decide),_,_,rfl,rfl,.inr ⟨by decide,by decide⟩,_,_,rfl,rfl,(by show (0:Int) < 2147483647; decide),_,_,rfl,rfl,⟨by decide,by decide⟩,_,rfl,_,_,rfl,rfl,np,trivial,?_⟩
    dsimp only
    generalize hone:cell % n=one
    generalize hoth:cell % 1000000007 * 48271 % 2147483647 / 89 % n=oth
    have o1:0<=one/\one < n:=by rw [<- hone]; exact⟨Int.emod_nonneg _ (by (first|lia|omega)),Int.emod_lt_of_pos _ np⟩
    have o2:0<=oth/\oth < n:=by rw [<- hoth]; exact⟨Int.emod_nonneg _ (by (first|lia|omega)),Int.emod_lt_of_pos _ np⟩
    refine⟨_,rfl,_,rfl,.inl ⟨_,_,rfl,rfl,_,rfl,?_⟩⟩
    by_cases h2:one=oth
    ·show if (!decide (one=oth))=true then _ else _
     rw [decide_eq_true h2]
     exact iteF ⟨some (.sh (gg || true) (.int cell)),si one,si oth,ps,rfl,dl1⟩
    ·show if (!decide (one=oth))=true then _ else _
     rw [decide_eq_false h2]
     refine iteT ⟨_,rfl,_,rfl,_,rfl,_,_,rfl,_,rfl,_,rfl,_,_,rfl,by show 2<=1000; decide,rfl,kTwo (if oth < one then oth else one,if oth > one then oth else one),rfl,trivial,by have:=dl.len; (first|lia|omega),?_⟩
     refine⟨some (.sh (gg || true) (.int cell)),si one,si oth,_,rfl,dl.put _ ?_⟩
     dsimp only
     split <;> split <;> (first|lia|omega)
   ·dsimp only
    rw [decide_eq_false h1]
    exact iteF ⟨some (.sh (gg || true) (.int cell)),z1,u1,ps,rfl,dl1⟩
  rintro ρ ⟨y1,z1,u1,ps,rfl,dl⟩
  rw [ints_len] at dl
  obtain ⟨ls,e1,e2,e3,e4⟩:=DL.links dl.key
  have lnd:ls.Nodup:=by
   have:=dl.nd
   rw [e4] at this
   exact (List.pairwise_map.mp this).imp fun h e=>h (congrArg kTwo e)
  have hlen:=dl.len
  refine⟨_,rfl,⟨_,_,rfl,rfl,flats_ints _,_,rfl,ps,rfl,ls.map two,?_,by rw [List.length_map]; (first|lia|omega),?_,fun zs pz so=>?_⟩,fun ns z=>by cases z⟩
  ·show [PV.lst (ps.map fun p=>PV.tup (p.1.map kP))]=_
   rw [e1,pairs_two]
  ·intro y hy z
   obtain ⟨l,_,rfl⟩:=List.mem_map.mp hy
   cases z
  obtain ⟨ls',rfl,pl⟩:=perm_two pz
  rw [<- pairs_two]
  exact⟨⟨_,_,rfl,rfl,flats_pairs _,by show 2<=1000; decide,flat_webs _ _,trivial,q ws ls' (W63.perm (by (first|lia|omega)) e2 (by (first|lia|omega)) lnd hp pl so)⟩,fun ns z=>by cases z⟩
 refine⟨_,rfl,_,_,rfl,rfl,⟨by decide,by decide⟩,_,_,rfl,rfl,(by show (0:Int) < 2; decide),.inl ⟨_,_,rfl,rfl,_,rfl,?_⟩⟩
 cases hc:(decide (wy / 4 % 2=1)) with
 | false=>exact iteF (iteF last)
 | true=>
  refine iteT ⟨_,rfl,_,_,rfl,rfl,_,rfl,?_⟩
  by_cases h:n < 9
  ·dsimp only
   rw [decide_eq_true h]
   obtain ⟨z,hz,e⟩:=four_i (a:=4) (b:=3) (c:=6) (d:=61) (i:=wy % 4) (Int.emod_nonneg _ (by decide)) (Int.emod_lt_of_pos _ d4)
   refine iteT ⟨_,rfl,x,ns,0,rfl,hx,by decide,_,rfl,x,ns,1,rfl,hx,by decide,_,rfl,by show 4<=1000; decide,rfl,_,rfl,_,_,rfl,rfl,d4,_,_,_,rfl,rfl,hz,_,_,n,z,rfl,n0,by (first|lia|omega),by (first|lia|omega),by (first|lia|omega),fun ws ls w=>⟨trivial,q ws ls w⟩⟩
  ·dsimp only
   rw [decide_eq_false h]; exact iteF last
noncomputable def p_law_web_by:PSp:=fun xs Q=>∃ ns k,xs = [.scr ns,.int k]/\ns.length<=63/\0<=k/\∀ n ws ls,0<=n->n<=40->W63 n ws ls->Q (webP ws ls)
theorem cut_from (ns:List Int) {k:Int} (h:0<=k):cutP (intz ns) (some k) none=intz (ns.drop k.toNat):=by
 unfold cutP
 have e1:HT.sIx (intz ns).length 0 (some k)=min k.toNat (intz ns).length:=by
  have:=HT.sIx_nat (intz ns).length 0 k.toNat
  rw [show ((k.toNat:Nat):Int)=k by (first|lia|omega)] at this
  exact this
 have e2:HT.sIx (intz ns).length (intz ns).length none=(intz ns).length:=rfl
 rw [e1,e2,ints_len]
 rw [List.take_of_length_le (by rw [List.length_drop,ints_len]; (first|lia|omega))]
 show _=List.map PV.int _
 rw [List.map_drop]
 by_cases hk:k.toNat<=ns.length
 ·rw [Nat.min_eq_left hk]
 ·rw [Nat.min_eq_right (by (first|lia|omega)),List.drop_of_length_le (by rw [ints_len]; (first|lia|omega)),List.drop_of_length_le (by rw [ints_len]; (first|lia|omega))]
end Core
namespace Core
open PySem L2 PP
structure Upto (i:Int) (ms:List Int):Prop where
 up:ms.Pairwise (· < ·)
 inn:∀ x ∈ ms,0<=x/\x < i
 len:(ms.length:Int)<=i
theorem Upto.nil:Upto 0 []:=⟨.nil,(fun _ h=>nomatch h),Int.le_refl _⟩
theorem Upto.skip {i:Nat}{ms:List Int} (h:Upto (i:Int) ms):Upto ((i+1:Nat):Int) ms:=⟨h.up,fun x hx=>by have:=h.inn x hx; (first|lia|omega),by have:=h.len; (first|lia|omega)⟩
theorem Upto.take {i:Nat}{ms:List Int} (h:Upto (i:Int) ms):Upto ((i+1:Nat):Int) (ms ++ [(0:Int)+(i:Int)]):=by
 refine⟨List.pairwise_append.mpr ⟨h.up,List.pairwise_singleton _ _,fun x hx y hy=>?_⟩,fun x hx=>?_,?_⟩
 ·rw [List.mem_singleton.mp hy]; have:=h.inn x hx; (first|lia|omega)
 ·rcases List.mem_append.mp hx with hx | hx
  ·have:=h.inn x hx; (first|lia|omega)
  ·rw [List.mem_singleton.mp hx]; (first|lia|omega)
 ·rw [List.length_append,List.length_singleton]; have:=h.len; (first|lia|omega)
noncomputable def p_law_seeds_by:PSp:=fun xs Q=>∃ x ns k n,xs = [x,.int k,.int n]/\IsF x ns/\0<=k/\0<=n/\n<=1000/\∀ ms,Upto n ms->Q (.tup (intz ms))
noncomputable def t_law_seeds_by:PTS:=(qSeq (qSet 3 (qCall p_law_cell_at (qCons (qVar 0) (qCons (qVar 1) qNil))))
 (qSeq (qOwn 4 (qLst qNil))
 (qSeq (qIf (qTest (qEq (qMod (qVar 3) (qC (.int 2))) (qC (.int 1)))) (qSeq (qFor (qRng1 (qVar 2)) (pName 5)
   (qSeq (qSet 3 (qDiv (qVar 3) (qC (.int 2))))
   (qIf (qTest (qEq (qMod (qVar 3) (qC (.int 2))) (qC (.int 1)))) (qApp 4 (qVar 5)) qNext)))
  (qRet (qCall RTuple (qCons (qVar 4) qNil)))) qNext)
 (qSeq (qSet 3 (qMod (qMul (qAdd (qMod (qVar 3) (qC (.int 1000000007))) (qC (.int 1))) (qC (.int 48271))) (qC (.int 2147483647))))
 (qSeq (qFor (qRng1 (qVar 2)) (pName 5)
  (qSeq (qSet 6 (qMod (qMul (qAdd (qAdd (qVar 3) (qMul (qMul (qC (.int 977)) (qVar 5)) (qVar 5))) (qVar 5)) (qC (.int 40692))) (qC (.int 2147483399))))
  (qIf (qTest (qLt (qMod (qDiv (qMod (qMul (qVar 6) (qVar 6)) (qC (.int 2147483399))) (qC (.int 8))) (qC (.int 7))) (qAdd (qC (.int 1)) (qMod (qDiv (qVar 3) (qC (.int 8))) (qC (.int 4)))))) (qApp 4 (qVar 5)) qNext)))
 (qRet (qCall RTuple (qCons (qVar 4) qNil))))))))
theorem rd_law_seeds_by:Rd1 t_law_seeds_by ["script","at","many","cell","some","hearth","number"] p_law_seeds_by:=by
 rintro xs Q ⟨x,ns,k,n,rfl,hx,k0,n0,n1,q⟩
 refine⟨_,rfl,_,rfl,x,ns,k,rfl,hx,k0,trivial,?_⟩
 generalize ns.getD k.toNat 0=cell
 refine⟨by decide,rfl,rfl,rfl,?_⟩
 refine⟨_,rfl,_,_,rfl,rfl,(by show (0:Int) < 2; decide),.inl ⟨_,_,rfl,rfl,_,rfl,?_⟩⟩
 have ret:∀ {ρ:PEnv}{ms:List Int},ρ[4]? = some (some (.own (.lst (intz ms))))->Upto n ms->(qRet (qCall RTuple (qCons (qVar 4) qNil))) { nx:=fun _=>Q .non,rt:=Q } ρ:=fun {ρ ms} h u=>
  ⟨_,h,⟨_,_,rfl,rfl,flats_ints _,trivial,q ms u⟩,fun ns z=>by cases z⟩
 cases hc:(decide (cell % 2=1)) with
 | true=>
  refine iteT ⟨_,rfl,n,rfl,by (first|lia|omega),by (first|lia|omega),fun i ρ=>∃ (c:Int) (y:Option Slot) (ms:List Int),ρ = [some (.sh (flat x) x),si k,si n,si c,some (.own (.lst (intz ms))),y,none]/\Upto (i:Int) ms,⟨cell,none,[],rfl,Upto.nil⟩,?_,?_⟩
  ·rintro i y ρ hy ⟨c,y0,ms,rfl,u⟩
   obtain ⟨rfl,hi⟩:=rngP_at hy
   have ul:=u.len
   refine⟨_,rfl,_,_,rfl,rfl,⟨by decide,by decide⟩,trivial,?_⟩
   refine⟨_,rfl,_,_,rfl,rfl,(by show (0:Int) < 2; decide),.inl ⟨_,_,rfl,rfl,_,rfl,?_⟩⟩
   cases hc2:(decide (c / 2 % 2=1)) with
   | true=>
    refine iteT ⟨_,rfl,_,rfl,trivial,by rw [ints_len]; (first|lia|omega),c / 2,si (0+(i:Int)),ms ++ [(0:Int)+(i:Int)],?_,u.take⟩
    rw [ints_app]; rfl
   | false=>exact iteF ⟨c / 2,si (0+(i:Int)),ms,rfl,u.skip⟩
  ·rintro ρ ⟨c,y0,ms,rfl,u⟩
   rw [rngP_length,show ((n.toNat:Nat):Int)=n by (first|lia|omega)] at u
   exact ret rfl u
 | false=>
  refine iteF ⟨_,rfl,_,_,rfl,rfl,(by show (0:Int) < 1000000007; decide),_,_,rfl,rfl,_,_,rfl,rfl,.inr ⟨by decide,by decide⟩,_,_,rfl,rfl,(by show (0:Int) < 2147483647; decide),trivial,?_⟩
  dsimp only
  generalize hcl:(cell % 1000000007+1) * 48271 % 2147483647=cl
  refine⟨_,rfl,n,rfl,by (first|lia|omega),by (first|lia|omega),fun i ρ=>∃ (y z:Option Slot) (ms:List Int),ρ = [some (.sh (flat x) x),si k,si n,si cl,some (.own (.lst (intz ms))),y,z]/\Upto (i:Int) ms,⟨none,none,[],rfl,Upto.nil⟩,?_,?_⟩
  ·rintro i y ρ hy ⟨y0,z0,ms,rfl,u⟩
   obtain ⟨rfl,hi⟩:=rngP_at hy
   have ul:=u.len
   refine⟨_,rfl,_,rfl,_,_,rfl,rfl,.inl ⟨by decide,by decide⟩,_,rfl,_,_,rfl,rfl,.inr ⟨by (first|lia|omega),by (first|lia|omega)⟩,_,_,rfl,rfl,_,rfl,_,_,rfl,rfl,_,_,rfl,rfl,.inr ⟨by decide,by decide⟩,_,_,rfl,rfl,(by show (0:Int) < 2147483399; decide),trivial,?_⟩
   dsimp only
   generalize hnum:(cl+977 * (0+(i:Int)) * (0+(i:Int))+(0+(i:Int))) * 40692 % 2147483399=num
   have b1:0<=num:=by rw [<- hnum]; exact Int.emod_nonneg _ (by decide)
   have b2:num < 2147483399:=by rw [<- hnum]; exact Int.emod_lt_of_pos _ (by decide)
   refine⟨_,rfl,_,rfl,_,_,rfl,rfl,.inl ⟨by (first|lia|omega),by (first|lia|omega)⟩,_,_,rfl,rfl,(by show (0:Int) < 2147483399; decide),_,_,rfl,rfl,⟨by decide,by decide⟩,_,_,rfl,rfl,(by show (0:Int) < 7; decide),_,rfl,_,_,rfl,rfl,⟨by decide,by decide⟩,_,_,rfl,rfl,(by show (0:Int) < 4; decide),_,_,rfl,rfl,_,_,rfl,rfl,_,rfl,?_⟩
   dsimp only
   cases hc2:(decide (num * num % 2147483399 / 8 % 7 < 1+cl / 8 % 4)) with
   | true=>
    refine iteT ⟨_,rfl,_,rfl,trivial,by rw [ints_len]; (first|lia|omega),si (0+(i:Int)),si num,ms ++ [(0:Int)+(i:Int)],?_,u.take⟩
    rw [ints_app]; rfl
   | false=>exact iteF ⟨si (0+(i:Int)),si num,ms,rfl,u.skip⟩
  ·rintro ρ ⟨y0,z0,ms,rfl,u⟩
   rw [rngP_length,show ((n.toNat:Nat):Int)=n by (first|lia|omega)] at u
   exact ret rfl u
theorem Upto.set {n:Nat}{ms:List Int} (h:Upto (n:Int) ms):isSetB n ms=true:=by
 unfold isSetB
 rw [pair_up h.up,Bool.true_and,List.all_eq_true]
 intro b hb
 obtain ⟨x,hx,rfl⟩:=List.mem_map.mp hb
 have:=h.inn x hx
 unfold inB
 simp [this]
noncomputable def bools (n:Nat) (S:List Int):List PV:=(rng n).map fun i=>PV.bl (decide (i ∈ S))
theorem bools_len (n:Nat) (S:List Int):(bools n S).length=n:=by unfold bools; rw [List.length_map,rng_len]
theorem bools_at {n:Nat}{S:List Int}{x:Int} (h0:0<=x) (h1:x < (n:Int)):atI (bools n S) x=some (.bl (decide (x ∈ S))):=by
 refine atI_int h0 ?_
 unfold bools
 rw [List.getElem?_map,rng_at (by (first|lia|omega))]
 show some (PV.bl (decide (((x.toNat:Nat):Int) ∈ S)))=_
 rw [show ((x.toNat:Nat):Int)=x by (first|lia|omega)]
theorem bools_set {n:Nat}{S:List Int}{x:Int} (h0:0<=x) (h1:x < (n:Int)):(bools n S).set x.toNat (.bl true)=bools n (S ++ [x]):=by
 refine List.ext_getElem? fun i=>?_
 by_cases hi:i < n
 ·have e1:(bools n (S ++ [x]))[i]? = some (.bl (decide ((i:Int) ∈ S ++ [x]))):=by unfold bools; rw [List.getElem?_map,rng_at hi]; rfl
  rw [e1]
  by_cases e:i=x.toNat
  ·subst e
   rw [List.getElem?_set_self (by rw [bools_len]; exact hi)]
   have:(((x.toNat:Nat):Int) ∈ S ++ [x]):=by rw [show ((x.toNat:Nat):Int)=x by (first|lia|omega)]; simp
   rw [decide_eq_true this]
  ·rw [List.getElem?_set_ne (Ne.symm e)]
   unfold bools
   rw [List.getElem?_map,rng_at hi]
   have:decide ((i:Int) ∈ S ++ [x])=decide ((i:Int) ∈ S):=by
    rw [Bool.eq_iff_iff]; simp; (first|lia|omega)
   rw [this]; rfl
 ·rw [List.getElem?_eq_none (by rw [List.length_set,bools_len]; (first|lia|omega)),List.getElem?_eq_none (by rw [bools_len]; (first|lia|omega))]
noncomputable def p_law_rounds:PSp:=fun xs Q=>∃ ws ls ns,xs = [webP ws ls,.tup (intz ns)]/\W63 (ws.length:Int) ws ls/\ws.length<=40/\isSetB ws.length ns=true/\∀ m,Ends ws ls ns m->Q (.lst (tups (ns :: after ws ls ns m)))
noncomputable def t_law_rounds:PTS:=(qSeq (qSet 2 (qComp (qRng1 (qCall RLen (qCons (qIx (qVar 0) (qC (.int 0))) qNil))) [none,some 0] (pName 0) qYes (qCall p_law_near (qCons (qVar 1) (qCons (qVar 0) qNil)))))
 (qSeq (qOwn 3 (qComp (qRng1 (qCall RLen (qCons (qIx (qVar 0) (qC (.int 0))) qNil))) [none,some 1] (pName 0) qYes (q2 (RIn false) (qVar 0) (qVar 1))))
 (qSeq (qOwn 4 (qLst (qCons (qCall RTuple (qCons (qVar 1) qNil)) qNil)))
 (qSeq (qWhile (qOr (qTest (q2 (REqS 2 true) (qIx (qVar 4) (qNeg (qC (.int 1)))) (qTupF qNil))) (qTest (qEq (qCall RLen (qCons (qVar 4) qNil)) (qC (.int 1)))))
  (qSeq (qOwn 5 (qLst qNil))
  (qSeq (qFor (qRng1 (qCall RLen (qCons (qVar 3) qNil))) (pName 6)
   (qSeq (qSet 7 (qCall RLen (qCons (qComp (qSeqI (qIx (qVar 2) (qVar 6))) [none,some 3] (pName 0) (qTru (qIx (qVar 1) (qVar 0))) (qVar 0)) qNil)))
   (qIf (qAnd (qNot (qTru (qIx (qVar 3) (qVar 6)))) (qTest (qGe (qVar 7) (qIx (qIx (qVar 0) (qC (.int 0))) (qVar 6))))) (qApp 5 (qVar 6)) qNext)))
  (qSeq (qFrz 5 (qFor (qSeqI (qVar 5)) (pName 6)
   (qLPut 3 (qVar 6) (qC (.bl true)))))
  (qApp 4 (qCall RTuple (qCons (qVar 5) qNil)))))))
 (qRet (qSl (qVar 4) qOn (qOs (qNeg (qC (.int 1))))))))))
theorem nbrs_mem {ls:List (Int × Int)}{n:Int} (hin:∀ l ∈ ls,0<=l.1/\l.1 < l.2/\l.2 < n) {h x:Int} (hx:x ∈ nbrs ls h):0<=x/\x < n:=by
 unfold nbrs at hx
 obtain ⟨l,hl,hx⟩:=List.mem_flatMap.mp hx
 have:=hin l hl
 rcases List.mem_append.mp hx with hx | hx
 ·split at hx
  ·rw [List.mem_singleton.mp hx]; (first|lia|omega)
  ·cases hx
 ·split at hx
  ·rw [List.mem_singleton.mp hx]; (first|lia|omega)
  ·cases hx
structure Nrs (ls:List (Int × Int)) (n:Nat) (xs:List PV):Prop where
 len:xs.length=n
 at_:∀ j,j < n->∃ ms:List Int,xs[j]? = some (.lst (intz ms))/\ms.Perm (nbrs ls j)
theorem filter_perm_len {a b:List Int} (p:Int->Bool) (h:a.Perm b):(a.filter p).length=(b.filter p).length:=(h.filter p).length_eq
theorem cut_last (rs:List (List Int)) (r:List Int):cutP (tups (rs ++ [r])) none (some (-1))=tups rs:=by
 have hl:(tups (rs ++ [r])).length=rs.length+1:=by rw [tups_len,List.length_append]; rfl
 unfold cutP
 have e1:HT.sIx (tups (rs ++ [r])).length 0 none=0:=rfl
 have e2:HT.sIx (tups (rs ++ [r])).length (tups (rs ++ [r])).length (some (-1))=rs.length:=by
  rw [hl]
  show (if (-1:Int) < 0 then ((-1:Int)+((rs.length+1:Nat):Int)).toNat else min (-1:Int).toNat (rs.length+1))=_
  rw [if_pos (by decide)]; (first|lia|omega)
 rw [e1,e2]
 unfold tups
 rw [List.map_append,List.drop_zero,Nat.sub_zero,List.take_left' (by rw [List.length_map])]
theorem rd_law_rounds : Rd1 t_law_rounds ["web", "seeds", "nears", "burning", "found", "ahead", "hearth", "many"] p_law_rounds := by
  rintro xs Q ⟨ws, ls, ns, rfl, w63, few, hs, q⟩
  have hne : ∀ l ∈ ls, l.1 ≠ l.2 := fun l hl => by have := w63.inn l hl; (first|lia|omega)
  have lnn : ∀ h, (nbrs ls h).length ≤ 63 := fun h => by have := nbrs_len1 h ls hne; have := w63.most; (first|lia|omega)
  refine ⟨_, rfl, _, _, _, rfl, rfl, rfl, _, _, rfl, rfl, _, rfl, by rw [ints_len]; (first|lia|omega), by rw [ints_len]; (first|lia|omega), by rw [rngP_length, ints_len]; (first|lia|omega), fun i acc => Nrs ls i acc, ⟨rfl, fun j hj => absurd hj (Nat.not_lt_zero _)⟩, ?_, fun nears nr => ⟨trivial, ?_⟩⟩
  · rintro i y acc hy nr
    obtain ⟨rfl, hi⟩ := rngP_at hy
    refine ⟨_, rfl, _, rfl, ws, ls, _, rfl, hne, w63.most, fun ms pm _ => ⟨trivial, by rw [List.length_append, nr.len]; rfl, fun j hj => ?_⟩⟩
    by_cases e : j = i
    · subst e
      refine ⟨ms, ?_, by rw [Int.zero_add] at pm; exact pm⟩
      rw [List.getElem?_append_right (by rw [nr.len]; exact Nat.le_refl _), nr.len, Nat.sub_self]; rfl
    · obtain ⟨ms', h1, h2⟩ := nr.at_ j (by (first|lia|omega))
      exact ⟨ms', by rw [List.getElem?_append_left (by rw [nr.len]; (first|lia|omega))]; exact h1, h2⟩
  rw [rngP_length] at nr
  have nr : Nrs ls ws.length nears := by rw [ints_len] at nr; exact nr
  refine ⟨_, rfl, _, _, _, rfl, rfl, rfl, _, _, rfl, rfl, _, rfl, by rw [ints_len]; (first|lia|omega), by rw [ints_len]; (first|lia|omega), by rw [rngP_length, ints_len]; (first|lia|omega), fun i acc => acc = ((rng ws.length).take i).map fun i => PV.bl (decide (i ∈ ns)), rfl, ?_, ?_⟩
  · rintro i y acc hy rfl
    obtain ⟨rfl, hi⟩ := rngP_at hy
    rw [ints_len] at hi
    have hi : i < ws.length := by (first|lia|omega)
    refine ⟨_, rfl, _, rfl, _, ns, rfl, rfl, trivial, ?_⟩
    have tk := take_map_succ (f := fun (i : Int) => PV.bl (decide (i ∈ ns))) (rng_at hi)
    show _ = List.map _ (List.take (i + 1) _)
    rw [tk, Int.zero_add]; rfl
  rintro bu rfl
  rw [rngP_length, ints_len, List.take_of_length_le (by rw [rng_len]; (first|lia|omega))]
  have flb : ∀ S, flats (bools ws.length S) = true := fun S => by
    rw [flats_iff]
    intro x hx
    unfold bools at hx
    obtain ⟨i, _, rfl⟩ := List.mem_map.mp hx
    rfl
  refine ⟨rfl, flb ns, ?_⟩
  refine ⟨_, rfl, ⟨_, _, rfl, rfl, flats_ints _, by show 1 ≤ 1000; decide, ?_, rfl, ?_, ?_⟩, fun ns z => by cases z⟩
  · show (flat (.tup (intz ns)) && true) = true
    rw [flat_tupI]; rfl
  · show (flat (.tup (intz ns)) && true) = true
    rw [flat_tupI]; rfl
  have fw := flat_web ws ls
  have fs := flat_tupI ns
  refine ⟨fun n ρ => ∃ (k : Nat) (y5 y6 y7 : Option Slot), ρ = [some (.sh true (webP ws ls)), some (.sh true (.tup (intz ns))), some (.sh true (.lst nears)), some (.own (.lst (bools ws.length (stp ws ls ns k)))), some (.own (.lst (tups (ns :: after ws ls ns k)))), y5, y6, y7] ∧
      (∀ j, j + 1 < k → nextOf ws ls (stp ws ls ns j) ≠ []) ∧ n = cold ws (stp ws ls ns k) + (match k with | 0 => 1 | j + 1 => if nextOf ws ls (stp ws ls ns j) = [] then 0 else 1),
    ⟨_, 0, none, none, none, ?_, (fun j hj => absurd hj (Nat.not_lt_zero _)), rfl⟩, ?_⟩
  · show List.set (List.set (List.set (startP _ _) _ _) _ _) _ _ = _
    unfold startP
    show [some (Slot.sh (flat (webP ws ls)) (webP ws ls)), some (Slot.sh (flat (.tup (intz ns))) (.tup (intz ns))), _, _, _, _, _, _] = _
    rw [fw, fs]; rfl
  rintro n ρ ⟨k, y5, y6, y7, rfl, ne, rfl⟩
  have al : ∀ (rs : List (List Int)) (r : List Int), atI (tups (rs ++ [r])) (-1) = some (.tup (intz r)) := fun rs r => by
    unfold tups; rw [List.map_append]; exact atI_last _ _
  have sl := stp_len (ls := ls) hs k
  have go : ∀ (m : Nat), (∀ j, j < k → nextOf ws ls (stp ws ls ns j) ≠ []) → cold ws (stp ws ls ns (k + 1)) + (if nextOf ws ls (stp ws ls ns k) = [] then 0 else 1) < m →
      (qSeq (qOwn 5 (qLst qNil))
    (qSeq (qFor (qRng1 (qCall RLen (qCons (qVar 3) qNil))) (pName 6)
      (qSeq (qSet 7 (qCall RLen (qCons (qComp (qSeqI (qIx (qVar 2) (qVar 6))) [none, some 3] (pName 0) (qTru (qIx (qVar 1) (qVar 0))) (qVar 0)) qNil)))
      (qIf (qAnd (qNot (qTru (qIx (qVar 3) (qVar 6)))) (qTest (qGe (qVar 7) (qIx (qIx (qVar 0) (qC (.int 0))) (qVar 6))))) (qApp 5 (qVar 6)) qNext)))
    (qSeq (qFrz 5 (qFor (qSeqI (qVar 5)) (pName 6)
      (qLPut 3 (qVar 6) (qC (.bl true)))))
    (qApp 4 (qCall RTuple (qCons (qVar 5) qNil))))))
        { nx := fun ρ2 => ∃ m', m' < m ∧ ∃ (k : Nat) (y5 y6 y7 : Option Slot), ρ2 = [some (.sh true (webP ws ls)), some (.sh true (.tup (intz ns))), some (.sh true (.lst nears)), some (.own (.lst (bools ws.length (stp ws ls ns k)))), some (.own (.lst (tups (ns :: after ws ls ns k)))), y5, y6, y7] ∧
      (∀ j, j + 1 < k → nextOf ws ls (stp ws ls ns j) ≠ []) ∧ m' = cold ws (stp ws ls ns k) + (match k with | 0 => 1 | j + 1 => if nextOf ws ls (stp ws ls ns j) = [] then 0 else 1),
          rt := Q,
          bk := (qRet (qSl (qVar 4) qOn (qOs (qNeg (qC (.int 1)))))) { nx := fun _ => Q .non, rt := Q },
          ct := fun ρ2 => ∃ m', m' < m ∧ ∃ (k : Nat) (y5 y6 y7 : Option Slot), ρ2 = [some (.sh true (webP ws ls)), some (.sh true (.tup (intz ns))), some (.sh true (.lst nears)), some (.own (.lst (bools ws.length (stp ws ls ns k)))), some (.own (.lst (tups (ns :: after ws ls ns k)))), y5, y6, y7] ∧
      (∀ j, j + 1 < k → nextOf ws ls (stp ws ls ns j) ≠ []) ∧ m' = cold ws (stp ws ls ns k) + (match k with | 0 => 1 | j + 1 => if nextOf ws ls (stp ws ls ns j) = [] then 0 else 1) }
        [some (.sh true (webP ws ls)), some (.sh true (.tup (intz ns))), some (.sh true (.lst nears)), some (.own (.lst (bools ws.length (stp ws ls ns k)))), some (.own (.lst (tups (ns :: after ws ls ns k)))), y5, y6, y7] := by
    intro m hk hm
    have hsame : stp ws ls ns (k + 1) = stp ws ls ns k ++ nextOf ws ls (stp ws ls ns k) := rfl
    have ke := ends_le (ws := ws) (ls := ls) (ns := ns) k hk
    rw [hsame] at hm
    generalize hS : stp ws ls ns k = S at *
    refine ⟨by decide, rfl, rfl, rfl, ?_⟩
    refine ⟨_, rfl, _, _, rfl, rfl, _, rfl, by rw [bools_len]; (first|lia|omega), by rw [bools_len]; (first|lia|omega), fun i ρ => ∃ (y6 y7 : Option Slot), ρ = [some (.sh true (webP ws ls)), some (.sh true (.tup (intz ns))), some (.sh true (.lst nears)), some (.own (.lst (bools ws.length S))), some (.own (.lst (tups (ns :: after ws ls ns k)))), some (.own (.lst (intz (((rng ws.length).take i).filter (kin ws ls S))))), y6, y7], ⟨y6, y7, rfl⟩, ?_, ?_⟩
    · rintro i y ρ hy ⟨y6, y7, rfl⟩
      obtain ⟨rfl, hi⟩ := rngP_at hy
      rw [bools_len] at hi
      have hi : i < ws.length := by (first|lia|omega)
      have e0 : (0 : Int) + (i : Int) = (i : Int) := Int.zero_add _
      rw [e0]
      obtain ⟨ms, hms, pms⟩ := nr.at_ i hi
      have lms : ms.length ≤ 63 := by rw [pms.length_eq]; exact lnn _
      refine ⟨_, rfl, _, rfl, _, _, _, rfl, rfl, atI_nat hms, _, rfl, (fun z => by cases z), by rw [ints_len]; (first|lia|omega), fun a acc => acc = intz ((ms.take a).filter fun x => decide (x ∈ S)), rfl, ?_, ?_⟩
      · rintro a z acc hz rfl
        obtain ⟨o, rfl, ho⟩ := ints_get hz
        have hom := nbrs_mem w63.inn (pms.mem_iff.mp (List.mem_of_getElem? ho))
        have tk := take_filter_succ' (p := fun x => decide (x ∈ S)) ho
        refine ⟨_, rfl, _, rfl, _, _, _, rfl, rfl, bools_at hom.1 hom.2, _, rfl, ?_⟩
        cases hd : decide (o ∈ S) with
        | true =>
          refine iteT ⟨_, rfl, trivial, ?_⟩
          rw [hd, if_pos rfl] at tk
          show _ = intz (List.filter _ (List.take (a + 1) ms))
          rw [tk, ints_app]; rfl
        | false =>
          refine iteF ?_
          rw [hd, if_neg (by decide), List.append_nil] at tk
          show _ = intz (List.filter _ (List.take (a + 1) ms))
          rw [tk]
      rintro acc rfl
      rw [ints_len, List.take_length]
      refine ⟨_, _, rfl, rfl, trivial, ?_⟩
      rw [ints_len, filter_perm_len _ pms]
      have tk := take_filter_succ' (p := kin ws ls S) (rng_at hi)
      refine ⟨_, rfl, _, rfl, _, _, _, rfl, rfl, bools_at (by (first|lia|omega)) (by (first|lia|omega)), _, rfl, ?_⟩
      by_cases hd : ((i : Int) ∈ S)
      · rw [decide_eq_true hd]
        have hkin : kin ws ls S (i : Int) = false := by unfold kin; rw [decide_eq_true hd]; rfl
        rw [hkin, if_neg (by decide), List.append_nil] at tk
        refine iteF (iteF ⟨si (i : Int), si (((nbrs ls (i : Int)).filter fun x => decide (x ∈ S)).length : Nat), ?_⟩)
        rw [tk]; rfl
      · rw [decide_eq_false hd]
        refine iteT ⟨_, rfl, _, rfl, _, _, _, rfl, rfl, rfl, _, rfl, _, _, _, rfl, rfl, atI_ints (by (first|lia|omega)) (by (first|lia|omega)), _, _, rfl, rfl, _, rfl, ?_⟩
        have hkin : kin ws ls S (i : Int) = decide (ws.getD ((i : Int)).toNat 0 ≤ (((nbrs ls (i : Int)).filter fun x => decide (x ∈ S)).length : Int)) := by unfold kin; rw [decide_eq_false hd]; rfl
        show if decide (ws.getD ((i : Int)).toNat 0 ≤ (((nbrs ls (i : Int)).filter fun x => decide (x ∈ S)).length : Int)) = true then _ else _
        rw [← hkin]
        cases hkk : kin ws ls S (i : Int) with
        | true =>
          rw [hkk, if_pos rfl] at tk
          have lf : (((rng ws.length).take i).filter (kin ws ls S)).length ≤ ws.length := Nat.le_trans (List.length_filter_le _ _) (by rw [List.length_take, rng_len]; (first|lia|omega))
          refine iteT ⟨_, rfl, _, rfl, trivial, by rw [ints_len]; (first|lia|omega), si (i : Int), si (((nbrs ls (i : Int)).filter fun x => decide (x ∈ S)).length : Nat), ?_⟩
          rw [tk, ints_app]; rfl
        | false =>
          rw [hkk, if_neg (by decide), List.append_nil] at tk
          refine iteF ⟨si (i : Int), si (((nbrs ls (i : Int)).filter fun x => decide (x ∈ S)).length : Nat), ?_⟩
          rw [tk]; rfl
    rintro ρ ⟨y6, y7, rfl⟩
    rw [rngP_length, bools_len, List.take_of_length_le (by rw [rng_len]; (first|lia|omega))]
    have hnx : (rng ws.length).filter (kin ws ls S) = nextOf ws ls S := rfl
    rw [hnx]
    refine ⟨_, rfl, _, rfl, _, rfl, (fun z => by cases z), fun i ρ => ∃ (y6 : Option Slot), ρ = [some (.sh true (webP ws ls)), some (.sh true (.tup (intz ns))), some (.sh true (.lst nears)), some (.own (.lst (bools ws.length (S ++ (nextOf ws ls S).take i)))), some (.own (.lst (tups (ns :: after ws ls ns k)))), some (.sh true (.lst (intz (nextOf ws ls S)))), y6, y7], ⟨y6, by rw [List.take_zero, List.append_nil]; rfl⟩, ?_, ?_⟩
    · rintro i y ρ hy ⟨y6, rfl⟩
      obtain ⟨h, rfl, hh⟩ := ints_get hy
      have hm : h ∈ rng ws.length := (List.mem_filter.mp (List.mem_of_getElem? hh)).1
      have hm := mem_rng.mp hm
      refine ⟨_, rfl, _, rfl, h, h.toNat, rfl, ?_, trivial, si h, ?_⟩
      · rw [bools_len]
        unfold ixN
        rw [if_pos hm.1, if_pos hm.2]
      · rw [bools_set hm.1 hm.2, List.append_assoc, List.take_add_one, hh]; rfl
    rintro ρ ⟨y6, rfl⟩
    rw [ints_len, List.take_length]
    refine ⟨_, rfl, _, rfl, ⟨_, _, rfl, rfl, flats_ints _, trivial, ?_, ?_⟩, fun ns z => by cases z⟩
    · rw [tups_len, List.length_cons]
      unfold after
      rw [List.length_map, List.length_range]; (first|lia|omega)
    · refine ⟨_, hm, k + 1, some (.sh true (.lst (intz (nextOf ws ls S)))), y6, y7, ?_, fun j hj => hk j (by (first|lia|omega)), ?_⟩
      · rw [after_succ, hsame, hS, ← List.cons_append]
        unfold tups
        rw [List.map_append]; rfl
      · rw [hsame]
        show _ = _ + (if nextOf ws ls (stp ws ls ns k) = [] then 0 else 1)
        rw [hS]
  have cs := cold_step ws ls (stp ws ls ns k)
  have hdec : ∀ b, b = 1 → cold ws (stp ws ls ns (k + 1)) + (if nextOf ws ls (stp ws ls ns k) = [] then 0 else 1) < cold ws (stp ws ls ns k) + b := fun b hb => by
    have : cold ws (stp ws ls ns (k + 1)) + (nextOf ws ls (stp ws ls ns k)).length = cold ws (stp ws ls ns k) := cs
    split
    · (first|lia|omega)
    · have : 1 ≤ (nextOf ws ls (stp ws ls ns k)).length := by
        rename_i h
        cases hz : nextOf ws ls (stp ws ls ns k) with
        | nil => exact absurd hz h
        | cons a r => exact Nat.succ_le_succ (Nat.zero_le _)
      (first|lia|omega)
  cases k with
  | zero =>
    have a0 : atI (tups (ns :: after ws ls ns 0)) (-1) = some (.tup (intz ns)) := al [] ns
    have g := go _ (fun j hj => absurd hj (Nat.not_lt_zero _)) (hdec 1 rfl)
    refine ⟨_, rfl, _, rfl, _, _, _, rfl, rfl, a0, by decide, rfl, .inl ⟨_, _, rfl, rfl⟩, okE_tupI 2 ns [], _, rfl, ?_⟩
    show if (!eqP 3 (PV.tup (intz ns)) (PV.tup (intz []))) = true then _ else _
    generalize (!eqP 3 (PV.tup (intz ns)) (PV.tup (intz []))) = bb
    cases bb with
    | true => exact iteT (iteT g)
    | false => exact iteF ⟨_, rfl, _, _, rfl, rfl, .inl ⟨_, _, rfl, rfl, _, rfl, iteT g⟩⟩
  | succ j =>
    have a0 : atI (tups (ns :: after ws ls ns (j + 1))) (-1) = some (.tup (intz (nextOf ws ls (stp ws ls ns j)))) := by
      rw [after_succ, ← List.cons_append]; exact al _ _
    refine ⟨_, rfl, _, rfl, _, _, _, rfl, rfl, a0, by decide, rfl, .inl ⟨_, _, rfl, rfl⟩, okE_tupI 2 _ [], _, rfl, ?_⟩
    show if (!eqP 3 (PV.tup (intz (nextOf ws ls (stp ws ls ns j)))) (PV.tup (intz []))) = true then _ else _
    rw [eqP_tupI]
    by_cases hz : nextOf ws ls (stp ws ls ns j) = []
    · rw [decide_eq_true hz]
      refine iteF ⟨_, rfl, _, _, rfl, rfl, .inl ⟨_, _, rfl, rfl, _, rfl, ?_⟩⟩
      have hlen : ¬ (((tups (ns :: after ws ls ns (j + 1))).length : Nat) : Int) = 1 := by
        rw [tups_len, List.length_cons]
        unfold after
        rw [List.length_map, List.length_range]; (first|lia|omega)
      show if decide ((((tups (ns :: after ws ls ns (j + 1))).length : Nat) : Int) = 1) = true then _ else _
      rw [decide_eq_false hlen]
      refine iteF ⟨_, rfl, _, rfl, _, rfl, _, rfl, flats_tups _, trivial, ?_⟩
      show Q (.lst (cutP (tups (ns :: after ws ls ns (j + 1))) none (some (-1))))
      rw [after_succ, ← List.cons_append, cut_last]
      exact q j ⟨fun i hi => ne i (by (first|lia|omega)), hz⟩
    · rw [decide_eq_false hz]
      refine iteT (iteT (go _ (fun i hi => ?_) ?_))
      · by_cases e : i = j
        · subst e; exact hz
        · exact ne i (by (first|lia|omega))
      · refine hdec _ ?_
        show (if nextOf ws ls (stp ws ls ns j) = [] then 0 else 1) = 1
        rw [if_neg hz]
end Core
namespace Core
open PySem L2 PP
noncomputable def p_law_k10:PSp:=fun xs Q=>∃ ns:List Int,xs = [.scr ns]/\ns.length<=63/\Q (.bl true)
structure Kits (K:PySem.W.Frag):Prop where
 ii:PySem.W.kitOne K (.type "int") (.type "int")=some true
 ib:PySem.W.kitOne K (.type "int") (.type "bool")=some false
 tt:PySem.W.kitOne K (.type "tuple") (.type "tuple")=some true
 ll:PySem.W.kitOne K (.type "list") (.type "list")=some true
 bb:PySem.W.kitOne K (.type "bool") (.type "bool")=some true
theorem kits (K:PySem.W.Frag):Kits K:=by
 have same:∀ n:String,PySem.W.kitMeta n=true->True:=fun _ _=>trivial
 refine⟨?_,?_,?_,?_,?_⟩
 ·unfold PySem.W.kitOne; rw [if_pos (by decide)]
 ·have e:(if PySem.W.kitMeta "bool" = true then (fastBuiltinMro "int").map (·.contains (Value.type "bool")) else none)=some false:=by decide +kernel
  unfold PySem.W.kitOne
  rw [if_neg (by decide)]
  exact e
 ·unfold PySem.W.kitOne; rw [if_pos (by decide)]
 ·unfold PySem.W.kitOne; rw [if_pos (by decide)]
 ·unfold PySem.W.kitOne; rw [if_pos (by decide)]
theorem W63.wb {n:Int}{ws:List Int}{ls:List (Int × Int)} (h:W63 n ws ls) (hn:n<=40):Wb ws ls:=
 ⟨by have:=h.many; (first|lia|omega),by have:=h.most; (first|lia|omega),fun l hl=>by have:=h.inn l hl; have:=h.many; (first|lia|omega)⟩
end Core
namespace PP
open PySem L2 PyProof.Rows
theorem fnP_of {P:Program}{w:World}{K:PySem.W.Frag}{mg:Str->Option Value}{base:Heap}{k:Nat}{x:Str}{ps N:List Str}{p:PSp}{st:Stmt}{f:Addr}{fd:FuncData} (F:Fun K x x st f fd) (S:FnScope N ps (defScope st))
  (len:∀ xs Q,p xs Q->xs.length=ps.length)
  (body:∀ (cdv:Value) (A:Around) (outer:List Env) (s:Shared) (H:Hp) (E:XK),Room k (A.deeper (envOfC x (defScope st) s.heap.objs.size f cdv))->
   ∃ t,QSs (cxOf CX0 P w K mg base N x (defScope st) f cdv A outer s H E).nox (defBody st) t/\∀ xs Q,p xs Q->t { nx:=fun _=>Q .non,rt:=Q } (startP N xs)):FnOk P w K mg base CX0 (k+1) f fd ps (spP K p):=by
 refine F.ok S (fun vs H Q E h=>?_) (fun cdv A outer s H vs Q E hr h=>?_)
 ·obtain ⟨xs,Qp,r,q,_⟩:=h
  rw [r.length]; exact len xs Qp q
 ·obtain ⟨xs,Qp,r,q,k⟩:=h
  obtain ⟨t,ht,hq⟩:=body cdv A outer s H E hr
  refine⟨_,ht,fun _=>False,startP N xs,_,startP_px r,hq xs Qp q,?_,?_,?_,?_⟩
  ·exact fun W' σ' H' ρ' e px q=>k _ _ _ px.same .non q
  ·exact fun v H' x s r q=>k _ _ _ s r q
  ·exact fun W' σ' H' ρ' e px q=>q
  ·exact fun W' σ' H' ρ' e px q=>q
noncomputable def spLawP (K:PySem.W.Frag):Sp:=fun vs H Q _=>∃ (a:Addr) (ns:List Int),vs = [.ref a]/\Scr K H a ns/\ns.length<=63/\∀ H',Q (.bl true) H'
theorem law_ok {P:Program}{w:World}{K:PySem.W.Frag}{mg:Str->Option Value}{base:Heap}{k:Nat}{f:Addr}{fd:FuncData} (F:FnOk P w K mg base CX0 k f fd ["script"] (spP K Core.p_law_k10)):FnOk P w K mg base CX0 k f fd ["script"] (spLawP K):=
 F.imp fun vs H Q E h=>by
  obtain ⟨a,ns,rfl,hs,hl,q⟩:=h
  refine⟨[.scr ns],fun z=>z = .bl true,.cons (.scr hs) .nil,⟨ns,rfl,hl,rfl⟩,?_⟩
  rintro v H' x _ r rfl
  cases r
  exact q H'
theorem scr_of {K:PySem.W.Frag}{H:Hp}{a:Addr}{ns:List Int} (hO:Only H) (h:SqL K H a (ns.map V.int)):Scr K H a ns:=by
 rcases h with (h | ⟨o,h⟩) | h
 ·rcases hO a with e | ⟨o,xs,e⟩ <;> (rw [h] at e; cases e)
 ·exact .inl ⟨o,h⟩
 ·exact .inr h
end PP
namespace PyProof.Rows
open PySem
end PyProof.Rows
namespace L2
open PySem PySem.Spec PyProof.Rows
noncomputable def Ite (K:PySem.W.Frag) (a:Addr):It:=
  ⟨fun i H=>∃ xs x,SqL K H a xs/\xs[i]? = some x,
   fun i H v H'=>∃ T x,H T=none/\v = .ref T/\H'=upd H T (.tup [.int i,x])/\∀ xs,SqL K H a xs->xs[i]? = some x,
   fun i H=>∃ xs,SqL K H a xs/\xs.length<=i⟩
structure ENow (e it a:Addr) (i:Nat) (h:Heap):Prop where
 ee:∃ old,IsEnum h e it i old
 s1:h.IsListIter it a i
theorem turn_enum {P:Program}{w:World}{K:PySem.W.Frag}{elts:List Expr}{k:Nat}{pos:Pos} (a e it:Addr) (d:e ≠ it) :
  Turn P w K (.Tuple elts k pos) (Ite K a) [e,it] e (ENow e it a):=by
 refine⟨by simp,fun i h st c hc=>?_,fun i h h' st kp=>?_,?_,?_,fun A i s Q E st q=>?_⟩
 ·simp only [List.mem_cons,List.not_mem_nil,or_false] at hc
  obtain ⟨old,ee⟩:=st.ee
  obtain ⟨o1,f1,g1,d1⟩:=st.s1
  rcases hc with rfl | rfl
  ·exact⟨_,ee,fun v q=>by cases q⟩
  ·exact⟨_,f1,fun v q=>by rw [d1] at q; cases q⟩
 ·obtain ⟨old,ee⟩:=st.ee
  exact⟨⟨old,kp e (by simp) _ ee⟩,st.s1.at fun o z=>kp it (by simp) o z⟩
 ·intro X hP hw hK hc i pins s σ H E I hf st hg
  subst hP hw hK
  obtain ⟨xs,x,ha,hx⟩:=hg
  obtain ⟨us,ru,pu,lu⟩:=I.list ha
  obtain ⟨ux,eux,rux⟩:=ru.get hx
  obtain ⟨old,ee⟩:=st.ee
  refine wpAny_pyNext_enum_item ee st.s1 pu.isList (by simpa using eux) d fun h' eo it' pr sz kp=>⟨_,rfl,?_⟩
  refine wpAny_letOwnedTupleGo_enum (s:={ s with heap:=h',toks:=s.toks+1 }) eo fun g zz sb=>?_
  have hzl:e < s.heap.objs.size:=Heap.lt_size ee
  have up:∀ c o,c ≠ e->c ≠ it->s.heap.get? c=some o->g.get? c=some o:=fun c o c1 c2 z=>sb.extBut c o c1 (kp c o c1 c2 z)
  have hT:H s.heap.objs.size=none:=I.hok.fresh (Nat.le_refl _)
  have prG:g.get? s.heap.objs.size=some { cls:=.type "tuple",data:=.seq #[.int i s.toks,ux] }:=sb.extBut _ _ (Nat.ne_of_gt hzl) pr
  have fpn:∀ c u,H c=some u->c ∉ [e,it]:=fun c u z hm=>by rw [(hf c hm).1] at z; cases z
  have upH:∀ c o u,H c=some u->s.heap.get? c=some o->g.get? c=some o:=fun c o u q z=>by
   have:=fpn c u q
   simp only [List.mem_cons,List.not_mem_nil,or_false,not_or] at this
   exact up c o this.1 this.2 z
  have ns:∀ m,s.heap.Ns X.env.locals m->g.Ns X.env.locals m:=fun m hm=>by
   obtain ⟨o,es,ep,e1,e2⟩:=hm
   exact⟨o,es,ep,up _ o (Ne.symm (hf e (by simp)).2.1) (Ne.symm (hf it (by simp)).2.1) e1,e2⟩
  have I2:Inv X pins σ (upd H s.heap.objs.size (.tup [.int i,x])) { s with heap:=g,toks:=s.toks+1 }:=by
   refine I.step (g':=s.gens) (d':=s.drawn) (ch:=[e,it]) (fun c hc'=>?_) (fun c o _ _ hc' z _=>?_) (fun c o _ _ hc' z _=>⟨o.slots,?_⟩) (fun c o _ z n=>?_) (fun c o hc' z=>⟨o,?_⟩)
    (fun c zs z=>by rw [upd_ne (ne_of_none z hT)]; exact z) (fun c u zs z=>by rw [upd_ne (ne_of_none z hT)]; exact z) (fun c ps z=>⟨#[],by rw [upd_ne (ne_of_none z hT),z]; simp⟩) ns (fun c u z=>?_) I.bare
   ·exact⟨(hf c hc').2.2.2.1,(hf c hc').2.1,(hf c hc').2.2.2.2.1,(hf c hc').2.2.2.2.2⟩
   ·simp only [List.mem_cons,List.not_mem_nil,or_false,not_or] at hc'
    exact up c o hc'.1 hc'.2 z
   ·simp only [List.mem_cons,List.not_mem_nil,or_false,not_or] at hc'
    exact up c o hc'.1 hc'.2 z
   ·rw [upd_ne (Nat.ne_of_lt (Heap.lt_size z))]; exact n
   ·simp only [List.mem_cons,List.not_mem_nil,or_false,not_or] at hc'
    exact up c o hc'.1 hc'.2 z
   ·by_cases hcT:c=s.heap.objs.size
    ·subst hcT
     rw [upd_same] at z; cases z
     exact⟨by show 2<=sizeLine; decide,[.int i s.toks,ux],.cons ⟨_,rfl⟩ (.cons rux .nil),⟨_,prG,rfl,_,rfl⟩⟩
    ·rw [upd_ne hcT] at z
     refine (I.hok c u z).stay (fun c' o' hc2 q'=>?_) (fun c' q'=>by rw [upd_ne (ne_of_none q' hT)]; exact q') fun c' zs q'=>by rw [upd_ne (ne_of_none q' hT)]; exact q'
     rcases hc2 with rfl | hc2
     ·exact upH _ _ _ z q'
     ·exact upH _ _ _ hc2 q'
  refine⟨.ref s.heap.objs.size,_,I2,rfl,⟨_,x,hT,rfl,rfl,fun xs' ha'=>?_⟩,⟨⟨ux,by push_cast; exact zz⟩,it'.at fun o z=>sb.extBut _ o (Ne.symm d) z⟩,fun c hc'=>?_⟩
  ·rw [I.list_inj ha' ha]; exact hx
  ·obtain ⟨o,z⟩:∃ o,s.heap.get? c=some o:=by
    simp only [List.mem_cons,List.not_mem_nil,or_false] at hc'
    obtain ⟨o1,f1,_⟩:=st.s1
    rcases hc' with rfl | rfl
    ·exact⟨_,ee⟩
    ·exact⟨_,f1⟩
   rw [upd_ne (Nat.ne_of_lt (Heap.lt_size z))]; exact (hf c hc').1
 ·intro X hP hw hK hc i pins s σ H E I hf st hg
  subst hP hw hK
  obtain ⟨xs,ha,hi⟩:=hg
  obtain ⟨us,ru,pu,lu⟩:=I.list ha
  obtain ⟨old,ee⟩:=st.ee
  have hh:X.A.handled=none:=I.ok.hd hc
  have e1:=ru.length
  refine wpAny_pyNext_enum_end hh ee st.s1 pu.isList (by rw [Array.getElem?_eq_none]; simp only [List.size_toArray]; (first|lia|omega)) fun g kp=>⟨rfl,?_⟩
  have fpn:∀ c u,H c=some u->c ∉ [e,it]:=fun c u z hm=>by rw [(hf c hm).1] at z; cases z
  have upH:∀ c o u,H c=some u->s.heap.get? c=some o->g.get? c=some o:=fun c o u q z=>by
   have:=fpn c u q
   simp only [List.mem_cons,List.not_mem_nil,or_false,not_or] at this
   exact kp c o this.2 z
  have ns:∀ m,s.heap.Ns X.env.locals m->g.Ns X.env.locals m:=fun m hm=>by
   obtain ⟨o,es,ep,e1,e2⟩:=hm
   exact⟨o,es,ep,kp _ o (Ne.symm (hf it (by simp)).2.1) e1,e2⟩
  refine I.step (g':=s.gens) (d':=s.drawn) (ch:=[it]) (fun c hc'=>?_) (fun c o _ _ hc' z _=>?_) (fun c o _ _ hc' z _=>⟨o.slots,?_⟩) (fun c o _ z n=>n) (fun c o hc' z=>⟨o,?_⟩)
   (fun c zs z=>z) (fun c u zs z=>z) (fun c ps z=>⟨#[],by rw [z]; simp⟩) ns (fun c u z=>?_) I.bare
  ·have hm:c ∈ [e,it]:=List.mem_cons_of_mem _ hc'
   exact⟨(hf c hm).2.2.2.1,(hf c hm).2.1,(hf c hm).2.2.2.2.1,(hf c hm).2.2.2.2.2⟩
  ·exact kp c o (fun y=>hc' (by rw [y]; simp)) z
  ·exact kp c o (fun y=>hc' (by rw [y]; simp)) z
  ·exact kp c o (fun y=>hc' (by rw [y]; simp)) z
  ·refine (I.hok c u z).stay (fun c' o' hc2 q'=>?_) (fun _ q'=>q') fun _ _ q'=>q'
   rcases hc2 with rfl | hc2
   ·exact upH _ _ _ z q'
   ·exact upH _ _ _ hc2 q'
 ·obtain ⟨old,ee⟩:=st.ee
  exact wpAny_pyIter_enum ee q
end L2
namespace Zp
open PySem PyProof.Rows
section
variable {prog : Program} {w : World} {A : Around} {E : Value → Shared → Prop} {s : Shared}
theorem enumT_item {e it t:Addr}{i:Nat}{items:Array Value}{x old:Value}{Q:Option Value->Shared->Prop} (he:IsEnum s.heap e it i old) (hi:s.heap.IsTupleIter it t i) (ht:s.heap.IsTuple t items) (hx:items[i]? = some x) (ne:e ≠ it)
  (q:∀ h',IsEnumOut h' e it ((i:Int)+1) x s.heap.objs.size->h'.IsTupleIter it t (i+1)->h'.get? s.heap.objs.size=some { cls:=.type "tuple",data:=.seq #[.int i s.toks,x] }->h'.objs.size=s.heap.objs.size+1->
   (∀ b o,b ≠ e->b ≠ it->s.heap.get? b=some o->h'.get? b=some o)->Q (some (.ref s.heap.objs.size)) { s with heap:=h',toks:=s.toks+1 }):wpAny (model prog w) A (pyNext (.ref e)) Q E s:=by
 have T:s.TypeIs (.ref e) "enumerate":=⟨_,he,rfl⟩
 have slot:=PySem.F.slot_enumerate_next
 unfold pyNext
 apply wpAny_bind
 apply wpAny_attempt
 apply wpAny_callSpecial?_slot (name:=Str.ofString "__next__") T slot
 apply wpAny_call_entry slot T PySem.F.entry_enumerate_next _ (PySem.F.args_enumerate_next_1 _)
 change wpAny _ _ (field (.ref e) 2 >>= _) _ _ _
 apply wpAny_bind
 refine wpAny_field he rfl (x:=.ref it) rfl ?_
 apply wpAny_bind
 refine tup_item hi ht hx fun g1 it1 sb1=>?_
 have e1:IsEnum g1 e it i old:=sb1.extBut _ _ ne he
 change wpAny _ _ (field (.ref e) 3 >>= _) _ _ _
 apply wpAny_bind
 refine wpAny_field e1 rfl (x:=rawInt i) rfl ?_
 change wpAny _ _ (field (.ref e) 4 >>= _) _ _ _
 apply wpAny_bind
 refine wpAny_field e1 rfl (x:=.none) rfl ?_
 change wpAny _ _ (mkInt i >>= _) _ _ _
 apply wpAny_bind
 refine wpAny_mkInt ?_
 change wpAny _ _ (setField (.ref e) 3 (rawInt ((i:Int)+1)) >>= _) _ _ _
 apply wpAny_bind
 refine wpAny_setField_rec e1 (by simp) fun g2 e2 sb2=>?_
 apply wpAny_bind
 refine wpAny_setField_rec e2 (by simp) fun g3 e3 sb3=>?_
 have e3:IsEnum g3 e it ((i:Int)+1) old:=e3
 apply wpAny_bind
 refine wpAny_newTuple ?_ (by show 2<=sizeLine; decide)
 have e4:IsEnum (g3.push { cls:=.type "tuple",data:=.seq #[.int i s.toks,x] }) e it ((i:Int)+1) old:=Heap.get?_push_of_some _ e3
 have size:g3.objs.size=s.heap.objs.size:=by rw [sb3.1,sb2.1,sb1.1]
 change wpAny _ _ (Builtin.SmallTypes.ownedTupleIsFree (.ref e) >>= _) _ _ _
 apply wpAny_bind
 unfold Builtin.SmallTypes.ownedTupleIsFree
 apply wpAny_bind
 refine wpAny_field e4 rfl (x:=.none) rfl (wpAny_pure ?_)
 simp only [if_true]
 apply wpAny_bind
 apply wpAny_rule
 apply wpAny_bind
 refine wpAny_field e4 rfl (x:=old) rfl ?_
 apply wpAny_bind
 refine wpAny_setField_rec e4 (by simp) fun g5 e5 sb5=>?_
 apply wpAny_bind
 unfold Builtin.SmallTypes.ownedTupleHandOut
 apply wpAny_bind
 refine wpAny_setField_rec e5 (by simp) fun g6 e6 sb6=>?_
 refine wpAny_setField_rec e6 (by simp) fun g7 e7 sb7=>?_
 have e7:IsEnumOut g7 e it ((i:Int)+1) x g3.objs.size:=e7
 have elt:e < g3.objs.size:=Heap.lt_size e3
 have up:∀ c o,c ≠ e->(g3.push { cls:=.type "tuple",data:=.seq #[.int i s.toks,x] }).get? c=some o->g7.get? c=some o:=fun c o c1 z=>sb7.extBut c o c1 (sb6.extBut c o c1 (sb5.extBut c o c1 z))
 have up3:∀ c o,c ≠ e->g1.get? c=some o->g7.get? c=some o:=fun c o c1 z=>up c o c1 (Heap.get?_push_of_some _ (sb3.extBut c o c1 (sb2.extBut c o c1 z)))
 have p7:g7.get? g3.objs.size=some { cls:=.type "tuple",data:=.seq #[.int i s.toks,x] }:=up _ _ (Nat.ne_of_gt elt) (Heap.get?_push_size _ rfl)
 have s7:g7.objs.size=g3.objs.size+1:=by rw [sb7.1,sb6.1,sb5.1,Heap.size_push]
 apply wpAny_bind
 apply wpAny_letGo
 apply wpAny_pure
 rw [size] at e7 p7 s7
 refine⟨_,rfl,wpAny_pure ?_⟩
 change Q (some (.ref g3.objs.size)) _
 rw [size]
 exact q g7 e7 (it1.at fun o z=>up3 it o (Ne.symm ne) z) p7 s7 fun b o b1 b2 z=>up3 b o b1 (sb1.extBut b o b2 z)
theorem enumT_end {e it t:Addr}{i:Nat}{items:Array Value}{old:Value}{Q:Option Value->Shared->Prop} (hh:A.handled=none) (he:IsEnum s.heap e it i old) (hi:s.heap.IsTupleIter it t i) (ht:s.heap.IsTuple t items) (hx:items[i]? = none)
  (q:∀ h',Heap.ExtBut it s.heap h'->Q none { s with heap:=h' }):wpAny (model prog w) A (pyNext (.ref e)) Q E s:=by
 have T:s.TypeIs (.ref e) "enumerate":=⟨_,he,rfl⟩
 have slot:=PySem.F.slot_enumerate_next
 unfold pyNext
 apply wpAny_bind
 apply wpAny_attempt
 apply wpAny_callSpecial?_slot (name:=Str.ofString "__next__") T slot
 apply wpAny_call_entry slot T PySem.F.entry_enumerate_next _ (PySem.F.args_enumerate_next_1 _)
 change wpAny _ _ (field (.ref e) 2 >>= _) _ _ _
 apply wpAny_bind
 refine wpAny_field he rfl (x:=.ref it) rfl ?_
 apply wpAny_bind
 refine tup_end hh hi ht hx fun g2 ex eb exo=>?_
 obtain ⟨oe,eo,co⟩:=exo
 apply wpAny_bind
 refine wpAny_isInstance (T:="StopIteration") (b:=true) ⟨oe,eo,co⟩ isSubtype_stop ?_
 exact wpAny_pure (q g2 eb)
theorem wpAny_if2 {M:Model}{A:Around}{E:Value->Shared->Prop}{s:Shared}{α:Type}{c:Prop} [Decidable c] {m n:Sem α}{Q:α->Shared->Prop} (h1:wpAny M A m Q E s) (h2:wpAny M A n Q E s):wpAny M A (if c then m else n) Q E s:=by
 split
 ·exact h1
 ·exact h2
theorem meets_enumT (t:Addr) (xs:Array Value):Meets (Builtin.«enumerate.__new__» ⟨[.type "enumerate",.ref t],[]⟩) (fun _ R s=>s.heap.IsTuple t xs/\R (.ok (.ret (.ref (s.heap.objs.size+1)))) { s with heap:=(s.heap.push { cls:=.type "tuple_iterator",data:=.fields #[.ref t,.int 0 0] }).push { cls:=.type "enumerate",data:=.fields #[.none,.bool false,.ref s.heap.objs.size,rawInt 0,.none,.none] } }):=
 .of_wp fun prog w A R s h=>by
  obtain ⟨hp,g,d,tk,os⟩:=s
  obtain ⟨ht,h⟩:=h
  have sub:=sub_enumerate
  have a1:Heap.IsTuple (Shared.heap ⟨hp,g,d,tk,os⟩) t xs:=ht
  wp_walk using wpAny_pyIter_tuple a1
  refine wpAny_stack_any fun st=>wpAny_pure ?_
  refine wpAny_if2 ?_ ?_
  all_goals
   apply wpAny_bind
   refine wpAny_of_eq (a:=(Value.ref t,none)) rfl ?_
   wp_walk using wpAny_pyIter_tuple a1
   have e:∀ (o:Obj) (k:Heap),(k.push o).objs.size=k.objs.size+1:=fun o k=>Heap.size_push ..
   refine⟨_,rfl,?_⟩
   simp only [e] at h ⊢
   exact h
theorem call_enumT {t:Addr}{xs:Array Value}{Q:Value->Shared->Prop} (ht:s.heap.IsTuple t xs)
  (q:∀ h',IsEnum h' (s.heap.objs.size+1) s.heap.objs.size 0 .none->h'.IsTupleIter s.heap.objs.size t 0->h'.objs.size=s.heap.objs.size+2->(∀ c o,s.heap.get? c=some o->h'.get? c=some o)->Q (.ref (s.heap.objs.size+1)) { s with heap:=h' }) :
  wpAny (model prog w) A (call (.type "enumerate") [.ref t]) Q E s:=by
 refine callType_new PySem.F.called_enumerate (by decide) (PySem.F.typeCall_enumerate_1 _) (PySem.F.newCall_enumerate_1 _) (fun obj=>PySem.F.args_object_init_2 obj _) PySem.F.entry_enumerate_new (meets_enumT t xs) ⟨ht,?_⟩
 have e:∀ (o:Obj) (k:Heap),(k.push o).objs.size=k.objs.size+1:=fun o k=>Heap.size_push ..
 have g0:((s.heap.push { cls:=.type "tuple_iterator",data:=.fields #[.ref t,.int 0 0] }).push { cls:=.type "enumerate",data:=.fields #[.none,.bool false,.ref s.heap.objs.size,rawInt 0,.none,.none] }).get? s.heap.objs.size=some { cls:=.type "tuple_iterator",data:=.fields #[.ref t,.int 0 0] }:=Heap.get?_push_of_some _ (Heap.get?_push_size _ rfl)
 have g1:((s.heap.push { cls:=.type "tuple_iterator",data:=.fields #[.ref t,.int 0 0] }).push { cls:=.type "enumerate",data:=.fields #[.none,.bool false,.ref s.heap.objs.size,rawInt 0,.none,.none] }).get? (s.heap.objs.size+1)=some { cls:=.type "enumerate",data:=.fields #[.none,.bool false,.ref s.heap.objs.size,rawInt 0,.none,.none] }:=by
  have:=Heap.get?_push_size (h:=s.heap.push { cls:=.type "tuple_iterator",data:=.fields #[.ref t,.int 0 0] }) (o:={ cls:=.type "enumerate",data:=.fields #[.none,.bool false,.ref s.heap.objs.size,rawInt 0,.none,.none] }) rfl
  rw [e] at this; exact this
 exact⟨⟨_,g1,rfl⟩,q _ g1 ⟨_,g0,rfl,rfl⟩ (by rw [e,e]) fun c o z=>Heap.get?_push_of_some _ (Heap.get?_push_of_some _ z)⟩
end
end Zp
namespace L2
open PySem PySem.Spec PyProof.Rows
noncomputable def Itf (K:PySem.W.Frag) (a:Addr):It:=
  ⟨fun i H=>∃ xs x,SqT K H a xs/\xs[i]? = some x,
   fun i H v H'=>∃ T x,H T=none/\v = .ref T/\H'=upd H T (.tup [.int i,x])/\∀ xs,SqT K H a xs->xs[i]? = some x,
   fun i H=>∃ xs,SqT K H a xs/\xs.length<=i⟩
structure FNow (e it a:Addr) (i:Nat) (h:Heap):Prop where
 ee:∃ old,IsEnum h e it i old
 s1:h.IsTupleIter it a i
theorem turn_enumT {P:Program}{w:World}{K:PySem.W.Frag}{elts:List Expr}{k:Nat}{pos:Pos} (a e it:Addr) (d:e ≠ it) :
  Turn P w K (.Tuple elts k pos) (Itf K a) [e,it] e (FNow e it a):=by
 refine⟨by simp,fun i h st c hc=>?_,fun i h h' st kp=>?_,?_,?_,fun A i s Q E st q=>?_⟩
 ·simp only [List.mem_cons,List.not_mem_nil,or_false] at hc
  obtain ⟨old,ee⟩:=st.ee
  obtain ⟨o1,f1,g1,d1⟩:=st.s1
  rcases hc with rfl | rfl
  ·exact⟨_,ee,fun v q=>by cases q⟩
  ·exact⟨_,f1,fun v q=>by rw [d1] at q; cases q⟩
 ·obtain ⟨old,ee⟩:=st.ee
  exact⟨⟨old,kp e (by simp) _ ee⟩,st.s1.at fun o z=>kp it (by simp) o z⟩
 ·intro X hP hw hK hc i pins s σ H E I hf st hg
  subst hP hw hK
  obtain ⟨xs,x,ha,hx⟩:=hg
  obtain ⟨us,ru,pu,lu⟩:=I.tuple ha
  obtain ⟨ux,eux,rux⟩:=ru.get hx
  obtain ⟨old,ee⟩:=st.ee
  refine Zp.enumT_item ee st.s1 pu (by simpa using eux) d fun h' eo it' pr sz kp=>⟨_,rfl,?_⟩
  refine wpAny_letOwnedTupleGo_enum (s:={ s with heap:=h',toks:=s.toks+1 }) eo fun g zz sb=>?_
  have hzl:e < s.heap.objs.size:=Heap.lt_size ee
  have up:∀ c o,c ≠ e->c ≠ it->s.heap.get? c=some o->g.get? c=some o:=fun c o c1 c2 z=>sb.extBut c o c1 (kp c o c1 c2 z)
  have hT:H s.heap.objs.size=none:=I.hok.fresh (Nat.le_refl _)
  have prG:g.get? s.heap.objs.size=some { cls:=.type "tuple",data:=.seq #[.int i s.toks,ux] }:=sb.extBut _ _ (Nat.ne_of_gt hzl) pr
  have fpn:∀ c u,H c=some u->c ∉ [e,it]:=fun c u z hm=>by rw [(hf c hm).1] at z; cases z
  have upH:∀ c o u,H c=some u->s.heap.get? c=some o->g.get? c=some o:=fun c o u q z=>by
   have:=fpn c u q
   simp only [List.mem_cons,List.not_mem_nil,or_false,not_or] at this
   exact up c o this.1 this.2 z
  have ns:∀ m,s.heap.Ns X.env.locals m->g.Ns X.env.locals m:=fun m hm=>by
   obtain ⟨o,es,ep,e1,e2⟩:=hm
   exact⟨o,es,ep,up _ o (Ne.symm (hf e (by simp)).2.1) (Ne.symm (hf it (by simp)).2.1) e1,e2⟩
  have I2:Inv X pins σ (upd H s.heap.objs.size (.tup [.int i,x])) { s with heap:=g,toks:=s.toks+1 }:=by
   refine I.step (g':=s.gens) (d':=s.drawn) (ch:=[e,it]) (fun c hc'=>?_) (fun c o _ _ hc' z _=>?_) (fun c o _ _ hc' z _=>⟨o.slots,?_⟩) (fun c o _ z n=>?_) (fun c o hc' z=>⟨o,?_⟩)
    (fun c zs z=>by rw [upd_ne (ne_of_none z hT)]; exact z) (fun c u zs z=>by rw [upd_ne (ne_of_none z hT)]; exact z) (fun c ps z=>⟨#[],by rw [upd_ne (ne_of_none z hT),z]; simp⟩) ns (fun c u z=>?_) I.bare
   ·exact⟨(hf c hc').2.2.2.1,(hf c hc').2.1,(hf c hc').2.2.2.2.1,(hf c hc').2.2.2.2.2⟩
   ·simp only [List.mem_cons,List.not_mem_nil,or_false,not_or] at hc'
    exact up c o hc'.1 hc'.2 z
   ·simp only [List.mem_cons,List.not_mem_nil,or_false,not_or] at hc'
    exact up c o hc'.1 hc'.2 z
   ·rw [upd_ne (Nat.ne_of_lt (Heap.lt_size z))]; exact n
   ·simp only [List.mem_cons,List.not_mem_nil,or_false,not_or] at hc'
    exact up c o hc'.1 hc'.2 z
   ·by_cases hcT:c=s.heap.objs.size
    ·subst hcT
     rw [upd_same] at z; cases z
     exact⟨by show 2<=sizeLine; decide,[.int i s.toks,ux],.cons ⟨_,rfl⟩ (.cons rux .nil),⟨_,prG,rfl,_,rfl⟩⟩
    ·rw [upd_ne hcT] at z
     refine (I.hok c u z).stay (fun c' o' hc2 q'=>?_) (fun c' q'=>by rw [upd_ne (ne_of_none q' hT)]; exact q') fun c' zs q'=>by rw [upd_ne (ne_of_none q' hT)]; exact q'
     rcases hc2 with rfl | hc2
     ·exact upH _ _ _ z q'
     ·exact upH _ _ _ hc2 q'
  refine⟨.ref s.heap.objs.size,_,I2,rfl,⟨_,x,hT,rfl,rfl,fun xs' ha'=>?_⟩,⟨⟨ux,by push_cast; exact zz⟩,it'.at fun o z=>sb.extBut _ o (Ne.symm d) z⟩,fun c hc'=>?_⟩
  ·rw [I.tuple_inj ha' ha]; exact hx
  ·obtain ⟨o,z⟩:∃ o,s.heap.get? c=some o:=by
    simp only [List.mem_cons,List.not_mem_nil,or_false] at hc'
    obtain ⟨o1,f1,_⟩:=st.s1
    rcases hc' with rfl | rfl
    ·exact⟨_,ee⟩
    ·exact⟨_,f1⟩
   rw [upd_ne (Nat.ne_of_lt (Heap.lt_size z))]; exact (hf c hc').1
 ·intro X hP hw hK hc i pins s σ H E I hf st hg
  subst hP hw hK
  obtain ⟨xs,ha,hi⟩:=hg
  obtain ⟨us,ru,pu,lu⟩:=I.tuple ha
  obtain ⟨old,ee⟩:=st.ee
  have hh:X.A.handled=none:=I.ok.hd hc
  have e1:=ru.length
  refine Zp.enumT_end hh ee st.s1 pu (by rw [Array.getElem?_eq_none]; simp only [List.size_toArray]; (first|lia|omega)) fun g kp=>⟨rfl,?_⟩
  have fpn:∀ c u,H c=some u->c ∉ [e,it]:=fun c u z hm=>by rw [(hf c hm).1] at z; cases z
  have upH:∀ c o u,H c=some u->s.heap.get? c=some o->g.get? c=some o:=fun c o u q z=>by
   have:=fpn c u q
   simp only [List.mem_cons,List.not_mem_nil,or_false,not_or] at this
   exact kp c o this.2 z
  have ns:∀ m,s.heap.Ns X.env.locals m->g.Ns X.env.locals m:=fun m hm=>by
   obtain ⟨o,es,ep,e1,e2⟩:=hm
   exact⟨o,es,ep,kp _ o (Ne.symm (hf it (by simp)).2.1) e1,e2⟩
  refine I.step (g':=s.gens) (d':=s.drawn) (ch:=[it]) (fun c hc'=>?_) (fun c o _ _ hc' z _=>?_) (fun c o _ _ hc' z _=>⟨o.slots,?_⟩) (fun c o _ z n=>n) (fun c o hc' z=>⟨o,?_⟩)
   (fun c zs z=>z) (fun c u zs z=>z) (fun c ps z=>⟨#[],by rw [z]; simp⟩) ns (fun c u z=>?_) I.bare
  ·have hm:c ∈ [e,it]:=List.mem_cons_of_mem _ hc'
   exact⟨(hf c hm).2.2.2.1,(hf c hm).2.1,(hf c hm).2.2.2.2.1,(hf c hm).2.2.2.2.2⟩
  ·exact kp c o (fun y=>hc' (by rw [y]; simp)) z
  ·exact kp c o (fun y=>hc' (by rw [y]; simp)) z
  ·exact kp c o (fun y=>hc' (by rw [y]; simp)) z
  ·refine (I.hok c u z).stay (fun c' o' hc2 q'=>?_) (fun _ q'=>q') fun _ _ q'=>q'
   rcases hc2 with rfl | hc2
   ·exact upH _ _ _ z q'
   ·exact upH _ _ _ hc2 q'
 ·obtain ⟨old,ee⟩:=st.ee
  exact wpAny_pyIter_enum ee q
section
variable {X : Cx}
noncomputable def iEnumA (K:PySem.W.Frag) (ta:TA):TI:=fun σ H R=>ta σ H fun vs H1=>∃ a,vs = [.ref a]/\((∃ xs,SqL K H1 a xs/\R (Ite K a) H1) ∨ (∃ xs,SqT K H1 a xs/\R (Itf K a) H1))
theorem pi_enumA {elts:List Expr}{kt:Nat}{pt:Pos}{a:Expr}{ta:TA}{p pos:Pos} (hg:Gl X "enumerate") (hm:X.mg "enumerate" = none) (ha:PA X [a] ta) (hs:starEach [a] X.env = [(false,eval a X.env)]:=by rfl) :
  PI X (.Tuple elts kt pt) (.Call (.Name "enumerate" p) [a] [] pos) (iEnumA X.K ta):=by
 intro pins s σ H R I h
 refine Call_ (ld_blt I hg hm PyProof.Rows.boot_enumerate (PyProof.Rows.callWith_type1 (thn (ha pos pins s σ H _ I h) fun us s1 ⟨vs,H1,I1,r1,q1⟩=>?_) (by rw [hs]; rfl) (by rfl)))
 obtain ⟨a',e,q⟩:=q1
 subst e
 have fresh:∀ k,H1 (s1.heap.objs.size+k)=none:=fun k=>I1.hok.fresh (Nat.le_add_right _ _)
 cases r1 with
 | cons r rr=>
  cases rr
  cases r
  rcases q with ⟨xs,h1,q⟩ | ⟨xs,h1,q⟩
  ·obtain ⟨us,_,p1,_⟩:=I1.list h1
   refine call_enumerate_list p1.isList fun h' z s1' sz kp=>wpAny_pyIter_enum z ?_
   refine⟨s1.heap.objs.size+1,[s1.heap.objs.size+1,s1.heap.objs.size],_,_,H1,rfl,I1.kept (t':=s1.toks) kp,
    turn_enum a' _ _ (Nat.succ_ne_self _),⟨⟨_,z⟩,s1'⟩,fun c hc=>?_,q⟩
   simp only [List.mem_cons,List.not_mem_nil,or_false] at hc
   rcases hc with rfl | rfl
   ·exact I1.fpOk (Nat.le_add_right _ _) (fresh 1)
   ·exact I1.fpOk (Nat.le_refl _) (fresh 0)
  ·obtain ⟨us,_,p1,_⟩:=I1.tuple h1
   refine Zp.call_enumT p1 fun h' z s1' sz kp=>wpAny_pyIter_enum z ?_
   refine⟨s1.heap.objs.size+1,[s1.heap.objs.size+1,s1.heap.objs.size],_,_,H1,rfl,I1.kept (t':=s1.toks) kp,
    turn_enumT a' _ _ (Nat.succ_ne_self _),⟨⟨_,z⟩,s1'⟩,fun c hc=>?_,q⟩
   simp only [List.mem_cons,List.not_mem_nil,or_false] at hc
   rcases hc with rfl | rfl
   ·exact I1.fpOk (Nat.le_add_right _ _) (fresh 1)
   ·exact I1.fpOk (Nat.le_refl _) (fresh 0)
end
end L2
namespace PP
open PySem L2 PyProof.Rows
noncomputable def enumP (xs:List PV):List PV:=xs.mapIdx fun i x=>PV.tup [.int (i:Int),x]
theorem enumP_len (xs:List PV):(enumP xs).length=xs.length:=by unfold enumP; rw [List.length_mapIdx]
theorem enumP_get {xs:List PV}{i:Nat}{x:PV} (h:xs[i]? = some x):(enumP xs)[i]? = some (.tup [.int (i:Int),x]):=by
 unfold enumP; rw [List.getElem?_mapIdx,h]; rfl
theorem enumP_at {xs:List PV}{i:Nat}{z:PV} (h:(enumP xs)[i]? = some z):∃ x,xs[i]? = some x/\z = .tup [.int (i:Int),x]:=by
 unfold enumP at h
 rw [List.getElem?_mapIdx] at h
 cases e:xs[i]? with
 | none=>rw [e] at h; cases h
 | some x=>rw [e] at h; exact⟨x,rfl,(Option.some.inj h).symm⟩
noncomputable def qEnum (te:PTE):PTI:=fun ρ Q=>te ρ fun x g=>∃ xs,(x = .lst xs ∨ x = .tup xs)/\(g = .rd->flat x=true)/\Q (enumP xs) (itG g xs)
theorem iter_enum {K:PySem.W.Frag}{H0:Hp}{W:Addr->Prop}{g:Bool}{H1:Hp}{a:Addr}{us:List V}{xs:List PV} (tw:∀ a,W a->∃ o,H1 a=some o/\mutO o=true) (ha:∀ W' H',Ev W H1 W' H'->SqL K H' a us) (r:Reps K (Ms H0 W g) H1 us xs):IterOk K H0 W g H1 (Ite K a) (enumP xs):=by
 have lr:=r.length
 have ll:=enumP_len xs
 refine⟨fun W' H' i e hi=>⟨us,us[i]'(by (first|lia|omega)),ha W' H' e,by simp⟩,fun W' H' i v H2 e y hi=>?_,fun W' H' e=>⟨us,ha W' H' e,by (first|lia|omega)⟩⟩
 obtain ⟨T,x,hT,rfl,rfl,y⟩:=y
 obtain ⟨z,hz,rz⟩:=r.get (y us (ha W' _ e))
 have sm:=same_new hT (HO.tup [.int (i:Int),x])
 exact⟨sm,_,enumP_get hz,.tup upd_same (.cons (.int _) (.cons ((rz.keep (e.keep tw)).same sm fun _ q=>q) .nil))⟩
theorem iter_enumT {K:PySem.W.Frag}{H0:Hp}{W:Addr->Prop}{g:Bool}{H1:Hp}{a:Addr}{us:List V}{xs:List PV} (tw:∀ a,W a->∃ o,H1 a=some o/\mutO o=true) (ha:∀ W' H',Ev W H1 W' H'->SqT K H' a us) (r:Reps K (Ms H0 W g) H1 us xs):IterOk K H0 W g H1 (Itf K a) (enumP xs):=by
 have lr:=r.length
 have ll:=enumP_len xs
 refine⟨fun W' H' i e hi=>⟨us,us[i]'(by (first|lia|omega)),ha W' H' e,by simp⟩,fun W' H' i v H2 e y hi=>?_,fun W' H' e=>⟨us,ha W' H' e,by (first|lia|omega)⟩⟩
 obtain ⟨T,x,hT,rfl,rfl,y⟩:=y
 obtain ⟨z,hz,rz⟩:=r.get (y us (ha W' _ e))
 have sm:=same_new hT (HO.tup [.int (i:Int),x])
 exact⟨sm,_,enumP_get hz,.tup upd_same (.cons (.int _) (.cons ((rz.keep (e.keep tw)).same sm fun _ q=>q) .nil))⟩
section
variable {X : Cx} {σ : L2.St} {H : Hp} {te : PTE} {R : It → Hp → Prop}
theorem li_enum (h:LI X (qEnum te) σ H R):iEnumA X.K (tCons (LE X te) tNil) σ H R:=by
 obtain ⟨W,ρ,Q,px,q,k⟩:=h
 refine⟨W,ρ,_,px,q,?_⟩
 rintro v H1 x g s r ⟨xs,hx,hg,q⟩
 have px1:=px.mono s
 have tw:∀ a,W a->∃ o,H1 a=some o/\mutO o=true:=fun a z=>(px1.wm a z).2
 rcases hx with rfl | rfl
 ·obtain ⟨a,us,rfl,m,h,r⟩:=r.sqL
  have wa : ¬ W a:=by
   cases g with
   | fr=>exact (px.new m).1
   | nw=>exact m.1
   | sh=>exact m
   | rd=>have:=hg rfl; unfold flat at this; cases this
  exact⟨a,rfl,.inl ⟨us,SqL.of h,k _ _ _ _ s (iter_enum tw (fun W' H' e=>SqL.of (e _ _ h wa).1) (itg_reps px (fun z=>by have:=hg z; unfold flat at this; cases this) r)) q⟩⟩
 ·obtain ⟨a,us,rfl,h,r⟩:=r.sqT
  refine⟨a,rfl,.inr ⟨us,SqT.of h,k _ _ _ _ s (iter_enumT tw (fun W' H' e=>SqT.of (e _ _ h fun z=>?_).1) (itg_reps px (fun z=>by have:=hg z; unfold flat at this; exact this) r)) q⟩⟩
  obtain ⟨o,h',mu⟩:=tw _ z; rw [h] at h'; cases h'; cases mu
theorem i_enum {elts:List Expr}{kt:Nat}{pt p2 pos:Pos}{a:Expr}{ta:PTE} (hg:Gl X "enumerate") (hm:X.mg "enumerate" = none) (ha:QE X a ta) (hs:starEach [a] X.env = [(false,eval a X.env)]:=by rfl):QI X (.Tuple elts kt pt) (.Call (.Name "enumerate" p2) [a] [] pos) (qEnum ta):=
 piI (pi_enumA hg hm (pa_cons ha pa_nil hs) hs) fun _ _ _=>li_enum
end
end PP
namespace PP
open PySem L2 PyProof.Rows
section
variable {X : Cx} {e : Expr} {te : PTE} {pos p2 : Pos} {scope : Scope} {N : List Str} {fr : List (Option Nat)} {x y : Str} {tp xp yp : Pos} {kt : Nat} {iter elt : Expr} {ti : PTI}
noncomputable abbrev tg2 (x y:Str) (xp yp:Pos) (kt:Nat) (tp:Pos):Expr:=.Tuple [.Name x xp,.Name y yp] kt tp
theorem blk2 {ifs:List Expr}{tcs:PTT} (hc:X.calm=true) (he:∀ (s:Shared) (H:Hp) (C:Addr) (fp:List Addr),QE (cxC X scope N s H C fp nxx) elt te) (hi:∀ (s:Shared) (H:Hp) (C:Addr) (fp:List Addr),PTs (cxC X scope N s H C fp nxx) ifs (LT (cxC X scope N s H C fp nxx) tcs))
  (hN:N.Nodup) (h0:N[0]? = some x) (h1:N[1]? = some y) (hl:∀ (s:Shared) (H:Hp) (C:Addr) (fp:List Addr),(cxC X scope N s H C fp nxx).env.scope.names.lookup x=some .local) (hl2:∀ (s:Shared) (H:Hp) (C:Addr) (fp:List Addr),(cxC X scope N s H C fp nxx).env.scope.names.lookup y=some .local) (s:Shared) (H:Hp) :
  BlkAt X scope N (tg2 x y xp yp kt tp) ifs elt s H (gTup X.K 2 (gCons (gName 0) (gCons (gName 1) gNil))) (LT (X.frm H) tcs) (LE (X.frm H) te):=
 ⟨fun C fp=>pg_tup (X:=cxC X scope N s H C fp nxx) hc (pgs_cons (pg_name hN h0 (.inl (hl s H C fp)) (.inr (hl s H C fp))) (pgs_cons (pg_name hN h1 (.inl (hl2 s H C fp)) (.inr (hl2 s H C fp))) pgs_nil)),fun C fp=>hi s H C fp,fun C fp=>he s H C fp⟩
theorem q_comp2 (hi:QI X (tg2 x y xp yp kt tp) iter ti) (he:∀ (s:Shared) (H:Hp) (C:Addr) (fp:List Addr),QE (cxC X scope N s H C fp nxx) elt te)
  (hc:X.calm=true:=by rfl) (S:CoScope X scope N fr:=by exact CoScope.of rfl rfl) (hN:N.Nodup:=by decide +kernel) (h0:N[0]? = some x:=by rfl) (h1:N[1]? = some y:=by rfl) (hl:∀ (s:Shared) (H:Hp) (C:Addr) (fp:List Addr),(cxC X scope N s H C fp nxx).env.scope.names.lookup x=some .local:=by intro _ _ _ _; rfl) (hl2:∀ (s:Shared) (H:Hp) (C:Addr) (fp:List Addr),(cxC X scope N s H C fp nxx).env.scope.names.lookup y=some .local:=by intro _ _ _ _; rfl) (hf:fr[0]? = some none:=by rfl) (hf2:fr[1]? = some none:=by rfl)
  (hs:∀ x,foldedSetIterable iter X.env x=pure x:=by intro _; rfl):QE X (.ListComp elt [⟨tg2 x y xp yp kt tp,iter,[],0⟩] scope pos) (qComp ti fr (pPair 0 1) qYes te):=
 peI (pe_compH (gh:=fun _=>gTup X.K 2 (gCons (gName 0) (gCons (gName 1) gNil))) (tch:=fun H=>LT (X.frm H) qYes) (teh:=fun H=>LE (X.frm H) te) hc S hi (blk2 hc he (fun _ _ _ _=>ptsI) hN h0 h1 hl hl2) hs) fun _ _ _=>le_comp (tg_pair _ 0 1) (fun i e=>by rcases e with e | e <;> (subst e; assumption))
theorem q_comp2i {c:Expr}{tcs:PTT} (hi:QI X (tg2 x y xp yp kt tp) iter ti) (ht:∀ (s:Shared) (H:Hp) (C:Addr) (fp:List Addr),QT (cxC X scope N s H C fp nxx) c tcs) (he:∀ (s:Shared) (H:Hp) (C:Addr) (fp:List Addr),QE (cxC X scope N s H C fp nxx) elt te)
  (hc:X.calm=true:=by rfl) (S:CoScope X scope N fr:=by exact CoScope.of rfl rfl) (hN:N.Nodup:=by decide +kernel) (h0:N[0]? = some x:=by rfl) (h1:N[1]? = some y:=by rfl) (hl:∀ (s:Shared) (H:Hp) (C:Addr) (fp:List Addr),(cxC X scope N s H C fp nxx).env.scope.names.lookup x=some .local:=by intro _ _ _ _; rfl) (hl2:∀ (s:Shared) (H:Hp) (C:Addr) (fp:List Addr),(cxC X scope N s H C fp nxx).env.scope.names.lookup y=some .local:=by intro _ _ _ _; rfl) (hf:fr[0]? = some none:=by rfl) (hf2:fr[1]? = some none:=by rfl)
  (hs:∀ x,foldedSetIterable iter X.env x=pure x:=by intro _; rfl):QE X (.ListComp elt [⟨tg2 x y xp yp kt tp,iter,[c],0⟩] scope pos) (qComp ti fr (pPair 0 1) tcs te):=
 peI (pe_compH (gh:=fun _=>gTup X.K 2 (gCons (gName 0) (gCons (gName 1) gNil))) (tch:=fun H=>LT (X.frm H) tcs) (teh:=fun H=>LE (X.frm H) te) hc S hi (blk2 hc he (fun s H C fp=>pts_one (ht s H C fp)) hN h0 h1 hl hl2) hs) fun _ _ _=>le_comp (tg_pair _ 0 1) (fun i e=>by rcases e with e | e <;> (subst e; assumption))
theorem s_setC2i {c:Expr}{tcs:PTT}{i:Nat}{z:Str}{zp:Pos} (nd:X.N.Nodup) (hi:QI X (tg2 x y xp yp kt tp) iter ti) (ht:∀ (s:Shared) (H:Hp) (C:Addr) (fp:List Addr),QT (cxC X scope N s H C fp nxx) c tcs) (he:∀ (s:Shared) (H:Hp) (C:Addr) (fp:List Addr),QE (cxC X scope N s H C fp nxx) elt te)
  (hz:X.N[i]? = some z:=by rfl) (hzl:X.env.scope.names.lookup z=some .local:=by rfl) (hsw:swapsWith (.ListComp elt [⟨tg2 x y xp yp kt tp,iter,[c],0⟩] scope p2) (some (.Name z zp)) pos.line X.env=pure true:=by rfl)
  (hc:X.calm=true:=by rfl) (S:CoScope X scope N fr:=by exact CoScope.of rfl rfl) (hN:N.Nodup:=by decide +kernel) (h0:N[0]? = some x:=by rfl) (h1:N[1]? = some y:=by rfl) (hl:∀ (s:Shared) (H:Hp) (C:Addr) (fp:List Addr),(cxC X scope N s H C fp nxx).env.scope.names.lookup x=some .local:=by intro _ _ _ _; rfl) (hl2:∀ (s:Shared) (H:Hp) (C:Addr) (fp:List Addr),(cxC X scope N s H C fp nxx).env.scope.names.lookup y=some .local:=by intro _ _ _ _; rfl) (hf:fr[0]? = some none:=by rfl) (hf2:fr[1]? = some none:=by rfl)
  (hs:∀ x,foldedSetIterable iter X.env x=pure x:=by intro _; rfl):QS X (.Assign [.Name z zp] (.ListComp elt [⟨tg2 x y xp yp kt tp,iter,[c],0⟩] scope p2) pos) (qSet i (qComp ti fr (pPair 0 1) tcs te)):=
 psI (ps_setCH (gh:=fun _=>gTup X.K 2 (gCons (gName 0) (gCons (gName 1) gNil))) (tch:=fun H=>LT (X.frm H) tcs) (teh:=fun H=>LE (X.frm H) te) hc S hi (blk2 hc he (fun s H C fp=>pts_one (ht s H C fp)) hN h0 h1 hl hl2) nd hz hzl hsw hs) fun D σ H h=>le_comp (tg_pair _ 0 1) (fun i e=>by rcases e with e | e <;> (subst e; assumption)) (ls_set h)
end
end PP
namespace PP
open PySem L2 PyProof.Rows
section
variable {X : Cx} {a b e o f : Expr} {ta tb te td tk tx : PTE} {pos p2 apos cpos : Pos} {σ : L2.St} {H : Hp} {Q' : VK}
noncomputable def RRep:PV->Tg->PV->Tg->PK->Prop:=fun x _ y _ Q=>∃ xs n,x = .lst xs/\y = .int n/\flats xs=true/\-1000000<=n/\n<=1000000/\xs.length<=10/\Q (.lst (List.replicate n.toNat xs).flatten) .fr
noncomputable abbrev qRep (ta tb:PTE):PTE:=q2 RRep ta tb
theorem cov_rep:Cov2 X RRep rRep:=by
 rintro W Hs H u v x y g g' Q Q' s n r1 r2 ⟨xs,m,rfl,rfl,f,h1,h2,hl,q⟩ k
 cases r2
 obtain ⟨a,us,rfl,mm,h,r⟩:=r1.sqL
 have lr:=r.length
 refine⟨a,m,us,rfl,rfl,h,by (first|lia|omega),by (first|lia|omega),lim ?_,fun p hp=>k _ _ _ .fr (same_new hp _) (.lst (s.free hp) upd_same (((r.flat f).rep m.toNat).same (same_new hp _) fun _ z=>z)) q⟩
 have h3:us.length<=10:=by (first|lia|omega)
 have h4:m.toNat<=1000000:=by (first|lia|omega)
 calc us.length * m.toNat<=10 * 1000000:=Nat.mul_le_mul h3 h4
  _<=16000000:=by decide
theorem q_rep (ha:QE X a ta) (hb:QE X b tb):QE X (.BinOp a .Mult b pos) (qRep ta tb):=q_op op_rep cov_rep ha hb
noncomputable def qDGet2 (td tk tx:PTE):PTE:=fun ρ Q=>td ρ fun x _=>∃ ps,x = .dK ps/\tk ρ fun y _=>tx ρ fun z _=>∃ k,y=kP k/\flat ((valP ps k).getD z)=true/\Q ((valP ps k).getD z) .fr
theorem le_dget2 (h:LE X (qDGet2 td tk tx) σ H Q'):tDGet2 (LE X td) (LE X tk) (LE X tx) σ H Q':=by
 obtain ⟨W,ρ,Q,px,q,k⟩:=h
 refine⟨W,ρ,_,px,q,?_⟩
 rintro v H1 x g s r ⟨ps,rfl,q⟩
 have r0:=r
 cases r with
 | @dK a kvs _ m h e rr=>
  refine⟨a,rfl,.inl ⟨kvs,.inl h⟩,W,ρ,_,px.mono s,q,fun w H2 y g' s2 r2 q2=>⟨W,ρ,_,(px.mono s).mono s2,q2,?_⟩⟩
  rintro w3 H3 z gz s3 r3 ⟨kk,rfl,fl,q⟩
  obtain ⟨a',o',ea,dg,h1,h2⟩:=atKey_get (.inl ⟨ps,kk,rfl,rfl,rfl⟩) (r0.same (s2.trans s3) fun _ z=>z) (r2.same s3 fun _ z=>z)
  cases ea
  refine⟨o',dg,?_⟩
  cases hv:valP ps kk with
  | none=>
   rw [hv] at fl q
   rw [h1 hv]
   exact k _ _ _ .fr ((s.trans s2).trans s3) (r3.flat fl) q
  | some z'=>
   rw [hv] at fl q
   obtain ⟨u,rfl,ru⟩:=h2 z' hv
   exact k _ _ _ .fr ((s.trans s2).trans s3) (ru.flat fl) q
theorem q_m_get (hu:X.A.units+1 < cLine) (ho:QE X o td) (he:QE X e tk) (hf:QE X f tx) (m:M2 X o "get" apos e f cpos:=by exact⟨rfl,rfl,rfl,rfl⟩):QE X (.Call (.Attribute o "get" apos) [e,f] [] cpos) (qDGet2 td tk tx):=peI (pe_dget2 hu ho he hf m) fun _ _ _=>le_dget2
end
end PP
namespace Core
open PySem L2 PP
section
variable (ws : List Int) (ls : List (Int × Int)) (os ns : List Int)
noncomputable def lit1:Nat->List Int
 | 0=>[]
 | k+1=>lit1 k ++ (os.find? (kin ws ls (ns ++ lit1 k))).toList
noncomputable def first1 (k:Nat):Option Int:=os.find? (kin ws ls (ns ++ lit1 ws ls os ns k))
end
section
variable {ws : List Int} {ls : List (Int × Int)} {os ns : List Int}
theorem lit1_some {k:Nat}{h:Int} (e:first1 ws ls os ns k=some h):lit1 ws ls os ns (k+1)=lit1 ws ls os ns k ++ [h]:=by
 show lit1 ws ls os ns k ++ (first1 ws ls os ns k).toList=_
 rw [e]; rfl
theorem first1_new {k:Nat}{h:Int} (e:first1 ws ls os ns k=some h):h ∈ os/\h ∉ ns ++ lit1 ws ls os ns k:=
 ⟨List.mem_of_find?_eq_some e,of_decide_eq_false (kin_not (List.find?_some e))⟩
theorem lit1_ok (po:os.Perm (rng ws.length)) (hs:isSetB ws.length ns=true):∀ k,(ns ++ lit1 ws ls os ns k).Nodup/\∀ x ∈ ns ++ lit1 ws ls os ns k,x ∈ rng ws.length
 | 0=>by
  rw [show lit1 ws ls os ns 0 = [] from rfl,List.append_nil]
  exact⟨(up_pair (set_ok hs).1).imp fun h=>Int.ne_of_lt h,fun x hx=>mem_rng.mpr ((set_ok hs).2 x hx)⟩
 | k+1=>by
  obtain ⟨i1,i2⟩:=lit1_ok po hs k
  cases e:first1 ws ls os ns k with
  | none=>
   have:lit1 ws ls os ns (k+1)=lit1 ws ls os ns k:=by
    show lit1 ws ls os ns k ++ (first1 ws ls os ns k).toList=_
    rw [e]; exact List.append_nil _
   rw [this]; exact⟨i1,i2⟩
  | some h=>
   obtain ⟨n1,n2⟩:=first1_new e
   rw [lit1_some e,<- List.append_assoc]
   refine⟨List.nodup_append.mpr ⟨i1,List.pairwise_singleton _ _,fun x hx y hy=>?_⟩,fun x hx=>?_⟩
   ·rw [List.mem_singleton.mp hy]; intro z; subst z; exact n2 hx
   ·rcases List.mem_append.mp hx with hx | hx
    ·exact i2 x hx
    ·rw [List.mem_singleton.mp hx]; exact po.mem_iff.mp n1
theorem stp_nd (hs:isSetB ws.length ns=true):∀ k,(stp ws ls ns k).Nodup
 | 0=>(up_pair (set_ok hs).1).imp fun h=>Int.ne_of_lt h
 | k+1=>by
  show (stp ws ls ns k ++ nextOf ws ls (stp ws ls ns k)).Nodup
  refine List.nodup_append.mpr ⟨stp_nd hs k,(rng_nodup ws.length).filter _,fun x hx y hy=>?_⟩
  intro z; subst z
  exact of_decide_eq_false (kin_not (List.mem_filter.mp hy).2) hx
end
noncomputable def optP:Option Int->PV
 | none=>.non
 | some h=>.int h
end Core
namespace Core
open PySem L2 PP
theorem pName_int {i:Nat}{h:Int}{g:Bool}{ρ:PEnv}{Q:PEnv->Prop} (q:Q (ρ.set i (some (.sh true (.int h))))):pName i (.int h) g ρ Q:=by
 show Q (ρ.set i (some (.sh (g || true) (.int h))))
 rw [Bool.or_true]; exact q
end Core
namespace Core
open PySem L2 PP
noncomputable def outsI (ns S:List Int):Int:=(ns.length:Int) - (((ns.filter fun x=>decide (x ∈ S)).length:Nat):Int)
noncomputable def stays (ws:List Int) (ls:List (Int × Int)) (S:List Int) (h:Int):Bool:=decide (outsI (nbrs ls h) S < ws.getD h.toNat 0)
noncomputable def stay (ws:List Int) (ls:List (Int × Int)) (S:List Int):List Int:=S.filter (stays ws ls S)
end Core
namespace Core
open PySem L2 PP
section
variable {ws : List Int} {ls : List (Int × Int)} {ns : List Int}
noncomputable def others (n:Nat) (S:List Int):List Int:=(rng n).filter fun x=>!decide (x ∈ S)
end
end Core
namespace Core
open PySem L2 PP
noncomputable def rankR (k:Nat) (r:List Int):List (Key × PV):=r.map fun h=>((Sum.inl h:Key),PV.int (k:Int))
noncomputable def ranked (rs:List (List Int)):List (Key × PV):=(rs.mapIdx rankR).flatten
theorem ranked_snoc (rs:List (List Int)) (r:List Int):ranked (rs ++ [r])=ranked rs ++ rankR rs.length r:=by
 unfold ranked
 rw [List.mapIdx_append,List.flatten_append]
 simp
theorem rankR_keys (k:Nat) (r:List Int):(rankR k r).map (·.1)=r.map Sum.inl:=by
 unfold rankR; rw [List.map_map]; rfl
theorem mapIdx_keys:∀ (rs:List (List Int)) (g:Nat->Nat),((rs.mapIdx fun i r=>rankR (g i) r).flatten).map (·.1)=rs.flatten.map (Sum.inl:Int->Key)
 | [],_=>rfl
 | r :: t,g=>by
  rw [List.mapIdx_cons,List.flatten_cons,List.flatten_cons,List.map_append,List.map_append,rankR_keys,mapIdx_keys t fun i=>g (i+1)]
theorem ranked_keys (rs:List (List Int)):(ranked rs).map (·.1)=rs.flatten.map (Sum.inl:Int->Key):=mapIdx_keys rs fun i=>i
theorem putP_new {ps:List (Key × PV)}{h:Int}{v:PV}{S:List Int} (e:ps.map (·.1)=S.map Sum.inl) (hn:h ∉ S):putP ps (Sum.inl h:Key) v=ps ++ [(Sum.inl h,v)]:=by
 unfold putP
 rw [if_neg]
 intro z
 rw [List.any_eq_true] at z
 obtain ⟨p,hp,hq⟩:=z
 have:p.1 ∈ ps.map (·.1):=List.mem_map.mpr ⟨p,hp,rfl⟩
 rw [e,of_decide_eq_true hq] at this
 obtain ⟨y,hy,e2⟩:=List.mem_map.mp this
 exact hn (Sum.inl.inj e2 ▸ hy)
noncomputable def p_ranks_of:PSp:=fun xs Q=>∃ ws ls x ns,xs = [webP ws ls,x]/\Wb ws ls/\IsI x ns/\isSetB ws.length ns=true/\∀ m,Ends ws ls ns m->Q (.dK (ranked (ns :: after ws ls ns m)))
noncomputable def t_ranks_of:PTS:=(qSeq (qOwn 2 (qC (.dK [])))
 (qSeq (qFor (qEnum (qCall p_rounds (qCons (qVar 0) (qCons (qVar 1) qNil)))) (pPair 3 4)
  (qFor (qSeqI (qVar 4)) (pName 5)
   (qDPut 2 (qVar 5) (qVar 3))))
 (qRetV 2)))
theorem rankR_take {k:Nat}{r:List Int}{i:Nat}{n:Int} (h:r[i]? = some n):rankR k (r.take (i+1))=rankR k (r.take i) ++ [(Sum.inl n,PV.int (k:Int))]:=by
 unfold rankR
 rw [List.take_add_one,h,List.map_append]; rfl
theorem rd_ranks_of:Rd1 t_ranks_of ["web","seeds","ranks","rank","lit","hearth"] p_ranks_of:=by
 rintro xs Q ⟨ws,ls,x,ns,rfl,wb,hx,hs,q⟩
 have few:=wb.few
 refine⟨rfl,rfl,_,rfl,_,rfl,ws,ls,x,ns,rfl,wb,hx,hs,fun m en=>⟨_,.inl rfl,fun z=>(by cases z),?_⟩⟩
 have fl:=stp_flat ws ls ns m
 have sl:=stp_len (ls:=ls) hs m
 have nd:=stp_nd (ls:=ls) hs m
 generalize hrs:ns :: after ws ls ns m=rs at fl
 rw [<- fl] at sl nd
 refine⟨fun i ρ=>∃ y z u,ρ = [some (.sh (flat (webP ws ls)) (webP ws ls)),some (.sh (flat x) x),some (.own (.dK (ranked (rs.take i)))),y,z,u],⟨none,none,none,rfl⟩,?_,?_⟩
 ·rintro i y ρ hy ⟨y0,z0,u0,rfl⟩
  obtain ⟨y,hy2,rfl⟩:=enumP_at hy
  obtain ⟨r,rfl,hr⟩:=tups_get hy2
  have tk:rs.take (i+1)=rs.take i ++ [r]:=by rw [List.take_add_one,hr]; rfl
  have il:(rs.take i).length=i:=by
   have:=(List.getElem?_eq_some_iff.mp hr).1
   rw [List.length_take]; (first|lia|omega)
  have nd2:((rs.take i).flatten ++ r).Nodup/\((rs.take i).flatten ++ r).length<=rs.flatten.length:=by
   have e:rs.flatten=((rs.take i).flatten ++ r) ++ (rs.drop (i+1)).flatten:=by
    rw [<- List.flatten_singleton (l:=r),<- List.flatten_append,<- tk,<- List.flatten_append,List.take_append_drop]
   rw [e] at nd ⊢
   exact⟨(List.nodup_append.mp nd).1,by rw [List.length_append (as:=(rs.take i).flatten ++ r)]; (first|lia|omega)⟩
  refine⟨_,_,rfl,_,rfl,_,rfl,fun z=>(by cases z),fun j ρ=>∃ u,ρ = [some (.sh (flat (webP ws ls)) (webP ws ls)),some (.sh (flat x) x),some (.own (.dK (ranked (rs.take i) ++ rankR i (r.take j)))),some (.sh true (.int (i:Int))),some (.sh true (.tup (intz r))),u],⟨u0,?_⟩,?_,?_⟩
  ·rw [show rankR i (r.take 0) = [] from rfl,List.append_nil]
   rfl
  ·rintro j y ρ hy ⟨u1,rfl⟩
   obtain ⟨n,rfl,hn⟩:=ints_get hy
   have ke:(ranked (rs.take i) ++ rankR i (r.take j)).map (·.1)=((rs.take i).flatten ++ r.take j).map (Sum.inl:Int->Key):=by
    rw [List.map_append,List.map_append,ranked_keys,rankR_keys]
   have nn:n ∉ (rs.take i).flatten ++ r.take j:=by
    have:=nd2.1
    rw [<- List.take_append_drop j r,List.drop_eq_getElem_cons (List.getElem?_eq_some_iff.mp hn).1,(List.getElem?_eq_some_iff.mp hn).2,<- List.append_assoc] at this
    exact fun z=>(List.nodup_append.mp this).2.2 n z n List.mem_cons_self rfl
   have le:(ranked (rs.take i) ++ rankR i (r.take j)).length<=40:=by
    have e1:=congrArg List.length ke
    have e2:=nd2.2
    rw [List.length_map,List.length_map,List.length_append,List.length_append,List.length_take] at e1
    rw [List.length_append] at e2
    rw [List.length_append]
    (first|lia|omega)
   refine⟨_,rfl,_,rfl,_,rfl,Sum.inl n,rfl,trivial,by (first|lia|omega),si n,?_⟩
   rw [putP_new ke nn,rankR_take hn,List.append_assoc]
   rfl
  ·rintro ρ ⟨u,rfl⟩
   refine⟨some (.sh true (.int i)),some (.sh true (.tup (intz r))),u,?_⟩
   rw [ints_len,List.take_length,tk,ranked_snoc,il]
 ·rintro ρ ⟨y,z,u,rfl⟩
  rw [enumP_len,tups_len,List.take_length,<- hrs]
  exact⟨_,rfl,trivial,q m en⟩
end Core
namespace Core
open PySem L2 PP
noncomputable def rkOf (rs:List (List Int)) (h:Int):Option Nat:=rs.findIdx? fun r=>decide (h ∈ r)
theorem valP_app {ps qs:List (Key × PV)}{k:Key}:valP (ps ++ qs) k=(valP ps k).or (valP qs k):=by
 unfold valP
 rw [List.find?_append]
 cases ps.find? _ <;> rfl
theorem valP_rankR (k:Nat) (h:Int):∀ r:List Int,valP (rankR k r) (Sum.inl h:Key)=if h ∈ r then some (.int (k:Int)) else none
 | []=>rfl
 | x :: r=>by
  have ih:=valP_rankR k h r
  show valP ((Sum.inl x,PV.int (k:Int)) :: rankR k r) (Sum.inl h)=_
  by_cases e:x=h
  ·rw [valP_pos (p:=(Sum.inl x,PV.int (k:Int))) (congrArg Sum.inl e),if_pos (by rw [e]; exact List.mem_cons_self)]
  ·rw [valP_neg (p:=(Sum.inl x,PV.int (k:Int))) (fun z=>e (Sum.inl.inj z)),ih]
   by_cases hm:h ∈ r
   ·rw [if_pos hm,if_pos (List.mem_cons_of_mem _ hm)]
   ·rw [if_neg hm,if_neg fun z=>(List.mem_cons.mp z).elim (fun q=>e q.symm) hm]
theorem valP_go (h:Int):∀ (rs:List (List Int)) (g:Nat->Nat),valP ((rs.mapIdx fun i r=>rankR (g i) r).flatten) (Sum.inl h:Key)=(rkOf rs h).map fun k=>PV.int (g k:Nat)
 | [],_=>rfl
 | r :: t,g=>by
  rw [List.mapIdx_cons,List.flatten_cons,valP_app,valP_rankR,valP_go h t fun i=>g (i+1)]
  unfold rkOf
  rw [List.findIdx?_cons]
  by_cases hm:h ∈ r
  ·rw [if_pos hm,if_pos (decide_eq_true hm)]; rfl
  ·rw [if_neg hm,if_neg (by simpa using hm),Option.none_or,Option.map_map]; rfl
theorem valP_ranked (rs:List (List Int)) (h:Int):valP (ranked rs) (Sum.inl h:Key)=(rkOf rs h).map fun (k:Nat)=>PV.int (k:Int):=valP_go h rs fun i=>i
section
variable {ws : List Int} {ls : List (Int × Int)} {ns : List Int} {m : Nat}
noncomputable def rowA (ws:List Int) (ls:List (Int × Int)) (ns:List Int):Nat->List Int
 | 0=>ns
 | k+1=>nextOf ws ls (stp ws ls ns k)
theorem rs_get (k:Nat):(ns :: after ws ls ns m)[k]? = if k<=m then some (rowA ws ls ns k) else none:=by
 cases k with
 | zero=>rw [if_pos (Nat.zero_le _)]; rfl
 | succ k=>
  rw [List.getElem?_cons_succ]
  unfold after
  rw [List.getElem?_map]
  by_cases h:k+1<=m
  ·rw [if_pos h,List.getElem?_range (by (first|lia|omega))]; rfl
  ·rw [if_neg h,List.getElem?_eq_none (by rw [List.length_range]; (first|lia|omega))]; rfl
theorem mem_stp {x:Int}:∀ k,x ∈ stp ws ls ns k ↔ ∃ j,j<=k/\x ∈ rowA ws ls ns j
 | 0=>by
  constructor
  ·exact fun h=>⟨0,Nat.le_refl _,h⟩
  ·rintro ⟨j,hj,h⟩
   obtain rfl:j=0:=by (first|lia|omega)
   exact h
 | k+1=>by
  show x ∈ stp ws ls ns k ++ nextOf ws ls (stp ws ls ns k) ↔ _
  rw [List.mem_append,mem_stp k]
  constructor
  ·rintro (⟨j,hj,h⟩ | h)
   ·exact⟨j,by (first|lia|omega),h⟩
   ·exact⟨k+1,Nat.le_refl _,h⟩
  ·rintro ⟨j,hj,h⟩
   by_cases e:j=k+1
   ·subst e; exact .inr h
   ·exact .inl ⟨j,by (first|lia|omega),h⟩
theorem row_not {x:Int}{k:Nat} (h:x ∈ rowA ws ls ns (k+1)):x ∉ stp ws ls ns k:=by
 have h:x ∈ nextOf ws ls (stp ws ls ns k):=h
 unfold nextOf at h
 exact of_decide_eq_false (kin_not (List.mem_filter.mp h).2)
theorem row_eq {x:Int}{j k:Nat} (h1:x ∈ rowA ws ls ns j) (h2:x ∈ rowA ws ls ns k):j=k:=by
 rcases Nat.lt_trichotomy j k with h | h | h
 ·obtain ⟨k',rfl⟩:∃ k',k=k'+1:=⟨k - 1,by (first|lia|omega)⟩
  exact absurd ((mem_stp k').mpr ⟨j,by (first|lia|omega),h1⟩) (row_not h2)
 ·exact h
 ·obtain ⟨j',rfl⟩:∃ j',j=j'+1:=⟨j - 1,by (first|lia|omega)⟩
  exact absurd ((mem_stp j').mpr ⟨k,by (first|lia|omega),h2⟩) (row_not h1)
theorem rk_iff {x:Int}{k:Nat}:rkOf (ns :: after ws ls ns m) x=some k ↔ k<=m/\x ∈ rowA ws ls ns k:=by
 unfold rkOf
 rw [List.findIdx?_eq_some_iff_getElem]
 constructor
 ·rintro ⟨hk,h,_⟩
  have g:=rs_get (ws:=ws) (ls:=ls) (ns:=ns) (m:=m) k
  rw [List.getElem?_eq_getElem hk] at g
  by_cases e:k<=m
  ·rw [if_pos e] at g
   exact⟨e,by rw [<- Option.some.inj g]; exact of_decide_eq_true h⟩
  ·rw [if_neg e] at g; cases g
 ·rintro ⟨hk,h⟩
  have ln:(ns :: after ws ls ns m).length=m+1:=by
   unfold after; rw [List.length_cons,List.length_map,List.length_range]
  have at_:∀ j (hj:j < (ns :: after ws ls ns m).length),(ns :: after ws ls ns m)[j]=rowA ws ls ns j:=fun j hj=>by
   have g:=rs_get (ws:=ws) (ls:=ls) (ns:=ns) (m:=m) j
   rw [List.getElem?_eq_getElem hj,if_pos (by (first|lia|omega))] at g
   exact Option.some.inj g
  refine⟨by (first|lia|omega),?_,fun j hj=>?_⟩
  ·rw [at_]; exact decide_eq_true h
  ·rw [at_]
   intro z
   have:=row_eq (of_decide_eq_true z) h
   (first|lia|omega)
theorem rk_none {x:Int}:rkOf (ns :: after ws ls ns m) x=none ↔ x ∉ stp ws ls ns m:=by
 rw [mem_stp]
 constructor
 ·rintro h ⟨j,hj,hx⟩
  rw [rk_iff.mpr ⟨hj,hx⟩] at h; cases h
 ·intro h
  cases e:rkOf (ns :: after ws ls ns m) x with
  | none=>rfl
  | some k=>exact absurd ⟨k,rk_iff.mp e⟩ h
end
noncomputable def early (rs:List (List Int)) (k:Nat) (o:Int):Bool:=match rkOf rs o with
 | some j=>decide (j < k)
 | none=>false
theorem early_stp {ws:List Int}{ls:List (Int × Int)}{ns:List Int}{m k:Nat} (hk:k<=m) (o:Int):early (ns :: after ws ls ns m) (k+1) o=decide (o ∈ stp ws ls ns k):=by
 unfold early
 cases e:rkOf (ns :: after ws ls ns m) o with
 | none=>
  have:=rk_none.mp e
  symm
  refine decide_eq_false fun z=>this ?_
  rw [mem_stp] at z ⊢
  obtain ⟨j,hj,h⟩:=z
  exact⟨j,by (first|lia|omega),h⟩
 | some j=>
  obtain ⟨h1,h2⟩:=rk_iff.mp e
  show decide (j < k+1)=_
  rw [decide_eq_decide,mem_stp]
  exact⟨fun h=>⟨j,by (first|lia|omega),h2⟩,fun ⟨i,hi,h⟩=>by have:=row_eq h2 h; (first|lia|omega)⟩
end Core
namespace Core
open PySem L2 PP
theorem cut_to {xs:List PV}{w:Int} (h:0<=w):cutP xs none (some w)=xs.take w.toNat:=by
 unfold cutP
 rw [HT.sIx_none,List.drop_zero,Nat.sub_zero]
 have:HT.sIx xs.length xs.length (some w)=min w.toNat xs.length:=by
  show (if w < 0 then (w+(xs.length:Int)).toNat else min w.toNat xs.length)=_
  rw [if_neg (by (first|lia|omega))]
 rw [this,<- List.take_take,List.take_length]
theorem getD_pos {n:Int}{ws:List Int}{ls:List (Int × Int)} (w:W63 n ws ls) (k:Nat):0<=ws.getD k 0:=by
 rw [List.getD_eq_getElem?_getD]
 cases e:ws[k]? with
 | none=>exact Int.le_refl _
 | some x=>exact w.pos x (List.mem_of_getElem? e)
theorem sto_tupI (g:Tg) (ns:List Int):Sto g (.tup (intz ns)):=by cases g <;> first | exact trivial | exact flat_tupI ns
end Core
namespace Core
open PySem L2 PP
noncomputable def rkP (rs:List (List Int)) (h:Int):PV:=match rkOf rs h with
 | none=>.non
 | some k=>.int (k:Int)
noncomputable def rkL (n:Nat) (rs:List (List Int)):List PV:=(List.range n).map fun (h:Nat)=>rkP rs (h:Int)
theorem rkL_len (n:Nat) (rs:List (List Int)):(rkL n rs).length=n:=by unfold rkL; rw [List.length_map,List.length_range]
theorem rkL_at {n:Nat}{rs:List (List Int)}{h:Int} (h0:0<=h) (h1:h < (n:Int)):atI (rkL n rs) h=some (rkP rs h):=by
 refine atI_int h0 ?_
 unfold rkL
 rw [List.getElem?_map,List.getElem?_range (by (first|lia|omega))]
 show some (rkP rs ((h.toNat:Nat):Int))=_
 rw [show ((h.toNat:Nat):Int)=h by (first|lia|omega)]
theorem rkOf_app (rs:List (List Int)) (r:List Int) (h:Int):rkOf (rs ++ [r]) h=(rkOf rs h).or (if h ∈ r then some rs.length else none):=by
 unfold rkOf
 rw [List.findIdx?_append]
 congr 1
 by_cases e:h ∈ r
 ·rw [if_pos e]; simp [List.findIdx?_cons,e]
 ·rw [if_neg e]; simp [List.findIdx?_cons,e]
theorem rkOf_out {rs:List (List Int)}{h:Int} (hn:h ∉ rs.flatten):rkOf rs h=none:=by
 unfold rkOf
 rw [List.findIdx?_eq_none_iff]
 intro r hr
 exact decide_eq_false fun z=>hn (List.mem_flatten.mpr ⟨r,hr,z⟩)
theorem rkL_put {n:Nat}{rs:List (List Int)}{r:List Int}{j:Nat}{o:Int} (ho:r[j]? = some o) (o0:0<=o) (hn:o ∉ rs.flatten) :
  (rkL n (rs ++ [r.take j])).set o.toNat (.int (rs.length:Int))=rkL n (rs ++ [r.take (j+1)]):=by
 have mt:∀ x:Int,x ∈ r.take (j+1) ↔ x ∈ r.take j ∨ x=o:=fun x=>by
  rw [List.take_add_one,ho,List.mem_append]; simp
 unfold rkL
 apply List.ext_getElem?
 intro i
 rw [List.getElem?_set,List.length_map,List.length_range,List.getElem?_map,List.getElem?_map]
 by_cases hi:i < n
 ·rw [List.getElem?_range hi]
  by_cases e:o.toNat=i
  ·rw [if_pos e,if_pos (by (first|lia|omega))]
   have ei:((i:Nat):Int)=o:=by (first|lia|omega)
   show _=some (rkP _ ((i:Nat):Int))
   rw [ei]
   unfold rkP
   rw [rkOf_app,rkOf_out hn,if_pos ((mt o).mpr (.inr rfl))]; rfl
  ·rw [if_neg e]
   show some (rkP _ ((i:Nat):Int))=some (rkP _ ((i:Nat):Int))
   unfold rkP
   rw [rkOf_app,rkOf_app]
   have:((i:Nat):Int) ≠ o:=by (first|lia|omega)
   by_cases hm:((i:Nat):Int) ∈ r.take j
   ·rw [if_pos hm,if_pos ((mt _).mpr (.inl hm))]
   ·rw [if_neg hm,if_neg fun z=>((mt _).mp z).elim hm this]
 ·rw [List.getElem?_eq_none (by rw [List.length_range]; (first|lia|omega))]
  by_cases e:o.toNat=i
  ·rw [if_pos e,if_neg (by (first|lia|omega))]; rfl
  ·rw [if_neg e]; rfl
theorem rkL_nil (n:Nat) (rs:List (List Int)):rkL n (rs ++ [[]])=rkL n rs:=by
 unfold rkL
 refine List.map_congr_left fun h _=>?_
 unfold rkP
 rw [rkOf_app,if_neg (fun z=>nomatch z),Option.or_none]
theorem rkL_none (n:Nat):rkL n []=(List.replicate n [PV.non]).flatten:=by
 unfold rkL
 induction n with
 | zero=>rfl
 | succ n ih=>rw [List.range_succ,List.map_append,ih,List.replicate_succ',List.flatten_append]; rfl
theorem flats_rep_non:∀ n:Nat,flats (List.replicate n [PV.non]).flatten=true
 | 0=>rfl
 | n+1=>by rw [List.replicate_succ,List.flatten_cons]; exact flats_rep_non n
theorem stp_inn {ws:List Int}{ls:List (Int × Int)}{ns:List Int} (hs:isSetB ws.length ns=true) {k:Nat}{x:Int} (h:x ∈ stp ws ls ns k):0<=x/\x < (ws.length:Int):=by
 obtain ⟨j,_,hj⟩:=(mem_stp k).mp h
 cases j with
 | zero=>exact (set_ok hs).2 x hj
 | succ j=>
  have hj:x ∈ nextOf ws ls (stp ws ls ns j):=hj
  unfold nextOf at hj
  exact mem_rng.mp (List.mem_filter.mp hj).1
noncomputable def p_law_ranks:PSp:=fun xs Q=>∃ ws ls ns,xs = [webP ws ls,.tup (intz ns)]/\W63 (ws.length:Int) ws ls/\ws.length<=40/\isSetB ws.length ns=true/\∀ m,Ends ws ls ns m->Q (.lst (rkL ws.length (ns :: after ws ls ns m)))
noncomputable def t_law_ranks:PTS:=(qSeq (qOwn 2 (qRep (qLst (qCons (qC .non) qNil)) (qCall RLen (qCons (qIx (qVar 0) (qC (.int 0))) qNil))))
 (qSeq (qFor (qEnum (qCall p_law_rounds (qCons (qVar 0) (qCons (qVar 1) qNil)))) (pPair 3 4)
  (qFor (qSeqI (qVar 4)) (pName 5)
   (qLPut 2 (qVar 5) (qVar 3))))
 (qRetV 2)))
theorem rd_law_ranks:Rd1 t_law_ranks ["web","seeds","ranks","rank","some","hearth"] p_law_ranks:=by
 rintro xs Q ⟨ws,ls,ns,rfl,w,few,hs,q⟩
 have wb:=w.wb (by (first|lia|omega))
 refine⟨by show 1<=1000; decide,rfl,_,rfl,_,_,_,rfl,rfl,rfl,_,_,rfl,rfl,_,_,rfl,rfl,rfl,by rw [ints_len]; (first|lia|omega),by rw [ints_len]; (first|lia|omega),by show 1<=10; decide,rfl,flats_rep_non _,?_⟩
 refine⟨_,rfl,_,rfl,ws,ls,ns,rfl,w,few,hs,fun m en=>⟨_,.inl rfl,fun z=>(by cases z),?_⟩⟩
 have fl:=stp_flat ws ls ns m
 have nd:=stp_nd (ls:=ls) hs m
 have inn:∀ x ∈ (ns :: after ws ls ns m).flatten,0<=x/\x < (ws.length:Int):=fun x hx=>by
  rw [fl] at hx
  exact stp_inn hs hx
 generalize hrs:ns :: after ws ls ns m=rs at fl inn
 rw [<- fl] at nd
 refine⟨fun i ρ=>∃ y z u,ρ = [some (.sh (flat (webP ws ls)) (webP ws ls)),some (.sh (flat (.tup (intz ns))) (.tup (intz ns))),some (.own (.lst (rkL ws.length (rs.take i)))),y,z,u],⟨none,none,none,?_⟩,?_,?_⟩
 ·rw [List.take_zero,rkL_none]
  have e:(((intz ws).length:Nat):Int).toNat=ws.length:=by rw [ints_len]; (first|lia|omega)
  show [_,_,some (Slot.own (.lst (List.replicate (((intz ws).length:Nat):Int).toNat [PV.non]).flatten)),_,_,_]=_
  rw [e]
 ·rintro i y ρ hy ⟨y0,z0,u0,rfl⟩
  obtain ⟨y,hy2,rfl⟩:=enumP_at hy
  obtain ⟨r,rfl,hr⟩:=tups_get hy2
  have tk:rs.take (i+1)=rs.take i ++ [r]:=by rw [List.take_add_one,hr]; rfl
  have il:(rs.take i).length=i:=by
   have:=(List.getElem?_eq_some_iff.mp hr).1
   rw [List.length_take]; (first|lia|omega)
  have nd2:((rs.take i).flatten ++ r).Nodup/\∀ x ∈ r,x ∈ rs.flatten:=by
   have e:rs.flatten=((rs.take i).flatten ++ r) ++ (rs.drop (i+1)).flatten:=by
    rw [<- List.flatten_singleton (l:=r),<- List.flatten_append,<- tk,<- List.flatten_append,List.take_append_drop]
   rw [e] at nd ⊢
   exact⟨(List.nodup_append.mp nd).1,fun x hx=>List.mem_append_left _ (List.mem_append_right _ hx)⟩
  refine⟨_,_,rfl,_,rfl,_,rfl,fun z=>(by cases z),fun j ρ=>∃ u,ρ = [some (.sh (flat (webP ws ls)) (webP ws ls)),some (.sh (flat (.tup (intz ns))) (.tup (intz ns))),some (.own (.lst (rkL ws.length (rs.take i ++ [r.take j])))),some (.sh true (.int (i:Int))),some (.sh true (.tup (intz r))),u],⟨u0,?_⟩,?_,?_⟩
  ·rw [List.take_zero,rkL_nil]
   rfl
  ·rintro j y ρ hy ⟨u1,rfl⟩
   obtain ⟨n,rfl,hn⟩:=ints_get hy
   have nr:n ∈ r:=List.mem_of_getElem? hn
   have n01:=inn n (nd2.2 n nr)
   have nn:n ∉ (rs.take i).flatten:=fun z=>(List.nodup_append.mp nd2.1).2.2 n z n nr rfl
   refine⟨_,rfl,_,rfl,_,rfl,n,n.toNat,rfl,?_,trivial,si n,?_⟩
   ·unfold ixN
    rw [rkL_len,if_pos n01.1,if_pos n01.2]
   ·have:=rkL_put (n:=ws.length) hn n01.1 nn
    rw [il] at this
    rw [<- this]
    rfl
  ·rintro ρ ⟨u,rfl⟩
   refine⟨some (.sh true (.int i)),some (.sh true (.tup (intz r))),u,?_⟩
   rw [ints_len,List.take_length,tk]
 ·rintro ρ ⟨y,z,u,rfl⟩
  rw [enumP_len,tups_len,List.take_length,<- hrs]
  exact⟨_,rfl,trivial,q m en⟩
end Core
namespace L2
open PySem PySem.Spec PyProof.Rows
theorem preSum_list:∀ (n:Nat) (ns:List Int),n<=ns.length->preSum (fun i=>ns.getD i 0) n=(ns.take n).sum
 | 0,_,_=>by simp [preSum]
 | n+1,ns,h=>by
  show preSum (fun i=>ns.getD i 0) n+ns.getD n 0=_
  have h1:ns[n]? = some (ns[n]'(by (first|lia|omega))):=List.getElem?_eq_getElem (by (first|lia|omega))
  have h2:ns.take (n+1)=ns.take n ++ [ns[n]'(by (first|lia|omega))]:=by rw [List.take_add_one,h1]; rfl
  have h3:ns.getD n 0=ns[n]'(by (first|lia|omega)):=by rw [List.getD_eq_getElem?_getD,h1]; rfl
  rw [preSum_list n ns (by (first|lia|omega)),h2,h3,List.sum_append,List.sum_cons,List.sum_nil]
  (first|lia|omega)
section
variable {X : Cx}
theorem call_sumI (hc:X.calm=true):CallR X (.builtin "sum") (fun xs H Q=>∃ (a:Addr) (ns:List Int),xs = [.ref a]/\(SqL X.K H a (ns.map V.int) ∨ SqT X.K H a (ns.map V.int))/\Q (.int ns.sum) H):=by
 intro pins s σ H xs us Q I r h
 obtain ⟨a,ns,rfl,hq,q⟩:=h
 obtain ⟨u,rfl,ru⟩:=vals1 r
 cases ru
 have hh:X.A.in1.handled=none:=I.ok.hd hc
 have fin:∀ (its:List Value) (o:Obj) (wr:List Addr) (hw:∀ b ∈ wr,s.heap.objs.size<=b),Vals (ns.map V.int) its->∀ s' t',Moved wr (fun a b=>b=a) { s with heap:=s.heap.push o } s'->
   ∃ x H',Inv X pins σ H' s'/\RelV x (.int (preSum (fun i=>ns.getD i 0) its.toArray.size) t')/\Q x H':=fun its o wr hw rv s' t' hm=>by
  have hl:=rv.length
  rw [List.length_map] at hl
  have e:=Moved.eq_with hm
  have e2:preSum (fun i=>ns.getD i 0) its.toArray.size=ns.sum:=by rw [List.size_toArray,<- hl,preSum_list _ _ (Nat.le_refl _),List.take_length]
  rw [e2,e]
  refine⟨.int ns.sum,H,I.kept (t':=s'.toks) (h':=s'.heap) fun b o' eb=>hm.heap b o' (fun z=>?_) (Heap.get?_push_of_some _ eb),⟨t',rfl⟩,q⟩
  exact absurd (Heap.lt_size eb) (Nat.not_lt.mpr (hw b z))
 have val:∀ (its:List Value),Vals (ns.map V.int) its->∀ (i:Nat) (v:Value),its.toArray[i]? = some v->∃ t,v = .int (ns.getD i 0) t:=fun its rv i v hv=>by
  have hi:its[i]? = some v:=by simpa using hv
  have hl:=rv.length
  rw [List.length_map] at hl
  have hil:i < ns.length:=by rw [hl]; exact (List.getElem?_eq_some_iff.mp hi).1
  obtain ⟨u,e1,e2⟩:=rv.get (i:=i) (x:=.int ns[i]) (by simp [hil])
  rw [hi] at e1; cases e1
  obtain ⟨t,rfl⟩:=e2
  exact⟨t,by rw [List.getD_eq_getElem?_getD,List.getElem?_eq_getElem hil]; rfl⟩
 rcases hq with hq | hq
 ·obtain ⟨its,rv,p,hz⟩:=I.list hq
  have hlt:a < s.heap.objs.size:=by obtain ⟨o,e,_⟩:=p.isList; exact Heap.lt_size e
  refine call_sum_walkAnyS (wpAny_pyIter_list p.isList ?_)
  refine⟨s.heap.objs.size,_,_,_,_,_,_,fun i=>ns.getD i 0,rfl,(Walks.list hh s.heap.objs.size a (Nat.ne_of_lt hlt) its.toArray).toS,⟨⟨_,Heap.get?_push_size _ rfl,rfl,rfl⟩,p.isList.push _⟩,?_,val its rv,fun s' t' hm=>fin its _ _ ?_ rv s' t' hm⟩
  ·intro b hb
   have hs:(s.heap.push { cls:=.type "list_iterator",data:=.fields #[.ref a,.int 0 0] }).objs.size=s.heap.objs.size+1:=size_push' _ _
   show b < (s.heap.push _).objs.size
   rw [size_push']
   rcases List.mem_cons.mp hb with rfl | hb
   ·exact Nat.lt_succ_self _
   ·rw [List.mem_singleton.mp hb]; exact Nat.lt_succ_of_lt hlt
  ·intro b hb
   rw [List.mem_singleton.mp hb]; exact Nat.le_refl _
 ·obtain ⟨its,rv,p,hz⟩:=I.tuple hq
  have hlt:a < s.heap.objs.size:=by obtain ⟨o,e,_⟩:=p; exact Heap.lt_size e
  refine call_sum_walkAnyS (wpAny_pyIter_tuple p ?_)
  refine⟨s.heap.objs.size,_,_,_,_,_,_,fun i=>ns.getD i 0,rfl,(Walks.tuple hh s.heap.objs.size a (Nat.ne_of_lt hlt) its.toArray).toS,⟨⟨_,Heap.get?_push_size _ rfl,rfl,rfl⟩,?_⟩,?_,val its rv,fun s' t' hm=>fin its _ _ ?_ rv s' t' hm⟩
  ·obtain ⟨o,e,h⟩:=p
   exact⟨o,Heap.get?_push_of_some _ e,h⟩
  ·intro b hb
   show b < (s.heap.push _).objs.size
   rw [size_push']
   rcases List.mem_cons.mp hb with rfl | hb
   ·exact Nat.lt_succ_self _
   ·rw [List.mem_singleton.mp hb]; exact Nat.lt_succ_of_lt hlt
  ·intro b hb
   rw [List.mem_singleton.mp hb]; exact Nat.le_refl _
theorem call_anyB (hc:X.calm=true):CallR X (.builtin "any") (fun xs H Q=>∃ (a:Addr) (bs:List Bool),xs = [.ref a]/\SqL X.K H a (bs.map V.bl)/\Q (.bl (bs.any id)) H):=by
 intro pins s σ H xs us Q I r h
 obtain ⟨a,bs,rfl,hq,q⟩:=h
 obtain ⟨u,rfl,ru⟩:=vals1 r
 cases ru
 obtain ⟨its,rv,p,hz⟩:=I.list hq
 have hl:=rv.length
 rw [List.length_map] at hl
 have hlt:a < s.heap.objs.size:=by obtain ⟨o,e,_⟩:=p.isList; exact Heap.lt_size e
 refine call_any_walk (wpAny_pyIter_list p.isList ?_)
 have hh:X.A.in1.handled=none:=I.ok.hd hc
 refine⟨s.heap.objs.size,_,_,_,_,_,fun i=>bs.getD i false,rfl,Walks.list hh s.heap.objs.size a (Nat.ne_of_lt hlt) its.toArray,⟨⟨_,Heap.get?_push_size _ rfl,rfl,rfl⟩,p.isList.push _⟩,?_,fun h' tk kp=>?_⟩
 ·intro i v s' Q' E' hP hQ'
  have hi:its[i]? = some v:=by simpa using hP
  have hil:i < bs.length:=by rw [hl]; exact (List.getElem?_eq_some_iff.mp hi).1
  obtain ⟨u,e1,e2⟩:=rv.get (i:=i) (x:=.bl bs[i]) (by simp [hil])
  rw [hi] at e1; cases e1
  cases e2
  have:bs.getD i false=bs[i]:=by rw [List.getD_eq_getElem?_getD,List.getElem?_eq_getElem hil]; rfl
  have hQ2:Q' (bs.getD i false) s':=hQ'
  rw [this] at hQ2
  exact wpAny_truthy_bool hQ2
 ·have any_eq:(List.range its.toArray.size).any (fun i=>bs.getD i false)=bs.any id:=by
   rw [List.size_toArray,<- hl]
   clear q rv hz hl hq hlt p hh kp
   induction bs with
   | nil=>rfl
   | cons b r ih=>
    rw [List.length_cons,List.range_succ_eq_map,List.any_cons,List.any_map,List.any_cons,<- ih]
    rfl
  rw [any_eq]
  refine⟨.bl (bs.any id),H,I.kept (t':=tk) (h':=h') fun b o e=>kp b o (fun z=>?_) (Heap.get?_push_of_some _ e),rfl,q⟩
  rw [List.mem_singleton.mp z] at e
  exact absurd (Heap.lt_size e) (Nat.lt_irrefl _)
end
end L2
namespace Zp
open PySem PyProof.Rows
noncomputable def mix5 (h:Heap) (t u:Addr):Heap:=
 ((((h.push { cls:=.type "tuple_iterator",data:=.fields #[.ref t,.int 0 0] }).push { cls:=.type "list_iterator",data:=.fields #[.ref u,.int 0 0] }).push { cls:=.type "tuple",data:=.seq #[.ref h.objs.size,.ref (h.objs.size+1)] }).push
  { cls:=.type "tuple",data:=.seq #[.none,.none] }).push { cls:=.type "zip",data:=.fields #[.none,.bool false,.bool false,.ref (h.objs.size+2),.ref (h.objs.size+3)] }
theorem meets_tl (t u:Addr) (xs ys:Array Value):Meets (Builtin.«zip.__new__» ⟨[.type "zip",.ref t,.ref u],[]⟩) (fun _ R s=>s.heap.IsTuple t xs/\s.heap.IsList u ys/\R (.ok (.ret (.ref (s.heap.objs.size+4)))) { s with heap:=mix5 s.heap t u }):=
 .of_wp fun prog w A R s h=>by
  obtain ⟨hp,g,d,tk,os⟩:=s
  obtain ⟨ht,hu,h⟩:=h
  have sub:=sub_zip
  have a1:Heap.IsTuple (Shared.heap ⟨hp,g,d,tk,os⟩) t xs:=ht
  have a2:Heap.IsList (Shared.heap ⟨hp.push { cls:=.type "tuple_iterator",data:=.fields #[.ref t,.int 0 0] },g,d,tk,os⟩) u ys:=hu.push _
  wp_walk using wpAny_pyIter_tuple a1,wpAny_pyIter_list a2
  have e:∀ (o:Obj) (k:Heap),(k.push o).objs.size=k.objs.size+1:=fun o k=>Heap.size_push ..
  refine⟨_,rfl,?_⟩
  simp only [mix5,e] at h ⊢
  exact h
section
variable {prog : Program} {w : World} {A : Around} {E : Value → Shared → Prop} {s : Shared}
theorem call_tl {t u:Addr}{xs ys:Array Value}{Q:Value->Shared->Prop} (ht:s.heap.IsTuple t xs) (hu:s.heap.IsList u ys)
  (q:∀ h',IsZip h' (s.heap.objs.size+4) (s.heap.objs.size+2) (s.heap.objs.size+3) .none->IsPair h' (s.heap.objs.size+2) (.ref s.heap.objs.size) (.ref (s.heap.objs.size+1))->
   IsPair h' (s.heap.objs.size+3) .none .none->h'.IsTupleIter s.heap.objs.size t 0->h'.IsListIter (s.heap.objs.size+1) u 0->(∀ c o,s.heap.get? c=some o->h'.get? c=some o)->Q (.ref (s.heap.objs.size+4)) { s with heap:=h' }) :
  wpAny (model prog w) A (call (.type "zip") [.ref t,.ref u]) Q E s:=by
 refine callType_new PySem.F.called_zip (by decide) (PySem.F.typeCall_zip_2 _ _) (PySem.F.newCall_zip_2 _ _) (fun obj=>PySem.F.args_object_init_3 obj _ _) PySem.F.entry_zip_new (meets_tl t u xs ys) ⟨ht,hu,?_⟩
 have e:∀ (o:Obj) (k:Heap),(k.push o).objs.size=k.objs.size+1:=fun o k=>Heap.size_push ..
 have p0:∀ (k:Heap) (o:Obj) (m:Nat),o.isFreed=false->m=k.objs.size->(k.push o).get? m=some o:=fun k o m f z=>by rw [z]; exact Heap.get?_push_size _ f
 have g0:(mix5 s.heap t u).get? s.heap.objs.size=some { cls:=.type "tuple_iterator",data:=.fields #[.ref t,.int 0 0] }:=by
  unfold mix5
  exact Heap.get?_push_of_some _ (Heap.get?_push_of_some _ (Heap.get?_push_of_some _ (Heap.get?_push_of_some _ (p0 _ _ _ rfl rfl))))
 have g1:(mix5 s.heap t u).get? (s.heap.objs.size+1)=some { cls:=.type "list_iterator",data:=.fields #[.ref u,.int 0 0] }:=by
  unfold mix5
  exact Heap.get?_push_of_some _ (Heap.get?_push_of_some _ (Heap.get?_push_of_some _ (p0 _ _ _ rfl (by simp only [e]))))
 have g2:(mix5 s.heap t u).get? (s.heap.objs.size+2)=some { cls:=.type "tuple",data:=.seq #[.ref s.heap.objs.size,.ref (s.heap.objs.size+1)] }:=by
  unfold mix5
  exact Heap.get?_push_of_some _ (Heap.get?_push_of_some _ (p0 _ _ _ rfl (by simp only [e])))
 have g3:(mix5 s.heap t u).get? (s.heap.objs.size+3)=some { cls:=.type "tuple",data:=.seq #[.none,.none] }:=by
  unfold mix5
  exact Heap.get?_push_of_some _ (p0 _ _ _ rfl (by simp only [e]))
 have g4:(mix5 s.heap t u).get? (s.heap.objs.size+4)=some { cls:=.type "zip",data:=.fields #[.none,.bool false,.bool false,.ref (s.heap.objs.size+2),.ref (s.heap.objs.size+3)] }:=by
  unfold mix5
  exact p0 _ _ _ rfl (by simp only [e])
 refine⟨⟨_,g4,rfl⟩,q _ g4 g2 g3 ⟨_,g0,rfl,rfl⟩ ⟨_,g1,rfl,rfl⟩ fun c o z=>?_⟩
 unfold mix5
 exact Heap.get?_push_of_some _ (Heap.get?_push_of_some _ (Heap.get?_push_of_some _ (Heap.get?_push_of_some _ (Heap.get?_push_of_some _ z))))
end
end Zp
namespace L2
open PySem PySem.Spec PyProof.Rows
noncomputable def ItzM (K:PySem.W.Frag) (a b:Addr):It:=
  ⟨fun i H=>∃ xs ys x y,SqT K H a xs/\SqL K H b ys/\xs[i]? = some x/\ys[i]? = some y,
   fun i H v H'=>∃ T x y,H T=none/\v = .ref T/\H'=upd H T (.tup [x,y])/\∀ xs ys,SqT K H a xs->SqL K H b ys->xs[i]? = some x/\ys[i]? = some y,
   fun i H=>∃ xs ys,SqT K H a xs/\SqL K H b ys/\(i=xs.length ∨ (i < xs.length/\i=ys.length))⟩
noncomputable abbrev ZNowM:=ZNowG true false
theorem turn_zipM {P:Program}{w:World}{K:PySem.W.Frag}{elts:List Expr}{k:Nat}{pos:Pos} (a b z TI TO i1 i2:Addr) (d : [z,TI,TO,i1,i2].Nodup) :
  Turn P w K (.Tuple elts k pos) (ItzM K a b) [z,TI,TO,i1,i2] z (ZNowM z TI TO i1 i2 a b):=turn_zipG true false a b z TI TO i1 i2 d
section
variable {X : Cx}
noncomputable def iZipM (K:PySem.W.Frag) (ta:TA):TI:=fun σ H R=>ta σ H fun vs H1=>∃ a b xs ys,vs = [.ref a,.ref b]/\SqT K H1 a xs/\SqL K H1 b ys/\R (ItzM K a b) H1
theorem pi_zipM {elts:List Expr}{kt:Nat}{pt:Pos}{a b:Expr}{ta:TA}{p pos:Pos} (hg:Gl X "zip") (hm:X.mg "zip" = none) (ha:PA X [a,b] ta) (hs:starEach [a,b] X.env = [(false,eval a X.env),(false,eval b X.env)]:=by rfl) (hs2:starEach [b] X.env = [(false,eval b X.env)]:=by rfl) :
  PI X (.Tuple elts kt pt) (.Call (.Name "zip" p) [a,b] [] pos) (iZipM X.K ta):=by
 intro pins s σ H R I h
 refine Call_ (ld_blt I hg hm PyProof.Rows.boot_zip (PyProof.Rows.callWith_type1 (thn (ha pos pins s σ H _ I h) fun us s1 ⟨vs,H1,I1,r1,q1⟩=>?_) (by rw [hs,hs2]) (by rw [hs2]; rfl)))
 obtain ⟨a',b',xs,ys,e,h1,h2,q⟩:=q1
 subst e
 cases r1 with
 | cons r rr=>
  cases rr with
  | cons r' rr=>
   cases rr
   cases r
   cases r'
   obtain ⟨us,_,p1,_⟩:=I1.tuple h1
   obtain ⟨ws,_,p2,_⟩:=I1.list h2
   refine Zp.call_tl p1 p2.isList fun h' z ti to s1' s2' kp=>wpAny_pyIter_zip z ?_
   have fresh:∀ k,H1 (s1.heap.objs.size+k)=none:=fun k=>I1.hok.fresh (Nat.le_add_right _ _)
   refine⟨s1.heap.objs.size+4,[s1.heap.objs.size+4,s1.heap.objs.size+2,s1.heap.objs.size+3,s1.heap.objs.size,s1.heap.objs.size+1],_,_,H1,rfl,I1.kept (t':=s1.toks) kp,
    turn_zipM a' b' _ _ _ _ _ (by simp),⟨z,ti,⟨_,_,to⟩,s1',s2'⟩,fun c hc=>?_,q⟩
   simp only [List.mem_cons,List.not_mem_nil,or_false] at hc
   rcases hc with rfl | rfl | rfl | rfl | rfl
   ·exact I1.fpOk (Nat.le_add_right _ _) (fresh 4)
   ·exact I1.fpOk (Nat.le_add_right _ _) (fresh 2)
   ·exact I1.fpOk (Nat.le_add_right _ _) (fresh 3)
   ·exact I1.fpOk (Nat.le_refl _) (fresh 0)
   ·exact I1.fpOk (Nat.le_add_right _ _) (fresh 1)
end
section
variable {X : Cx}
noncomputable def iZipA (K:PySem.W.Frag) (ta:TA):TI:=fun σ H R=>ta σ H fun vs H1=>∃ a b,vs = [.ref a,.ref b]/\((∃ xs ys,SqT K H1 a xs/\SqT K H1 b ys/\R (Itz K a b) H1) ∨ ∃ xs ys,SqT K H1 a xs/\SqL K H1 b ys/\R (ItzM K a b) H1)
theorem pi_zipA {elts:List Expr}{kt:Nat}{pt:Pos}{a b:Expr}{ta:TA}{p pos:Pos} (hg:Gl X "zip") (hm:X.mg "zip" = none) (ha:PA X [a,b] ta) (hs:starEach [a,b] X.env = [(false,eval a X.env),(false,eval b X.env)]:=by rfl) (hs2:starEach [b] X.env = [(false,eval b X.env)]:=by rfl) :
  PI X (.Tuple elts kt pt) (.Call (.Name "zip" p) [a,b] [] pos) (iZipA X.K ta):=by
 intro pins s σ H R I h
 refine Call_ (ld_blt I hg hm PyProof.Rows.boot_zip (PyProof.Rows.callWith_type1 (thn (ha pos pins s σ H _ I h) fun us s1 ⟨vs,H1,I1,r1,q1⟩=>?_) (by rw [hs,hs2]) (by rw [hs2]; rfl)))
 obtain ⟨a',b',e,q1⟩:=q1
 rcases q1 with ⟨xs,ys,h1,h2,q⟩ | ⟨xs,ys,h1,h2,q⟩
 ·subst e
  cases r1 with
  | cons r rr=>
   cases rr with
   | cons r' rr=>
    cases rr
    cases r
    cases r'
    obtain ⟨us,_,p1,_⟩:=I1.tuple h1
    obtain ⟨ws,_,p2,_⟩:=I1.tuple h2
    refine Zp.call_tt p1 p2 fun h' z ti to s1' s2' kp=>wpAny_pyIter_zip z ?_
    have fresh:∀ k,H1 (s1.heap.objs.size+k)=none:=fun k=>I1.hok.fresh (Nat.le_add_right _ _)
    refine⟨s1.heap.objs.size+4,[s1.heap.objs.size+4,s1.heap.objs.size+2,s1.heap.objs.size+3,s1.heap.objs.size,s1.heap.objs.size+1],_,_,H1,rfl,I1.kept (t':=s1.toks) kp,
     turn_zip a' b' _ _ _ _ _ (by simp),⟨z,ti,⟨_,_,to⟩,s1',s2'⟩,fun c hc=>?_,q⟩
    simp only [List.mem_cons,List.not_mem_nil,or_false] at hc
    rcases hc with rfl | rfl | rfl | rfl | rfl
    ·exact I1.fpOk (Nat.le_add_right _ _) (fresh 4)
    ·exact I1.fpOk (Nat.le_add_right _ _) (fresh 2)
    ·exact I1.fpOk (Nat.le_add_right _ _) (fresh 3)
    ·exact I1.fpOk (Nat.le_refl _) (fresh 0)
    ·exact I1.fpOk (Nat.le_add_right _ _) (fresh 1)
 ·subst e
  cases r1 with
  | cons r rr=>
   cases rr with
   | cons r' rr=>
    cases rr
    cases r
    cases r'
    obtain ⟨us,_,p1,_⟩:=I1.tuple h1
    obtain ⟨ws,_,p2,_⟩:=I1.list h2
    refine Zp.call_tl p1 p2.isList fun h' z ti to s1' s2' kp=>wpAny_pyIter_zip z ?_
    have fresh:∀ k,H1 (s1.heap.objs.size+k)=none:=fun k=>I1.hok.fresh (Nat.le_add_right _ _)
    refine⟨s1.heap.objs.size+4,[s1.heap.objs.size+4,s1.heap.objs.size+2,s1.heap.objs.size+3,s1.heap.objs.size,s1.heap.objs.size+1],_,_,H1,rfl,I1.kept (t':=s1.toks) kp,
     turn_zipM a' b' _ _ _ _ _ (by simp),⟨z,ti,⟨_,_,to⟩,s1',s2'⟩,fun c hc=>?_,q⟩
    simp only [List.mem_cons,List.not_mem_nil,or_false] at hc
    rcases hc with rfl | rfl | rfl | rfl | rfl
    ·exact I1.fpOk (Nat.le_add_right _ _) (fresh 4)
    ·exact I1.fpOk (Nat.le_add_right _ _) (fresh 2)
    ·exact I1.fpOk (Nat.le_add_right _ _) (fresh 3)
    ·exact I1.fpOk (Nat.le_refl _) (fresh 0)
    ·exact I1.fpOk (Nat.le_add_right _ _) (fresh 1)
end
end L2
namespace PP
open PySem L2 PyProof.Rows
section
variable {X : Cx} {a b e : Expr} {ta tb te : PTE} {tr : PTA} {pos p2 : Pos}
noncomputable def RSum:List PV->(PV->Prop)->Prop:=fun xs Q=>∃ x ns,xs = [x]/\seqOf x=some (intz ns)/\Q (.int ns.sum)
theorem cov_sum:CovC X RSum (fun xs H Q=>∃ (a:Addr) (ns:List Int),xs = [.ref a]/\(SqL X.K H a (ns.map V.int) ∨ SqT X.K H a (ns.map V.int))/\Q (.int ns.sum) H):=by
 rintro H vs xs Q Q' r ⟨x,ns,rfl,e,q⟩ k
 obtain ⟨v,rfl,r1⟩:=r.one
 obtain ⟨a,us,rfl,hs,r2⟩:=r1.seq e
 obtain rfl:=r2.ofInts
 exact⟨a,ns,rfl,hs,k _ _ _ (Same.refl _) (.int _) q⟩
theorem q_sum (B:Bt X.mg) (hc:X.calm=true) (ha:QA X [e] tr) (hg:Gl X "sum":=by rfl) (he:starEach [e] X.env=(false,eval e X.env) :: starEach [] X.env:=by rfl) (hpl:(backTo pos (starEach [] X.env)).any (·.1)=false:=by rfl):QE X (.Call (.Name "sum" p2) [e] [] pos) (qCall RSum tr):=
 q_blt (call_sumI hc) cov_sum hg B.sum PyProof.Rows.boot_sum ha (he:=he) (hpl:=hpl)
noncomputable def RAny:List PV->(PV->Prop)->Prop:=fun xs Q=>∃ bs:List Bool,xs = [.lst (bs.map PV.bl)]/\Q (.bl (bs.any id))
theorem cov_any:CovC X RAny (fun xs H Q=>∃ (a:Addr) (bs:List Bool),xs = [.ref a]/\SqL X.K H a (bs.map V.bl)/\Q (.bl (bs.any id)) H):=by
 rintro H vs xs Q Q' r ⟨bs,rfl,q⟩ k
 obtain ⟨v,rfl,r1⟩:=r.one
 obtain ⟨a,us,rfl,_,h,r2⟩:=r1.sqL
 obtain rfl:=r2.ofBls
 exact⟨a,bs,rfl,SqL.of h,k _ _ _ (Same.refl _) (.bl _) q⟩
theorem q_any (B:Bt X.mg) (hc:X.calm=true) (ha:QA X [e] tr) (hg:Gl X "any":=by rfl) (he:starEach [e] X.env=(false,eval e X.env) :: starEach [] X.env:=by rfl) (hpl:(backTo pos (starEach [] X.env)).any (·.1)=false:=by rfl):QE X (.Call (.Name "any" p2) [e] [] pos) (qCall RAny tr):=
 q_blt (call_anyB hc) cov_any hg B.any PyProof.Rows.boot_any ha (he:=he) (hpl:=hpl)
end
noncomputable def zipP (xs ys:List PV):List PV:=List.zipWith (fun x y=>PV.tup [x,y]) xs ys
theorem zipP_len (xs ys:List PV):(zipP xs ys).length=min xs.length ys.length:=by unfold zipP; rw [List.length_zipWith]
theorem zipP_get {xs ys:List PV}{i:Nat}{x y:PV} (h:xs[i]? = some x) (h':ys[i]? = some y):(zipP xs ys)[i]? = some (.tup [x,y]):=by
 unfold zipP; rw [List.getElem?_zipWith,h,h']
theorem zipP_at {xs ys:List PV}{i:Nat}{z:PV} (h:(zipP xs ys)[i]? = some z):∃ x y,xs[i]? = some x/\ys[i]? = some y/\z = .tup [x,y]:=by
 unfold zipP at h
 rw [List.getElem?_zipWith] at h
 cases e:xs[i]? with
 | none=>rw [e] at h; cases h
 | some x=>
  cases e':ys[i]? with
  | none=>rw [e,e'] at h; cases h
  | some y=>rw [e,e'] at h; exact⟨x,y,rfl,rfl,(Option.some.inj h).symm⟩
noncomputable def qZipI (ta tb:PTE):PTI:=fun ρ Q=>ta ρ fun x _=>tb ρ fun y g=>∃ xs ys,x = .tup xs/\flats xs=true/\(y = .lst ys ∨ y = .tup ys)/\(g = .rd->flat y=true)/\Q (zipP xs ys) (itG g ys)
theorem iter_zip {K:PySem.W.Frag}{H0:Hp}{W:Addr->Prop}{g:Bool}{H1:Hp}{a b:Addr}{us vs:List V}{xs ys:List PV} (tw:∀ a,W a->∃ o,H1 a=some o/\mutO o=true) (ha:∀ W' H',Ev W H1 W' H'->SqT K H' a us) (hb:∀ W' H',Ev W H1 W' H'->SqT K H' b vs)
  (r:Reps K (Ms H0 W g) H1 us xs) (r':Reps K (Ms H0 W g) H1 vs ys):IterOk K H0 W g H1 (Itz K a b) (zipP xs ys):=by
 have lr:=r.length
 have lr':=r'.length
 have ll:=zipP_len xs ys
 refine⟨fun W' H' i e hi=>⟨us,vs,us[i]'(by (first|lia|omega)),vs[i]'(by (first|lia|omega)),ha W' H' e,hb W' H' e,by simp,by simp⟩,fun W' H' i v H2 e y hi=>?_,fun W' H' e=>⟨us,vs,ha W' H' e,hb W' H' e,by (first|lia|omega)⟩⟩
 obtain ⟨T,x,y',hT,rfl,rfl,y⟩:=y
 obtain ⟨h1,h2⟩:=y us vs (ha W' _ e) (hb W' _ e)
 obtain ⟨z,hz,rz⟩:=r.get h1
 obtain ⟨z',hz',rz'⟩:=r'.get h2
 have sm:=same_new hT (HO.tup [x,y'])
 exact⟨sm,_,zipP_get hz hz',.tup upd_same (.cons ((rz.keep (e.keep tw)).same sm fun _ q=>q) (.cons ((rz'.keep (e.keep tw)).same sm fun _ q=>q) .nil))⟩
theorem iter_zipM {K:PySem.W.Frag}{H0:Hp}{W:Addr->Prop}{g:Bool}{H1:Hp}{a b:Addr}{us vs:List V}{xs ys:List PV} (tw:∀ a,W a->∃ o,H1 a=some o/\mutO o=true) (ha:∀ W' H',Ev W H1 W' H'->SqT K H' a us) (hb:∀ W' H',Ev W H1 W' H'->SqL K H' b vs)
  (r:Reps K (Ms H0 W g) H1 us xs) (r':Reps K (Ms H0 W g) H1 vs ys):IterOk K H0 W g H1 (ItzM K a b) (zipP xs ys):=by
 have lr:=r.length
 have lr':=r'.length
 have ll:=zipP_len xs ys
 refine⟨fun W' H' i e hi=>⟨us,vs,us[i]'(by (first|lia|omega)),vs[i]'(by (first|lia|omega)),ha W' H' e,hb W' H' e,by simp,by simp⟩,fun W' H' i v H2 e y hi=>?_,fun W' H' e=>⟨us,vs,ha W' H' e,hb W' H' e,by (first|lia|omega)⟩⟩
 obtain ⟨T,x,y',hT,rfl,rfl,y⟩:=y
 obtain ⟨h1,h2⟩:=y us vs (ha W' _ e) (hb W' _ e)
 obtain ⟨z,hz,rz⟩:=r.get h1
 obtain ⟨z',hz',rz'⟩:=r'.get h2
 have sm:=same_new hT (HO.tup [x,y'])
 exact⟨sm,_,zipP_get hz hz',.tup upd_same (.cons ((rz.keep (e.keep tw)).same sm fun _ q=>q) (.cons ((rz'.keep (e.keep tw)).same sm fun _ q=>q) .nil))⟩
section
variable {X : Cx} {σ : L2.St} {H : Hp} {ta tb : PTE} {R : It → Hp → Prop}
theorem li_zip (h:LI X (qZipI ta tb) σ H R):iZipA X.K (tCons (LE X ta) (tCons (LE X tb) tNil)) σ H R:=by
 obtain ⟨W,ρ,Q,px,q,k⟩:=h
 refine⟨W,ρ,_,px,q,fun v0 H0 x0 g0 s0 r0 q0=>⟨W,ρ,_,px.mono s0,q0,?_⟩⟩
 rintro v H1 x g s r ⟨xs,ys,rfl,fx,hy,hg,q⟩
 have S:=s0.trans s
 have px1:=px.mono S
 have tw:∀ a,W a->∃ o,H1 a=some o/\mutO o=true:=fun a z=>(px1.wm a z).2
 obtain ⟨a,us,rfl,h1,ra⟩:=(r0.same (M':=fun _=>True) s fun _ _=>trivial).sqT
 have ra2:Reps X.K (Ms X.H₀ W (itG g ys)) H1 us xs:=ra.flat fx
 have sta:∀ W' H',Ev W H1 W' H'->SqT X.K H' a us:=fun W' H' e=>SqT.of (e _ _ h1 fun z=>by obtain ⟨o,h',mu⟩:=tw _ z; rw [h1] at h'; cases h'; cases mu).1
 have rr:=r.same (M':=Mg X.H₀ W H g) (Same.refl _) fun c hc=>by
  cases g with
  | fr=>exact s0.free hc
  | nw=>exact hc
  | sh=>exact hc
  | rd=>exact hc
 rcases hy with rfl | rfl
 ·obtain ⟨b,vs,rfl,m,h,rb⟩:=rr.sqL
  have wa : ¬ W b:=by
   cases g with
   | fr=>exact (px.new m).1
   | nw=>exact m.1
   | sh=>exact m
   | rd=>have:=hg rfl; unfold flat at this; cases this
  exact⟨a,b,rfl,.inr ⟨us,vs,SqT.of h1,SqL.of h,k _ _ _ _ S (iter_zipM tw sta (fun W' H' e=>SqL.of (e _ _ h wa).1) ra2 (itg_reps px (fun z=>by have:=hg z; unfold flat at this; cases this) rb)) q⟩⟩
 ·obtain ⟨b,vs,rfl,h,rb⟩:=rr.sqT
  refine⟨a,b,rfl,.inl ⟨us,vs,SqT.of h1,SqT.of h,k _ _ _ _ S (iter_zip tw sta (fun W' H' e=>SqT.of (e _ _ h fun z=>?_).1) ra2 (itg_reps px (fun z=>by have:=hg z; unfold flat at this; exact this) rb)) q⟩⟩
  obtain ⟨o,h',mu⟩:=tw _ z; rw [h] at h'; cases h'; cases mu
theorem i_zip {elts:List Expr}{kt:Nat}{pt p2 pos:Pos}{a b:Expr} (B:Bt X.mg) (ha:QE X a ta) (hb:QE X b tb) (hg:Gl X "zip":=by rfl) (hs:starEach [a,b] X.env = [(false,eval a X.env),(false,eval b X.env)]:=by rfl) (hs2:starEach [b] X.env = [(false,eval b X.env)]:=by rfl):QI X (.Tuple elts kt pt) (.Call (.Name "zip" p2) [a,b] [] pos) (qZipI ta tb):=
 piI (pi_zipA hg B.zip (pa_cons ha (pa_cons hb pa_nil hs2) (by rw [hs,hs2])) hs hs2) fun _ _ _=>li_zip
end
end PP
namespace Core
open PySem L2 PP
noncomputable def p_made_prices:PSp:=fun xs Q=>∃ (x:PV) (ns:List Int) (m:Nat),xs = [x,.int m]/\IsI x ns/\ns.length=m/\m<=1000000/\(∀ w ∈ ns,0<=w)/\Q (.tup (intz ns))
noncomputable def t_made_prices:PTS:=(qSeq (qIf (qTest (qNe (qCall RLen (qCons (qVar 0) qNil)) (qVar 1))) qNever qNext)
 (qSeq (qIf (qTest (qCall RAny (qCons (qComp (qSeqI (qVar 0)) [none] (pName 0) qYes (qLt (qVar 0) (qC (.int 0)))) qNil))) qNever qNext)
 (qRet (qCall RTuple (qCons (qVar 0) qNil)))))
theorem rd_made_prices:Rd1 t_made_prices ["prices","many"] p_made_prices:=by
 rintro xs Q ⟨x,ns,m,rfl,hx,hl,hm,hp,q⟩
 refine⟨_,rfl,_,_,rfl,hx.len,_,rfl,.inl ⟨_,_,rfl,rfl,_,rfl,?_⟩⟩
 show if (!decide ((ns.length:Int)=(m:Int)))=true then _ else _
 rw [decide_eq_true (by (first|lia|omega))]
 refine iteF ⟨_,rfl,_,hx.seq,seq_tag hx,by rw [ints_len]; (first|lia|omega),fun i acc=>acc=List.replicate i (PV.bl false),rfl,?_,?_⟩
 ·rintro i y acc hy rfl
  obtain ⟨n,rfl,hn⟩:=ints_get hy
  refine⟨_,rfl,_,_,rfl,rfl,trivial,?_⟩
  dsimp only
  rw [decide_eq_false (by have:=hp n (List.mem_of_getElem? hn); (first|lia|omega)),List.replicate_succ']
 ·rintro acc rfl
  refine⟨List.replicate (intz ns).length false,by rw [List.map_replicate]; rfl,_,rfl,?_⟩
  have:(List.replicate (intz ns).length false).any id=false:=by
   rw [List.any_eq_false]; intro x hx; rw [(List.mem_replicate.mp hx).2]; decide
  rw [this]
  exact iteF ⟨_,rfl,⟨_,_,rfl,hx.seqT,flats_ints _,trivial,q⟩,hx.noscr⟩
noncomputable def wnb (zs:List ((Int × Int) × Int)) (k:Int):List (Int × Int):=zs.flatMap fun z=>(if z.1.1=k then [(z.1.2,z.2)] else []) ++ (if z.1.2=k then [(z.1.1,z.2)] else [])
theorem wnb_take {zs:List ((Int × Int) × Int)}{i:Nat}{z:(Int × Int) × Int} (h:zs[i]? = some z) (k:Int):wnb (zs.take (i+1)) k=wnb (zs.take i) k ++ ((if z.1.1=k then [(z.1.2,z.2)] else []) ++ (if z.1.2=k then [(z.1.1,z.2)] else [])):=by
 rw [List.take_add_one,h]
 unfold wnb; rw [List.flatMap_append]; simp
theorem wnb_len (k:Int):∀ zs:List ((Int × Int) × Int),(wnb zs k).length<=2 * zs.length
 | []=>Nat.le_refl _
 | z :: r=>by
  have e:wnb (z :: r) k=((if z.1.1=k then [(z.1.2,z.2)] else []) ++ (if z.1.2=k then [(z.1.1,z.2)] else [])) ++ wnb r k:=rfl
  have ih:=wnb_len k r
  rw [e,List.length_append,List.length_append,List.length_cons]
  have h1:(if z.1.1=k then [(z.1.2,z.2)] else []).length<=1:=by split <;> simp
  have h2:(if z.1.2=k then [(z.1.1,z.2)] else []).length<=1:=by split <;> simp
  (first|lia|omega)
noncomputable def wnearP (n:Nat) (zs:List ((Int × Int) × Int)):List PV:=(List.range n).map fun (k:Nat)=>PV.lst (pairs (wnb zs k))
noncomputable def p_weighted_lists:PSp:=fun xs Q=>∃ ws ls x wts,xs = [webP ws ls,x]/\Wb ws ls/\IsI x wts/\wts.length=ls.length/\(∀ w ∈ wts,0<=w)/\Q (.lst (wnearP ws.length (ls.zip wts)))
end Core
namespace L2
open PySem Core
structure RowsW (H H':Hp) (r:Addr) (bs:List Addr) (f:Nat->List (Int × Int)):Prop where
 new:H r=none
 news:∀ b ∈ bs,H b=none/\b ≠ r
 nd:bs.Nodup
 row:H' r=some (.lst (bs.map V.ref))
 rows:∀ (k:Nat) (b:Addr),bs[k]? = some b->∃ us,H' b=some (.lst us)/\LinksAt H' us (f k)
 same:Same H H'
theorem RowsW.congr {H H':Hp}{r:Addr}{bs:List Addr}{f g:Nat->List (Int × Int)} (h:RowsW H H' r bs f) (e:∀ k,k < bs.length->f k=g k):RowsW H H' r bs g:=
 ⟨h.new,h.news,h.nd,h.row,fun k b hb=>by rw [<- e k (List.getElem?_eq_some_iff.mp hb).1]; exact h.rows k b hb,h.same⟩
theorem RowsW.mono {H H' H2:Hp}{r:Addr}{bs:List Addr}{f:Nat->List (Int × Int)} (h:RowsW H H' r bs f) (s:Same H' H2):RowsW H H2 r bs f:=
 ⟨h.new,h.news,h.nd,s _ _ h.row,fun k b hb=>let ⟨us,h1,h2⟩:=h.rows k b hb; ⟨us,s _ _ h1,h2.mono s⟩,h.same.trans s⟩
theorem LinksAt.upd {H:Hp}{b:Addr}{o:HO}{vs:List V} (hb:H b=some (.lst vs)):∀ {ys:List V}{ls:List (Int × Int)},LinksAt H ys ls->LinksAt (upd H b o) ys ls
 | _,_,.nil=>.nil
 | _,_,.cons ⟨c,h1,h2⟩ t=>.cons ⟨c,h1,by rw [upd_ne (fun z=>by rw [z,hb] at h2; cases h2)]; exact h2⟩ (LinksAt.upd hb t)
theorem RowsW.app {H H':Hp}{r:Addr}{bs:List Addr}{f:Nat->List (Int × Int)} (h:RowsW H H' r bs f) {k:Nat}{b T:Addr}{us:List V} (hb:bs[k]? = some b) (hu:H' b=some (.lst us)) (hl:LinksAt H' us (f k)) {x:Int × Int} (hT:H' T=some (.tup [.int x.1,.int x.2])) :
  RowsW H (upd H' b (.lst (us ++ [V.ref T]))) r bs (fun j=>if j=k then f j ++ [x] else f j):=by
 have hm:b ∈ bs:=List.mem_of_getElem? hb
 refine⟨h.new,h.news,h.nd,by rw [upd_ne (Ne.symm (h.news b hm).2)]; exact h.row,fun j c hc=>?_,fun c o e=>by rw [upd_ne (ne_of_none e (h.news b hm).1)]; exact h.same c o e⟩
 by_cases hj:j=k
 ·subst hj
  rw [hb] at hc; cases hc
  refine⟨us ++ [V.ref T],upd_same,?_⟩
  rw [if_pos rfl]
  have h1:=LinksAt.upd (o:=.lst (us ++ [V.ref T])) hu hl
  have h2:LinksAt (L2.upd H' b (.lst (us ++ [V.ref T]))) [V.ref T] [x]:=.cons ⟨T,rfl,by rw [upd_ne (fun z=>by rw [z,hu] at hT; cases hT)]; exact hT⟩ .nil
  generalize L2.upd H' b (.lst (us ++ [V.ref T]))=H2 at h1 h2
  clear hl hu
  generalize f j=l at h1
  induction h1 with
  | nil=>exact h2
  | cons a t ih=>exact .cons a ih
 ·rw [if_neg hj]
  have ne:c ≠ b:=fun z=>by
   subst z
   obtain ⟨i1,e1⟩:=List.getElem?_eq_some_iff.mp hb
   obtain ⟨i2,e2⟩:=List.getElem?_eq_some_iff.mp hc
   refine hj (Nat.le_antisymm (Nat.le_of_not_lt fun z=>?_) (Nat.le_of_not_lt fun z=>?_))
   ·exact List.pairwise_iff_getElem.mp h.nd _ _ i1 i2 z (e1.trans e2.symm)
   ·exact List.pairwise_iff_getElem.mp h.nd _ _ i2 i1 z (e2.trans e1.symm)
  obtain ⟨vs,h1,h2⟩:=h.rows j c hc
  exact⟨vs,by rw [upd_ne ne]; exact h1,h2.upd hu⟩
theorem for_zip {K:PySem.W.Frag}{a b:Addr}{xs ys:List V}{g:TG}{tb:TS}{D:Ends}{σ:St}{H:Hp} (Pv:Nat->St->Hp->Prop) (hxy:ys.length=xs.length) (h0:Pv 0 σ H) (hl:∀ i σ H,i<=xs.length->Pv i σ H->SqT K H a xs/\SqT K H b ys)
  (hs:∀ i x y T σ H H',xs[i]? = some x->ys[i]? = some y->H T=none->H'=upd H T (.tup [x,y])->Pv i σ H->g (.ref T) σ H' fun σ2 H2=>tb { D with nx:=Pv (i+1),ct:=Pv (i+1),bk:=D.nx } σ2 H2) (hd:∀ σ H,Pv xs.length σ H->D.nx σ H) :
  ∃ W:Nat->Nat->St->Hp->Prop,(∃ m,W 0 m σ H)/\∀ i m σ H,W i m σ H->
   ((Itz K a b).stop i H/\D.nx σ H) ∨ ((Itz K a b).go i H/\∃ N:St->Hp->Prop,(∀ σ' H',N σ' H'->∃ m',m' < m/\W (i+1) m' σ' H')/\∀ x H',(Itz K a b).yld i H x H'->g x σ H' fun σ2 H2=>tb { D with nx:=N,ct:=N,bk:=D.nx } σ2 H2):=by
 refine⟨fun i m σ H=>m=xs.length - i/\i<=xs.length/\Pv i σ H,⟨xs.length,by simp,Nat.zero_le _,h0⟩,?_⟩
 rintro i m σ H ⟨rfl,hi,p⟩
 obtain ⟨q1,q2⟩:=hl i σ H hi p
 by_cases hlt:i < xs.length
 ·refine .inr ⟨⟨xs,ys,xs[i],ys[i]'(by (first|lia|omega)),q1,q2,by simp,by simp⟩,Pv (i+1),fun σ' H' p'=>⟨xs.length - (i+1),by (first|lia|omega),rfl,hlt,p'⟩,fun x H' y=>?_⟩
  obtain ⟨T,x,y',hT,rfl,e,y⟩:=y
  obtain ⟨h1,h2⟩:=y xs ys q1 q2
  exact hs i x y' T σ H H' h1 h2 hT e p
 ·have e:i=xs.length:=by (first|lia|omega)
  subst e
  exact .inl ⟨⟨xs,ys,q1,q2,.inl rfl⟩,hd σ H p⟩
end L2
namespace PP
open PySem L2 Core
noncomputable def spW (K:PySem.W.Frag):Sp:=fun vs H Q _=>∃ v x px ws ls wts,vs = [v,x]/\WebAt H v ws ls/\Rep K (fun _=>True) H x px/\IsI px wts/\wts.length=ls.length/\(∀ y ∈ wts,0<=y)/\ws.length<=1000/\ls.length<=2000/\(∀ l ∈ ls,(0<=l.1/\l.1 < ws.length)/\0<=l.2/\l.2 < ws.length)/\
 ∀ (r:Addr) (bs:List Addr) (H':Hp),bs.length=ws.length->RowsW H H' r bs (fun k=>wnb (ls.zip wts) k)->Q (.ref r) H'
theorem reps_links {K:PySem.W.Frag}{M:Addr->Prop}{H:Hp}:∀ {us:List V}{l:List (Int × Int)},LinksAt H us l->Reps K M H us (pairs l)
 | _,_,.nil=>.nil
 | _,_,.cons ⟨b,h1,h2⟩ t=>.cons (by rw [h1]; exact .tup h2 (.cons (.int _) (.cons (.int _) .nil))) (reps_links t)
theorem reps_rowsW {K:PySem.W.Frag}{M:Addr->Prop}{H:Hp}{zs:List ((Int × Int) × Int)}:∀ {bs:List Addr} (off:Nat),(∀ b ∈ bs,M b)->(∀ (k:Nat) b,bs[k]? = some b->∃ us,H b=some (.lst us)/\LinksAt H us (wnb zs ((off+k:Nat):Int)))->Reps K M H (bs.map V.ref) ((List.range' off bs.length).map fun (k:Nat)=>PV.lst (pairs (wnb zs k)))
 | [],_,_,_=>.nil
 | b :: bs,off,hm,h=>by
  obtain ⟨us,h1,h2⟩:=h 0 b rfl
  refine .cons (.lst (hm b List.mem_cons_self) h1 (reps_links h2)) (reps_rowsW (off+1) (fun c hc=>hm c (List.mem_cons_of_mem _ hc)) fun k c hk=>?_)
  have:=h (k+1) c (by rw [List.getElem?_cons_succ]; exact hk)
  rw [show off+1+k=off+(k+1) by (first|lia|omega)]; exact this
section
variable {P : Program} {w : World} {K : PySem.W.Frag} {mg : Str → Option Value} {base : Heap} {f : Addr} {fd : FuncData} {k : Nat}
theorem df_weighted_lists (F:FnOk P w K mg base CX0 k f fd ["web","weights"] (spW K)) (b:Binds K fd ["web","weights"] []) (kp:PySem.W.keepIn K (.ref f)=true) (m:mg "weighted_lists" = some (.ref f)):Df P w K mg base k "weighted_lists" ["web","weights"] p_weighted_lists:=by
 refine⟨f,fd,F.imp fun vs H Q E h=>?_,b,kp,m⟩
 obtain ⟨xs,Qp,r,⟨ws,ls,x,wts,rfl,wb,hx,hwl,hwp,q⟩,k⟩:=h
 obtain ⟨v,u,rfl,r1,r2⟩:=r.two
 have:=wb.few
 have:=wb.most
 refine⟨v,u,x,ws,ls,wts,rfl,web_of r1,r2,hx,hwl,hwp,by (first|lia|omega),by (first|lia|omega),wb.links,fun t bs H' hb R=>k _ H' _ R.same (.lst R.new R.row ?_) q⟩
 have:=reps_rowsW (K:=K) (M:=fun a=>H a=none) (H:=H') (bs:=bs) (zs:=ls.zip wts) 0 (fun b hb=>(R.news b hb).1) fun k b hk=>by rw [Nat.zero_add]; exact R.rows k b hk
 rw [hb,<- List.range_eq_range'] at this
 exact this
end
end PP
namespace Core
open PySem L2 PP
noncomputable def DueIs (want:Int) (hs:List Int) (c:PV):Prop:=((hs.length:Int) < want/\c = .non) ∨ (want<=(hs.length:Int)/\∃ zs:List Int,zs.Perm hs/\zs.Pairwise (· <= ·)/\c = .int (zs.take want.toNat).sum)
theorem DueIs.eq {want:Int}{hs:List Int}{c d:PV} (h:DueIs want hs c) (g:DueIs want hs d):c=d:=by
 rcases h with ⟨h1,rfl⟩ | ⟨h1,zs,p,o,rfl⟩ <;> rcases g with ⟨g1,rfl⟩ | ⟨g1,ys,p',o',rfl⟩
 ·rfl
 ·(first|lia|omega)
 ·(first|lia|omega)
 ·rw [(p.trans p'.symm).eq_of_pairwise (fun x y _ _ h1 h2=>Int.le_antisymm h1 h2) o o']
theorem cut_int {ns:List Int}{w:Int} (h:0<=w):cutP (intz ns) none (some w)=intz (ns.take w.toNat):=by
 rw [cut_to h]; exact List.map_take.symm
noncomputable def p_due_of:PSp:=fun xs Q=>∃ want l,xs = [.int want,.lst (pairs l)]/\l.length < 64/\0<=want/\∀ c,DueIs want (l.map (·.2)) c->Q c
noncomputable def t_due_of:PTS:=(qSeq (qIf (qTest (qGt (qVar 0) (qCall RLen (qCons (qVar 1) qNil)))) (qRet (qC .non)) qNext)
 (qRet (qCall RSum (qCons (qSl (qCall RSortI (qCons (qComp (qSeqI (qVar 1)) [none,none] (pPair 0 1) qYes (qVar 1)) qNil)) qOn (qOs (qVar 0))) qNil))))
theorem rd_due_of:Rd1 t_due_of ["want","beside"] p_due_of:=by
 rintro xs Q ⟨want,l,rfl,hl,w0,q⟩
 refine⟨_,rfl,_,rfl,_,_,rfl,rfl,_,_,rfl,rfl,_,rfl,?_⟩
 rw [pairs_len]
 by_cases h:(l.length:Int) < want
 ·dsimp only
  rw [decide_eq_true h]
  exact iteT ⟨trivial,q _ (.inl ⟨by rw [List.length_map]; exact h,rfl⟩)⟩
 ·dsimp only
  rw [decide_eq_false h]
  refine iteF ⟨_,rfl,_,rfl,(fun z=>by cases z),by rw [pairs_len]; (first|lia|omega),fun i acc=>acc=intz ((l.take i).map (·.2)),rfl,?_,?_⟩
  ·rintro i y acc hy rfl
   unfold pairs at hy
   rw [List.getElem?_map] at hy
   cases ht:l[i]? with
   | none=>rw [ht] at hy; cases hy
   | some z=>
    rw [ht] at hy
    cases hy
    refine⟨_,_,rfl,_,rfl,nw_int _ _,?_⟩
    show intz _ ++ [PV.int z.2]=intz ((l.take (i+1)).map (·.2))
    rw [take_map_succ ht,ints_app]; rfl
  ·rintro acc rfl
   rw [pairs_len,List.take_length]
   refine⟨_,rfl,by rw [List.length_map]; exact hl,fun zs zp zo=>⟨_,rfl,_,rfl,_,rfl,flats_ints _,?_⟩⟩
   refine⟨_,zs.take want.toNat,rfl,congrArg some (cut_int w0),trivial,q _ (.inr ⟨by rw [List.length_map]; (first|lia|omega),zs,zp,zo,rfl⟩)⟩
noncomputable def p_dues:PSp:=fun xs Q=>∃ ws ls x wts,xs = [webP ws ls,x]/\W63 (ws.length:Int) ws ls/\ws.length<=40/\IsI x wts/\wts.length=ls.length/\(∀ w ∈ wts,0<=w)/\
 ∀ cs,cs.length=ws.length->(∀ h:Nat,h < ws.length->∃ c,cs[h]? = some c/\DueIs (ws.getD h 0) ((wnb (ls.zip wts) h).map (·.2)) c)->Q (.lst cs)
noncomputable def t_dues:PTS:=(qRet (qComp (qZipI (qIx (qVar 0) (qC (.int 0))) (qCall p_weighted_lists (qCons (qVar 0) (qCons (qVar 1) qNil)))) [none,none] (pPair 0 1) qYes (qCall p_due_of (qCons (qVar 0) (qCons (qVar 1) qNil)))))
theorem wnb_snd {zs:List ((Int × Int) × Int)}{k:Int} (h:∀ z ∈ zs,z.1.1 ≠ z.1.2):(wnb zs k).map (·.2)=(zs.filter fun z=>decide (k ∈ [z.1.1,z.1.2])).map (·.2):=by
 induction zs with
 | nil=>rfl
 | cons z r ih=>
  have e:wnb (z :: r) k=((if z.1.1=k then [(z.1.2,z.2)] else []) ++ (if z.1.2=k then [(z.1.1,z.2)] else [])) ++ wnb r k:=rfl
  have h0:=h z List.mem_cons_self
  rw [e,List.map_append,ih fun y hy=>h y (List.mem_cons_of_mem _ hy),List.filter_cons]
  by_cases e1:z.1.1=k
  ·rw [if_pos e1,if_neg (fun e2=>h0 (e1.trans e2.symm)),if_pos (decide_eq_true (by rw [e1]; exact List.mem_cons_self))]; rfl
  ·by_cases e2:z.1.2=k
   ·rw [if_neg e1,if_pos e2,if_pos (decide_eq_true (by rw [e2]; exact List.mem_cons_of_mem _ List.mem_cons_self))]; rfl
   ·rw [if_neg e1,if_neg e2,if_neg (by simp; exact⟨fun q=>e1 q.symm,fun q=>e2 q.symm⟩)]; rfl
theorem wnb_63 {n:Int}{ws:List Int}{ls:List (Int × Int)}{wts:List Int} (w:W63 n ws ls) (k:Int):(wnb (ls.zip wts) k).length<=63:=by
 have h:∀ z ∈ ls.zip wts,z.1.1 ≠ z.1.2:=fun z hz=>by
  have:=w.inn z.1 (List.of_mem_zip hz).1
  (first|lia|omega)
 have e:=congrArg List.length (wnb_snd (k:=k) h)
 rw [List.length_map,List.length_map] at e
 have:=List.length_filter_le (fun z=>decide (k ∈ [z.1.1,z.1.2])) (ls.zip wts)
 rw [List.length_zip] at this
 have:=w.most
 (first|lia|omega)
theorem rd_dues:Rd1 t_dues ["web","weights"] p_dues:=by
 rintro xs Q ⟨ws,ls,x,wts,rfl,w,few,hx,hwl,hwp,q⟩
 have wb:=w.wb (by (first|lia|omega))
 refine⟨_,rfl,_,_,_,rfl,rfl,rfl,_,rfl,_,rfl,ws,ls,x,wts,rfl,wb,hx,hwl,hwp,_,_,rfl,flats_ints _,.inl rfl,(fun z=>by cases z),?_,fun i acc=>acc.length=i/\∀ h:Nat,h < i->∃ c,acc[h]? = some c/\DueIs (ws.getD h 0) ((wnb (ls.zip wts) h).map (·.2)) c,⟨rfl,fun h z=>absurd z (Nat.not_lt_zero _)⟩,?_,?_⟩
 ·rw [zipP_len,ints_len]; (first|lia|omega)
 ·rintro i y acc hy ⟨hl,ha⟩
  obtain ⟨a,b,h1,h2,rfl⟩:=zipP_at hy
  obtain ⟨n,rfl,hn⟩:=ints_get h1
  have il:i < ws.length:=(List.getElem?_eq_some_iff.mp hn).1
  unfold wnearP at h2
  rw [List.getElem?_map,List.getElem?_range il] at h2
  cases h2
  have n63:=wnb_63 (wts:=wts) w (i:Int)
  have gd:ws.getD i 0=n:=by rw [List.getD_eq_getElem?_getD,hn]; rfl
  refine⟨_,_,rfl,_,rfl,_,rfl,n,wnb (ls.zip wts) i,rfl,by (first|lia|omega),w.pos n (List.mem_of_getElem? hn),fun c hc=>⟨trivial,?_⟩⟩
  refine⟨by rw [List.length_append,hl]; rfl,fun h hh=>?_⟩
  by_cases e:h=i
  ·subst e
   exact⟨c,by rw [List.getElem?_append_right (by (first|lia|omega)),hl,Nat.sub_self]; rfl,by rw [gd]; exact hc⟩
  ·obtain ⟨c',h1,h2⟩:=ha h (by (first|lia|omega))
   exact⟨c',by rw [List.getElem?_append_left (by (first|lia|omega))]; exact h1,h2⟩
 ·rintro acc ⟨hl,ha⟩
  rw [zipP_len,ints_len] at hl ha
  have ln:(wnearP ws.length (ls.zip wts)).length=ws.length:=by unfold wnearP; rw [List.length_map,List.length_range]
  exact⟨trivial,q acc (by (first|lia|omega)) fun h hh=>ha h (by (first|lia|omega))⟩
end Core
namespace Core
open PySem L2 PP
noncomputable def p_law_web68:PSp:=p_law_web
noncomputable def t_law_web68:PTS:=(qSeq (qIf (qAnd (qTest (qEq (qMod (qDiv (qVar 2) (qC (.int 4))) (qC (.int 2))) (qC (.int 1)))) (qTest (qLt (qVar 1) (qC (.int 9))))) (qRet (qCall p_law_web_of_digits (qCons (qCall p_law_cell_at (qCons (qVar 0) (qCons (qC (.int 0)) qNil))) (qCons (qCall p_law_cell_at (qCons (qVar 0) (qCons (qC (.int 1)) qNil))) (qCons (qVar 1) (qCons (qIx (qLst (qCons (qC (.int 4)) (qCons (qC (.int 3)) (qCons (qC (.int 6)) (qCons (qC (.int 61)) qNil))))) (qMod (qVar 2) (qC (.int 4)))) qNil)))))) qNext)
 (qSeq (qOwn 3 (qLst qNil))
 (qSeq (qFor (qRng1 (qVar 1)) (pName 4)
  (qSeq (qSet 5 (qCall p_law_cell_at (qCons (qVar 0) (qCons (qVar 4) qNil))))
  (qApp 3 (qIx (qLst (qCons (qMod (qDiv (qVar 5) (qC (.int 5))) (qC (.int 4))) (qCons (qMod (qDiv (qVar 5) (qC (.int 5))) (qC (.int 3))) (qCons (qMod (qDiv (qVar 5) (qC (.int 5))) (qC (.int 6))) (qCons (qMod (qDiv (qVar 5) (qC (.int 5))) (qC (.int 61))) qNil))))) (qMod (qVar 2) (qC (.int 4)))))))
 (qSeq (qOwn 6 (qC (.dT [])))
 (qSeq (qFor (qSeqI (qVar 0)) (pName 5)
  (qIf (qTest (qGt (qVar 1) (qC (.int 1)))) (qSeq (qSet 7 (qMod (qVar 5) (qVar 1)))
   (qSeq (qSet 8 (qMod (qDiv (qMod (qMul (qMod (qVar 5) (qC (.int 1000000007))) (qC (.int 48271))) (qC (.int 2147483647))) (qC (.int 89))) (qVar 1)))
   (qIf (qTest (qNe (qVar 7) (qVar 8))) (qDPutT 6 (qTupF (qCons (qCall RMin2 (qCons (qVar 7) (qCons (qVar 8) qNil))) (qCons (qCall RMax2 (qCons (qVar 7) (qCons (qVar 8) qNil))) qNil))) (qC (.bl true))) qNext))) qNext))
 (qRet (qTupF (qCons (qCall RTuple (qCons (qVar 3) qNil)) (qCons (qCall RTuple (qCons (qCall RSortT (qCons (qCall RList_dT (qCons (qVar 6) qNil)) qNil)) qNil)) qNil)))))))))
theorem rd_law_web68:Rd1 t_law_web68 ["flow","many","way","wants","k","cell","pairs","one","other"] p_law_web68:=by
 rintro xs Q ⟨x,ns,n,wy,rfl,hx,hns,n0,n1,q⟩
 exact rd_web2 hx hns n0 n1 q
noncomputable def p_law_web_by68:PSp:=p_law_web_by
noncomputable def t_law_web_by68:PTS:=(qSeq (qSet 2 (qCall p_law_cell_at (qCons (qVar 0) (qCons (qC (.int 0)) qNil))))
 (qSeq (qSet 3 (qMod (qVar 2) (qC (.int 9))))
 (qSeq (qIf (qTest (qEq (qMod (qDiv (qVar 2) (qC (.int 9))) (qC (.int 4))) (qC (.int 1)))) (qSet 3 (qMod (qDiv (qVar 2) (qC (.int 36))) (qC (.int 41)))) qNext)
 (qRet (qCall p_law_web68 (qCons (qSl (qVar 0) (qOs (qVar 1)) qOn) (qCons (qVar 3) (qCons (qDiv (qVar 2) (qC (.int 1476))) qNil))))))))
theorem rd_law_web_by68:Rd1 t_law_web_by68 ["script","at","head","many"] p_law_web_by68:=by
 rintro xs Q ⟨ns,k,rfl,hl,k0,q⟩
 refine⟨_,rfl,_,ns,0,rfl,.inl rfl,by decide,trivial,?_⟩
 generalize ns.getD (0:Int).toNat 0=head
 refine⟨_,rfl,_,_,rfl,rfl,(by show (0:Int) < 9; decide),trivial,?_⟩
 have fin:∀ many:Int,0<=many->many<=40->(qRet (qCall p_law_web68 (qCons (qSl (qVar 0) (qOs (qVar 1)) qOn) (qCons (qVar 3) (qCons (qDiv (qVar 2) (qC (.int 1476))) qNil))))) { nx:=fun _=>Q .non,rt:=Q } [some (.sh true (.scr ns)),si k,si head,si many]:=fun many h0 h1=>by
  refine⟨_,rfl,_,rfl,_,rfl,_,rfl,flats_ints _,_,rfl,_,rfl,_,_,rfl,rfl,⟨by decide,by decide⟩,_,ns.drop k.toNat,many,_,rfl,?_,by rw [List.length_drop]; (first|lia|omega),h0,h1,fun ws ls w=>⟨trivial,q many ws ls h0 h1 w⟩⟩
  show IsF (.lst (cutP (intz ns) (some k) none)) _
  rw [cut_from ns k0]
  exact .inr rfl
 refine⟨_,rfl,_,_,rfl,rfl,⟨by decide,by decide⟩,_,_,rfl,rfl,(by show (0:Int) < 4; decide),.inl ⟨_,_,rfl,rfl,_,rfl,?_⟩⟩
 cases hc:(decide (head / 9 % 4=1)) with
 | false=>
  have a1:=Int.emod_nonneg head (show (9:Int) ≠ 0 by decide)
  have a2:=Int.emod_lt_of_pos head (show (0:Int) < 9 by decide)
  exact iteF (fin (head % 9) a1 (by (first|lia|omega)))
 | true=>
  have a1:=Int.emod_nonneg (head / 36) (show (41:Int) ≠ 0 by decide)
  have a2:=Int.emod_lt_of_pos (head / 36) (show (0:Int) < 41 by decide)
  exact iteT ⟨_,rfl,_,_,rfl,rfl,⟨by decide,by decide⟩,_,_,rfl,rfl,(by show (0:Int) < 41; decide),trivial,fin (head / 36 % 41) a1 (by (first|lia|omega))⟩
noncomputable def p_law_weights:PSp:=fun xs Q=>∃ (ns:List Int) (k:Int) (m:Nat),xs = [.scr ns,.int k,.int m]/\0<=k/\m<=1000/\∀ wts:List Int,wts.length=m->(∀ w ∈ wts,0<=w)->Q (.lst (intz wts))
noncomputable def t_law_weights:PTS:=(qSeq (qOwn 3 (qLst qNil))
 (qSeq (qFor (qRng1 (qVar 2)) (pName 4)
  (qSeq (qSet 5 (qCall p_law_cell_at (qCons (qVar 0) (qCons (qAdd (qVar 1) (qVar 4)) qNil))))
  (qApp 3 (qIx (qLst (qCons (qMod (qDiv (qVar 5) (qC (.int 7))) (qC (.int 4))) (qCons (qMod (qDiv (qVar 5) (qC (.int 7))) (qC (.int 2))) (qCons (qMod (qVar 5) (qPow (qC (.int 10)) (qC (.int 30)))) (qCons (qC (.int 1)) qNil))))) (qMod (qDiv (qCall p_law_cell_at (qCons (qVar 0) (qCons (qVar 1) qNil))) (qC (.int 3))) (qC (.int 4)))))))
 (qRetV 3)))
theorem rd_law_weights:Rd1 t_law_weights ["script","at","links","found","k","cell"] p_law_weights:=by
 rintro xs Q ⟨ns,k,m,rfl,k0,m1,q⟩
 have d4:(0:Int) < 4:=by decide
 refine⟨by decide,rfl,rfl,rfl,?_⟩
 refine⟨_,rfl,(m:Int),rfl,by (first|lia|omega),by (first|lia|omega),fun i ρ=>∃ (y z:Option Slot) (wts:List Int),ρ = [some (.sh true (.scr ns)),si k,si (m:Int),some (.own (.lst (intz wts))),y,z]/\wts.length=i/\∀ w ∈ wts,0<=w,⟨none,none,[],rfl,rfl,fun _ h=>nomatch h⟩,?_,?_⟩
 ·rintro i y ρ hy ⟨y0,z0,wts,rfl,hl,hp⟩
  obtain ⟨rfl,hi⟩:=rngP_at hy
  refine⟨_,rfl,_,rfl,_,rfl,_,_,rfl,rfl,_,ns,_,rfl,.inl rfl,by (first|lia|omega),trivial,?_⟩
  generalize ns.getD (k+(0+(i:Int))).toNat 0=cell
  generalize hhd:ns.getD k.toNat 0=hd
  obtain ⟨z,hz,hzz⟩:=four_i (a:=cell / 7 % 4) (b:=cell / 7 % 2) (c:=cell % 10 ^ 30) (d:=1) (i:=hd / 3 % 4) (Int.emod_nonneg _ (by decide)) (Int.emod_lt_of_pos _ d4)
  refine⟨_,rfl,_,rfl,_,_,rfl,rfl,⟨by decide,by decide⟩,_,_,rfl,rfl,d4,_,rfl,_,_,rfl,rfl,⟨by decide,by decide⟩,_,_,rfl,rfl,(by show (0:Int) < 2; decide),_,rfl,_,_,rfl,rfl,⟨by decide,by decide,by decide⟩,_,_,rfl,rfl,(by show (0:Int) < 10 ^ 30; decide),by show 4<=1000; decide,rfl,_,rfl,_,rfl,_,ns,k,rfl,.inl rfl,k0,_,_,rfl,rfl,⟨by decide,by decide⟩,_,_,rfl,rfl,d4,_,_,_,rfl,rfl,(by rw [hhd]; exact hz),nw_int _ _,by rw [ints_len]; (first|lia|omega),?_⟩
  refine⟨si (0+(i:Int)),si cell,wts ++ [z],?_,by rw [List.length_append,hl]; rfl,fun w hw=>?_⟩
  ·rw [ints_app]; rfl
  ·rcases List.mem_append.mp hw with hw | hw
   ·exact hp w hw
   ·rw [List.mem_singleton.mp hw]
    rcases hzz with e | e | e | e
    ·rw [e]; exact Int.emod_nonneg _ (by decide)
    ·rw [e]; exact Int.emod_nonneg _ (by decide)
    ·rw [e]; exact Int.emod_nonneg _ (by decide)
    ·rw [e]; decide
 ·rintro ρ ⟨y0,z0,wts,rfl,hl,hp⟩
  rw [rngP_length] at hl
  exact⟨_,rfl,trivial,q wts (by (first|lia|omega)) hp⟩
end Core
namespace Core
open PySem L2 PP
noncomputable def p_law_dues:PSp:=fun xs Q=>∃ ws ls wts,xs = [webP ws ls,.lst (intz wts)]/\W63 (ws.length:Int) ws ls/\ws.length<=40/\wts.length=ls.length/\
 ∀ cs,cs.length=ws.length->(∀ h:Nat,h < ws.length->∃ c,cs[h]? = some c/\DueIs (ws.getD h 0) ((wnb (ls.zip wts) h).map (·.2)) c)->Q (.lst cs)
noncomputable def t_law_dues:PTS:=(qSeq (qOwn 2 (qLst qNil))
 (qSeq (qFor (qRng1 (qCall RLen (qCons (qIx (qVar 0) (qC (.int 0))) qNil))) (pName 3)
  (qSeq (qSet 4 (qCall RSortI (qCons (qComp (qRng1 (qCall RLen (qCons (qVar 1) qNil))) [none,some 3,some 0,some 1] (pName 0) (qTest (q2 (RIn false) (qVar 1) (qIx (qIx (qVar 2) (qC (.int 1))) (qVar 0)))) (qIx (qVar 3) (qVar 0))) qNil)))
  (qSeq (qSet 5 (qC .non))
  (qSeq (qIf (qTest (qLe (qIx (qIx (qVar 0) (qC (.int 0))) (qVar 3)) (qCall RLen (qCons (qVar 4) qNil)))) (qSet 5 (qCall RSum (qCons (qSl (qVar 4) qOn (qOs (qIx (qIx (qVar 0) (qC (.int 0))) (qVar 3)))) qNil))) qNext)
  (qApp 2 (qVar 5))))))
 (qRetV 2)))
theorem rd_law_dues:Rd1 t_law_dues ["web","weights","found","hearth","own","due"] p_law_dues:=by
 rintro xs Q ⟨ws,ls,wts,rfl,w,few,hwl,q⟩
 have most:=w.most
 have lz:(ls.zip wts).length=ls.length:=by rw [List.length_zip]; (first|lia|omega)
 refine⟨by decide,rfl,rfl,rfl,?_⟩
 refine⟨_,rfl,_,_,_,rfl,rfl,rfl,_,_,rfl,rfl,_,rfl,by rw [ints_len]; (first|lia|omega),by rw [ints_len]; (first|lia|omega),fun i ρ=>∃ (cs:List PV) (y3 y4 y5:Option Slot),ρ = [some (.sh (flat (webP ws ls)) (webP ws ls)),some (.sh (flat (.lst (intz wts))) (.lst (intz wts))),some (.own (.lst cs)),y3,y4,y5]/\cs.length=i/\∀ h:Nat,h < i->∃ c,cs[h]? = some c/\DueIs (ws.getD h 0) ((wnb (ls.zip wts) h).map (·.2)) c,
  ⟨[],none,none,none,rfl,rfl,fun h z=>absurd z (Nat.not_lt_zero _)⟩,?_,?_⟩
 ·rintro i y ρ hy ⟨cs,y3,y4,y5,rfl,hl,hd⟩
  obtain ⟨rfl,hi⟩:=rngP_at hy
  have il:i < ws.length:=by simpa using hi
  rw [show (0:Int)+(i:Int)=(i:Int) by (first|lia|omega)]
  refine pName_int ?_
  refine⟨_,rfl,_,_,rfl,rfl,_,rfl,by rw [ints_len]; (first|lia|omega),by rw [ints_len]; (first|lia|omega),by rw [rngP_length,ints_len]; (first|lia|omega),fun j acc=>acc=intz ((((ls.zip wts).take j).filter fun z=>decide ((i:Int) ∈ [z.1.1,z.1.2])).map (·.2)),rfl,?_,?_⟩
  ·rintro j y acc hy rfl
   obtain ⟨rfl,hj⟩:=rngP_at hy
   rw [show (0:Int)+(j:Int)=(j:Int) by (first|lia|omega)]
   have jw:j < wts.length:=by rw [ints_len] at hj; (first|lia|omega)
   have jl:j < ls.length:=by (first|lia|omega)
   have hz:(ls.zip wts)[j]? = some (ls[j],wts[j]):=List.getElem?_zip_eq_some.mpr ⟨List.getElem?_eq_getElem jl,List.getElem?_eq_getElem jw⟩
   have tk:=take_filter_succ' (p:=fun z:(Int × Int) × Int=>decide ((i:Int) ∈ [z.1.1,z.1.2])) hz
   have al:atI (ls.map fun l=>PV.tup [.int l.1,.int l.2]) (j:Int)=some (.tup (intz [ls[j].1,ls[j].2])):=atI_nat (by rw [List.getElem?_map,List.getElem?_eq_getElem jl]; rfl)
   have aw:atI (intz wts) (j:Int)=some (.int wts[j]):=atI_nat (by rw [List.getElem?_map,List.getElem?_eq_getElem jw]; rfl)
   refine⟨_,rfl,_,rfl,_,_,_,rfl,rfl,rfl,_,rfl,_,_,_,rfl,rfl,al,(i:Int),[ls[j].1,ls[j].2],rfl,rfl,_,rfl,?_⟩
   show if decide ((i:Int) ∈ [ls[j].1,ls[j].2])=true then _ else _
   by_cases hm:(i:Int) ∈ [ls[j].1,ls[j].2]
   ·rw [if_pos (decide_eq_true hm)] at tk
    rw [decide_eq_true hm]
    refine iteT ⟨_,rfl,_,rfl,_,_,_,rfl,rfl,aw,nw_int _ _,?_⟩
    show _=_
    rw [tk,List.map_append,ints_app]; rfl
   ·rw [if_neg (by simpa using hm),List.append_nil] at tk
    rw [decide_eq_false hm]
    refine iteF ?_
    show _=_
    rw [tk]
  ·rintro acc rfl
   rw [rngP_length,ints_len,List.take_of_length_le (by (first|lia|omega))]
   have ne:∀ z ∈ ls.zip wts,z.1.1 ≠ z.1.2:=fun z hz=>by
    have:=w.inn z.1 (List.of_mem_zip hz).1
    (first|lia|omega)
   rw [<- wnb_snd ne]
   have n63:=wnb_63 (wts:=wts) w (i:Int)
   refine⟨_,rfl,by rw [List.length_map]; (first|lia|omega),fun zs zp zo=>⟨trivial,?_⟩⟩
   refine⟨trivial,?_⟩
   have wp:=getD_pos w i
   have zl:=zp.length_eq
   have nx:∀ (d:PV) (y3 y4 y5:Option Slot),DueIs (ws.getD i 0) ((wnb (ls.zip wts) i).map (·.2)) d->∃ (cs':List PV) (z3 z4 z5:Option Slot),[some (Slot.sh (flat (webP ws ls)) (webP ws ls)),some (.sh (flat (.lst (intz wts))) (.lst (intz wts))),some (.own (.lst (cs ++ [d]))),y3,y4,y5] = [some (.sh (flat (webP ws ls)) (webP ws ls)),some (.sh (flat (.lst (intz wts))) (.lst (intz wts))),some (.own (.lst cs')),z3,z4,z5]/\cs'.length=i+1/\∀ h:Nat,h < i+1->∃ c,cs'[h]? = some c/\DueIs (ws.getD h 0) ((wnb (ls.zip wts) h).map (·.2)) c:=fun d y3 y4 y5 hd'=>by
    refine⟨cs ++ [d],_,_,_,rfl,by rw [List.length_append,hl]; rfl,fun h hh=>?_⟩
    by_cases e:h=i
    ·subst e
     exact⟨d,by rw [List.getElem?_append_right (by (first|lia|omega)),hl,Nat.sub_self]; rfl,hd'⟩
    ·obtain ⟨c',h1,h2⟩:=hd h (by (first|lia|omega))
     exact⟨c',by rw [List.getElem?_append_left (by (first|lia|omega))]; exact h1,h2⟩
   refine⟨_,rfl,_,_,_,rfl,rfl,rfl,_,rfl,_,_,_,rfl,rfl,atI_ints (by (first|lia|omega)) (by (first|lia|omega)),_,rfl,_,_,rfl,rfl,_,_,rfl,rfl,_,rfl,?_⟩
   dsimp only
   rw [ints_len,zl,show ((i:Int)).toNat=i from rfl]
   by_cases h:ws.getD i 0<=((((wnb (ls.zip wts) i).map (·.2)).length:Nat):Int)
   ·rw [decide_eq_true h]
    refine iteT ⟨_,rfl,_,rfl,_,_,_,rfl,rfl,rfl,_,rfl,_,_,_,rfl,rfl,atI_ints (by (first|lia|omega)) (by (first|lia|omega)),_,rfl,_,rfl,flats_ints _,?_⟩
    refine⟨_,zs.take (ws.getD i 0).toNat,rfl,congrArg some (cut_int wp),trivial,?_⟩
    exact⟨_,rfl,_,rfl,nw_int _ _,by (first|lia|omega),nx _ _ _ _ (.inr ⟨h,zs,zp,zo,rfl⟩)⟩
   ·rw [decide_eq_false h]
    exact iteF ⟨_,rfl,_,rfl,trivial,by (first|lia|omega),nx _ _ _ _ (.inl ⟨by (first|lia|omega),rfl⟩)⟩
 ·rintro ρ ⟨cs,y3,y4,y5,rfl,hl,hd⟩
  rw [rngP_length,ints_len] at hl hd
  exact⟨_,rfl,trivial,q cs (by (first|lia|omega)) fun h hh=>hd h (by (first|lia|omega))⟩
end Core
namespace Core
open PySem L2 PP
theorem perm_sum {l l':List Int} (p:l.Perm l'):l.sum=l'.sum:=by
 induction p with
 | nil=>rfl
 | cons x _ ih=>rw [List.sum_cons,List.sum_cons,ih]
 | swap x y l=>simp only [List.sum_cons]; (first|lia|omega)
 | trans _ _ h1 h2=>exact h1.trans h2
theorem take_succ_sum {l:List Int}{i:Nat} (h:i < l.length):(l.take (i+1)).sum=(l.take i).sum+l[i]:=by
 rw [List.take_add_one,List.getElem?_eq_getElem h,List.sum_append]; simp
theorem take_le {zs t:List Int} (so:zs.Pairwise (· <= ·)) (sub:t.Sublist zs):(zs.take t.length).sum<=t.sum:=by
 induction sub with
 | slnil=>simp
 | @cons t zs a sub ih=>
  have so':=(List.pairwise_cons.mp so)
  have ih:=ih so'.2
  cases t with
  | nil=>simp
  | cons b t=>
   have hl:=sub.length_le
   rw [List.length_cons] at hl ih ⊢
   rw [List.take_succ_cons,List.sum_cons]
   rw [take_succ_sum (by (first|lia|omega))] at ih
   have:=so'.1 _ (List.getElem_mem (show t.length < zs.length by (first|lia|omega)))
   (first|lia|omega)
 | @cons_cons t zs a sub ih=>
  have ih:=ih (List.pairwise_cons.mp so).2
  rw [List.length_cons,List.take_succ_cons,List.sum_cons,List.sum_cons]
  (first|lia|omega)
theorem take_mono {zs:List Int} (hp:∀ x ∈ zs,0<=x) {i j:Nat} (h:i<=j):(zs.take i).sum<=(zs.take j).sum:=by
 induction h with
 | refl=>exact Int.le_refl _
 | @step k _ ih=>
  by_cases hk:k < zs.length
  ·rw [take_succ_sum hk]
   have:=hp _ (List.getElem_mem hk)
   (first|lia|omega)
  ·have e1:zs.take (k+1)=zs:=List.take_of_length_le (by (first|lia|omega))
   have e2:zs.take k=zs:=List.take_of_length_le (by (first|lia|omega))
   rw [e1]; rw [e2] at ih; exact ih
theorem least_le {hs zs t:List Int} (p:zs.Perm hs) (so:zs.Pairwise (· <= ·)) (sub:t.Sublist hs) (hp:∀ x ∈ hs,0<=x) {k:Nat} (hk:k<=t.length):(zs.take k).sum<=t.sum:=by
 obtain ⟨t',p',sub'⟩:=List.exists_perm_sublist sub p.symm
 have h1:=take_le so sub'
 rw [perm_sum p'] at h1
 refine Int.le_trans (take_mono (fun x hx=>hp x (p.mem_iff.mp hx)) ?_) h1
 rw [p'.length_eq]; exact hk
theorem one_sum {w:Int} (w0:0<=w) (p:Int->Bool):∀ {L:List Int},L.Nodup->(∀ x ∈ L,∀ y ∈ L,p x=true->p y=true->x=y)->(L.map fun h=>if p h=true then w else 0).sum<=w
 | [],_,_=>by simpa using w0
 | x :: r,nd,h=>by
  have nd':=List.nodup_cons.mp nd
  have ih:=one_sum w0 p nd'.2 fun a ha b hb=>h a (List.mem_cons_of_mem _ ha) b (List.mem_cons_of_mem _ hb)
  rw [List.map_cons,List.sum_cons]
  by_cases e:p x=true
  ·rw [if_pos e]
   have z:(r.map fun h=>if p h=true then w else 0)=r.map fun _=>0:=List.map_congr_left fun y hy=>by
    rw [if_neg fun q=>nd'.1 (by rw [h x List.mem_cons_self y (List.mem_cons_of_mem _ hy) e q]; exact hy)]
   rw [z]
   have:∀ r:List Int,(r.map fun _=>(0:Int)).sum=0:=fun r=>by
    induction r with
    | nil=>rfl
    | cons a r ih=>rw [List.map_cons,List.sum_cons,ih]; rfl
   rw [this]; (first|lia|omega)
  ·rw [if_neg e]; (first|lia|omega)
theorem takes_sum (tk:(Int × Int) × Int->Int->Bool) {L:List Int} (nd:L.Nodup):∀ {zs:List ((Int × Int) × Int)},(∀ z ∈ zs,0<=z.2)->(∀ z ∈ zs,∀ x ∈ L,∀ y ∈ L,tk z x=true->tk z y=true->x=y)->(L.map fun h=>((zs.filter fun z=>tk z h).map (·.2)).sum).sum<=(zs.map (·.2)).sum
 | [],_,_=>by
  have:∀ r:List Int,(r.map fun _=>(0:Int)).sum=0:=fun r=>by
   induction r with
   | nil=>rfl
   | cons a r ih=>rw [List.map_cons,List.sum_cons,ih]; rfl
  exact Int.le_of_eq (this L)
 | z :: r,hp,h=>by
  have ih:=takes_sum tk nd (zs:=r) (fun y hy=>hp y (List.mem_cons_of_mem _ hy)) fun y hy=>h y (List.mem_cons_of_mem _ hy)
  have h1:=one_sum (hp z List.mem_cons_self) (tk z) nd (h z List.mem_cons_self)
  have e:∀ L:List Int,(L.map fun h=>(((z :: r).filter fun z=>tk z h).map (·.2)).sum).sum=(L.map fun h=>if tk z h=true then z.2 else 0).sum+(L.map fun h=>((r.filter fun z=>tk z h).map (·.2)).sum).sum:=fun L=>by
   induction L with
   | nil=>rfl
   | cons x L ihL=>
    rw [List.map_cons,List.map_cons,List.map_cons,List.sum_cons,List.sum_cons,List.sum_cons,ihL,List.filter_cons]
    by_cases q:tk z x=true
    ·rw [if_pos q,if_pos q,List.map_cons,List.sum_cons]; (first|lia|omega)
    ·rw [if_neg q,if_neg q]; (first|lia|omega)
  rw [e,List.map_cons,List.sum_cons]
  (first|lia|omega)
end Core
namespace Core
open PySem L2 PP
structure IsDues (ws:List Int) (ls:List (Int × Int)) (wts:List Int) (os:List (Option Int)):Prop where
 len:os.length=ws.length
 due:∀ h:Nat,h < ws.length->∃ o,os[h]? = some o/\DueIs (ws.getD h 0) ((wnb (ls.zip wts) h).map (·.2)) (optP o)
theorem DueIs.opt {want:Int}{hs:List Int}{c:PV} (h:DueIs want hs c):∃ o,c=optP o:=by
 rcases h with ⟨_,rfl⟩ | ⟨_,zs,_,_,rfl⟩
 ·exact⟨none,rfl⟩
 ·exact⟨some _,rfl⟩
theorem opts_of {P:Nat->PV->Prop} (hP:∀ h c,P h c->∃ o,c=optP o):∀ {cs:List PV},(∀ h:Nat,h < cs.length->∃ c,cs[h]? = some c/\P h c)->∃ os:List (Option Int),cs=os.map optP:=by
 intro cs
 have key:∀ (cs:List PV) (off:Nat),(∀ h:Nat,h < cs.length->∃ c,cs[h]? = some c/\P (off+h) c)->∃ os:List (Option Int),cs=os.map optP:=fun cs=>by
  induction cs with
  | nil=>exact fun _ _=>⟨[],rfl⟩
  | cons c r ih=>
   intro off h
   obtain ⟨c',e,p⟩:=h 0 (by rw [List.length_cons]; (first|lia|omega))
   cases e
   obtain ⟨o,rfl⟩:=hP _ _ p
   obtain ⟨os,rfl⟩:=ih (off+1) fun k hk=>by
    obtain ⟨c',e,p⟩:=h (k+1) (by rw [List.length_cons]; (first|lia|omega))
    exact⟨c',by rw [List.getElem?_cons_succ] at e; exact e,by rw [show off+1+k=off+(k+1) by (first|lia|omega)]; exact p⟩
   exact⟨o :: os,rfl⟩
 intro h
 exact key cs 0 fun k hk=>by
  obtain ⟨c,e,p⟩:=h k hk
  exact⟨c,e,by rw [Nat.zero_add]; exact p⟩
theorem isDues_of {ws:List Int}{ls:List (Int × Int)}{wts:List Int}{cs:List PV} (cl:cs.length=ws.length) (hc:∀ h:Nat,h < ws.length->∃ c,cs[h]? = some c/\DueIs (ws.getD h 0) ((wnb (ls.zip wts) h).map (·.2)) c):∃ os,cs=os.map optP/\IsDues ws ls wts os:=by
 obtain ⟨os,rfl⟩:=opts_of (P:=fun h c=>DueIs (ws.getD h 0) ((wnb (ls.zip wts) h).map (·.2)) c) (fun h c p=>p.opt) (cs:=cs) (fun h hh=>hc h (by (first|lia|omega)))
 rw [List.length_map] at cl
 refine⟨os,rfl,cl,fun h hh=>?_⟩
 obtain ⟨c,e,p⟩:=hc h hh
 rw [List.getElem?_map] at e
 cases q:os[h]? with
 | none=>rw [q] at e; cases e
 | some o=>rw [q] at e; cases e; exact⟨o,rfl,p⟩
theorem IsDues.eq {ws:List Int}{ls:List (Int × Int)}{wts:List Int}{os ps:List (Option Int)} (h:IsDues ws ls wts os) (g:IsDues ws ls wts ps):os=ps:=by
 apply List.ext_getElem?
 intro i
 by_cases hi:i < ws.length
 ·obtain ⟨o,e1,d1⟩:=h.due i hi
  obtain ⟨p,e2,d2⟩:=g.due i hi
  have:=d1.eq d2
  rw [e1,e2]
  cases o <;> cases p <;> cases this <;> rfl
 ·rw [List.getElem?_eq_none (by have:=h.len; (first|lia|omega)),List.getElem?_eq_none (by have:=g.len; (first|lia|omega))]
theorem wnb_pos {ls:List (Int × Int)}{wts:List Int} (hp:∀ w ∈ wts,0<=w) (k:Int):∀ x ∈ (wnb (ls.zip wts) k).map (·.2),0<=x:=by
 intro x hx
 obtain ⟨p,hp',rfl⟩:=List.mem_map.mp hx
 unfold wnb at hp'
 obtain ⟨z,hz,h⟩:=List.mem_flatMap.mp hp'
 have:=hp z.2 (List.of_mem_zip hz).2
 rcases List.mem_append.mp h with h | h
 ·split at h
  ·rw [List.mem_singleton.mp h]; exact this
  ·cases h
 ·split at h
  ·rw [List.mem_singleton.mp h]; exact this
  ·cases h
theorem comp_some {os:List (Option Int)}{i:Nat}{o:Option Int} (h:os[i]? = some o):(os.take (i+1)).filterMap id=(os.take i).filterMap id ++ o.toList:=by
 rw [List.take_add_one,h,List.filterMap_append]
 cases o <;> rfl
end Core
namespace Core
open PySem L2 PP
theorem wnb_cnt {zs:List ((Int × Int) × Int)}{h:Int} (P:Int->Bool) (hz:∀ z ∈ zs,z.1.1 ≠ z.1.2):((wnb zs h).filter fun p=>P p.1).length=(zs.filter fun z=>(decide (z.1.1=h) && P z.1.2) || (decide (z.1.2=h) && P z.1.1)).length:=by
 induction zs with
 | nil=>rfl
 | cons z r ih=>
  have e:wnb (z :: r) h=((if z.1.1=h then [(z.1.2,z.2)] else []) ++ (if z.1.2=h then [(z.1.1,z.2)] else [])) ++ wnb r h:=rfl
  have h0:=hz z List.mem_cons_self
  rw [e,List.filter_append,List.length_append,ih fun y hy=>hz y (List.mem_cons_of_mem _ hy),List.filter_cons]
  by_cases e1:z.1.1=h
  ·have e2 : ¬ z.1.2=h:=fun e2=>h0 (e1.trans e2.symm)
   rw [if_pos e1,if_neg e2,decide_eq_true e1,decide_eq_false e2]
   cases q:P z.1.2 <;> simp [q] <;> (first|lia|omega)
  ·by_cases e2:z.1.2=h
   ·rw [if_neg e1,if_pos e2,decide_eq_true e2,decide_eq_false e1]
    cases q:P z.1.1 <;> simp [q] <;> (first|lia|omega)
   ·rw [if_neg e1,if_neg e2,decide_eq_false e1,decide_eq_false e2]
    simp
theorem wnb_fst {h:Int}:∀ {ls:List (Int × Int)}{wts:List Int},wts.length=ls.length->(wnb (ls.zip wts) h).map (·.1)=nbrs ls h
 | [],_,_=>rfl
 | l :: ls,[],e=>by simp at e
 | l :: ls,w :: wts,e=>by
  have ih:=wnb_fst (h:=h) (ls:=ls) (wts:=wts) (by simpa using e)
  have e1:wnb ((l :: ls).zip (w :: wts)) h=((if l.1=h then [(l.2,w)] else []) ++ (if l.2=h then [(l.1,w)] else [])) ++ wnb (ls.zip wts) h:=rfl
  have e2:nbrs (l :: ls) h=((if l.1=h then [l.2] else []) ++ (if l.2=h then [l.1] else [])) ++ nbrs ls h:=rfl
  rw [e1,e2,List.map_append,ih,List.map_append]
  congr 2
  ·split <;> rfl
  ·split <;> rfl
theorem zip_snd {ls:List (Int × Int)}{wts:List Int} (e:wts.length=ls.length):(ls.zip wts).map (·.2)=wts:=by
 rw [List.map_snd_zip]; (first|lia|omega)
section
variable {ws : List Int} {ls : List (Int × Int)} {ns wts : List Int} {m : Nat}
noncomputable def tkr (rs:List (List Int)) (z:(Int × Int) × Int) (h:Int):Bool:=(decide (z.1.1=h) && early rs ((rkOf rs h).getD 0) z.1.2) || (decide (z.1.2=h) && early rs ((rkOf rs h).getD 0) z.1.1)
theorem early_lt {rs:List (List Int)}{k:Nat}{o:Int} (h:early rs k o=true):∃ j,rkOf rs o=some j/\j < k:=by
 unfold early at h
 cases q:rkOf rs o with
 | none=>rw [q] at h; cases h
 | some j=>rw [q] at h; exact⟨j,rfl,of_decide_eq_true h⟩
theorem tkr_one {rs:List (List Int)}{z:(Int × Int) × Int}{x y:Int} (hx:tkr rs z x=true) (hy:tkr rs z y=true):x=y:=by
 unfold tkr at hx hy
 simp only [Bool.or_eq_true,Bool.and_eq_true,decide_eq_true_eq] at hx hy
 rcases hx with ⟨a1,a2⟩ | ⟨a1,a2⟩ <;> rcases hy with ⟨b1,b2⟩ | ⟨b1,b2⟩
 ·exact a1.symm.trans b1
 ·rw [b1] at a2; rw [a1] at b2
  obtain ⟨i,i1,i2⟩:=early_lt a2
  obtain ⟨j,j1,j2⟩:=early_lt b2
  rw [i1] at j2
  rw [j1] at i2
  have i2:i < j:=i2
  have j2:j < i:=j2
  (first|lia|omega)
 ·rw [b1] at a2; rw [a1] at b2
  obtain ⟨i,i1,i2⟩:=early_lt a2
  obtain ⟨j,j1,j2⟩:=early_lt b2
  rw [i1] at j2
  rw [j1] at i2
  have i2:i < j:=i2
  have j2:j < i:=j2
  (first|lia|omega)
 ·exact a1.symm.trans b1
theorem due_taken {n:Int} (w:W63 n ws ls) (hwl:wts.length=ls.length) (hwp:∀ y ∈ wts,0<=y) {h:Int}{k:Nat} (hk:k < m) (hr:h ∈ rowA ws ls ns (k+1)) {c:PV} (d:DueIs (ws.getD h.toNat 0) ((wnb (ls.zip wts) h).map (·.2)) c) :
  ∃ v,c = .int v/\v<=(((ls.zip wts).filter fun z=>tkr (ns :: after ws ls ns m) z h).map (·.2)).sum:=by
 have ne:∀ z ∈ ls.zip wts,z.1.1 ≠ z.1.2:=fun z hz=>by
  have:=w.inn z.1 (List.of_mem_zip hz).1
  (first|lia|omega)
 have rk:rkOf (ns :: after ws ls ns m) h=some (k+1):=rk_iff.mpr ⟨by (first|lia|omega),hr⟩
 have wp:=getD_pos w h.toNat
 have tks:(fun z=>tkr (ns :: after ws ls ns m) z h)=fun z=>(decide (z.1.1=h) && decide (z.1.2 ∈ stp ws ls ns k)) || (decide (z.1.2=h) && decide (z.1.1 ∈ stp ws ls ns k)):=by
  funext z
  unfold tkr
  rw [rk]
  show ((decide (z.1.1=h) && early (ns :: after ws ls ns m) (k+1) z.1.2) || (decide (z.1.2=h) && early (ns :: after ws ls ns m) (k+1) z.1.1))=_
  rw [early_stp (by (first|lia|omega)),early_stp (by (first|lia|omega))]
 have cnt:ws.getD h.toNat 0<=((((ls.zip wts).filter fun z=>tkr (ns :: after ws ls ns m) z h).map (·.2)).length:Int):=by
  have hr:h ∈ nextOf ws ls (stp ws ls ns k):=hr
  unfold nextOf at hr
  have:=(List.mem_filter.mp hr).2
  unfold kin at this
  rw [Bool.and_eq_true] at this
  have:=of_decide_eq_true this.2
  rw [<- wnb_fst (h:=h) hwl,List.filter_map,List.length_map] at this
  rw [List.length_map,tks,<- wnb_cnt (fun o=>decide (o ∈ stp ws ls ns k)) ne]
  exact this
 have sub:List.Sublist (((ls.zip wts).filter fun z=>tkr (ns :: after ws ls ns m) z h).map (·.2)) ((wnb (ls.zip wts) h).map (·.2)):=by
  rw [wnb_snd ne]
  refine List.Sublist.map _ ?_
  have e:(ls.zip wts).filter (fun z=>tkr (ns :: after ws ls ns m) z h)=((ls.zip wts).filter fun z=>decide (h ∈ [z.1.1,z.1.2])).filter fun z=>tkr (ns :: after ws ls ns m) z h:=by
   rw [List.filter_filter]
   refine List.filter_congr fun z _=>?_
   cases q:tkr (ns :: after ws ls ns m) z h with
   | false=>rfl
   | true=>
    unfold tkr at q
    simp only [Bool.or_eq_true,Bool.and_eq_true,decide_eq_true_eq] at q
    rcases q with ⟨a,_⟩ | ⟨a,_⟩ <;> simp [a]
  rw [e]; exact List.filter_sublist
 have sl:=sub.length_le
 rcases d with ⟨d1,rfl⟩ | ⟨d1,zs,p,o,rfl⟩
 ·(first|lia|omega)
 ·exact⟨_,rfl,least_le p o sub (wnb_pos hwp _) (by (first|lia|omega))⟩
end
end Core
namespace Core
open PySem L2 PP
section
variable {ws : List Int} {ls : List (Int × Int)} {ns wts : List Int} {m : Nat}
noncomputable def loose (ls:List (Int × Int)) (wts ns:List Int):List ((Int × Int) × Int):=(ls.zip wts).filter fun z=>!(decide (z.1.1 ∈ ns) && decide (z.1.2 ∈ ns))
theorem within_le {n:Int} (w:W63 n ws ls) (hs:isSetB ws.length ns=true) (hwl:wts.length=ls.length) (hwp:∀ y ∈ wts,0<=y) {os:List (Option Int)} (ds:IsDues ws ls wts os) (all:∀ h:Int,0<=h->h < (ws.length:Int)->h ∈ stp ws ls ns m) :
  (∀ h ∈ (rng ws.length).filter (fun h=>!decide (h ∈ ns)),os.getD h.toNat none=some ((os.getD h.toNat none).getD 0))/\
  (((rng ws.length).filter fun h=>!decide (h ∈ ns)).map fun h=>(os.getD h.toNat none).getD 0).sum<=((loose ls wts ns).map (·.2)).sum:=by
 have ol:=ds.len
 have row:∀ h ∈ (rng ws.length).filter (fun h=>!decide (h ∈ ns)),∃ k,k < m/\h ∈ rowA ws ls ns (k+1):=fun h hh=>by
  obtain ⟨h1,h2⟩:=List.mem_filter.mp hh
  have hi:=mem_rng.mp h1
  obtain ⟨j,hj,hr⟩:=(mem_stp m).mp (all h hi.1 hi.2)
  cases j with
  | zero=>
   have:h ∈ ns:=hr
   rw [decide_eq_true this] at h2; cases h2
  | succ k=>exact⟨k,by (first|lia|omega),hr⟩
 have due:∀ h ∈ (rng ws.length).filter (fun h=>!decide (h ∈ ns)),∃ v,os.getD h.toNat none=some v/\v<=(((loose ls wts ns).filter fun z=>tkr (ns :: after ws ls ns m) z h).map (·.2)).sum:=fun h hh=>by
  obtain ⟨k,hk,hrow⟩:=row h hh
  have hi:=mem_rng.mp (List.mem_filter.mp hh).1
  have hn:h ∉ ns:=by simpa using (List.mem_filter.mp hh).2
  obtain ⟨o,e,d⟩:=ds.due h.toNat (by (first|lia|omega))
  rw [show ((h.toNat:Nat):Int)=h by (first|lia|omega)] at d
  obtain ⟨v,e2,le⟩:=due_taken w hwl hwp hk hrow d
  refine⟨v,?_,?_⟩
  ·rw [List.getD_eq_getElem?_getD,e]
   cases o with
   | none=>cases e2
   | some u=>cases e2; rfl
  ·unfold loose
   rw [List.filter_filter]
   have fe:(ls.zip wts).filter (fun z=>tkr (ns :: after ws ls ns m) z h && !(decide (z.1.1 ∈ ns) && decide (z.1.2 ∈ ns)))=(ls.zip wts).filter fun z=>tkr (ns :: after ws ls ns m) z h:=by
    refine List.filter_congr fun z _=>?_
    cases q:tkr (ns :: after ws ls ns m) z h with
    | false=>rfl
    | true=>
     unfold tkr at q
     simp only [Bool.or_eq_true,Bool.and_eq_true,decide_eq_true_eq] at q
     rcases q with ⟨a,_⟩ | ⟨a,_⟩
     ·rw [decide_eq_false (by rw [a]; exact hn)]; rfl
     ·rw [decide_eq_false (p:=z.1.2 ∈ ns) (by rw [a]; exact hn),Bool.and_false]; rfl
   rw [fe]; exact le
 refine⟨fun h hh=>?_,?_⟩
 ·obtain ⟨v,e,_⟩:=due h hh
  rw [e]; rfl
 have l2:∀ L:List Int,(∀ h ∈ L,h ∈ (rng ws.length).filter (fun h=>!decide (h ∈ ns)))->(L.map fun h=>(os.getD h.toNat none).getD 0).sum<=(L.map fun h=>(((loose ls wts ns).filter fun z=>tkr (ns :: after ws ls ns m) z h).map (·.2)).sum).sum:=fun L=>by
  induction L with
  | nil=>exact fun _=>Int.le_refl _
  | cons x L ih=>
   intro hL
   have i1:=ih fun h hh=>hL h (List.mem_cons_of_mem _ hh)
   obtain ⟨v,e,le⟩:=due x (hL x List.mem_cons_self)
   rw [List.map_cons,List.map_cons,List.sum_cons,List.sum_cons,e]
   show v+_<=_
   (first|lia|omega)
 have l3:=takes_sum (tkr (ns :: after ws ls ns m)) (L:=(rng ws.length).filter fun h=>!decide (h ∈ ns)) ((rng_nodup _).sublist List.filter_sublist) (zs:=loose ls wts ns) (fun z hz=>hwp z.2 (List.of_mem_zip (List.mem_filter.mp hz).1).2) fun z _ x _ y _ hx hy=>tkr_one hx hy
 exact Int.le_trans (l2 _ fun h hh=>hh) l3
end
theorem cnt_two {S:List Int}{a b:Int}:(([a,b].filter fun x=>decide (x ∈ S)).length < 2) ↔ ¬ (a ∈ S/\b ∈ S):=by
 by_cases h1:a ∈ S <;> by_cases h2:b ∈ S <;> simp [h1,h2]
end Core
namespace L2
open PySem PySem.Spec PyProof.Rows
section
variable {X : Cx} {pos : Pos}
noncomputable def tSwap (K:PySem.W.Frag) (i j:Nat) (te:TE):TS:=fun D σ H=>te σ H fun v H1=>∃ a u w,v = .ref a/\SqT K H1 a [u,w]/\D.nx ((σ.set j (some w)).set i (some u)) H1
theorem ps_swap {i j:Nat}{x y:Str}{e:Expr}{te:TE}{kt:Nat}{xp yp tp:Pos} (hN:X.N.Nodup) (hi:X.N[i]? = some x) (hj:X.N[j]? = some y) (hx:Loc X.env.scope x) (hy:Loc X.env.scope y) (hc:X.calm=true) (he:PE X e te)
  (hs:swapsWithSole [.Tuple [.Name x xp,.Name y yp] kt tp] e pos.line X.env=pure false) (hw:swappedStores [.Tuple [.Name x xp,.Name y yp] kt tp] e X.env=pure (some [x,y]))
  (hfx:X.fn x=true ∨ X.env.scope.names.lookup x=some .local) (hfy:X.fn y=true ∨ X.env.scope.names.lookup y=some .local):PS X (.Assign [.Tuple [.Name x xp,.Name y yp] kt tp] e pos) (tSwap X.K i j te):=by
 intro pins s σ H D I h
 refine Assign_Tuple_swapped (names:=[x,y]) ?_ hs hw
 refine thn (he pins s σ H _ I h) fun v s1 hq=>?_
 obtain ⟨z,H1,I1,r1,a,u,w,rfl,hq,q⟩:=hq
 cases r1
 obtain ⟨its,rv,ht,hz⟩:=I1.tuple hq
 obtain ⟨u',w',rfl,ru,rw'⟩:=rv.two
 have key:∀ (G:List Value->Shared->Prop),(∀ h',Heap.ExtBut s1.heap.objs.size s1.heap h'->G [u',w'] { s1 with heap:=h' })->wpAny (model X.prog X.w) X.A (unpackItems (.ref a) 2 none) G X.xe s1:=fun G hG=>unpackItems_tuple (items:=[u',w'].toArray) (I1.ok.hd hc) ht hG
 refine key _ fun h' hx'=>?_
 have I2:Inv X pins σ H1 { s1 with heap:=h' }:=I1.kept (t':=s1.toks) fun b o e=>hx' b o (Nat.ne_of_lt (Heap.lt_size e)) e
 have st2:∀ (R:Unit->Shared->Prop),(∀ s4,Inv X pins ((σ.set j (some w)).set i (some u)) H1 s4->R () s4)->wpAny (model X.prog X.w) X.A (assignInOrder [bindName X.env y,bindName X.env x] [w',u']) R X.xe { s1 with heap:=h' }:=fun R hR=>
  assignInOrder_cons (bindName_ (store_ok I2 hN hj hy rw' (fun s3 I3=>assignInOrder_cons (bindName_ (store_ok I3 hN hi hx ru (fun s4 I4=>assignInOrder_nil (hR s4 I4)) hfx))) hfy))
 refine st2 _ fun s4 I4=>?_
 exact⟨_,H1,I4,q⟩
end
end L2
namespace PP
open PySem L2 PyProof.Rows
section
variable {X : Cx} {a b e : Expr} {ta tb te : PTE} {D : Ends} {σ : L2.St} {H : Hp} {pos p2 : Pos}
noncomputable def qAsgP (p:PTG) (te:PTE):PTS:=fun D ρ=>te ρ fun x g=>Sto g x/\p x (stG g x) ρ fun ρ2=>D.nx ρ2
theorem ls_asgP {p:PTG}{g:TG}{own:Nat->Prop} (hg:TgOk X.K own p g) (h:LS X (qAsgP p te) D σ H):tAsg (LE X te) g D σ H:=by
 obtain ⟨W,ρ,D',px,q,k⟩:=h
 refine⟨W,ρ,_,px,q,?_⟩
 rintro v H1 x gt s r ⟨st,q⟩
 refine hg X.H₀ W σ ρ H1 v x _ _ _ (px.mono s) (sto_rep px st r) q fun σ' ρ' px' _ _ q'=>?_
 exact k.nx W σ' H1 ρ' (Ev.same s) px' q'
noncomputable def qSwap (i j:Nat) (te:PTE):PTS:=fun D ρ=>te ρ fun x g=>Sto g x/\∃ y z,x = .tup [y,z]/\D.nx ((ρ.set j (some (.sh (stG g x || flat z) z))).set i (some (.sh (stG g x || flat y) y)))
theorem ls_swap {i j:Nat} (h:LS X (qSwap i j te) D σ H):tSwap X.K i j (LE X te) D σ H:=by
 obtain ⟨W,ρ,D',px,q,k⟩:=h
 refine⟨W,ρ,_,px,q,?_⟩
 rintro v H1 x gt s r ⟨st,y,z,rfl,q⟩
 have r1:=sto_rep px st r
 obtain ⟨a,us,rfl,h,r2⟩:=r1.sqT
 obtain ⟨u1,u2,rfl,ra,rb⟩:=r2.two
 exact⟨a,u1,u2,rfl,SqT.of h,k.nx W _ H1 _ (Ev.same s) (((px.mono s).setSh (or_rep rb)).setSh (or_rep ra)) q⟩
theorem s_swap2 (i j:Nat) {x y:Str}{tp xp yp:Pos}{kt:Nat} (hN:X.N.Nodup) (he:QE X e te) (hx:X.N[i]? = some x:=by rfl) (hy:X.N[j]? = some y:=by rfl) (hlx:Loc X.env.scope x:=by first | exact Or.inl rfl | exact Or.inr rfl) (hly:Loc X.env.scope y:=by first | exact Or.inl rfl | exact Or.inr rfl)
  (hfx:X.fn x=true ∨ X.env.scope.names.lookup x=some .local:=by first | exact .inl rfl | exact .inr rfl) (hfy:X.fn y=true ∨ X.env.scope.names.lookup y=some .local:=by first | exact .inl rfl | exact .inr rfl) (hc:X.calm=true:=by rfl)
  (hs:swapsWithSole [.Tuple [.Name x xp,.Name y yp] kt tp] e pos.line X.env=pure false:=by rfl) (hw:swappedStores [.Tuple [.Name x xp,.Name y yp] kt tp] e X.env=pure (some [x,y]):=by rfl):QS X (.Assign [.Tuple [.Name x xp,.Name y yp] kt tp] e pos) (qSwap i j te):=
 psI (ps_swap hN hx hy hlx hly hc he hs hw hfx hfy) fun _ _ _=>ls_swap
theorem s_pair2 (i j:Nat) {x y:Str}{tp xp yp:Pos}{kt:Nat} (hN:X.N.Nodup) (he:QE X e te) (hx:X.N[i]? = some x:=by rfl) (hy:X.N[j]? = some y:=by rfl) (hlx:Loc X.env.scope x:=by first | exact Or.inl rfl | exact Or.inr rfl) (hly:Loc X.env.scope y:=by first | exact Or.inl rfl | exact Or.inr rfl)
  (hfx:X.fn x=true ∨ X.env.scope.names.lookup x=some .local:=by first | exact .inl rfl | exact .inr rfl) (hfy:X.fn y=true ∨ X.env.scope.names.lookup y=some .local:=by first | exact .inl rfl | exact .inr rfl) (hc:X.calm=true:=by rfl)
  (hs:swapsWithSole [.Tuple [.Name x xp,.Name y yp] kt tp] e pos.line X.env=pure false:=by rfl) (hw:swappedStores [.Tuple [.Name x xp,.Name y yp] kt tp] e X.env=pure none:=by rfl):QS X (.Assign [.Tuple [.Name x xp,.Name y yp] kt tp] e pos) (qAsgP (pPair i j) te):=by
 have g:PG X (.Tuple [.Name x xp,.Name y yp] kt tp) (gTup X.K 2 (gCons (gName i) (gCons (gName j) gNil))):=pg_tup hc (pgs_cons (pg_name hN hx hlx hfx) (pgs_cons (pg_name hN hy hly hfy) pgs_nil))
 exact psI (ps_asg he g hs hw) fun _ _ _=>ls_asgP (tg_pair _ i j)
end
end PP
namespace Core
open PySem L2 PP
noncomputable def takenV (rs:List (List Int)) (zs:List ((Int × Int) × Int)) (h:Int):Option Int:=(rkOf rs h).map fun _=>((zs.filter fun z=>tkr rs z h).map (·.2)).sum
theorem wnb_tk {zs:List ((Int × Int) × Int)}{h:Int} (P:Int->Bool) (hz:∀ z ∈ zs,z.1.1 ≠ z.1.2):((wnb zs h).filter fun p=>P p.1).map (·.2)=(zs.filter fun z=>(decide (z.1.1=h) && P z.1.2) || (decide (z.1.2=h) && P z.1.1)).map (·.2):=by
 induction zs with
 | nil=>rfl
 | cons z r ih=>
  have e:wnb (z :: r) h=((if z.1.1=h then [(z.1.2,z.2)] else []) ++ (if z.1.2=h then [(z.1.1,z.2)] else [])) ++ wnb r h:=rfl
  have h0:=hz z List.mem_cons_self
  rw [e,List.filter_append,List.map_append,ih fun y hy=>hz y (List.mem_cons_of_mem _ hy),List.filter_cons]
  by_cases e1:z.1.1=h
  ·have e2 : ¬ z.1.2=h:=fun e2=>h0 (e1.trans e2.symm)
   rw [if_pos e1,if_neg e2,decide_eq_true e1,decide_eq_false e2]
   cases q:P z.1.2 <;> simp [q]
  ·by_cases e2:z.1.2=h
   ·rw [if_neg e1,if_pos e2,decide_eq_true e2,decide_eq_false e1]
    cases q:P z.1.1 <;> simp [q]
   ·rw [if_neg e1,if_neg e2,decide_eq_false e1,decide_eq_false e2]
    simp
noncomputable def p_taken_by:PSp:=fun xs Q=>∃ zs rs h,xs = [.int h,.lst (pairs (wnb zs h)),.dK (ranked rs)]/\(∀ z ∈ zs,z.1.1 ≠ z.1.2)/\(wnb zs h).length<=1000/\Q (optP (takenV rs zs h))
noncomputable def t_taken_by:PTS:=(qSeq (qIf (qTest (qDIn true (qVar 0) (qVar 2))) (qRet (qC .non)) qNext)
 (qSeq (qSet 3 (qDGet (qVar 2) (qVar 0)))
 (qRet (qCall RSum (qCons (qComp (qSeqI (qVar 1)) [none,none,some 3,some 2] (pPair 0 1) (qTest (qLt (qDGet2 (qVar 3) (qVar 0) (qVar 2)) (qVar 2))) (qVar 1)) qNil)))))
theorem rd_taken_by:Rd1 t_taken_by ["hearth","beside","ranks","rank"] p_taken_by:=by
 rintro xs Q ⟨zs,rs,h,rfl,hz,hl,q⟩
 unfold takenV at q
 refine⟨_,rfl,_,rfl,_,.inl ⟨_,Sum.inl h,rfl,rfl,rfl⟩,_,rfl,?_⟩
 show if (!(valP (ranked rs) (Sum.inl h:Key)).isSome)=true then _ else _
 rw [valP_ranked]
 cases hr:rkOf rs h with
 | none=>rw [hr] at q; exact iteT ⟨trivial,q⟩
 | some k=>
  rw [hr] at q
  refine iteF ?_
  refine⟨_,rfl,_,rfl,_,.inl ⟨_,Sum.inl h,rfl,rfl,(by rw [valP_ranked,hr]; rfl)⟩,trivial,?_⟩
  refine⟨_,rfl,_,rfl,(fun z=>by cases z),by rw [pairs_len]; (first|lia|omega),fun i acc=>acc=intz ((((wnb zs h).take i).filter fun p=>early rs k p.1).map (·.2)),rfl,?_,?_⟩
  ·rintro i y acc hy rfl
   unfold pairs at hy
   rw [List.getElem?_map] at hy
   cases ht:(wnb zs h)[i]? with
   | none=>rw [ht] at hy; cases hy
   | some z=>
    rw [ht] at hy
    cases hy
    have tk:=take_filter_succ' (p:=fun p:Int × Int=>early rs k p.1) ht
    refine⟨_,_,rfl,_,rfl,_,rfl,_,rfl,_,rfl,Sum.inl z.1,rfl,?_⟩
    have vo:=valP_ranked rs z.1
    cases hk:rkOf rs z.1 with
    | none=>
     have e:early rs k z.1=false:=by unfold early; rw [hk]
     rw [hk] at vo
     rw [if_neg (by rw [e]; decide),List.append_nil] at tk
     rw [vo]
     refine⟨rfl,_,rfl,_,_,rfl,rfl,_,rfl,?_⟩
     rw [decide_eq_false (by (first|lia|omega))]
     refine iteF ?_
     show _=_
     rw [tk]
    | some j=>
     have e:early rs k z.1=decide (j < k):=by unfold early; rw [hk]
     rw [hk] at vo
     rw [vo]
     refine⟨rfl,_,rfl,_,_,rfl,rfl,_,rfl,?_⟩
     by_cases hj:j < k
     ·rw [if_pos (by rw [e]; exact decide_eq_true hj)] at tk
      rw [decide_eq_true (by (first|lia|omega))]
      refine iteT ⟨_,rfl,nw_int _ _,?_⟩
      show _=_
      rw [tk,List.map_append,ints_app]; rfl
     ·rw [if_neg (by rw [e]; simpa using hj),List.append_nil] at tk
      rw [decide_eq_false (by (first|lia|omega))]
      refine iteF ?_
      show _=_
      rw [tk]
  ·rintro acc rfl
   rw [pairs_len,List.take_length,wnb_tk _ hz]
   refine⟨_,_,rfl,rfl,trivial,?_⟩
   have e:(fun z:(Int × Int) × Int=>(decide (z.1.1=h) && early rs k z.1.2) || (decide (z.1.2=h) && early rs k z.1.1))=fun z=>tkr rs z h:=by
    funext z; unfold tkr; rw [hr]; rfl
   rw [e]
   exact q
noncomputable def p_takings:PSp:=fun xs Q=>∃ ws ls x wts y ns,xs = [webP ws ls,x,y]/\W63 (ws.length:Int) ws ls/\ws.length<=40/\IsI x wts/\wts.length=ls.length/\(∀ w ∈ wts,0<=w)/\IsI y ns/\isSetB ws.length ns=true/\∀ m,Ends ws ls ns m->Q (.lst ((List.range ws.length).map fun (h:Nat)=>optP (takenV (ns :: after ws ls ns m) (ls.zip wts) h)))
noncomputable def t_takings:PTS:=(qSeq (qSet 3 (qCall p_weighted_lists (qCons (qVar 0) (qCons (qVar 1) qNil))))
 (qSeq (qSet 4 (qCall p_ranks_of (qCons (qVar 0) (qCons (qVar 2) qNil))))
 (qRet (qComp (qEnum (qVar 3)) [none,none,some 4] (pPair 0 1) qYes (qCall p_taken_by (qCons (qVar 0) (qCons (qVar 1) (qCons (qVar 2) qNil))))))))
theorem rd_takings:Rd1 t_takings ["web","weights","seeds","around","ranks"] p_takings:=by
 rintro xs Q ⟨ws,ls,x,wts,y,ns,rfl,w,few,hx,hwl,hwp,hy,hs,q⟩
 have wb:=w.wb (by (first|lia|omega))
 have ne:∀ z ∈ ls.zip wts,z.1.1 ≠ z.1.2:=fun z hz=>by
  have:=w.inn z.1 (List.of_mem_zip hz).1
  (first|lia|omega)
 refine⟨_,rfl,_,rfl,ws,ls,x,wts,rfl,wb,hx,hwl,hwp,trivial,?_⟩
 refine⟨_,rfl,_,rfl,ws,ls,y,ns,rfl,wb,hy,hs,fun m en=>⟨trivial,?_⟩⟩
 have ln:(wnearP ws.length (ls.zip wts)).length=ws.length:=by unfold wnearP; rw [List.length_map,List.length_range]
 refine⟨_,rfl,_,.inl rfl,(fun z=>by cases z),by rw [enumP_len,ln]; (first|lia|omega),fun i acc=>acc=(List.range i).map (fun (h:Nat)=>optP (takenV (ns :: after ws ls ns m) (ls.zip wts) h)),rfl,?_,?_⟩
 ·rintro i z acc hz rfl
  obtain ⟨c,hc,rfl⟩:=enumP_at hz
  have il:i < ws.length:=by have:=(List.getElem?_eq_some_iff.mp hc).1; (first|lia|omega)
  unfold wnearP at hc
  rw [List.getElem?_map,List.getElem?_range il] at hc
  cases hc
  have n63:=wnb_63 (wts:=wts) w (i:Int)
  refine⟨_,_,rfl,_,rfl,_,rfl,_,rfl,ls.zip wts,_,(i:Int),rfl,ne,by (first|lia|omega),trivial,?_⟩
  show _=_
  rw [List.range_succ,List.map_append]; rfl
 ·rintro acc rfl
  rw [enumP_len,ln]
  exact⟨trivial,q m en⟩
end Core
set_option maxHeartbeats 1000000
namespace Core
open PySem L2 PP
noncomputable def p_law_is:PSp:=fun xs Q=>∃ o:Option Int,xs = [optP o,optP o]/\Q (.bl true)
noncomputable def t_law_is:PTS:=(qSeq (qIf (qTest (qIsN (qVar 1) (qC .non))) (qRet (qIsN (qVar 0) (qC .non))) qNext)
 (qRet (qAndV (qCall p_law_whole_number (qCons (qVar 0) qNil)) (qEq (qVar 0) (qVar 1)))))
theorem rd_law_is:Rd1 t_law_is ["found","due"] p_law_is:=by
 rintro xs Q ⟨o,rfl,q⟩
 cases o with
 | none=>exact⟨_,rfl,rfl,_,rfl,iteT ⟨_,rfl,rfl,trivial,q⟩⟩
 | some v=>
  refine⟨_,rfl,rfl,_,rfl,iteF ⟨_,rfl,v,rfl,_,rfl,iteT ⟨_,rfl,_,rfl,.inl ⟨_,_,rfl,rfl,trivial,?_⟩⟩⟩⟩
  show Q (.bl (decide (v=v)))
  rw [decide_eq_true rfl]; exact q
noncomputable def p_law_taken:PSp:=fun xs Q=>∃ ws ls wts rs h,xs = [webP ws ls,.lst (intz wts),.lst (rkL ws.length rs),.int h]/\W63 (ws.length:Int) ws ls/\wts.length=ls.length/\0<=h/\h < (ws.length:Int)/\Q (optP (takenV rs (ls.zip wts) h))
noncomputable def t_law_taken:PTS:=(qSeq (qIf (qTest (qIsN (qIx (qVar 2) (qVar 3)) (qC .non))) (qRet (qC .non)) qNext)
 (qSeq (qSet 4 (qC (.int 0)))
 (qSeq (qFor (qRng1 (qCall RLen (qCons (qVar 1) qNil))) (pName 5)
  (qSeq (qAsgP (pPair 6 7) (qIx (qIx (qVar 0) (qC (.int 1))) (qVar 5)))
  (qSeq (qIf (qTest (qEq (qVar 7) (qVar 3))) (qSwap 6 7 (qTupF (qCons (qVar 7) (qCons (qVar 6) qNil)))) qNext)
  (qIf (qAnd (qTest (qEq (qVar 6) (qVar 3))) (qAnd (qTest (qNotN (qIx (qVar 2) (qVar 7)) (qC .non))) (qTest (qLt (qIx (qVar 2) (qVar 7)) (qIx (qVar 2) (qVar 3)))))) (qSet 4 (qAdd (qVar 4) (qIx (qVar 1) (qVar 5)))) qNext))))
 (qRetV 4))))
theorem rd_law_taken:Rd1 t_law_taken ["web","weights","ranks","hearth","taken","k","one","other"] p_law_taken:=by
 rintro xs Q ⟨ws,ls,wts,rs,h,rfl,w,hwl,h0,h1,q⟩
 have most:=w.most
 have lz:(ls.zip wts).length=ls.length:=by rw [List.length_zip]; (first|lia|omega)
 unfold takenV at q
 have ai:=rkL_at (rs:=rs) h0 h1
 refine⟨_,rfl,_,rfl,_,_,_,rfl,rfl,ai,rfl,_,rfl,?_⟩
 show if isNon (rkP rs h)=true then _ else _
 cases hr:rkOf rs h with
 | none=>
  rw [hr] at q
  have e1:rkP rs h = .non:=by unfold rkP; rw [hr]
  rw [e1]
  exact iteT ⟨trivial,q⟩
 | some k=>
  rw [hr] at q
  have e1:rkP rs h = .int (k:Int):=by unfold rkP; rw [hr]
  rw [e1] at ai ⊢
  refine iteF ⟨trivial,?_⟩
  refine⟨_,rfl,_,_,rfl,rfl,_,rfl,by rw [ints_len]; (first|lia|omega),by rw [ints_len]; (first|lia|omega),fun i ρ=>∃ y5 y6 y7,ρ = [some (.sh (flat (webP ws ls)) (webP ws ls)),some (.sh (flat (.lst (intz wts))) (.lst (intz wts))),some (.sh (flat (.lst (rkL ws.length rs))) (.lst (rkL ws.length rs))),si h,si ((((ls.zip wts).take i).filter fun z=>tkr rs z h).map (·.2)).sum,y5,y6,y7],⟨none,none,none,rfl⟩,?_,?_⟩
  ·rintro j y ρ hy ⟨y5,y6,y7,rfl⟩
   obtain ⟨rfl,hj⟩:=rngP_at hy
   rw [ints_len] at hj
   rw [show (0:Int)+(j:Int)=(j:Int) by (first|lia|omega)]
   have jw:j < wts.length:=by (first|lia|omega)
   have jl:j < ls.length:=by (first|lia|omega)
   have hz:(ls.zip wts)[j]? = some (ls[j],wts[j]):=List.getElem?_zip_eq_some.mpr ⟨List.getElem?_eq_getElem jl,List.getElem?_eq_getElem jw⟩
   have tk:=take_filter_succ' (p:=fun z=>tkr rs z h) hz
   have al:atI (ls.map fun l=>PV.tup [.int l.1,.int l.2]) (j:Int)=some (.tup (intz [ls[j].1,ls[j].2])):=atI_nat (by rw [List.getElem?_map,List.getElem?_eq_getElem jl]; rfl)
   have aw:atI (intz wts) (j:Int)=some (.int wts[j]):=atI_nat (by rw [List.getElem?_map,List.getElem?_eq_getElem jw]; rfl)
   have inn:=w.inn ls[j] (List.getElem_mem jl)
   generalize ls[j]=l at *
   generalize wts[j]=wt at *
   have tail:∀ (b1 b2:Bool) (o1 o2:Int),0<=o2->o2 < (ws.length:Int)->tkr rs (l,wt) h=(decide (o1=h) && early rs k o2)->
     (qIf (qAnd (qTest (qEq (qVar 6) (qVar 3))) (qAnd (qTest (qNotN (qIx (qVar 2) (qVar 7)) (qC .non))) (qTest (qLt (qIx (qVar 2) (qVar 7)) (qIx (qVar 2) (qVar 3)))))) (qSet 4 (qAdd (qVar 4) (qIx (qVar 1) (qVar 5)))) qNext)
      { nx:=fun ρ=>∃ y5 y6 y7,ρ = [some (.sh (flat (webP ws ls)) (webP ws ls)),some (.sh (flat (.lst (intz wts))) (.lst (intz wts))),some (.sh (flat (.lst (rkL ws.length rs))) (.lst (rkL ws.length rs))),si h,si ((((ls.zip wts).take (j+1)).filter fun z=>tkr rs z h).map (·.2)).sum,y5,y6,y7],rt:=Q }
      [some (.sh (flat (webP ws ls)) (webP ws ls)),some (.sh (flat (.lst (intz wts))) (.lst (intz wts))),some (.sh (flat (.lst (rkL ws.length rs))) (.lst (rkL ws.length rs))),si h,si ((((ls.zip wts).take j).filter fun z=>tkr rs z h).map (·.2)).sum,si (j:Int),some (.sh b1 (.int o1)),some (.sh b2 (.int o2))]:=fun b1 b2 o1 o2 p0 p1 et=>by
    have ao:=rkL_at (rs:=rs) p0 p1
    have same:tkr rs (l,wt) h=false->∃ y5 y6 y7,[some (Slot.sh (flat (webP ws ls)) (webP ws ls)),some (.sh (flat (.lst (intz wts))) (.lst (intz wts))),some (.sh (flat (.lst (rkL ws.length rs))) (.lst (rkL ws.length rs))),si h,si ((((ls.zip wts).take j).filter fun z=>tkr rs z h).map (·.2)).sum,si (j:Int),some (.sh b1 (.int o1)),some (.sh b2 (.int o2))] = [some (.sh (flat (webP ws ls)) (webP ws ls)),some (.sh (flat (.lst (intz wts))) (.lst (intz wts))),some (.sh (flat (.lst (rkL ws.length rs))) (.lst (rkL ws.length rs))),si h,si ((((ls.zip wts).take (j+1)).filter fun z=>tkr rs z h).map (·.2)).sum,y5,y6,y7]:=fun e=>by
     rw [if_neg (by rw [e]; decide),List.append_nil] at tk
     exact⟨si (j:Int),some (.sh b1 (.int o1)),some (.sh b2 (.int o2)),by rw [tk]⟩
    refine⟨_,rfl,_,rfl,.inl ⟨_,_,rfl,rfl,_,rfl,?_⟩⟩
    show if decide (o1=h)=true then _ else _
    by_cases e1:o1=h
    ·rw [decide_eq_true e1] at et ⊢
     refine iteT ⟨_,rfl,_,rfl,_,_,_,rfl,rfl,ao,rfl,_,rfl,?_⟩
     show if (!isNon (rkP rs o2))=true then _ else _
     cases hk:rkOf rs o2 with
     | none=>
      have e2:rkP rs o2 = .non:=by unfold rkP; rw [hk]
      rw [e2]
      exact iteF (iteF (same (by rw [et]; unfold early; rw [hk]; rfl)))
     | some i2=>
      have e2:rkP rs o2 = .int (i2:Int):=by unfold rkP; rw [hk]
      have e3:early rs k o2=decide (i2 < k):=by unfold early; rw [hk]
      rw [e2] at ao ⊢
      refine iteT ⟨_,rfl,_,rfl,_,_,_,rfl,rfl,ao,_,rfl,_,rfl,_,_,_,rfl,rfl,ai,_,_,rfl,rfl,_,rfl,?_⟩
      by_cases lt:i2 < k
      ·rw [decide_eq_true (by (first|lia|omega))]
       rw [if_pos (by rw [et,e3,decide_eq_true lt]; rfl)] at tk
       refine iteT ⟨_,rfl,_,rfl,_,rfl,_,_,_,rfl,rfl,aw,_,_,rfl,rfl,trivial,si (j:Int),some (.sh b1 (.int o1)),some (.sh b2 (.int o2)),?_⟩
       rw [tk,List.map_append,List.sum_append]
       show [_,_,_,_,some (Slot.sh _ (.int _)),_,_,_] = [_,_,_,_,si _,_,_,_]
       rw [show ([(l,wt)].map (fun z:(Int × Int) × Int=>z.2)).sum=wt by simp]
       rfl
      ·rw [decide_eq_false (by (first|lia|omega))]
       exact iteF (same (by rw [et,e3,decide_eq_false lt]; rfl))
    ·rw [decide_eq_false e1] at et ⊢
     exact iteF (iteF (same et))
   have tkf:tkr rs (l,wt) h=((decide (l.1=h) && early rs k l.2) || (decide (l.2=h) && early rs k l.1)):=by unfold tkr; rw [hr]; rfl
   refine pName_int ?_
   refine⟨_,rfl,_,_,_,rfl,rfl,rfl,_,rfl,_,_,_,rfl,rfl,al,sto_tupI _ _,_,_,rfl,?_⟩
   refine⟨_,rfl,_,rfl,.inl ⟨_,_,rfl,rfl,_,rfl,?_⟩⟩
   show if decide (l.2=h)=true then _ else _
   by_cases e:l.2=h
   ·rw [decide_eq_true e]
    refine iteT ⟨_,rfl,_,rfl,by show 2<=1000; decide,rfl,trivial,_,_,rfl,?_⟩
    exact tail _ _ l.2 l.1 inn.1 (by (first|lia|omega)) (by rw [tkf,decide_eq_true e,decide_eq_false (show ¬ l.1=h by (first|lia|omega))]; simp)
   ·rw [decide_eq_false e]
    exact iteF (tail _ _ l.1 l.2 (by (first|lia|omega)) inn.2.2 (by rw [tkf,decide_eq_false e]; simp))
  ·rintro ρ ⟨y5,y6,y7,rfl⟩
   rw [rngP_length,ints_len,List.take_of_length_le (by (first|lia|omega))]
   exact⟨_,rfl,trivial,q⟩
end Core
set_option maxHeartbeats 1000000
namespace PP
open PySem L2 PyProof.Rows
section
variable {X : Cx} {a b e : Expr} {ta tb te : PTE} {pos p2 : Pos}
noncomputable def RInO (neg:Bool):PV->Tg->PV->Tg->PK->Prop:=fun x _ y _ Q=>∃ os:List (Option Int),x = .non/\y = .lst (os.map Core.optP)/\Q (.bl (if neg=true then !decide (none ∈ os) else decide (none ∈ os))) .fr
noncomputable def optV:Option Int->V
 | none=>.non
 | some v=>.int v
theorem Reps.ofOpts {K:PySem.W.Frag}{M:Addr->Prop}{H:Hp}:∀ {os:List (Option Int)}{us:List V},Reps K M H us (os.map Core.optP)->us=os.map optV
 | [],_,.nil=>rfl
 | none :: r,_,.cons q t=>by cases q; rw [Reps.ofOpts t]; rfl
 | some v :: r,_,.cons q t=>by cases q; rw [Reps.ofOpts t]; rfl
theorem flat_opts:∀ os:List (Option Int),(os.map optV).all flatV=true
 | []=>rfl
 | none :: r=>by rw [List.map_cons,List.all_cons,flat_opts r]; rfl
 | some v :: r=>by rw [List.map_cons,List.all_cons,flat_opts r]; rfl
theorem inV_opts:∀ os:List (Option Int),inV .non (os.map optV)=decide (none ∈ os)
 | []=>rfl
 | none :: r=>by
  unfold inV
  rw [List.map_cons,List.any_cons,decide_eq_true List.mem_cons_self]; rfl
 | some v :: r=>by
  have ih:=inV_opts r
  unfold inV at ih ⊢
  rw [List.map_cons,List.any_cons,ih]
  show (false || decide (none ∈ r))=_
  rw [Bool.false_or,decide_eq_decide]
  simp
theorem cov_inO (neg:Bool):Cov2 X (RInO neg) (rIn X.K neg):=by
 rintro W Hs H u v x y g g' Q Q' s n r1 r2 ⟨os,rfl,rfl,q⟩ k
 cases r1
 obtain ⟨a,us,rfl,_,h,r⟩:=r2.sqL
 obtain rfl:=Reps.ofOpts r
 refine⟨a,_,rfl,.inl (SqL.of h),rfl,flat_opts os,?_⟩
 have:=k _ _ _ .fr (Same.refl _) (.bl _) q
 rw [inV_opts]
 cases neg <;> exact this
theorem q_inO (ha:QE X a ta) (hb:QE X b tb) (hm:behindInMarks .In b=false:=by rfl):QE X (.Compare a [.In] [b] pos) (q2 (RInO false) ta tb):=q_cmp op_in_seq (cov_inO false) ha hb hm
theorem q_notinO (ha:QE X a ta) (hb:QE X b tb) (hm:behindInMarks .NotIn b=false:=by rfl):QE X (.Compare a [.NotIn] [b] pos) (q2 (RInO true) ta tb):=q_cmp op_notIn_seq (cov_inO true) ha hb hm
theorem t_inO (ha:QE X a ta) (hb:QE X b tb) (hm:behindInMarks .In b=false:=by rfl):QT X (.Compare a [.In] [b] pos) (qTest (q2 (RInO false) ta tb)):=t_cmp op_in_seq (cov_inO false) ha hb hm
end
end PP
set_option maxHeartbeats 1000000
namespace Core
open PySem L2 PP
noncomputable def othO (n:Nat) (ns:List Int) (os:List (Option Int)):List (Option Int):=((rng n).filter fun h=>!decide (h ∈ ns)).map fun h=>os.getD h.toNat none
noncomputable def withB (ls:List (Int × Int)) (wts ns:List Int) (oth:List (Option Int)):Bool:=!decide (none ∈ oth) && decide ((oth.map fun o=>o.getD 0).sum<=((loose ls wts ns).map (·.2)).sum)
theorem opts_ints:∀ {oth:List (Option Int)},none ∉ oth->oth.map optP=intz (oth.map fun o=>o.getD 0)
 | [],_=>rfl
 | none :: r,h=>absurd List.mem_cons_self h
 | some v :: r,h=>by
  rw [List.map_cons,opts_ints fun z=>h (List.mem_cons_of_mem _ z)]; rfl
theorem flat_opt (o:Option Int):flat (optP o)=true:=by cases o <;> rfl
theorem nw_opt (g:Tg) (o:Option Int):Nw g (optP o):=by cases g <;> first | exact trivial | exact flat_opt o
noncomputable def p_is_within70:PSp:=fun xs Q=>∃ ws ls x wts y ns,xs = [webP ws ls,x,y]/\W63 (ws.length:Int) ws ls/\ws.length<=40/\IsI x wts/\wts.length=ls.length/\(∀ w ∈ wts,0<=w)/\IsI y ns/\isSetB ws.length ns=true/\∀ os,IsDues ws ls wts os->Q (.bl (withB ls wts ns (othO ws.length ns os)))
noncomputable def t_is_within70:PTS:=(qSeq (qSet 3 (qCall p_dues (qCons (qVar 0) (qCons (qVar 1) qNil))))
 (qSeq (qSet 4 (qCall p_marked (qCons (qCall p_made_set (qCons (qVar 0) (qCons (qVar 2) qNil))) qNil)))
 (qSeq (qSet 5 (qComp (qEnum (qVar 3)) [none,none,some 4] (pPair 0 1) (qTest (qDIn true (qVar 0) (qVar 2))) (qVar 1)))
 (qSeq (qIf (qTest (q2 (RInO false) (qC .non) (qVar 5))) (qRet (qC (.bl false))) qNext)
 (qRet (qLe (qCall RSum (qCons (qVar 5) qNil)) (qCall RSum (qCons (qComp (qZipI (qIx (qVar 0) (qC (.int 1))) (qVar 1)) [none,none,some 4] (pPair 0 1) (qTest (qLt (qCall p_count_inside (qCons (qVar 0) (qCons (qVar 2) qNil))) (qC (.int 2)))) (qVar 1)) qNil))))))))
theorem rd_is_within70:Rd1 t_is_within70 ["web","weights","seeds","told","inside","others"] p_is_within70:=by
 rintro xs Q ⟨ws,ls,x,wts,y,ns,rfl,w,few,hx,hwl,hwp,hy,hs,q⟩
 have ln:=set_len hs
 have most:=w.most
 refine⟨_,rfl,_,rfl,ws,ls,x,wts,rfl,w,few,hx,hwl,hwp,fun cs cl hc=>⟨trivial,?_⟩⟩
 obtain ⟨os,rfl,ds⟩:=isDues_of cl hc
 have ol:=ds.len
 have q:=q os ds
 refine⟨_,rfl,_,rfl,ws,ls,y,ns,rfl,hy,by (first|lia|omega),hs,_,ns,rfl,.inl rfl,by (first|lia|omega),fun ps d=>⟨trivial,?_⟩⟩
 refine⟨_,rfl,_,.inl rfl,(fun z=>by cases z),by rw [enumP_len,List.length_map]; (first|lia|omega),fun i acc=>acc=((((rng ws.length).take i).filter fun h=>!decide (h ∈ ns)).map fun h=>os.getD h.toNat none).map optP,rfl,?_,?_⟩
 ·rintro i z acc hz rfl
  obtain ⟨c,hc',rfl⟩:=enumP_at hz
  rw [List.getElem?_map] at hc'
  cases ho:os[i]? with
  | none=>rw [ho] at hc'; cases hc'
  | some o=>
   rw [ho] at hc'
   cases hc'
   have il:i < ws.length:=by have:=(List.getElem?_eq_some_iff.mp ho).1; (first|lia|omega)
   have tk:=take_filter_succ' (p:=fun h=>!decide (h ∈ ns)) (rng_at il)
   refine⟨_,_,rfl,_,rfl,_,rfl,_,.inl ⟨_,Sum.inl (i:Int),rfl,rfl,rfl⟩,_,rfl,?_⟩
   show if (!(valP ps (Sum.inl (i:Int):Key)).isSome)=true then _ else _
   rw [d.has]
   by_cases hm:(i:Int) ∈ ns
   ·rw [decide_eq_true hm]
    rw [if_neg (by simp [hm]),List.append_nil] at tk
    refine iteF ?_
    show _=_
    rw [tk]
   ·rw [decide_eq_false hm]
    rw [if_pos (by simp [hm])] at tk
    have gd:os.getD ((i:Int)).toNat none=o:=by rw [show ((i:Int)).toNat=i from rfl,List.getD_eq_getElem?_getD,ho]; rfl
    refine iteT ⟨_,rfl,nw_opt _ _,?_⟩
    show _=_
    rw [tk,List.map_append,List.map_append]
    show _ ++ [optP o]=_ ++ [optP (os.getD ((i:Int)).toNat none)]
    rw [gd]
 ·rintro acc rfl
  rw [enumP_len,List.length_map,ol,List.take_of_length_le (by rw [rng_len]; (first|lia|omega))]
  change _
  refine⟨trivial,?_⟩
  generalize hoth:((rng ws.length).filter fun h=>!decide (h ∈ ns)).map (fun h=>os.getD h.toNat none)=oth
  have q:Q (.bl (withB ls wts ns oth)):=by rw [<- hoth]; exact q
  unfold withB at q
  refine⟨_,rfl,oth,rfl,rfl,_,rfl,?_⟩
  show if decide (none ∈ oth)=true then _ else _
  by_cases hn:none ∈ oth
  ·rw [decide_eq_true hn] at q ⊢
   exact iteT ⟨trivial,q⟩
  rw [decide_eq_false hn] at q ⊢
  refine iteF ?_
  rw [opts_ints hn]
  refine⟨_,rfl,_,_,rfl,rfl,?_⟩
  refine⟨_,rfl,_,_,_,rfl,rfl,rfl,_,rfl,_,intz wts,rfl,flats_pairs _,hx.symm,seq_tag hx,?_,fun i acc=>acc=intz ((((ls.zip wts).take i).filter fun z=>!(decide (z.1.1 ∈ ns) && decide (z.1.2 ∈ ns))).map (·.2)),rfl,?_,?_⟩
  ·rw [zipP_len,ints_len]; (first|lia|omega)
  ·rintro i z acc hz rfl
   obtain ⟨a,b,h1,h2,rfl⟩:=zipP_at hz
   obtain ⟨wt,rfl,hwt⟩:=ints_get h2
   rw [List.getElem?_map] at h1
   cases hl:ls[i]? with
   | none=>rw [hl] at h1; cases h1
   | some l=>
    rw [hl] at h1
    cases h1
    have hz:(ls.zip wts)[i]? = some (l,wt):=List.getElem?_zip_eq_some.mpr ⟨hl,hwt⟩
    have tk:=take_filter_succ' (p:=fun z:(Int × Int) × Int=>!(decide (z.1.1 ∈ ns) && decide (z.1.2 ∈ ns))) hz
    refine⟨_,_,rfl,_,rfl,_,rfl,_,[l.1,l.2],ps,ns,rfl,.inl rfl,d,by show 2<=10000; decide,_,_,rfl,rfl,_,rfl,?_⟩
    dsimp only
    by_cases hb:l.1 ∈ ns/\l.2 ∈ ns
    ·have nlt : ¬ ((([l.1,l.2].filter fun x=>decide (x ∈ ns)).length:Nat):Int) < 2:=fun z=>cnt_two.mp (by (first|lia|omega)) hb
     rw [decide_eq_false nlt]
     rw [if_neg (by simp [hb.1,hb.2]),List.append_nil] at tk
     refine iteF ?_
     show _=_
     rw [tk]
    ·have lt:((([l.1,l.2].filter fun x=>decide (x ∈ ns)).length:Nat):Int) < 2:=by have:=cnt_two.mpr hb; (first|lia|omega)
     rw [decide_eq_true lt]
     rw [if_pos (by simp only [Bool.not_eq_true',Bool.and_eq_false_iff,decide_eq_false_iff_not]; exact Classical.not_and_iff_not_or_not.mp hb)] at tk
     refine iteT ⟨_,rfl,nw_int _ _,?_⟩
     show _=_
     rw [tk,List.map_append,ints_app]; rfl
  ·rintro acc rfl
   have lz:(zipP (ls.map fun l=>PV.tup [PV.int l.1,PV.int l.2]) (intz wts)).length=(ls.zip wts).length:=by
    rw [zipP_len,ints_len,List.length_map,List.length_zip]
   refine⟨_,((loose ls wts ns).map (·.2)),rfl,?_,_,_,rfl,rfl,trivial,?_⟩
   ·show some (intz _)=_
    rw [lz,List.take_length]; rfl
   ·exact q
end Core
set_option maxHeartbeats 1000000
namespace Core
open PySem L2 PP
theorem rkL_opts (n:Nat) (rs:List (List Int)):rkL n rs=((List.range n).map fun (h:Nat)=>(rkOf rs (h:Int)).map fun (k:Nat)=>(k:Int)).map optP:=by
 unfold rkL
 rw [List.map_map]
 refine List.map_congr_left fun h _=>?_
 show rkP rs (h:Int)=optP ((rkOf rs (h:Int)).map fun (k:Nat)=>(k:Int))
 unfold rkP
 cases rkOf rs (h:Int) <;> rfl
section
variable {ws : List Int} {ls : List (Int × Int)} {ns wts : List Int} {m : Nat}
theorem tk_loose (h:Int):((loose ls wts ns).filter fun z=>tkr (ns :: after ws ls ns m) z h)=(ls.zip wts).filter fun z=>tkr (ns :: after ws ls ns m) z h:=by
 unfold loose
 rw [List.filter_filter]
 refine List.filter_congr fun z _=>?_
 cases q:tkr (ns :: after ws ls ns m) z h with
 | false=>rfl
 | true=>
  have hn:h ∉ ns:=fun hm=>by
   have r0:rkOf (ns :: after ws ls ns m) h=some 0:=rk_iff.mpr ⟨Nat.zero_le _,hm⟩
   unfold tkr at q
   rw [r0] at q
   simp only [Bool.or_eq_true,Bool.and_eq_true,decide_eq_true_eq] at q
   rcases q with ⟨_,a⟩ | ⟨_,a⟩ <;> (obtain ⟨j,_,lt⟩:=early_lt a; exact absurd lt (Nat.not_lt_zero _))
  unfold tkr at q
  simp only [Bool.or_eq_true,Bool.and_eq_true,decide_eq_true_eq] at q
  rcases q with ⟨a,_⟩ | ⟨a,_⟩
  ·rw [decide_eq_false (by rw [a]; exact hn)]; rfl
  ·rw [decide_eq_false (p:=z.1.2 ∈ ns) (by rw [a]; exact hn),Bool.and_false]; rfl
end
noncomputable def p_law_k70:PSp:=p_law_k10
noncomputable def t_law_k70 (K:PySem.W.Frag):PTS:=(qSeq (qSet 1 (qCall p_law_web_by68 (qCons (qVar 0) (qCons (qC (.int 3)) qNil))))
 (qSeq (qSet 2 (qCall RLen (qCons (qIx (qVar 1) (qC (.int 0))) qNil)))
 (qSeq (qSet 3 (qCall p_law_seeds_by (qCons (qVar 0) (qCons (qC (.int 1)) (qCons (qVar 2) qNil)))))
 (qSeq (qSet 4 (qCall p_law_weights (qCons (qVar 0) (qCons (qC (.int 2)) (qCons (qCall RLen (qCons (qIx (qVar 1) (qC (.int 1))) qNil)) qNil)))))
 (qSeq (qSet 5 (qCall p_law_ranks (qCons (qVar 1) (qCons (qVar 3) qNil))))
 (qSeq (qSet 6 (qCall p_law_dues (qCons (qVar 1) (qCons (qVar 4) qNil))))
 (qSeq (qSet 7 (qCall RLst (qCons (qVar 4) qNil)))
 (qSeq (qSet 8 (qCall p_takings (qCons (qVar 1) (qCons (qVar 7) (qCons (qCall RLst (qCons (qVar 3) qNil)) qNil)))))
 (qSeq (qIf (qOr (qNot (qTest (qIsI K "list" (qVar 8)))) (qTest (qNe (qCall RLen (qCons (qVar 8) qNil)) (qVar 2)))) (qRet (qC (.bl false))) qNext)
 (qSeq (qSet 9 (qCall RSum (qCons (qComp (qRng1 (qCall RLen (qCons (qVar 4) qNil))) [none,some 3,some 1,some 4] (pName 0) (qOr (qTest (q2 (RIn true) (qIx (qIx (qIx (qVar 2) (qC (.int 1))) (qVar 0)) (qC (.int 0))) (qVar 1))) (qTest (q2 (RIn true) (qIx (qIx (qIx (qVar 2) (qC (.int 1))) (qVar 0)) (qC (.int 1))) (qVar 1)))) (qIx (qVar 3) (qVar 0))) qNil)))
 (qSeq (qSet 10 (qC (.int 0)))
 (qSeq (qFor (qRng1 (qVar 2)) (pName 11)
  (qSeq (qIf (qNot (qTest (qCall p_law_is (qCons (qIx (qVar 8) (qVar 11)) (qCons (qCall p_law_taken (qCons (qVar 1) (qCons (qVar 4) (qCons (qVar 5) (qCons (qVar 11) qNil))))) qNil))))) (qRet (qC (.bl false))) qNext)
  (qIf (qTest (qNotN (qIx (qVar 5) (qVar 11)) (qC .non))) (qSeq (qSet 10 (qAdd (qVar 10) (qIx (qVar 8) (qVar 11))))
   (qIf (qAnd (qTest (q2 (RIn true) (qVar 11) (qVar 3))) (qOr (qTest (qIsN (qIx (qVar 6) (qVar 11)) (qC .non))) (qTest (qLt (qIx (qVar 8) (qVar 11)) (qIx (qVar 6) (qVar 11)))))) (qRet (qC (.bl false))) qNext)) qNext)))
 (qSeq (qSet 12 (qComp (qRng1 (qVar 2)) [none,some 3,some 6] (pName 0) (qTest (q2 (RIn true) (qVar 0) (qVar 1))) (qIx (qVar 2) (qVar 0))))
 (qSeq (qSet 13 (qAndV (q2 (RInO true) (qC .non) (qVar 12)) (qLe (qCall RSum (qCons (qComp (qSeqI (qVar 12)) [none] (pName 0) (qTest (qNotN (qVar 0) (qC .non))) (qVar 0)) qNil)) (qVar 9))))
 (qSeq (qSet 14 (qCall p_is_within70 (qCons (qVar 1) (qCons (qVar 7) (qCons (qVar 3) qNil)))))
 (qSeq (qIf (qOr (qTest (q2 (REqS 2 true) (qVar 7) (qVar 4))) (qOr (qTest (qGt (qVar 10) (qVar 9))) (qOr (qNot (qTest (qIsI K "bool" (qVar 14)))) (qTest (qNe (qVar 14) (qVar 13)))))) (qRet (qC (.bl false))) qNext)
 (qRet (qOrV (qVar 13) (q2 (RInO false) (qC .non) (qVar 5))))))))))))))))))))
theorem rd_law_k70 {K:PySem.W.Frag}:Rd1 (t_law_k70 K) ["script","web","many","seeds","weights","ranks","own","handed","found","room","taken","hearth","others","due","told"] p_law_k70:=by
 have kk:=kits K
 rintro xs Q ⟨ns,rfl,hl,q⟩
 refine⟨_,rfl,ns,3,rfl,hl,by decide,fun n ws ls n0 n1 w=>⟨trivial,?_⟩⟩
 have wl:=w.many
 have wb:=w.wb n1
 have few:ws.length<=40:=wb.few
 have most:=w.most
 have w6:W63 (ws.length:Int) ws ls:=⟨rfl,fun l h=>by have:=w.inn l h; (first|lia|omega),w.most,w.ord,w.pos⟩
 have ll:(ls.map fun l=>PV.tup [PV.int l.1,PV.int l.2]).length=ls.length:=List.length_map _
 refine⟨_,rfl,_,_,_,rfl,rfl,rfl,_,_,rfl,rfl,trivial,?_⟩
 rw [ints_len]
 refine⟨_,rfl,_,rfl,_,ns,1,_,rfl,.inl rfl,by decide,by (first|lia|omega),by (first|lia|omega),fun ms u=>⟨trivial,?_⟩⟩
 have hs:=u.set
 have sl:=set_len hs
 refine⟨_,rfl,_,rfl,_,_,_,rfl,rfl,rfl,_,_,rfl,rfl,ns,2,ls.length,?_,by decide,by (first|lia|omega),fun wts wtl wtp=>⟨trivial,?_⟩⟩
 ·rw [ll]; rfl
 refine⟨_,rfl,_,rfl,ws,ls,ms,rfl,w6,few,hs,fun m en=>⟨trivial,?_⟩⟩
 refine⟨_,rfl,_,rfl,ws,ls,wts,rfl,w6,few,wtl,fun ds dl hd=>⟨trivial,?_⟩⟩
 obtain ⟨os,rfl,dd⟩:=isDues_of dl hd
 have ol:=dd.len
 refine⟨_,rfl,_,_,rfl,rfl,flats_ints _,trivial,?_⟩
 refine⟨_,rfl,_,rfl,_,rfl,⟨_,_,rfl,rfl,flats_ints _,ws,ls,_,wts,_,ms,rfl,w6,few,.inr rfl,wtl,wtp,.inr rfl,hs,fun m' en'=>⟨trivial,?_⟩⟩⟩
 obtain rfl:=ends_eq en en'
 have fl:((List.range ws.length).map fun (h:Nat)=>optP (takenV (ms :: after ws ls ms m) (ls.zip wts) h)).length=ws.length:=by rw [List.length_map,List.length_range]
 refine⟨_,rfl,_,_,rfl,kk.ll,_,rfl,iteF ⟨_,rfl,_,_,rfl,rfl,_,rfl,.inl ⟨_,_,rfl,rfl,_,rfl,?_⟩⟩⟩
 rw [fl]
 show if (!decide ((ws.length:Int)=(ws.length:Int)))=true then _ else _
 rw [decide_eq_true rfl]
 refine iteF ?_
 have lz:(ls.zip wts).length=ls.length:=by rw [List.length_zip]; (first|lia|omega)
 generalize hrs:ms :: after ws ls ms m=rs
 generalize hfd:((List.range ws.length).map fun (h:Nat)=>optP (takenV rs (ls.zip wts) h))=fd
 have fat:∀ h:Nat,h < ws.length->atI fd (h:Int)=some (optP (takenV rs (ls.zip wts) h)):=fun h hh=>by
  rw [<- hfd]
  exact atI_nat (by rw [List.getElem?_map,List.getElem?_range hh]; rfl)
 have oat:∀ h:Nat,h < ws.length->atI (os.map optP) (h:Int)=some (optP (os.getD h none)):=fun h hh=>by
  refine atI_nat ?_
  rw [List.getElem?_map,List.getElem?_eq_getElem (show h < os.length by (first|lia|omega)),List.getD_eq_getElem?_getD,List.getElem?_eq_getElem (show h < os.length by (first|lia|omega))]; rfl
 refine⟨_,rfl,_,_,rfl,rfl,_,rfl,by rw [ints_len]; (first|lia|omega),by rw [ints_len]; (first|lia|omega),by rw [rngP_length,ints_len]; (first|lia|omega),fun j acc=>acc=intz ((((ls.zip wts).take j).filter fun z=>!(decide (z.1.1 ∈ ms) && decide (z.1.2 ∈ ms))).map (·.2)),rfl,?_,?_⟩
 ·rintro j y acc hy rfl
  obtain ⟨rfl,hj⟩:=rngP_at hy
  rw [ints_len] at hj
  rw [show (0:Int)+(j:Int)=(j:Int) by (first|lia|omega)]
  have jw:j < wts.length:=by (first|lia|omega)
  have jl:j < ls.length:=by (first|lia|omega)
  have hz:(ls.zip wts)[j]? = some (ls[j],wts[j]):=List.getElem?_zip_eq_some.mpr ⟨List.getElem?_eq_getElem jl,List.getElem?_eq_getElem jw⟩
  have tk:=take_filter_succ' (p:=fun z:(Int × Int) × Int=>!(decide (z.1.1 ∈ ms) && decide (z.1.2 ∈ ms))) hz
  have al:atI (ls.map fun l=>PV.tup [.int l.1,.int l.2]) (j:Int)=some (.tup [.int ls[j].1,.int ls[j].2]):=atI_nat (by rw [List.getElem?_map,List.getElem?_eq_getElem jl]; rfl)
  have aw:atI (intz wts) (j:Int)=some (.int wts[j]):=atI_nat (by rw [List.getElem?_map,List.getElem?_eq_getElem jw]; rfl)
  generalize ls[j]=l at *
  generalize wts[j]=wt at *
  refine⟨_,rfl,_,_,_,rfl,rfl,rfl,_,rfl,_,_,_,rfl,rfl,al,_,_,_,rfl,rfl,rfl,_,rfl,l.1,ms,rfl,rfl,_,rfl,?_⟩
  show if (!decide (l.1 ∈ ms))=true then _ else _
  have yes:(!(decide (l.1 ∈ ms) && decide (l.2 ∈ ms)))=true->intz ((((ls.zip wts).take j).filter fun z=>!(decide (z.1.1 ∈ ms) && decide (z.1.2 ∈ ms))).map (·.2)) ++ [PV.int wt]=intz ((((ls.zip wts).take (j+1)).filter fun z=>!(decide (z.1.1 ∈ ms) && decide (z.1.2 ∈ ms))).map (·.2)):=fun e=>by
   rw [if_pos e] at tk
   rw [tk,List.map_append,ints_app]; rfl
  by_cases h1:l.1 ∈ ms
  ·rw [decide_eq_true h1] at yes tk ⊢
   refine iteF ⟨_,rfl,_,_,_,rfl,rfl,rfl,_,rfl,_,_,_,rfl,rfl,al,_,_,_,rfl,rfl,rfl,_,rfl,l.2,ms,rfl,rfl,_,rfl,?_⟩
   show if (!decide (l.2 ∈ ms))=true then _ else _
   by_cases h2:l.2 ∈ ms
   ·rw [decide_eq_true h2] at tk ⊢
    rw [if_neg (by decide),List.append_nil] at tk
    refine iteF ?_
    show _=_
    rw [tk]
   ·rw [decide_eq_false h2] at yes ⊢
    exact iteT ⟨_,rfl,_,rfl,_,_,_,rfl,rfl,aw,nw_int _ _,yes rfl⟩
  ·rw [decide_eq_false h1] at yes ⊢
   exact iteT (iteT ⟨_,rfl,_,rfl,_,_,_,rfl,rfl,aw,nw_int _ _,yes rfl⟩)
 rintro acc rfl
 rw [rngP_length,ints_len,List.take_of_length_le (by (first|lia|omega))]
 refine⟨_,(loose ls wts ms).map (·.2),rfl,rfl,trivial,?_⟩
 generalize hroom:((loose ls wts ms).map (·.2)).sum=room
 refine⟨trivial,?_⟩
 refine⟨_,rfl,(ws.length:Int),rfl,by (first|lia|omega),by (first|lia|omega),fun i ρ=>∃ y,ρ = [some (Slot.sh true (.scr ns)),some (.sh true (webP ws ls)),si (ws.length:Int),some (.sh true (.tup (intz ms))),some (.sh true (.lst (intz wts))),some (.sh true (.lst (rkL ws.length rs))),some (.sh true (.lst (os.map optP))),some (.sh true (.lst (intz wts))),some (.sh true (.lst fd)),si room,si ((((rng ws.length).take i).filter fun h=>(rkOf rs h).isSome).map fun h=>(((ls.zip wts).filter fun z=>tkr rs z h).map (·.2)).sum).sum,y,none,none,none],⟨none,rfl⟩,?_,?_⟩
 ·rintro i y ρ hy ⟨y0,rfl⟩
  obtain ⟨rfl,hi⟩:=rngP_at hy
  have il:i < ws.length:=by (first|lia|omega)
  rw [show (0:Int)+(i:Int)=(i:Int) by (first|lia|omega)]
  have tk:=take_filter_succ' (p:=fun h=>(rkOf rs h).isSome) (rng_at il)
  have ai:=rkL_at (n:=ws.length) (rs:=rs) (h:=(i:Int)) (by (first|lia|omega)) (by (first|lia|omega))
  have fa:=fat i il
  have oa:=oat i il
  refine pName_int ?_
  refine⟨_,rfl,_,rfl,_,_,_,rfl,rfl,fa,_,rfl,_,rfl,_,rfl,_,rfl,ws,ls,wts,rs,(i:Int),rfl,w6,wtl,by (first|lia|omega),by (first|lia|omega),takenV rs (ls.zip wts) i,rfl,_,rfl,iteF ?_⟩
  refine⟨_,rfl,_,rfl,_,_,_,rfl,rfl,ai,rfl,_,rfl,?_⟩
  show if (!isNon (rkP rs i))=true then _ else _
  cases hr:rkOf rs (i:Int) with
  | none=>
   have e1:rkP rs i = .non:=by unfold rkP; rw [hr]
   rw [e1]
   rw [if_neg (by rw [hr]; decide),List.append_nil] at tk
   exact iteF ⟨si (i:Int),by rw [tk]; rfl⟩
  | some k=>
   have e1:rkP rs i = .int (k:Int):=by unfold rkP; rw [hr]
   have e2:takenV rs (ls.zip wts) i=some (((ls.zip wts).filter fun z=>tkr rs z i).map (·.2)).sum:=by unfold takenV; rw [hr]; rfl
   rw [e2] at fa
   rw [e1]
   rw [if_pos (by rw [hr]; rfl)] at tk
   refine iteT ⟨_,rfl,_,rfl,_,rfl,_,_,_,rfl,rfl,fa,_,_,rfl,rfl,trivial,?_⟩
   have nx:∃ y,[some (Slot.sh true (.scr ns)),some (.sh true (webP ws ls)),si (ws.length:Int),some (.sh true (.tup (intz ms))),some (.sh true (.lst (intz wts))),some (.sh true (.lst (rkL ws.length rs))),some (.sh true (.lst (os.map optP))),some (.sh true (.lst (intz wts))),some (.sh true (.lst fd)),si room,si (((((rng ws.length).take i).filter fun h=>(rkOf rs h).isSome).map fun h=>(((ls.zip wts).filter fun z=>tkr rs z h).map (·.2)).sum).sum+(((ls.zip wts).filter fun z=>tkr rs z i).map (·.2)).sum),si (i:Int),none,none,none] = [some (Slot.sh true (.scr ns)),some (.sh true (webP ws ls)),si (ws.length:Int),some (.sh true (.tup (intz ms))),some (.sh true (.lst (intz wts))),some (.sh true (.lst (rkL ws.length rs))),some (.sh true (.lst (os.map optP))),some (.sh true (.lst (intz wts))),some (.sh true (.lst fd)),si room,si ((((rng ws.length).take (i+1)).filter fun h=>(rkOf rs h).isSome).map fun h=>(((ls.zip wts).filter fun z=>tkr rs z h).map (·.2)).sum).sum,y,none,none,none]:=by
    refine⟨si (i:Int),?_⟩
    rw [tk,List.map_append,List.sum_append,List.map_cons,List.map_nil,List.sum_cons,List.sum_nil,Int.add_zero]
   refine⟨_,rfl,_,rfl,(i:Int),ms,rfl,rfl,_,rfl,?_⟩
   show if (!decide ((i:Int) ∈ ms))=true then _ else _
   by_cases hm:(i:Int) ∈ ms
   ·rw [decide_eq_true hm]
    exact iteF (iteF nx)
   ·rw [decide_eq_false hm]
    have hr':=hr
    rw [<- hrs] at hr'
    obtain ⟨hk,hrow⟩:=rk_iff.mp hr'
    obtain ⟨k',rfl⟩:∃ k',k=k'+1:=by
     cases k with
     | zero=>exact absurd hrow hm
     | succ k=>exact⟨k,rfl⟩
    obtain ⟨o,eo,dd'⟩:=dd.due i il
    obtain ⟨v,ev,le⟩:=due_taken w6 wtl wtp (m:=m) (ns:=ms) (h:=(i:Int)) (k:=k') (by (first|lia|omega)) hrow dd'
    rw [hrs] at le
    have og:os.getD i none=some v:=by
     rw [List.getD_eq_getElem?_getD,eo]
     cases o with
     | none=>cases ev
     | some z=>cases ev; rfl
    rw [og] at oa
    refine iteT ⟨_,rfl,_,rfl,_,_,_,rfl,rfl,oa,rfl,_,rfl,iteF ⟨_,rfl,_,rfl,_,_,_,rfl,rfl,fa,_,rfl,_,rfl,_,_,_,rfl,rfl,oa,_,_,rfl,rfl,_,rfl,?_⟩⟩
    rw [decide_eq_false (by (first|lia|omega))]
    exact iteF nx
 rintro ρ ⟨y11,rfl⟩
 rw [rngP_length,List.take_of_length_le (by rw [rng_len]; (first|lia|omega))]
 generalize htk:(((rng ws.length).filter fun h=>(rkOf rs h).isSome).map fun h=>(((ls.zip wts).filter fun z=>tkr rs z h).map (·.2)).sum).sum=taken
 have tle:taken<=room:=by
  have l3:=takes_sum (tkr rs) (L:=(rng ws.length).filter fun h=>(rkOf rs h).isSome) ((rng_nodup _).sublist List.filter_sublist) (zs:=loose ls wts ms) (fun z hz=>wtp z.2 (List.of_mem_zip (List.mem_filter.mp hz).1).2) fun z _ x _ y _ hx hy=>tkr_one hx hy
  have e:(fun h=>(((loose ls wts ms).filter fun z=>tkr rs z h).map (·.2)).sum)=fun h=>(((ls.zip wts).filter fun z=>tkr rs z h).map (·.2)).sum:=by
   funext h
   rw [<- hrs,tk_loose]
  rw [e,htk,hroom] at l3
  exact l3
 refine⟨_,rfl,(ws.length:Int),rfl,by (first|lia|omega),by (first|lia|omega),by rw [rngP_length]; (first|lia|omega),fun j acc=>acc=((((rng ws.length).take j).filter fun h=>!decide (h ∈ ms)).map fun h=>os.getD h.toNat none).map optP,rfl,?_,?_⟩
 ·rintro j y acc hy rfl
  obtain ⟨rfl,hj⟩:=rngP_at hy
  have jl:j < ws.length:=by (first|lia|omega)
  rw [show (0:Int)+(j:Int)=(j:Int) by (first|lia|omega)]
  have tk:=take_filter_succ' (p:=fun h=>!decide (h ∈ ms)) (rng_at jl)
  refine⟨_,rfl,_,rfl,(j:Int),ms,rfl,rfl,_,rfl,?_⟩
  show if (!decide ((j:Int) ∈ ms))=true then _ else _
  by_cases hm:(j:Int) ∈ ms
  ·rw [decide_eq_true hm]
   rw [if_neg (by simp [hm]),List.append_nil] at tk
   refine iteF ?_
   show _=_
   rw [tk]
  ·rw [decide_eq_false hm]
   rw [if_pos (by simp [hm])] at tk
   refine iteT ⟨_,rfl,_,rfl,_,_,_,rfl,rfl,oat j jl,nw_opt _ _,?_⟩
   show _=_
   rw [tk,List.map_append,List.map_append]; rfl
 rintro acc rfl
 rw [rngP_length,List.take_of_length_le (by rw [rng_len]; (first|lia|omega))]
 refine⟨trivial,?_⟩
 have tail:∀ oth,oth=othO ws.length ms os->(qSeq (qSet 14 (qCall p_is_within70 (qCons (qVar 1) (qCons (qVar 7) (qCons (qVar 3) qNil)))))
   (qSeq (qIf (qOr (qTest (q2 (REqS 2 true) (qVar 7) (qVar 4))) (qOr (qTest (qGt (qVar 10) (qVar 9))) (qOr (qNot (qTest (qIsI K "bool" (qVar 14)))) (qTest (qNe (qVar 14) (qVar 13)))))) (qRet (qC (.bl false))) qNext)
   (qRet (qOrV (qVar 13) (q2 (RInO false) (qC .non) (qVar 5)))))) { nx:=fun _=>Q .non,rt:=Q } ([some (Slot.sh true (.scr ns)),some (.sh true (webP ws ls)),si (ws.length:Int),some (.sh true (.tup (intz ms))),some (.sh true (.lst (intz wts))),some (.sh true (.lst (rkL ws.length rs))),some (.sh true (.lst (os.map optP))),some (.sh true (.lst (intz wts))),some (.sh true (.lst fd)),si room,si taken,y11,some (.sh true (.lst (oth.map optP))),some (.sh true (.bl (withB ls wts ms oth))),none]):=fun oth ho=>by
  refine⟨_,rfl,_,rfl,_,rfl,ws,ls,_,wts,_,ms,rfl,w6,few,.inr rfl,wtl,wtp,.inl rfl,hs,fun os' dd'=>⟨trivial,?_⟩⟩
  obtain rfl:=dd.eq dd'
  rw [<- ho]
  refine⟨_,rfl,_,rfl,.inr ⟨_,_,rfl,rfl⟩,okE_lstI 2 wts wts,_,rfl,?_⟩
  show if (!eqP 3 (.lst (intz wts)) (.lst (intz wts)))=true then _ else _
  rw [eqP_lstI,decide_eq_true rfl]
  refine iteF ⟨_,rfl,_,rfl,_,_,rfl,rfl,_,rfl,?_⟩
  dsimp only
  rw [decide_eq_false (by (first|lia|omega))]
  refine iteF ⟨_,rfl,_,_,rfl,kk.bb,_,rfl,iteF ?_⟩
  cases hW:withB ls wts ms oth with
  | true=>exact⟨_,rfl,_,rfl,.inr ⟨_,_,rfl,rfl,_,rfl,iteF ⟨_,rfl,_,rfl,iteT ⟨trivial,q⟩⟩⟩⟩
  | false=>
   refine⟨_,rfl,_,rfl,.inr ⟨_,_,rfl,rfl,_,rfl,iteF ⟨_,rfl,_,rfl,iteF ⟨_,rfl,_,rfl,congrArg PV.lst (rkL_opts _ _),trivial,?_⟩⟩⟩⟩
   have yes:none ∈ ((List.range ws.length).map fun (h:Nat)=>(rkOf rs (h:Int)).map fun (k:Nat)=>(k:Int)):=Classical.byContradiction fun hno=>by
    have all:∀ h:Int,0<=h->h < (ws.length:Int)->h ∈ stp ws ls ms m:=fun h h0 h1=>Classical.byContradiction fun z=>by
     have:=rk_none.mpr z
     rw [hrs] at this
     refine hno (List.mem_map.mpr ⟨h.toNat,List.mem_range.mpr (by (first|lia|omega)),?_⟩)
     rw [show ((h.toNat:Nat):Int)=h by (first|lia|omega),this]; rfl
    obtain ⟨w1,w2⟩:=within_le (m:=m) w6 hs wtl wtp dd all
    have nn:none ∉ oth:=fun z=>by
     rw [ho] at z
     unfold othO at z
     obtain ⟨h,hh,e⟩:=List.mem_map.mp z
     rw [w1 h hh] at e; cases e
    unfold withB at hW
    rw [decide_eq_false nn] at hW
    have le:(oth.map fun o=>o.getD 0).sum<=((loose ls wts ms).map (·.2)).sum:=by
     rw [ho]
     unfold othO
     rw [List.map_map]
     exact w2
    rw [decide_eq_true le] at hW
    cases hW
   show Q (.bl (decide (none ∈ _)))
   rw [decide_eq_true yes]; exact q
 generalize hoth:((rng ws.length).filter fun h=>!decide (h ∈ ms)).map (fun h=>os.getD h.toNat none)=oth
 have tl:=tail oth hoth.symm
 have ohl:oth.length<=40:=by
  rw [<- hoth,List.length_map]
  have:=List.length_filter_le (fun h=>!decide (h ∈ ms)) (rng ws.length)
  rw [rng_len] at this
  (first|lia|omega)
 refine⟨_,rfl,oth,rfl,rfl,_,rfl,?_⟩
 show if (!decide (none ∈ oth))=true then _ else _
 unfold withB at tl
 by_cases hn:none ∈ oth
 ·rw [decide_eq_true hn] at tl ⊢
  exact iteF ⟨trivial,tl⟩
 ·rw [decide_eq_false hn] at tl ⊢
  refine iteT ⟨_,rfl,_,rfl,(fun z=>by cases z),by rw [List.length_map]; (first|lia|omega),fun i acc=>acc=intz ((oth.take i).filterMap id),rfl,?_,?_⟩
  ·rintro i y acc hy rfl
   rw [List.getElem?_map] at hy
   cases ho:oth[i]? with
   | none=>rw [ho] at hy; cases hy
   | some o=>
    rw [ho] at hy
    cases hy
    have tk:=comp_some ho
    cases o with
    | none=>
     refine⟨_,rfl,rfl,_,rfl,iteF ?_⟩
     show _=_
     rw [tk]; simp
    | some v=>
     refine⟨_,rfl,rfl,_,rfl,iteT ⟨_,rfl,nw_int _ _,?_⟩⟩
     show _=_
     rw [tk,ints_app]; rfl
  ·rintro acc rfl
   have fe:oth.filterMap id=oth.map fun o=>o.getD 0:=by
    clear tl ohl hoth
    induction oth with
    | nil=>rfl
    | cons o r ih=>
     cases o with
     | none=>exact absurd List.mem_cons_self hn
     | some v=>rw [List.filterMap_cons,ih fun z=>hn (List.mem_cons_of_mem _ z)]; rfl
   rw [List.length_map,List.take_length,fe]
   refine⟨_,_,rfl,rfl,_,rfl,_,_,rfl,rfl,trivial,?_⟩
   rw [hroom] at tl
   exact tl
end Core
namespace PP
open PySem L2 PyProof.Rows
section
variable {X : Cx} {σ : L2.St} {H : Hp} {D : Ends} {tr : PTA} {Q' : VK} {a b c e : Expr} {es : List Expr} {pos p2 cp np hp : Pos} {t : PTS} {te : PTE} {tc : PTT}
noncomputable def tyV:V->Value
 | .ref a=>.ref a
 | .ty n=>.type n
 | _=>.none
end
end PP
namespace PP
open PySem L2
theorem us1 {us:List Value} (h:us.length=1):∃ a,us = [a]:=List.length_eq_one_iff.mp h
theorem us2 {us:List Value} (h:us.length=2):∃ a b,us = [a,b]:=by
 cases us with
 | nil=>cases h
 | cons a r=>
  obtain ⟨b,rfl⟩:=us1 (us:=r) (by simpa using h)
  exact⟨a,b,rfl⟩
theorem us3 {us:List Value} (h:us.length=3):∃ a b c,us = [a,b,c]:=by
 cases us with
 | nil=>cases h
 | cons a r=>
  obtain ⟨b,c,rfl⟩:=us2 (us:=r) (by simpa using h)
  exact⟨a,b,c,rfl⟩
theorem us4 {us:List Value} (h:us.length=4):∃ a b c d,us = [a,b,c,d]:=by
 cases us with
 | nil=>cases h
 | cons a r=>
  obtain ⟨b,c,d,rfl⟩:=us3 (us:=r) (by simpa using h)
  exact⟨a,b,c,d,rfl⟩
end PP
namespace K_k70
open PySem L2 PP Core
noncomputable def top (i:Nat):Stmt:=PySem.Challenge.pw_kindleweb_k70_whole_what_is_taken.main.body.getD i (.Pass ⟨0,0,0,0⟩)
section
variable {P : Program} {w : World} {K : PySem.W.Frag} {mg : Str → Option Value} {base : Heap} {f : Addr} {fd : FuncData}
theorem nd2:(["ahead","behind"]:List Str).Nodup:=by decide +kernel
noncomputable abbrev sRises:Stmt:=top 7
theorem scR:FnScope ["things"] ["things"] (defScope sRises):=⟨rfl,rfl,rfl,by decide +kernel,rfl,by decide +kernel,by decide +kernel⟩
theorem pair_at {ns:List Int}{i:Nat}{x y:V} (h1:(ns.map V.int)[i]? = some x) (h2:((ns.map V.int).drop 1)[i]? = some y):∃ p q:Int,x = .int p/\y = .int q/\(ns.zip (ns.drop 1))[i]? = some (p,q):=by
 rw [List.getElem?_map] at h1
 rw [<- List.map_drop,List.getElem?_map] at h2
 cases e1:ns[i]? with
 | none=>rw [e1] at h1; cases h1
 | some p=>
  cases e2:(ns.drop 1)[i]? with
  | none=>rw [e2] at h2; cases h2
  | some q=>
   rw [e1] at h1; rw [e2] at h2
   exact⟨p,q,(Option.some.inj h1).symm,(Option.some.inj h2).symm,List.getElem?_zip_eq_some.mpr ⟨e1,e2⟩⟩
theorem ok_rises (B:Bt mg) (F:Fun K "rises" "rises" sRises f fd):FnOk P w K mg base CX0 1 f fd ["things"] (spRises K):=by
 refine F.ok scR (fun vs H Q E h=>?_) (fun cdv A outer s H vs Q E hr h=>?_)
 ·obtain ⟨a,ns,rfl,_⟩:=h
  rfl
 obtain ⟨a,ns,rfl,hS,hn,q⟩:=h
 have lz:((ns.map V.int).drop 1).length<=sizeLine:=Nat.le_of_lt (bigEnough (by rw [List.length_drop,List.length_map]; (first|lia|omega)))
 have lz2:((ns.map V.int).drop 1).length<=(ns.map V.int).length:=by rw [List.length_drop]; (first|lia|omega)
 have lz3:(ns.zip (ns.drop 1)).length=((ns.map V.int).drop 1).length:=by rw [List.length_zip,List.length_drop,List.length_drop,List.length_map]; (first|lia|omega)
 rcases hS with hS | hS
 ·refine⟨_,pss_one (ps_ret (pe_callB (call_allB rfl) rfl B.all PyProof.Rows.boot_all (pa_cons (pe_comp (N:=["ahead","behind"]) (fr:=[none,none]) rfl (CoScope.of rfl rfl) (pi_zip rfl B.zip (pa_cons (pv 0) (pa_cons (pe_slice sl_tupA (pv 0) (po_some pe_int) po_none) pa_nil)))
   ⟨fun _ _ _ _=>show PG _ _ (gTup K 2 (gCons (gName 0) (gCons (gName 1) gNil))) from pg_tup rfl (pgs_cons (pg_name (i:=0) nd2 rfl (Or.inl rfl) (.inr rfl)) (pgs_cons (pg_name (i:=1) nd2 rfl (Or.inl rfl) (.inr rfl)) pgs_nil)),fun _ _ _ _=>pts_nil,fun _ _ _ _=>pe_cmpR op_lt (pv 0) (pv 1) (nomark _)⟩) pa_nil))),?_⟩
  refine⟨_,rfl,_,rfl,1,rfl,a,_,rfl,hS,fun p hp=>?_,fun e=>?_⟩
  ·have s1:=same_new hp (.tup (cutV (ns.map V.int) (some 1) none))
   have hb:SqT K (upd H p (.tup (cutV (ns.map V.int) (some 1) none))) p ((ns.map V.int).drop 1):=SqT.of (by rw [upd_same,cut1])
   refine⟨a,p,_,_,rfl,s1.tup hS,hb,comp_byR (over_zip (s1.tup hS) hb lz2) (fun i acc _=>acc=((ns.zip (ns.drop 1)).take i).map fun (p:Int × Int)=>V.bl (decide (p.1 < p.2))) lz (fun _ _=>rfl) (fun _ _ _ _ _ h=>h) (fun i x acc D H' hi hR c hP=>?_) (fun D acc H' hD sm hDa hlen hP=>?_)⟩
   ·obtain ⟨T,x1,y1,rfl,hT,h1,h2⟩:=hR
    obtain ⟨m,k,rfl,rfl,hz⟩:=pair_at h1 h2
    refine⟨T,_,rfl,SqT.of hT,rfl,_,_,rfl,_,_,rfl,rfl,((Wk.refl _).set (i:=0) rfl).set (i:=1) rfl,tyes ⟨_,rfl,_,rfl,_,_,rfl,rfl,c.yes (Same.refl _) ?_⟩⟩
    rw [take_map_succ hz,hP]
   ·refine⟨D,(ns.zip (ns.drop 1)).map fun (p:Int × Int)=>decide (p.1 < p.2),rfl,SqL.of ?_,q _ (s1.trans sm)⟩
    rw [hDa,hP,<- lz3,List.take_length,List.map_map]; rfl
  ·have hb:SqT K H a ((ns.map V.int).drop 1):=by
    have:(ns.map V.int).drop 1=ns.map V.int:=by rw [<- cut1]; exact e
    rw [this]; exact hS
   refine⟨a,a,_,_,rfl,hS,hb,comp_byR (over_zip hS hb lz2) (fun i acc _=>acc=((ns.zip (ns.drop 1)).take i).map fun (p:Int × Int)=>V.bl (decide (p.1 < p.2))) lz (fun _ _=>rfl) (fun _ _ _ _ _ h=>h) (fun i x acc D H' hi hR c hP=>?_) (fun D acc H' hD sm hDa hlen hP=>?_)⟩
   ·obtain ⟨T,x1,y1,rfl,hT,h1,h2⟩:=hR
    obtain ⟨m,k,rfl,rfl,hz⟩:=pair_at h1 h2
    refine⟨T,_,rfl,SqT.of hT,rfl,_,_,rfl,_,_,rfl,rfl,((Wk.refl _).set (i:=0) rfl).set (i:=1) rfl,tyes ⟨_,rfl,_,rfl,_,_,rfl,rfl,c.yes (Same.refl _) ?_⟩⟩
    rw [take_map_succ hz,hP]
   ·refine⟨D,(ns.zip (ns.drop 1)).map fun (p:Int × Int)=>decide (p.1 < p.2),rfl,SqL.of ?_,q _ sm⟩
    rw [hDa,hP,<- lz3,List.take_length,List.map_map]; rfl
 ·refine⟨_,pss_one (ps_ret (pe_callB (call_allB rfl) rfl B.all PyProof.Rows.boot_all (pa_cons (pe_comp (N:=["ahead","behind"]) (fr:=[none,none]) rfl (CoScope.of rfl rfl) (pi_zipL rfl B.zip (pa_cons (pv 0) (pa_cons (pe_slice sl_list (pv 0) (po_some pe_int) po_none) pa_nil)))
   ⟨fun _ _ _ _=>show PG _ _ (gTup K 2 (gCons (gName 0) (gCons (gName 1) gNil))) from pg_tup rfl (pgs_cons (pg_name (i:=0) nd2 rfl (Or.inl rfl) (.inr rfl)) (pgs_cons (pg_name (i:=1) nd2 rfl (Or.inl rfl) (.inr rfl)) pgs_nil)),fun _ _ _ _=>pts_nil,fun _ _ _ _=>pe_cmpR op_lt (pv 0) (pv 1) (nomark _)⟩) pa_nil))),?_⟩
  refine⟨_,rfl,_,rfl,1,rfl,a,_,rfl,hS,fun p hp=>?_⟩
  have s1:=same_new hp (.lst (cutV (ns.map V.int) (some 1) none))
  have hb:SqL K (upd H p (.lst (cutV (ns.map V.int) (some 1) none))) p ((ns.map V.int).drop 1):=SqL.of (by rw [upd_same,cut1])
  refine⟨a,p,_,_,rfl,s1.seq hS,hb,comp_byR (over_zipL (s1.seq hS) hb lz2) (fun i acc _=>acc=((ns.zip (ns.drop 1)).take i).map fun (p:Int × Int)=>V.bl (decide (p.1 < p.2))) lz (fun _ _=>rfl) (fun _ _ _ _ _ h=>h) (fun i x acc D H' hi hR c hP=>?_) (fun D acc H' hD sm hDa hlen hP=>?_)⟩
  ·obtain ⟨T,x1,y1,rfl,hT,h1,h2⟩:=hR
   obtain ⟨m,k,rfl,rfl,hz⟩:=pair_at h1 h2
   refine⟨T,_,rfl,SqT.of hT,rfl,_,_,rfl,_,_,rfl,rfl,((Wk.refl _).set (i:=0) rfl).set (i:=1) rfl,tyes ⟨_,rfl,_,rfl,_,_,rfl,rfl,c.yes (Same.refl _) ?_⟩⟩
   rw [take_map_succ hz,hP]
  ·refine⟨D,(ns.zip (ns.drop 1)).map fun (p:Int × Int)=>decide (p.1 < p.2),rfl,SqL.of ?_,q _ (s1.trans sm)⟩
   rw [hDa,hP,<- lz3,List.take_length,List.map_map]; rfl
noncomputable abbrev sNearLists:Stmt:=top 9
theorem scNL:FnScope ["web","around","one","other"] ["web"] (defScope sNearLists):=⟨rfl,rfl,rfl,by decide +kernel,rfl,by decide +kernel,by decide +kernel⟩
theorem ok_nearLists (F:Fun K "near_lists" "near_lists" sNearLists f fd):FnOk P w K mg base CX0 1 f fd ["web"] spNearLists:=by
 refine F.ok scNL (fun vs H Q E h=>?_) (fun cdv A outer s H vs Q E hr h=>?_)
 ·obtain ⟨v,ws,ls,rfl,_⟩:=h
  rfl
 obtain ⟨v,ws,ls,rfl,W,hn,hm,hin,q⟩:=h
 refine⟨_,pss_cons (ps_setC (i:=1) (N:=["want"]) (fr:=[none]) rfl (CoScope.of rfl rfl) (pi_tup (pe_ix ix_tup (pv 0) pe_int (fun _ _=>rfl)))
   ⟨fun _ _ _ _=>pg_name (i:=0) (List.pairwise_singleton _ _) rfl (Or.inl rfl) (.inr rfl),fun _ _ _ _=>pts_nil,fun _ _ _ _=>pe_lst pa_nil⟩ scNL.nd rfl rfl rfl)
  (pss_cons (ps_for PassesOwn.never rfl (pi_tup (pe_ix ix_tup (pv 0) pe_int (fun _ _=>rfl))) (pg_tup (n:=2) rfl (pgs_cons (pg_name (i:=2) scNL.nd rfl (Or.inl rfl) (.inr rfl)) (pgs_cons (pg_name (i:=3) scNL.nd rfl (Or.inl rfl) (.inr rfl)) pgs_nil)) )
   (pss_cons (ps_expr (pe_bm PySem.F.plainAttrs_list PySem.F.slot_list_append PySem.F.type_list_append mt_append (pe_ix ix_list (pv 1) (pv 2) (fun _ _=>rfl)) (pa_cons (pv 3) pa_nil)))
   (pss_one (ps_expr (pe_bm PySem.F.plainAttrs_list PySem.F.slot_list_append PySem.F.type_list_append mt_append (pe_ix ix_list (pv 1) (pv 3) (fun _ _=>rfl)) (pa_cons (pv 2) pa_nil))))))
  (pss_one (ps_ret (pv 1)))),?_⟩
 obtain ⟨a,p,q',ys,rfl,ha,hp,hq,hL⟩:=W.at_
 have lw:(ws.map V.int).length=ws.length:=List.length_map _
 refine⟨_,rfl,a,_,_,_,rfl,rfl,SqT.of ha,rfl,p,rfl,⟨_,SqT.of hp⟩,comp_by (over_tup (SqT.of hp)) (fun i acc H'=>∃ bs:List Addr,acc=bs.map V.ref/\bs.length=i/\bs.Nodup/\∀ b ∈ bs,H b=none/\H' b=some (.lst [])) (by rw [lw]; exact Nat.le_of_lt (small1000 hn))
  (fun D hD=>⟨[],rfl,rfl,List.nodup_nil,fun _ z=>nomatch z⟩) (fun i x acc D H' hx c hPv=>?_) (fun D acc H' hD sm hDa hlen hPv=>?_)⟩
 ·obtain ⟨bs,rfl,hbl,nd,hb⟩:=hPv
  refine⟨wk0 (n:=none),tyes ⟨Nat.zero_le _,fun r hr'=>?_⟩⟩
  have hrD:r ≠ D:=fun z=>by rw [z,c.acc] at hr'; cases hr'
  have hrH:H r=none:=c.same.free hr'
  refine c.yes (same_new hr' _) ⟨bs ++ [r],by simp,by simp [hbl],?_,fun b hm=>?_⟩
  ·refine List.nodup_append.mpr ⟨nd,List.pairwise_singleton _ _,fun b hb1 b' hb2 e=>?_⟩
   rw [List.mem_singleton.mp hb2] at e
   rw [e] at hb1
   rw [(hb r hb1).2] at hr'; cases hr'
  ·rcases List.mem_append.mp hm with hm | hm
   ·have hbD:b ≠ D:=fun z=>by
     rw [z] at hm
     have:=(hb D hm).2
     rw [c.acc] at this
     have:bs.map V.ref = []:=by injection this with e1; injection e1
     have:bs = []:=List.map_eq_nil_iff.mp this
     rw [this] at hm; simp at hm
    refine⟨(hb b hm).1,?_⟩
    rw [upd_ne hbD,upd_ne (ne_of_none (hb b hm).2 hr')]
    exact (hb b hm).2
   ·rw [List.mem_singleton.mp hm]
    exact⟨hrH,by rw [upd_ne hrD,upd_same]⟩
 ·obtain ⟨bs,rfl,hbl,nd,hb⟩:=hPv
  rw [lw] at hbl
  have R0:RowsAt H H' D bs (fun k=>nbrs (ls.take 0) k):=by
   refine⟨hD,fun b hm=>⟨(hb b hm).1,fun z=>?_⟩,nd,hDa,fun k b hk=>(hb b (List.mem_of_getElem? hk)).2,sm⟩
   rw [z] at hm
   have:=(hb D hm).2
   rw [hDa] at this
   have:bs.map V.ref = []:=by injection this with e1; injection e1
   have:bs = []:=List.map_eq_nil_iff.mp this
   rw [this] at hm; simp at hm
  have lL:=hL.length
  refine⟨_,rfl,a,_,_,_,rfl,rfl,SqT.of (sm _ _ ha),rfl,q',rfl,⟨_,SqT.of (sm _ _ hq)⟩,for_tup (K:=K) (a:=q') (xs:=ys) (fun i σ H2=>∃ x y:Option V,σ = [some (.ref a),some (.ref D),x,y]/\RowsAt H H2 D bs (fun k=>nbrs (ls.take i) k))
   ⟨none,none,rfl,R0⟩ (fun i σ H2 _ ⟨_,_,_,R⟩=>SqT.of (R.same _ _ hq)) ?_ ?_⟩
  ·rintro i y σ H2 hi ⟨x1,x2,rfl,R⟩
   obtain ⟨l,b,hl,rfl,hbt⟩:=hL.get hi
   have hlm:l ∈ ls:=List.mem_of_getElem? hl
   obtain ⟨⟨h1,h2⟩,h3,h4⟩:=hin l hlm
   have k1:l.1.toNat < bs.length:=by (first|lia|omega)
   have k2:l.2.toNat < bs.length:=by (first|lia|omega)
   have e1:bs[l.1.toNat]? = some (bs[l.1.toNat]):=List.getElem?_eq_getElem k1
   have e2:bs[l.2.toNat]? = some (bs[l.2.toNat]):=List.getElem?_eq_getElem k2
   refine⟨b,_,rfl,SqT.of (R.same _ _ hbt),rfl,_,_,rfl,_,_,rfl,rfl,?_⟩
   refine⟨_,rfl,_,rfl,D,_,_,.ref bs[l.1.toNat],rfl,rfl,SqL.of R.row,atI_int h1 (by rw [List.getElem?_map,e1]; rfl),tyL (SqL.of (R.rows _ _ e1)),_,rfl,_,_,_,rfl,rfl,R.rows _ _ e1,?_,?_⟩
   ·rw [List.length_map]
    have:=nbrs_len (ls.take i) (l.1.toNat:Nat)
    rw [List.length_take] at this
    exact bigEnough (by (first|lia|omega))
   ·have R1:=R.app e1 l.2
    refine⟨_,rfl,_,rfl,D,_,_,.ref bs[l.2.toNat],rfl,rfl,SqL.of R1.row,atI_int h3 (by rw [List.getElem?_map,e2]; rfl),tyL (SqL.of (R1.rows _ _ e2)),_,rfl,_,_,_,rfl,rfl,R1.rows _ _ e2,?_,?_⟩
    ·rw [List.length_map]
     have:=nbrs_len (ls.take i) (l.2.toNat:Nat)
     rw [List.length_take] at this
     split
     ·rw [List.length_append,List.length_singleton]; exact bigEnough (by (first|lia|omega))
     ·exact bigEnough (by (first|lia|omega))
    ·have R2:=R1.app e2 l.1
     refine⟨_,_,rfl,R2.congr fun k hk=>?_⟩
     rw [nbrs_take hl]
     have c1:(k=l.1.toNat) ↔ l.1=(k:Int):=by (first|lia|omega)
     have c2:(k=l.2.toNat) ↔ l.2=(k:Int):=by (first|lia|omega)
     by_cases d1:k=l.1.toNat
     ·by_cases d2:k=l.2.toNat
      ·rw [if_pos d2,if_pos d1,if_pos (c1.mp d1),if_pos (c2.mp d2)]; simp
      ·rw [if_neg d2,if_pos d1,if_pos (c1.mp d1),if_neg (fun z=>d2 (c2.mpr z))]; simp
     ·by_cases d2:k=l.2.toNat
      ·rw [if_pos d2,if_neg d1,if_neg (fun z=>d1 (c1.mpr z)),if_pos (c2.mp d2)]; simp
      ·rw [if_neg d2,if_neg d1,if_neg (fun z=>d1 (c1.mpr z)),if_neg (fun z=>d2 (c2.mpr z))]; simp
  ·
   rintro σ H2 ⟨x1,x2,rfl,R⟩
   refine⟨_,rfl,q D bs H2 hbl ?_⟩
   rw [lL,List.take_length] at R
   exact R
noncomputable abbrev sWeighted:Stmt:=top 21
theorem scW:FnScope ["web","weights","known","around","link","weight"] ["web","weights"] (defScope sWeighted):=⟨rfl,rfl,rfl,by decide +kernel,rfl,by decide +kernel,by decide +kernel⟩
theorem ok_weighted (B:Bt mg) (F:Fun K "weighted_lists" "weighted_lists" sWeighted f fd) (d_made_prices:Df P w K mg base 1 "made_prices" ["prices","many"] p_made_prices):FnOk P w K mg base CX0 2 f fd ["web","weights"] (spW K):=by
 refine F.ok scW (fun vs H Q E h=>?_) (fun cdv A outer s H vs Q E hr h=>?_)
 ·obtain ⟨v,x,px,ws,ls,wts,rfl,_⟩:=h
  rfl
 obtain ⟨v,xw,px,ws,ls,wts,rfl,W,rx,hpx,hwl,hwp,hn,hm,hin,q⟩:=h
 obtain ⟨fP,fdP,FP,bP,kpP,mP⟩:=d_made_prices.ex
 refine⟨_,pss_cons (ps_set (i:=2) scW.nd rfl (Or.inl rfl) (pe_call FP (hr.mono (by decide)) rfl mP kpP bP .nil pass0 (pa_cons (pv 1) (pa_cons (pe_callB call_len_seq (by rfl) B.len PySem.boot_len (pa_cons (pe_ix ix_tup (pv 0) pe_int (fun _ _=>rfl)) pa_nil)) pa_nil))))
  (pss_cons (ps_setC (i:=3) (N:=["want"]) (fr:=[none]) rfl (CoScope.of rfl rfl) (pi_tup (pe_ix ix_tup (pv 0) pe_int (fun _ _=>rfl)))
   ⟨fun _ _ _ _=>pg_name (i:=0) (List.pairwise_singleton _ _) rfl (Or.inl rfl) (.inr rfl),fun _ _ _ _=>pts_nil,fun _ _ _ _=>pe_lst pa_nil⟩ scW.nd rfl rfl rfl)
  (pss_cons (ps_for PassesOwn.never rfl (pi_zip rfl B.zip (pa_cons (pe_ix ix_tup (pv 0) pe_int (fun _ _=>rfl)) (pa_cons (pv 2) pa_nil))) (pg_tup (n:=2) rfl (pgs_cons (pg_name (i:=4) scW.nd rfl (Or.inl rfl) (.inr rfl)) (pgs_cons (pg_name (i:=5) scW.nd rfl (Or.inl rfl) (.inr rfl)) pgs_nil)))
   (pss_cons (ps_expr (pe_bm PySem.F.plainAttrs_list PySem.F.slot_list_append PySem.F.type_list_append mt_append (pe_ix ix_list (pv 3) (pe_ix ix_tup (pv 4) pe_int (fun _ _=>rfl)) (fun _ _=>rfl)) (pa_cons (pe_tup (pa_cons (pe_ix ix_tup (pv 4) pe_int (fun _ _=>rfl)) (pa_cons (pv 5) pa_nil))) pa_nil)))
   (pss_one (ps_expr (pe_bm PySem.F.plainAttrs_list PySem.F.slot_list_append PySem.F.type_list_append mt_append (pe_ix ix_list (pv 3) (pe_ix ix_tup (pv 4) pe_int (fun _ _=>rfl)) (fun _ _=>rfl)) (pa_cons (pe_tup (pa_cons (pe_ix ix_tup (pv 4) pe_int (fun _ _=>rfl)) (pa_cons (pv 5) pa_nil))) pa_nil))))))
  (pss_one (ps_ret (pv 3))))),?_⟩
 obtain ⟨a,p,q',ys,rfl,ha,hp,hq,hL⟩:=W.at_
 have lw:(ws.map V.int).length=ws.length:=List.length_map _
 have lL:=hL.length
 refine⟨_,rfl,_,rfl,a,_,_,_,rfl,rfl,SqT.of ha,rfl,q',_,rfl,.inr (SqT.of hq),?_⟩
 refine⟨[px,.int (ls.length:Nat)],fun z=>z = .tup (intz wts),.cons rx (.cons (by rw [lL]; exact .int _) .nil),⟨px,wts,ls.length,rfl,hpx,hwl,by (first|lia|omega),hwp,rfl⟩,?_⟩
 rintro kv H1 _ s1 rk rfl
 obtain ⟨t,kus,rfl,ht,rkk⟩:=rk.sqT
 obtain rfl:=rkk.ofInts
 have ha1:=s1 _ _ ha
 have hp1:=s1 _ _ hp
 have hq1:=s1 _ _ hq
 have hL1:=hL.mono s1
 refine⟨_,rfl,a,_,_,_,rfl,rfl,SqT.of ha1,rfl,p,rfl,⟨_,SqT.of hp1⟩,comp_by (over_tup (SqT.of hp1)) (fun i acc H'=>∃ bs:List Addr,acc=bs.map V.ref/\bs.length=i/\bs.Nodup/\∀ b ∈ bs,H1 b=none/\H' b=some (.lst [])) (by rw [lw]; exact Nat.le_of_lt (small1000 hn))
  (fun D hD=>⟨[],rfl,rfl,List.nodup_nil,fun _ z=>nomatch z⟩) (fun i x acc D H' hx c hPv=>?_) (fun D acc H' hD sm hDa hlen hPv=>?_)⟩
 ·obtain ⟨bs,rfl,hbl,nd,hb⟩:=hPv
  refine⟨wk0 (n:=none),tyes ⟨Nat.zero_le _,fun r hr'=>?_⟩⟩
  have hrD:r ≠ D:=fun z=>by rw [z,c.acc] at hr'; cases hr'
  have hrH:H1 r=none:=c.same.free hr'
  refine c.yes (same_new hr' _) ⟨bs ++ [r],by simp,by simp [hbl],?_,fun b hm=>?_⟩
  ·refine List.nodup_append.mpr ⟨nd,List.pairwise_singleton _ _,fun b hb1 b' hb2 e=>?_⟩
   rw [List.mem_singleton.mp hb2] at e
   rw [e] at hb1
   rw [(hb r hb1).2] at hr'; cases hr'
  ·rcases List.mem_append.mp hm with hm | hm
   ·have hbD:b ≠ D:=fun z=>by
     rw [z] at hm
     have:=(hb D hm).2
     rw [c.acc] at this
     have:bs.map V.ref = []:=by injection this with e1; injection e1
     have:bs = []:=List.map_eq_nil_iff.mp this
     rw [this] at hm; simp at hm
    refine⟨(hb b hm).1,?_⟩
    rw [upd_ne hbD,upd_ne (ne_of_none (hb b hm).2 hr')]
    exact (hb b hm).2
   ·rw [List.mem_singleton.mp hm]
    exact⟨hrH,by rw [upd_ne hrD,upd_same]⟩
 ·obtain ⟨bs,rfl,hbl,nd,hb⟩:=hPv
  rw [lw] at hbl
  have R0:RowsW H1 H' D bs (fun k=>wnb ((ls.zip wts).take 0) k):=by
   refine⟨hD,fun b hm=>⟨(hb b hm).1,fun z=>?_⟩,nd,hDa,fun k b hk=>⟨[],(hb b (List.mem_of_getElem? hk)).2,.nil⟩,sm⟩
   rw [z] at hm
   have:=(hb D hm).2
   rw [hDa] at this
   have:bs.map V.ref = []:=by injection this with e1; injection e1
   have:bs = []:=List.map_eq_nil_iff.mp this
   rw [this] at hm; simp at hm
  have lz:(ls.zip wts).length=ls.length:=by rw [List.length_zip]; (first|lia|omega)
  refine⟨_,rfl,a,_,_,_,rfl,rfl,SqT.of (sm _ _ ha1),rfl,_,rfl,q',t,_,_,rfl,SqT.of (sm _ _ hq1),SqT.of (sm _ _ ht),for_zip (K:=K) (xs:=ys) (ys:=wts.map V.int) (fun i σ H2=>∃ x y:Option V,σ = [some (.ref a),some xw,some (.ref t),some (.ref D),x,y]/\Same H1 H2/\RowsW H1 H2 D bs (fun k=>wnb ((ls.zip wts).take i) k))
   (by rw [List.length_map,hwl,lL]) ⟨none,none,rfl,sm,R0⟩ (fun i σ H2 _ ⟨_,_,_,S2,R⟩=>⟨SqT.of (S2 _ _ hq1),SqT.of (S2 _ _ ht)⟩) ?_ ?_⟩
  ·rintro i y u T σ H2 H3 hi hu hT rfl ⟨x1,x2,rfl,S2,R⟩
   obtain ⟨l,b,hl,rfl,hbt⟩:=hL1.get hi
   obtain ⟨wt,hwt,rfl⟩:∃ wt,wts[i]? = some wt/\u = .int wt:=by
    rw [List.getElem?_map] at hu
    cases e:wts[i]? with
    | none=>rw [e] at hu; cases hu
    | some z=>rw [e] at hu; exact⟨z,rfl,(Option.some.inj hu).symm⟩
   have hz:(ls.zip wts)[i]? = some (l,wt):=List.getElem?_zip_eq_some.mpr ⟨hl,hwt⟩
   have il:i < ls.length:=(List.getElem?_eq_some_iff.mp hl).1
   have hlm:l ∈ ls:=List.mem_of_getElem? hl
   obtain ⟨⟨h1,h2⟩,h3,h4⟩:=hin l hlm
   have k1:l.1.toNat < bs.length:=by (first|lia|omega)
   have k2:l.2.toNat < bs.length:=by (first|lia|omega)
   have e1:bs[l.1.toNat]? = some (bs[l.1.toNat]):=List.getElem?_eq_getElem k1
   have e2:bs[l.2.toNat]? = some (bs[l.2.toNat]):=List.getElem?_eq_getElem k2
   have sT:=same_new hT (HO.tup [.ref b,.int wt])
   have R1:=R.mono sT
   have hb3:=sT _ _ (S2 _ _ hbt)
   have S3:=S2.trans sT
   have hTt:upd H2 T (HO.tup [.ref b,.int wt]) T=some (.tup [.ref b,.int wt]):=upd_same
   generalize upd H2 T (HO.tup [.ref b,.int wt])=H3 at *
   refine⟨T,_,rfl,SqT.of hTt,rfl,_,_,rfl,_,_,rfl,rfl,?_⟩
   obtain ⟨us1,hu1,hl1⟩:=R1.rows _ _ e1
   refine⟨_,rfl,_,rfl,b,_,_,_,rfl,rfl,SqT.of hb3,rfl,D,_,_,.ref bs[l.1.toNat],rfl,rfl,SqL.of R1.row,atI_int h1 (by rw [List.getElem?_map,e1]; rfl),tyL (SqL.of hu1),_,rfl,b,_,_,_,rfl,rfl,SqT.of hb3,rfl,_,rfl,by show 2<=sizeLine; decide,fun T1 hT1=>?_⟩
   have sT1:=same_new hT1 (HO.tup [.int l.2,.int wt])
   have R1':=R1.mono sT1
   have hu1':=sT1 _ _ hu1
   have hl1':=hl1.mono sT1
   have hb4:=sT1 _ _ hb3
   have hT1t:upd H3 T1 (HO.tup [.int l.2,.int wt]) T1=some (.tup [.int l.2,.int wt]):=upd_same
   have S4:=S3.trans sT1
   have tl:=wnb_len (l.1.toNat:Nat) ((ls.zip wts).take i)
   have tl2:=wnb_len (l.2.toNat:Nat) ((ls.zip wts).take i)
   rw [List.length_take] at tl tl2
   refine⟨_,_,_,rfl,rfl,hu1',?_,?_⟩
   ·rw [hl1.length]; exact bigEnough (by (first|lia|omega))
   have R2:=R1'.app (x:=(l.2,wt)) e1 hu1' hl1' hT1t
   have hu1l:bs[l.1.toNat] ∈ bs:=List.getElem_mem k1
   have nb:∀ {o:HO},H1 bs[l.1.toNat]=some o->False:=fun {o} z=>by rw [(R.news _ hu1l).1] at z; cases z
   have S5:Same H1 (upd (upd H3 T1 (HO.tup [.int l.2,.int wt])) bs[l.1.toNat] (HO.lst (us1 ++ [V.ref T1]))):=fun c o e=>by rw [upd_ne (fun z=>nb (z ▸ e))]; exact S4 c o e
   have hb5:upd (upd H3 T1 (HO.tup [.int l.2,.int wt])) bs[l.1.toNat] (HO.lst (us1 ++ [V.ref T1])) b=some (.tup [.int l.1,.int l.2]):=S5 _ _ hbt
   generalize upd (upd H3 T1 (HO.tup [.int l.2,.int wt])) bs[l.1.toNat] (HO.lst (us1 ++ [V.ref T1]))=H5 at *
   obtain ⟨us2,hu2,hl2⟩:=R2.rows _ _ e2
   refine⟨_,rfl,_,rfl,b,_,_,_,rfl,rfl,SqT.of hb5,rfl,D,_,_,.ref bs[l.2.toNat],rfl,rfl,SqL.of R2.row,atI_int h3 (by rw [List.getElem?_map,e2]; rfl),tyL (SqL.of hu2),_,rfl,b,_,_,_,rfl,rfl,SqT.of hb5,rfl,_,rfl,by show 2<=sizeLine; decide,fun T2 hT2=>?_⟩
   have sT2:=same_new hT2 (HO.tup [.int l.1,.int wt])
   refine⟨_,_,_,rfl,rfl,sT2 _ _ hu2,?_,?_⟩
   ·rw [hl2.length]
    split
    ·rw [List.length_append,List.length_singleton]; exact bigEnough (by (first|lia|omega))
    ·exact bigEnough (by (first|lia|omega))
   have R3:=(R2.mono sT2).app (x:=(l.1,wt)) e2 (sT2 _ _ hu2) (hl2.mono sT2) upd_same
   refine⟨_,_,rfl,fun c o e=>(upd_ne (fun z=>by rw [z,(R.news _ (List.getElem_mem k2)).1] at e; cases e)).trans (sT2 _ _ (S5 c o e)),R3.congr fun k hk=>?_⟩
   rw [wnb_take hz]
   have c1:(k=l.1.toNat) ↔ l.1=(k:Int):=by (first|lia|omega)
   have c2:(k=l.2.toNat) ↔ l.2=(k:Int):=by (first|lia|omega)
   by_cases d1:k=l.1.toNat
   ·by_cases d2:k=l.2.toNat
    ·rw [if_pos d2,if_pos d1,if_pos (c1.mp d1),if_pos (c2.mp d2)]; simp
    ·rw [if_neg d2,if_pos d1,if_pos (c1.mp d1),if_neg (fun z=>d2 (c2.mpr z))]; simp
   ·by_cases d2:k=l.2.toNat
    ·rw [if_pos d2,if_neg d1,if_neg (fun z=>d1 (c1.mpr z)),if_pos (c2.mp d2)]; simp
    ·rw [if_neg d2,if_neg d1,if_neg (fun z=>d1 (c1.mpr z)),if_neg (fun z=>d2 (c2.mpr z))]; simp
  ·
   rintro σ H2 ⟨x1,x2,rfl,S2,R⟩
   refine⟨_,rfl,q D bs H2 hbl ?_⟩
   rw [lL,<- lz,List.take_length] at R
   exact⟨s1.free R.new,fun b hb=>⟨s1.free (R.news b hb).1,(R.news b hb).2⟩,R.nd,R.row,R.rows,s1.trans R.same⟩
theorem sc_made_prices:FnScope ["prices","many"] ["prices","many"] (defScope (top 5)):=⟨rfl,rfl,rfl,by decide +kernel,rfl,by decide +kernel,by decide +kernel⟩
theorem df_made_prices (B:Bt mg) (F:Fun K "made_prices" "made_prices" (top 5) f fd) (m:mg "made_prices" = some (.ref f))  : Df P w K mg base 1 "made_prices" ["prices","many"] p_made_prices:=
 Df.of F m sc_made_prices (fun _ _ _ _ _ _ us hl=>by obtain ⟨_,_,rfl⟩:=us2 hl; rfl) (fun xs Q h=>by unfold p_made_prices at h; repeat (first | (obtain ⟨rfl,_⟩:=h; rfl) | (obtain ⟨_,h⟩:=h))) (fun cdv A outer s H E hr=>by
  exact⟨(t_made_prices),(s_cons (s_if (t_ne (q_len B (a_cons (qv 0) a_nil)) (qv 1)) (s_one s_never) s_nil)
   (s_cons (s_if (t_val (q_any B rfl (a_cons (q_comp1 (N:=["price"]) (fr:=[none]) (i_seq (qv 0)) (fun _ _ _ _=>(q_lt (qv 0) q_int))) a_nil))) (s_one s_never) s_nil)
   (s_one (s_ret (q_tuple B (a_cons (qv 0) a_nil)))))),rd_made_prices⟩)
theorem sc_hearths_in:FnScope ["web"] ["web"] (defScope (top 8)):=⟨rfl,rfl,rfl,by decide +kernel,rfl,by decide +kernel,by decide +kernel⟩
theorem df_hearths_in (B:Bt mg) (F:Fun K "hearths_in" "hearths_in" (top 8) f fd) (m:mg "hearths_in" = some (.ref f))  : Df P w K mg base 1 "hearths_in" ["web"] p_hearths_in:=
 Df.of F m sc_hearths_in (fun _ _ _ _ _ _ us hl=>by obtain ⟨_,rfl⟩:=us1 hl; rfl) (fun xs Q h=>by unfold p_hearths_in at h; repeat (first | (obtain ⟨rfl,_⟩:=h; rfl) | (obtain ⟨_,h⟩:=h))) (fun cdv A outer s H E hr=>by
  exact⟨(t_hearths_in),(s_one (s_ret (q_len B (a_cons (q_ix (qv 0) q_int) a_nil)))),rd_hearths_in⟩)
theorem sc_marked:FnScope ["hearths","inside","hearth"] ["hearths"] (defScope (top 13)):=⟨rfl,rfl,rfl,by decide +kernel,rfl,by decide +kernel,by decide +kernel⟩
theorem df_marked (B:Bt mg) (F:Fun K "marked" "marked" (top 13) f fd) (m:mg "marked" = some (.ref f))  : Df P w K mg base 1 "marked" ["hearths"] p_marked:=
 Df.of F m sc_marked (fun _ _ _ _ _ _ us hl=>by obtain ⟨_,rfl⟩:=us1 hl; rfl) (fun xs Q h=>by unfold p_marked at h; repeat (first | (obtain ⟨rfl,_⟩:=h; rfl) | (obtain ⟨_,h⟩:=h))) (fun cdv A outer s H E hr=>by
  have nd:=sc_marked.nd
  have hu:=hu_of hr
  exact⟨(t_marked),(s_cons (s_own (i:=1) nd q_dK)
   (s_cons (s_for1 2 nd (i_seq (qv 0))
    (s_one (s_dput hu (i:=1) (qv 2) q_bl)))
   (s_one (s_retv 1)))),rd_marked⟩)
theorem sc_count_inside:FnScope ["hearths","inside"] ["hearths","inside"] (defScope (top 14)):=⟨rfl,rfl,rfl,by decide +kernel,rfl,by decide +kernel,by decide +kernel⟩
theorem df_count_inside (B:Bt mg) (F:Fun K "count_inside" "count_inside" (top 14) f fd) (m:mg "count_inside" = some (.ref f))  : Df P w K mg base 1 "count_inside" ["hearths","inside"] p_count_inside:=
 Df.of F m sc_count_inside (fun _ _ _ _ _ _ us hl=>by obtain ⟨_,_,rfl⟩:=us2 hl; rfl) (fun xs Q h=>by unfold p_count_inside at h; repeat (first | (obtain ⟨rfl,_⟩:=h; rfl) | (obtain ⟨_,h⟩:=h))) (fun cdv A outer s H E hr=>by
  have hu:=hu_of hr
  exact⟨(t_count_inside),(s_one (s_ret (q_len B (a_cons (q_comp1i (N:=["hearth","inside"]) (fr:=[none,some 1]) (i_seq (qv 0)) (fun _ _ _ _=>(t_din hu (qv 0) (qv 1))) (fun _ _ _ _=>(qv 0))) a_nil)))),rd_count_inside⟩)
theorem sc_due_of:FnScope ["want","beside"] ["want","beside"] (defScope (top 23)):=⟨rfl,rfl,rfl,by decide +kernel,rfl,by decide +kernel,by decide +kernel⟩
theorem df_due_of (B:Bt mg) (F:Fun K "due_of" "due_of" (top 23) f fd) (m:mg "due_of" = some (.ref f))  : Df P w K mg base 1 "due_of" ["want","beside"] p_due_of:=
 Df.of F m sc_due_of (fun _ _ _ _ _ _ us hl=>by obtain ⟨_,_,rfl⟩:=us2 hl; rfl) (fun xs Q h=>by unfold p_due_of at h; repeat (first | (obtain ⟨rfl,_⟩:=h; rfl) | (obtain ⟨_,h⟩:=h))) (fun cdv A outer s H E hr=>by
  exact⟨(t_due_of),(s_cons (s_if (t_gt (qv 0) (q_len B (a_cons (qv 1) a_nil))) (s_one (s_ret q_non)) s_nil)
   (s_one (s_ret (q_sum B rfl (a_cons (q_slice (q_sortedI B (a_cons (q_comp2 (N:=["other","weight"]) (fr:=[none,none]) (i_seq (qv 1)) (fun _ _ _ _=>(qv 1))) a_nil)) o_none (o_some (qv 0))) a_nil))))),rd_due_of⟩)
theorem sc_taken_by:FnScope ["hearth","beside","ranks","rank"] ["hearth","beside","ranks"] (defScope (top 25)):=⟨rfl,rfl,rfl,by decide +kernel,rfl,by decide +kernel,by decide +kernel⟩
theorem df_taken_by (B:Bt mg) (F:Fun K "taken_by" "taken_by" (top 25) f fd) (m:mg "taken_by" = some (.ref f))  : Df P w K mg base 1 "taken_by" ["hearth","beside","ranks"] p_taken_by:=
 Df.of F m sc_taken_by (fun _ _ _ _ _ _ us hl=>by obtain ⟨_,_,_,rfl⟩:=us3 hl; rfl) (fun xs Q h=>by unfold p_taken_by at h; repeat (first | (obtain ⟨rfl,_⟩:=h; rfl) | (obtain ⟨_,h⟩:=h))) (fun cdv A outer s H E hr=>by
  have nd:=sc_taken_by.nd
  have hu:=hu_of hr
  exact⟨(t_taken_by),(s_cons (s_if (t_dnotin hu (qv 0) (qv 2)) (s_one (s_ret q_non)) s_nil)
   (s_cons (s_set (i:=3) nd (q_dget hu (qv 2) (qv 0)))
   (s_one (s_ret (q_sum B rfl (a_cons (q_comp2i (N:=["other","weight","rank","ranks"]) (fr:=[none,none,some 3,some 2]) (i_seq (qv 1)) (fun _ _ _ _=>(t_lt (q_m_get hu (qv 3) (qv 0) (qv 2)) (qv 2))) (fun _ _ _ _=>(qv 1))) a_nil)))))),rd_taken_by⟩)
theorem sc_law_cell_at:FnScope ["script","k"] ["script","k"] (defScope (top 28)):=⟨rfl,rfl,rfl,by decide +kernel,rfl,by decide +kernel,by decide +kernel⟩
theorem df_law_cell_at (B:Bt mg) (F:Fun K "_law_cell_at" "_law_cell_at" (top 28) f fd) (m:mg "_law_cell_at" = some (.ref f))  : Df P w K mg base 1 "_law_cell_at" ["script","k"] p_law_cell_at:=
 Df.of F m sc_law_cell_at (fun _ _ _ _ _ _ us hl=>by obtain ⟨_,_,rfl⟩:=us2 hl; rfl) (fun xs Q h=>by unfold p_law_cell_at at h; repeat (first | (obtain ⟨rfl,_⟩:=h; rfl) | (obtain ⟨_,h⟩:=h))) (fun cdv A outer s H E hr=>by
  exact⟨(t_law_cell_at),(s_cons (s_if (t_lt (qv 1) (q_len B (a_cons (qv 0) a_nil))) (s_one (s_ret (q_ix (qv 0) (qv 1)))) s_nil)
   (s_one (s_ret q_int))),rd_law_cell_at⟩)
theorem sc_law_web_of_digits:FnScope ["wants_cell","links_cell","many","most","wants","k","links","one","other"] ["wants_cell","links_cell","many","most"] (defScope (top 29)):=⟨rfl,rfl,rfl,by decide +kernel,rfl,by decide +kernel,by decide +kernel⟩
theorem df_law_web_of_digits (B:Bt mg) (F:Fun K "_law_web_of_digits" "_law_web_of_digits" (top 29) f fd) (m:mg "_law_web_of_digits" = some (.ref f))  : Df P w K mg base 1 "_law_web_of_digits" ["wants_cell","links_cell","many","most"] p_law_web_of_digits:=
 Df.of F m sc_law_web_of_digits (fun _ _ _ _ _ _ us hl=>by obtain ⟨_,_,_,_,rfl⟩:=us4 hl; rfl) (fun xs Q h=>by unfold p_law_web_of_digits at h; repeat (first | (obtain ⟨rfl,_⟩:=h; rfl) | (obtain ⟨_,h⟩:=h))) (fun cdv A outer s H E hr=>by
  have nd:=sc_law_web_of_digits.nd
  exact⟨(t_law_web_of_digits),(s_cons (s_own (i:=4) nd (q_lst a_nil))
   (s_cons (s_for1 5 nd (i_rng1 rfl B.range (qv 2))
    (s_cons (s_app 4 (q_mod (qv 0) (qv 3)))
    (s_one (s_set (i:=0) nd (q_div (qv 0) (qv 3))))))
   (s_cons (s_own (i:=6) nd (q_lst a_nil))
   (s_cons (s_for1 7 nd (i_rng1 rfl B.range (qv 2))
    (s_one (s_for1 8 nd (i_rng2 rfl B.range (q_add (qv 7) q_int) (qv 2))
     (s_cons (s_if (t_eq (q_mod (qv 1) q_int) q_int) (s_one (s_app 6 (q_tup (a_cons (qv 7) (a_cons (qv 8) a_nil))))) s_nil)
     (s_one (s_set (i:=1) nd (q_div (qv 1) q_int)))))))
   (s_one (s_ret (q_tup (a_cons (q_tuple B (a_cons (qv 4) a_nil)) (a_cons (q_tuple B (a_cons (qv 6) a_nil)) a_nil))))))))),rd_law_web_of_digits⟩)
theorem sc_law_whole_number:FnScope ["found"] ["found"] (defScope (top 31)):=⟨rfl,rfl,rfl,by decide +kernel,rfl,by decide +kernel,by decide +kernel⟩
theorem df_law_whole_number (B:Bt mg) (F:Fun K "_law_whole_number" "_law_whole_number" (top 31) f fd) (m:mg "_law_whole_number" = some (.ref f))  : Df P w K mg base 1 "_law_whole_number" ["found"] p_law_whole_number:=
 Df.of F m sc_law_whole_number (fun _ _ _ _ _ _ us hl=>by obtain ⟨_,rfl⟩:=us1 hl; rfl) (fun xs Q h=>by unfold p_law_whole_number at h; repeat (first | (obtain ⟨rfl,_⟩:=h; rfl) | (obtain ⟨_,h⟩:=h))) (fun cdv A outer s H E hr=>by
  exact⟨(t_law_whole_number K),(s_one (s_ret (q_and (q_isinst_int B (qv 0)) (q_one (q_not (q_isinst_bool B (qv 0))))))),rd_law_whole_number (kits K).ii (kits K).ib⟩)
theorem sc_law_near:FnScope ["web","hearth","found","one","other"] ["web","hearth"] (defScope (top 32)):=⟨rfl,rfl,rfl,by decide +kernel,rfl,by decide +kernel,by decide +kernel⟩
theorem df_law_near (B:Bt mg) (F:Fun K "_law_near" "_law_near" (top 32) f fd) (m:mg "_law_near" = some (.ref f))  : Df P w K mg base 1 "_law_near" ["web","hearth"] p_law_near:=
 Df.of F m sc_law_near (fun _ _ _ _ _ _ us hl=>by obtain ⟨_,_,rfl⟩:=us2 hl; rfl) (fun xs Q h=>by unfold p_law_near at h; repeat (first | (obtain ⟨rfl,_⟩:=h; rfl) | (obtain ⟨_,h⟩:=h))) (fun cdv A outer s H E hr=>by
  have nd:=sc_law_near.nd
  exact⟨(t_law_near),(s_cons (s_own (i:=2) nd (q_lst a_nil))
   (s_cons (s_for2 3 4 nd (i_seq (q_ix (qv 0) q_int))
    (s_cons (s_if (t_eq (qv 3) (qv 1)) (s_one (s_app 2 (qv 4))) s_nil)
    (s_one (s_if (t_eq (qv 4) (qv 1)) (s_one (s_app 2 (qv 3))) s_nil))))
   (s_one (s_ret (q_sortedI B (a_cons (qv 2) a_nil)))))),rd_law_near⟩)
theorem sc_law_dues:FnScope ["web","weights","found","hearth","own","due"] ["web","weights"] (defScope (top 37)):=⟨rfl,rfl,rfl,by decide +kernel,rfl,by decide +kernel,by decide +kernel⟩
theorem df_law_dues (B:Bt mg) (F:Fun K "_law_dues" "_law_dues" (top 37) f fd) (m:mg "_law_dues" = some (.ref f))  : Df P w K mg base 1 "_law_dues" ["web","weights"] p_law_dues:=
 Df.of F m sc_law_dues (fun _ _ _ _ _ _ us hl=>by obtain ⟨_,_,rfl⟩:=us2 hl; rfl) (fun xs Q h=>by unfold p_law_dues at h; repeat (first | (obtain ⟨rfl,_⟩:=h; rfl) | (obtain ⟨_,h⟩:=h))) (fun cdv A outer s H E hr=>by
  have nd:=sc_law_dues.nd
  exact⟨(t_law_dues),(s_cons (s_own (i:=2) nd (q_lst a_nil))
   (s_cons (s_for1 3 nd (i_rng1 rfl B.range (q_len B (a_cons (q_ix (qv 0) q_int) a_nil)))
    (s_cons (s_set (i:=4) nd (q_sortedI B (a_cons (q_comp1i (N:=["k","hearth","web","weights"]) (fr:=[none,some 3,some 0,some 1]) (i_rng1 rfl B.range (q_len B (a_cons (qv 1) a_nil))) (fun _ _ _ _=>(t_in (qv 1) (q_ix (q_ix (qv 2) q_int) (qv 0)))) (fun _ _ _ _=>(q_ix (qv 3) (qv 0)))) a_nil)))
    (s_cons (s_set (i:=5) nd q_non)
    (s_cons (s_if (t_le (q_ix (q_ix (qv 0) q_int) (qv 3)) (q_len B (a_cons (qv 4) a_nil))) (s_one (s_set (i:=5) nd (q_sum B rfl (a_cons (q_slice (qv 4) o_none (o_some (q_ix (q_ix (qv 0) q_int) (qv 3)))) a_nil)))) s_nil)
    (s_one (s_app 2 (qv 5)))))))
   (s_one (s_retv 2)))),rd_law_dues⟩)
theorem sc_law_taken:FnScope ["web","weights","ranks","hearth","taken","k","one","other"] ["web","weights","ranks","hearth"] (defScope (top 39)):=⟨rfl,rfl,rfl,by decide +kernel,rfl,by decide +kernel,by decide +kernel⟩
theorem df_law_taken (B:Bt mg) (F:Fun K "_law_taken" "_law_taken" (top 39) f fd) (m:mg "_law_taken" = some (.ref f))  : Df P w K mg base 1 "_law_taken" ["web","weights","ranks","hearth"] p_law_taken:=
 Df.of F m sc_law_taken (fun _ _ _ _ _ _ us hl=>by obtain ⟨_,_,_,_,rfl⟩:=us4 hl; rfl) (fun xs Q h=>by unfold p_law_taken at h; repeat (first | (obtain ⟨rfl,_⟩:=h; rfl) | (obtain ⟨_,h⟩:=h))) (fun cdv A outer s H E hr=>by
  have nd:=sc_law_taken.nd
  exact⟨(t_law_taken),(s_cons (s_if (t_isN (q_ix (qv 2) (qv 3)) q_non) (s_one (s_ret q_non)) s_nil)
   (s_cons (s_set (i:=4) nd q_int)
   (s_cons (s_for1 5 nd (i_rng1 rfl B.range (q_len B (a_cons (qv 1) a_nil)))
    (s_cons (s_pair2 6 7 nd (q_ix (q_ix (qv 0) q_int) (qv 5)))
    (s_cons (s_if (t_eq (qv 7) (qv 3)) (s_one (s_swap2 6 7 nd (q_tup (a_cons (qv 7) (a_cons (qv 6) a_nil))))) s_nil)
    (s_one (s_if (t_w (w_and (t_eq (qv 6) (qv 3)) (w_and (t_notN (q_ix (qv 2) (qv 7)) q_non) (w_and1 (t_lt (q_ix (qv 2) (qv 7)) (q_ix (qv 2) (qv 3))))))) (s_one (s_set (i:=4) nd (q_add (qv 4) (q_ix (qv 1) (qv 5))))) s_nil)))))
   (s_one (s_retv 4))))),rd_law_taken⟩)
theorem sc_is_hearth:FnScope ["web","number"] ["web","number"] (defScope (top 10)):=⟨rfl,rfl,rfl,by decide +kernel,rfl,by decide +kernel,by decide +kernel⟩
theorem df_is_hearth (B:Bt mg) (F:Fun K "is_hearth" "is_hearth" (top 10) f fd) (m:mg "is_hearth" = some (.ref f)) (d_hearths_in:Df P w K mg base 1 "hearths_in" ["web"] p_hearths_in):Df P w K mg base 2 "is_hearth" ["web","number"] p_is_hearth:=
 Df.of F m sc_is_hearth (fun _ _ _ _ _ _ us hl=>by obtain ⟨_,_,rfl⟩:=us2 hl; rfl) (fun xs Q h=>by unfold p_is_hearth at h; repeat (first | (obtain ⟨rfl,_⟩:=h; rfl) | (obtain ⟨_,h⟩:=h))) (fun cdv A outer s H E hr=>by
  exact⟨(t_is_hearth),(s_one (s_ret (q_and (q_ge (qv 1) q_int) (q_one (q_lt (qv 1) (q_call d_hearths_in hr (a_cons (qv 0) a_nil))))))),rd_is_hearth⟩)
theorem sc_can_kindle:FnScope ["web","around","burning","hearth"] ["web","around","burning","hearth"] (defScope (top 18)):=⟨rfl,rfl,rfl,by decide +kernel,rfl,by decide +kernel,by decide +kernel⟩
theorem df_can_kindle (B:Bt mg) (F:Fun K "can_kindle" "can_kindle" (top 18) f fd) (m:mg "can_kindle" = some (.ref f)) (d_count_inside:Df P w K mg base 1 "count_inside" ["hearths","inside"] p_count_inside):Df P w K mg base 2 "can_kindle" ["web","around","burning","hearth"] p_can_kindle:=
 Df.of F m sc_can_kindle (fun _ _ _ _ _ _ us hl=>by obtain ⟨_,_,_,_,rfl⟩:=us4 hl; rfl) (fun xs Q h=>by unfold p_can_kindle at h; repeat (first | (obtain ⟨rfl,_⟩:=h; rfl) | (obtain ⟨_,h⟩:=h))) (fun cdv A outer s H E hr=>by
  have hu:=hu_of hr
  exact⟨(t_can_kindle),(s_one (s_ret (q_and (q_dnotin hu (qv 3) (qv 2)) (q_one (q_ge (q_call d_count_inside hr (a_cons (q_ix (qv 1) (qv 3)) (a_cons (qv 2) a_nil))) (q_ix (q_ix (qv 0) q_int) (qv 3))))))),rd_can_kindle⟩)
theorem sc_law_web:FnScope ["flow","many","way","wants","k","cell","pairs","one","other"] ["flow","many","way"] (defScope (top 30)):=⟨rfl,rfl,rfl,by decide +kernel,rfl,by decide +kernel,by decide +kernel⟩
theorem df_law_web (B:Bt mg) (F:Fun K "_law_web" "_law_web" (top 30) f fd) (m:mg "_law_web" = some (.ref f)) (d__law_web_of_digits:Df P w K mg base 1 "_law_web_of_digits" ["wants_cell","links_cell","many","most"] p_law_web_of_digits) (d__law_cell_at:Df P w K mg base 1 "_law_cell_at" ["script","k"] p_law_cell_at):Df P w K mg base 2 "_law_web" ["flow","many","way"] p_law_web68:=
 Df.of F m sc_law_web (fun _ _ _ _ _ _ us hl=>by obtain ⟨_,_,_,rfl⟩:=us3 hl; rfl) (fun xs Q h=>by unfold p_law_web68 at h; repeat (first | (obtain ⟨rfl,_⟩:=h; rfl) | (obtain ⟨_,h⟩:=h))) (fun cdv A outer s H E hr=>by
  have nd:=sc_law_web.nd
  have hu:=hu_of hr
  exact⟨(t_law_web68),(s_cons (s_if (t_w (w_and (t_eq (q_mod (q_div (qv 2) q_int) q_int) q_int) (w_and1 (t_lt (qv 1) q_int)))) (s_one (s_ret (q_call d__law_web_of_digits hr (a_cons (q_call d__law_cell_at hr (a_cons (qv 0) (a_cons q_int a_nil))) (a_cons (q_call d__law_cell_at hr (a_cons (qv 0) (a_cons q_int a_nil))) (a_cons (qv 1) (a_cons (q_ix (q_lst (a_cons q_int (a_cons q_int (a_cons q_int (a_cons q_int a_nil))))) (q_mod (qv 2) q_int)) a_nil))))))) s_nil)
   (s_cons (s_own (i:=3) nd (q_lst a_nil))
   (s_cons (s_for1 4 nd (i_rng1 rfl B.range (qv 1))
    (s_cons (s_set (i:=5) nd (q_call d__law_cell_at hr (a_cons (qv 0) (a_cons (qv 4) a_nil))))
    (s_one (s_app 3 (q_ix (q_lst (a_cons (q_mod (q_div (qv 5) q_int) q_int) (a_cons (q_mod (q_div (qv 5) q_int) q_int) (a_cons (q_mod (q_div (qv 5) q_int) q_int) (a_cons (q_mod (q_div (qv 5) q_int) q_int) a_nil))))) (q_mod (qv 2) q_int))))))
   (s_cons (s_own (i:=6) nd q_dT)
   (s_cons (s_for1 5 nd (i_seq (qv 0))
    (s_one (s_if (t_gt (qv 1) q_int) (s_cons (s_set (i:=7) nd (q_mod (qv 5) (qv 1)))
     (s_cons (s_set (i:=8) nd (q_mod (q_div (q_mod (q_mul (q_mod (qv 5) q_int) q_int) q_int) q_int) (qv 1)))
     (s_one (s_if (t_ne (qv 7) (qv 8)) (s_one (s_dputT hu (i:=6) (q_tup (a_cons (q_min2 B rfl (a_cons (qv 7) (a_cons (qv 8) a_nil))) (a_cons (q_max2 B rfl (a_cons (qv 7) (a_cons (qv 8) a_nil))) a_nil))) q_bl)) s_nil)))) s_nil)))
   (s_one (s_ret (q_tup (a_cons (q_tuple B (a_cons (qv 3) a_nil)) (a_cons (q_tuple B (a_cons (q_sortedT B (a_cons (q_list_dT B rfl (a_cons (qv 6) a_nil)) a_nil)) a_nil)) a_nil)))))))))),rd_law_web68⟩)
theorem sc_law_seeds_by:FnScope ["script","at","many","cell","some","hearth","number"] ["script","at","many"] (defScope (top 34)):=⟨rfl,rfl,rfl,by decide +kernel,rfl,by decide +kernel,by decide +kernel⟩
theorem df_law_seeds_by (B:Bt mg) (F:Fun K "_law_seeds_by" "_law_seeds_by" (top 34) f fd) (m:mg "_law_seeds_by" = some (.ref f)) (d__law_cell_at:Df P w K mg base 1 "_law_cell_at" ["script","k"] p_law_cell_at):Df P w K mg base 2 "_law_seeds_by" ["script","at","many"] p_law_seeds_by:=
 Df.of F m sc_law_seeds_by (fun _ _ _ _ _ _ us hl=>by obtain ⟨_,_,_,rfl⟩:=us3 hl; rfl) (fun xs Q h=>by unfold p_law_seeds_by at h; repeat (first | (obtain ⟨rfl,_⟩:=h; rfl) | (obtain ⟨_,h⟩:=h))) (fun cdv A outer s H E hr=>by
  have nd:=sc_law_seeds_by.nd
  exact⟨(t_law_seeds_by),(s_cons (s_set (i:=3) nd (q_call d__law_cell_at hr (a_cons (qv 0) (a_cons (qv 1) a_nil))))
   (s_cons (s_own (i:=4) nd (q_lst a_nil))
   (s_cons (s_if (t_eq (q_mod (qv 3) q_int) q_int) (s_cons (s_for1 5 nd (i_rng1 rfl B.range (qv 2))
     (s_cons (s_set (i:=3) nd (q_div (qv 3) q_int))
     (s_one (s_if (t_eq (q_mod (qv 3) q_int) q_int) (s_one (s_app 4 (qv 5))) s_nil))))
    (s_one (s_ret (q_tuple B (a_cons (qv 4) a_nil))))) s_nil)
   (s_cons (s_set (i:=3) nd (q_mod (q_mul (q_add (q_mod (qv 3) q_int) q_int) q_int) q_int))
   (s_cons (s_for1 5 nd (i_rng1 rfl B.range (qv 2))
    (s_cons (s_set (i:=6) nd (q_mod (q_mul (q_add (q_add (qv 3) (q_mul (q_mul q_int (qv 5)) (qv 5))) (qv 5)) q_int) q_int))
    (s_one (s_if (t_lt (q_mod (q_div (q_mod (q_mul (qv 6) (qv 6)) q_int) q_int) q_int) (q_add q_int (q_mod (q_div (qv 3) q_int) q_int))) (s_one (s_app 4 (qv 5))) s_nil))))
   (s_one (s_ret (q_tuple B (a_cons (qv 4) a_nil))))))))),rd_law_seeds_by⟩)
theorem sc_law_rounds:FnScope ["web","seeds","nears","burning","found","ahead","hearth","many"] ["web","seeds"] (defScope (top 35)):=⟨rfl,rfl,rfl,by decide +kernel,rfl,by decide +kernel,by decide +kernel⟩
theorem df_law_rounds (B:Bt mg) (F:Fun K "_law_rounds" "_law_rounds" (top 35) f fd) (m:mg "_law_rounds" = some (.ref f)) (d__law_near:Df P w K mg base 1 "_law_near" ["web","hearth"] p_law_near):Df P w K mg base 2 "_law_rounds" ["web","seeds"] p_law_rounds:=
 Df.of F m sc_law_rounds (fun _ _ _ _ _ _ us hl=>by obtain ⟨_,_,rfl⟩:=us2 hl; rfl) (fun xs Q h=>by unfold p_law_rounds at h; repeat (first | (obtain ⟨rfl,_⟩:=h; rfl) | (obtain ⟨_,h⟩:=h))) (fun cdv A outer s H E hr=>by
  have nd:=sc_law_rounds.nd
  have hu3:(A.deeper (PyProof.Rows.envOfC "_law_rounds" (defScope (top 35)) s.heap.objs.size f cdv)).units+3 < cLine:=by have:=hr.units; (first|lia|omega)
  exact⟨(t_law_rounds),(s_cons (s_setC1 (i:=2) nd (N:=["hearth","web"]) (fr:=[none,some 0]) (i_rng1 rfl B.range (q_len B (a_cons (q_ix (qv 0) q_int) a_nil))) (fun _ _ _ _=>(q_call d__law_near hr (a_cons (qv 1) (a_cons (qv 0) a_nil)))))
   (s_cons (s_own (i:=3) nd (q_comp1 (N:=["hearth","seeds"]) (fr:=[none,some 1]) (i_rng1 rfl B.range (q_len B (a_cons (q_ix (qv 0) q_int) a_nil))) (fun _ _ _ _=>(q_in (qv 0) (qv 1)))))
   (s_cons (s_own (i:=4) nd (q_lst (a_cons (q_tuple B (a_cons (qv 1) a_nil)) a_nil)))
   (s_cons (s_while PassesOwn.never (t_w (w_or (t_neP hu3 (q_ix (qv 4) (q_neg q_int)) (q_tup a_nil)) (w_or1 (t_eq (q_len B (a_cons (qv 4) a_nil)) q_int))))
    (s_cons (s_own (i:=5) nd (q_lst a_nil))
    (s_cons (s_for1 6 nd (i_rng1 rfl B.range (q_len B (a_cons (qv 3) a_nil)))
     (s_cons (s_set (i:=7) nd (q_len B (a_cons (q_comp1i (N:=["other","burning"]) (fr:=[none,some 3]) (i_seq (q_ix (qv 2) (qv 6))) (fun _ _ _ _=>(t_tru (q_ix (qv 1) (qv 0)))) (fun _ _ _ _=>(qv 0))) a_nil)))
     (s_one (s_if (t_w (w_and (t_not (t_tru (q_ix (qv 3) (qv 6)))) (w_and1 (t_ge (qv 7) (q_ix (q_ix (qv 0) q_int) (qv 6)))))) (s_one (s_app 5 (qv 6))) s_nil))))
    (s_cons (s_frz 5 (s_for1 6 nd (i_seq (qv 5))
     (s_one (s_lput (i:=3) (qv 6) q_bl))))
    (s_one (s_app 4 (q_tuple B (a_cons (qv 5) a_nil))))))))
   (s_one (s_ret (q_slice (qv 4) o_none (o_some (q_neg q_int))))))))),rd_law_rounds⟩)
theorem sc_law_weights:FnScope ["script","at","links","found","k","cell"] ["script","at","links"] (defScope (top 36)):=⟨rfl,rfl,rfl,by decide +kernel,rfl,by decide +kernel,by decide +kernel⟩
theorem df_law_weights (B:Bt mg) (F:Fun K "_law_weights" "_law_weights" (top 36) f fd) (m:mg "_law_weights" = some (.ref f)) (d__law_cell_at:Df P w K mg base 1 "_law_cell_at" ["script","k"] p_law_cell_at):Df P w K mg base 2 "_law_weights" ["script","at","links"] p_law_weights:=
 Df.of F m sc_law_weights (fun _ _ _ _ _ _ us hl=>by obtain ⟨_,_,_,rfl⟩:=us3 hl; rfl) (fun xs Q h=>by unfold p_law_weights at h; repeat (first | (obtain ⟨rfl,_⟩:=h; rfl) | (obtain ⟨_,h⟩:=h))) (fun cdv A outer s H E hr=>by
  have nd:=sc_law_weights.nd
  exact⟨(t_law_weights),(s_cons (s_own (i:=3) nd (q_lst a_nil))
   (s_cons (s_for1 4 nd (i_rng1 rfl B.range (qv 2))
    (s_cons (s_set (i:=5) nd (q_call d__law_cell_at hr (a_cons (qv 0) (a_cons (q_add (qv 1) (qv 4)) a_nil))))
    (s_one (s_app 3 (q_ix (q_lst (a_cons (q_mod (q_div (qv 5) q_int) q_int) (a_cons (q_mod (q_div (qv 5) q_int) q_int) (a_cons (q_mod (qv 5) (q_pow q_int q_int)) (a_cons q_int a_nil))))) (q_mod (q_div (q_call d__law_cell_at hr (a_cons (qv 0) (a_cons (qv 1) a_nil))) q_int) q_int))))))
   (s_one (s_retv 3)))),rd_law_weights⟩)
theorem sc_law_is:FnScope ["found","due"] ["found","due"] (defScope (top 40)):=⟨rfl,rfl,rfl,by decide +kernel,rfl,by decide +kernel,by decide +kernel⟩
theorem df_law_is (B:Bt mg) (F:Fun K "_law_is" "_law_is" (top 40) f fd) (m:mg "_law_is" = some (.ref f)) (d__law_whole_number:Df P w K mg base 1 "_law_whole_number" ["found"] p_law_whole_number):Df P w K mg base 2 "_law_is" ["found","due"] p_law_is:=
 Df.of F m sc_law_is (fun _ _ _ _ _ _ us hl=>by obtain ⟨_,_,rfl⟩:=us2 hl; rfl) (fun xs Q h=>by unfold p_law_is at h; repeat (first | (obtain ⟨rfl,_⟩:=h; rfl) | (obtain ⟨_,h⟩:=h))) (fun cdv A outer s H E hr=>by
  exact⟨(t_law_is),(s_cons (s_if (t_isN (qv 1) q_non) (s_one (s_ret (q_isN (qv 0) q_non))) s_nil)
   (s_one (s_ret (q_and (q_call d__law_whole_number hr (a_cons (qv 0) a_nil)) (q_one (q_eq (qv 0) (qv 1))))))),rd_law_is⟩)
theorem sc_is_set:FnScope ["web","numbers"] ["web","numbers"] (defScope (top 11)):=⟨rfl,rfl,rfl,by decide +kernel,rfl,by decide +kernel,by decide +kernel⟩
theorem df_is_set (B:Bt mg) (F:Fun K "is_set" "is_set" (top 11) f fd) (m:mg "is_set" = some (.ref f)) (d_rises:Df P w K mg base 1 "rises" ["things"] p_rises) (d_is_hearth:Df P w K mg base 2 "is_hearth" ["web","number"] p_is_hearth):Df P w K mg base 3 "is_set" ["web","numbers"] p_is_set:=
 Df.of F m sc_is_set (fun _ _ _ _ _ _ us hl=>by obtain ⟨_,_,rfl⟩:=us2 hl; rfl) (fun xs Q h=>by unfold p_is_set at h; repeat (first | (obtain ⟨rfl,_⟩:=h; rfl) | (obtain ⟨_,h⟩:=h))) (fun cdv A outer s H E hr=>by
  exact⟨(t_is_set),(s_one (s_ret (q_and (q_call d_rises hr (a_cons (qv 1) a_nil)) (q_one (q_all B rfl (a_cons (q_comp1 (N:=["number","web"]) (fr:=[none,some 0]) (i_seq (qv 1)) (fun _ _ _ _=>(q_call d_is_hearth hr (a_cons (qv 1) (a_cons (qv 0) a_nil))))) a_nil)))))),rd_is_set⟩)
theorem sc_kindling:FnScope ["web","around","burning"] ["web","around","burning"] (defScope (top 17)):=⟨rfl,rfl,rfl,by decide +kernel,rfl,by decide +kernel,by decide +kernel⟩
theorem df_kindling (B:Bt mg) (F:Fun K "kindling" "kindling" (top 17) f fd) (m:mg "kindling" = some (.ref f)) (d_can_kindle:Df P w K mg base 2 "can_kindle" ["web","around","burning","hearth"] p_can_kindle) (d_hearths_in:Df P w K mg base 1 "hearths_in" ["web"] p_hearths_in):Df P w K mg base 3 "kindling" ["web","around","burning"] p_kindling:=
 Df.of F m sc_kindling (fun _ _ _ _ _ _ us hl=>by obtain ⟨_,_,_,rfl⟩:=us3 hl; rfl) (fun xs Q h=>by unfold p_kindling at h; repeat (first | (obtain ⟨rfl,_⟩:=h; rfl) | (obtain ⟨_,h⟩:=h))) (fun cdv A outer s H E hr=>by
  exact⟨(t_kindling),(s_one (s_ret (q_tuple B (a_cons (q_comp1i (N:=["hearth","web","around","burning"]) (fr:=[none,some 0,some 1,some 2]) (i_rng1 rfl B.range (q_call d_hearths_in hr (a_cons (qv 0) a_nil))) (fun _ _ _ _=>(t_val (q_call d_can_kindle hr (a_cons (qv 1) (a_cons (qv 2) (a_cons (qv 3) (a_cons (qv 0) a_nil))))))) (fun _ _ _ _=>(qv 0))) a_nil)))),rd_kindling⟩)
theorem sc_dues:FnScope ["web","weights"] ["web","weights"] (defScope (top 22)):=⟨rfl,rfl,rfl,by decide +kernel,rfl,by decide +kernel,by decide +kernel⟩
theorem df_dues (B:Bt mg) (F:Fun K "dues" "dues" (top 22) f fd) (m:mg "dues" = some (.ref f)) (d_due_of:Df P w K mg base 1 "due_of" ["want","beside"] p_due_of) (d_weighted_lists:Df P w K mg base 2 "weighted_lists" ["web","weights"] p_weighted_lists):Df P w K mg base 3 "dues" ["web","weights"] p_dues:=
 Df.of F m sc_dues (fun _ _ _ _ _ _ us hl=>by obtain ⟨_,_,rfl⟩:=us2 hl; rfl) (fun xs Q h=>by unfold p_dues at h; repeat (first | (obtain ⟨rfl,_⟩:=h; rfl) | (obtain ⟨_,h⟩:=h))) (fun cdv A outer s H E hr=>by
  exact⟨(t_dues),(s_one (s_ret (q_comp2 (N:=["want","beside"]) (fr:=[none,none]) (i_zip B (q_ix (qv 0) q_int) (q_call d_weighted_lists hr (a_cons (qv 0) (a_cons (qv 1) a_nil)))) (fun _ _ _ _=>(q_call d_due_of hr (a_cons (qv 0) (a_cons (qv 1) a_nil))))))),rd_dues⟩)
theorem sc_law_web_by:FnScope ["script","at","head","many"] ["script","at"] (defScope (top 33)):=⟨rfl,rfl,rfl,by decide +kernel,rfl,by decide +kernel,by decide +kernel⟩
theorem df_law_web_by (B:Bt mg) (F:Fun K "_law_web_by" "_law_web_by" (top 33) f fd) (m:mg "_law_web_by" = some (.ref f)) (d__law_cell_at:Df P w K mg base 1 "_law_cell_at" ["script","k"] p_law_cell_at) (d__law_web:Df P w K mg base 2 "_law_web" ["flow","many","way"] p_law_web68):Df P w K mg base 3 "_law_web_by" ["script","at"] p_law_web_by68:=
 Df.of F m sc_law_web_by (fun _ _ _ _ _ _ us hl=>by obtain ⟨_,_,rfl⟩:=us2 hl; rfl) (fun xs Q h=>by unfold p_law_web_by68 at h; repeat (first | (obtain ⟨rfl,_⟩:=h; rfl) | (obtain ⟨_,h⟩:=h))) (fun cdv A outer s H E hr=>by
  have nd:=sc_law_web_by.nd
  exact⟨(t_law_web_by68),(s_cons (s_set (i:=2) nd (q_call d__law_cell_at hr (a_cons (qv 0) (a_cons q_int a_nil))))
   (s_cons (s_set (i:=3) nd (q_mod (qv 2) q_int))
   (s_cons (s_if (t_eq (q_mod (q_div (qv 2) q_int) q_int) q_int) (s_one (s_set (i:=3) nd (q_mod (q_div (qv 2) q_int) q_int))) s_nil)
   (s_one (s_ret (q_call d__law_web hr (a_cons (q_slice (qv 0) (o_some (qv 1)) o_none) (a_cons (qv 3) (a_cons (q_div (qv 2) q_int) a_nil))))))))),rd_law_web_by68⟩)
theorem sc_law_ranks:FnScope ["web","seeds","ranks","rank","some","hearth"] ["web","seeds"] (defScope (top 38)):=⟨rfl,rfl,rfl,by decide +kernel,rfl,by decide +kernel,by decide +kernel⟩
theorem df_law_ranks (B:Bt mg) (F:Fun K "_law_ranks" "_law_ranks" (top 38) f fd) (m:mg "_law_ranks" = some (.ref f)) (d__law_rounds:Df P w K mg base 2 "_law_rounds" ["web","seeds"] p_law_rounds):Df P w K mg base 3 "_law_ranks" ["web","seeds"] p_law_ranks:=
 Df.of F m sc_law_ranks (fun _ _ _ _ _ _ us hl=>by obtain ⟨_,_,rfl⟩:=us2 hl; rfl) (fun xs Q h=>by unfold p_law_ranks at h; repeat (first | (obtain ⟨rfl,_⟩:=h; rfl) | (obtain ⟨_,h⟩:=h))) (fun cdv A outer s H E hr=>by
  have nd:=sc_law_ranks.nd
  exact⟨(t_law_ranks),(s_cons (s_own (i:=2) nd (q_rep (q_lst (a_cons q_non a_nil)) (q_len B (a_cons (q_ix (qv 0) q_int) a_nil))))
   (s_cons (s_for2 3 4 nd (i_enum rfl B.enum (q_call d__law_rounds hr (a_cons (qv 0) (a_cons (qv 1) a_nil))))
    (s_one (s_for1 5 nd (i_seq (qv 4))
     (s_one (s_lput (i:=2) (qv 5) (qv 3))))))
   (s_one (s_retv 2)))),rd_law_ranks⟩)
theorem sc_made_set:FnScope ["web","hearths"] ["web","hearths"] (defScope (top 12)):=⟨rfl,rfl,rfl,by decide +kernel,rfl,by decide +kernel,by decide +kernel⟩
theorem df_made_set (B:Bt mg) (F:Fun K "made_set" "made_set" (top 12) f fd) (m:mg "made_set" = some (.ref f)) (d_is_set:Df P w K mg base 3 "is_set" ["web","numbers"] p_is_set):Df P w K mg base 4 "made_set" ["web","hearths"] p_made_set:=
 Df.of F m sc_made_set (fun _ _ _ _ _ _ us hl=>by obtain ⟨_,_,rfl⟩:=us2 hl; rfl) (fun xs Q h=>by unfold p_made_set at h; repeat (first | (obtain ⟨rfl,_⟩:=h; rfl) | (obtain ⟨_,h⟩:=h))) (fun cdv A outer s H E hr=>by
  exact⟨(t_made_set),(s_cons (s_if (t_not (t_val (q_call d_is_set hr (a_cons (qv 0) (a_cons (qv 1) a_nil))))) (s_one s_never) s_nil)
   (s_one (s_ret (q_tuple B (a_cons (qv 1) a_nil))))),rd_made_set⟩)
theorem sc_rounds:FnScope ["web","seeds","told","burning","around","lit"] ["web","seeds"] (defScope (top 16)):=⟨rfl,rfl,rfl,by decide +kernel,rfl,by decide +kernel,by decide +kernel⟩
theorem df_rounds (B:Bt mg) (F:Fun K "rounds" "rounds" (top 16) f fd) (m:mg "rounds" = some (.ref f)) (d_marked:Df P w K mg base 1 "marked" ["hearths"] p_marked) (d_near_lists:Df P w K mg base 1 "near_lists" ["web"] p_near_lists) (d_kindling:Df P w K mg base 3 "kindling" ["web","around","burning"] p_kindling) (d_made_set:Df P w K mg base 4 "made_set" ["web","hearths"] p_made_set):Df P w K mg base 5 "rounds" ["web","seeds"] p_rounds:=
 Df.of F m sc_rounds (fun _ _ _ _ _ _ us hl=>by obtain ⟨_,_,rfl⟩:=us2 hl; rfl) (fun xs Q h=>by unfold p_rounds at h; repeat (first | (obtain ⟨rfl,_⟩:=h; rfl) | (obtain ⟨_,h⟩:=h))) (fun cdv A outer s H E hr=>by
  have nd:=sc_rounds.nd
  exact⟨(t_rounds),(s_cons (s_own (i:=2) nd (q_lst (a_cons (q_call d_made_set hr (a_cons (qv 0) (a_cons (qv 1) a_nil))) a_nil)))
   (s_cons (s_own (i:=3) nd (q_call d_marked hr (a_cons (q_ix (qv 2) q_int) a_nil)))
   (s_cons (s_set (i:=4) nd (q_call d_near_lists hr (a_cons (qv 0) a_nil)))
   (s_cons (s_set (i:=5) nd (q_call d_kindling hr (a_cons (qv 0) (a_cons (qv 4) (a_cons (qv 3) a_nil)))))
   (s_cons (s_while PassesOwn.never (t_tru (qv 5))
    (s_cons (s_app 2 (qv 5))
    (s_cons (s_dupd 3 (q_call d_marked hr (a_cons (qv 5) a_nil)))
    (s_one (s_set (i:=5) nd (q_call d_kindling hr (a_cons (qv 0) (a_cons (qv 4) (a_cons (qv 3) a_nil)))))))))
   (s_one (s_retv 2))))))),rd_rounds⟩)
theorem sc_is_within:FnScope ["web","weights","seeds","told","inside","others"] ["web","weights","seeds"] (defScope (top 26)):=⟨rfl,rfl,rfl,by decide +kernel,rfl,by decide +kernel,by decide +kernel⟩
theorem df_is_within (B:Bt mg) (F:Fun K "is_within" "is_within" (top 26) f fd) (m:mg "is_within" = some (.ref f)) (d_dues:Df P w K mg base 3 "dues" ["web","weights"] p_dues) (d_marked:Df P w K mg base 1 "marked" ["hearths"] p_marked) (d_made_set:Df P w K mg base 4 "made_set" ["web","hearths"] p_made_set) (d_count_inside:Df P w K mg base 1 "count_inside" ["hearths","inside"] p_count_inside):Df P w K mg base 5 "is_within" ["web","weights","seeds"] p_is_within70:=
 Df.of F m sc_is_within (fun _ _ _ _ _ _ us hl=>by obtain ⟨_,_,_,rfl⟩:=us3 hl; rfl) (fun xs Q h=>by unfold p_is_within70 at h; repeat (first | (obtain ⟨rfl,_⟩:=h; rfl) | (obtain ⟨_,h⟩:=h))) (fun cdv A outer s H E hr=>by
  have nd:=sc_is_within.nd
  have hu:=hu_of hr
  exact⟨(t_is_within70),(s_cons (s_set (i:=3) nd (q_call d_dues hr (a_cons (qv 0) (a_cons (qv 1) a_nil))))
   (s_cons (s_set (i:=4) nd (q_call d_marked hr (a_cons (q_call d_made_set hr (a_cons (qv 0) (a_cons (qv 2) a_nil))) a_nil)))
   (s_cons (s_setC2i (i:=5) nd (N:=["hearth","due","inside"]) (fr:=[none,none,some 4]) (i_enum rfl B.enum (qv 3)) (fun _ _ _ _=>(t_dnotin hu (qv 0) (qv 2))) (fun _ _ _ _=>(qv 1)))
   (s_cons (s_if (t_inO q_non (qv 5)) (s_one (s_ret q_bl)) s_nil)
   (s_one (s_ret (q_le (q_sum B rfl (a_cons (qv 5) a_nil)) (q_sum B rfl (a_cons (q_comp2i (N:=["link","weight","inside"]) (fr:=[none,none,some 4]) (i_zip B (q_ix (qv 0) q_int) (qv 1)) (fun _ _ _ _=>(t_lt (q_call d_count_inside hr (a_cons (qv 0) (a_cons (qv 2) a_nil))) q_int)) (fun _ _ _ _=>(qv 1))) a_nil))))))))),rd_is_within70⟩)
theorem sc_ranks_of:FnScope ["web","seeds","ranks","rank","lit","hearth"] ["web","seeds"] (defScope (top 19)):=⟨rfl,rfl,rfl,by decide +kernel,rfl,by decide +kernel,by decide +kernel⟩
theorem df_ranks_of (B:Bt mg) (F:Fun K "ranks_of" "ranks_of" (top 19) f fd) (m:mg "ranks_of" = some (.ref f)) (d_rounds:Df P w K mg base 5 "rounds" ["web","seeds"] p_rounds):Df P w K mg base 6 "ranks_of" ["web","seeds"] p_ranks_of:=
 Df.of F m sc_ranks_of (fun _ _ _ _ _ _ us hl=>by obtain ⟨_,_,rfl⟩:=us2 hl; rfl) (fun xs Q h=>by unfold p_ranks_of at h; repeat (first | (obtain ⟨rfl,_⟩:=h; rfl) | (obtain ⟨_,h⟩:=h))) (fun cdv A outer s H E hr=>by
  have nd:=sc_ranks_of.nd
  have hu:=hu_of hr
  exact⟨(t_ranks_of),(s_cons (s_own (i:=2) nd q_dK)
   (s_cons (s_for2 3 4 nd (i_enum rfl B.enum (q_call d_rounds hr (a_cons (qv 0) (a_cons (qv 1) a_nil))))
    (s_one (s_for1 5 nd (i_seq (qv 4))
     (s_one (s_dput hu (i:=2) (qv 5) (qv 3))))))
   (s_one (s_retv 2)))),rd_ranks_of⟩)
theorem sc_takings:FnScope ["web","weights","seeds","around","ranks"] ["web","weights","seeds"] (defScope (top 24)):=⟨rfl,rfl,rfl,by decide +kernel,rfl,by decide +kernel,by decide +kernel⟩
theorem df_takings (B:Bt mg) (F:Fun K "takings" "takings" (top 24) f fd) (m:mg "takings" = some (.ref f)) (d_weighted_lists:Df P w K mg base 2 "weighted_lists" ["web","weights"] p_weighted_lists) (d_ranks_of:Df P w K mg base 6 "ranks_of" ["web","seeds"] p_ranks_of) (d_taken_by:Df P w K mg base 1 "taken_by" ["hearth","beside","ranks"] p_taken_by):Df P w K mg base 7 "takings" ["web","weights","seeds"] p_takings:=
 Df.of F m sc_takings (fun _ _ _ _ _ _ us hl=>by obtain ⟨_,_,_,rfl⟩:=us3 hl; rfl) (fun xs Q h=>by unfold p_takings at h; repeat (first | (obtain ⟨rfl,_⟩:=h; rfl) | (obtain ⟨_,h⟩:=h))) (fun cdv A outer s H E hr=>by
  have nd:=sc_takings.nd
  exact⟨(t_takings),(s_cons (s_set (i:=3) nd (q_call d_weighted_lists hr (a_cons (qv 0) (a_cons (qv 1) a_nil))))
   (s_cons (s_set (i:=4) nd (q_call d_ranks_of hr (a_cons (qv 0) (a_cons (qv 2) a_nil))))
   (s_one (s_ret (q_comp2 (N:=["hearth","beside","ranks"]) (fr:=[none,none,some 4]) (i_enum rfl B.enum (qv 3)) (fun _ _ _ _=>(q_call d_taken_by hr (a_cons (qv 0) (a_cons (qv 1) (a_cons (qv 2) a_nil)))))))))),rd_takings⟩)
theorem sc_law:FnScope ["script","web","many","seeds","weights","ranks","own","handed","found","room","taken","hearth","others","due","told"] ["script"] (defScope (top 41)):=⟨rfl,rfl,rfl,by decide +kernel,rfl,by decide +kernel,by decide +kernel⟩
theorem ok_law (B:Bt mg) (F:Fun K "law" "law" (top 41) f fd) (d__law_web_by:Df P w K mg base 3 "_law_web_by" ["script","at"] p_law_web_by68) (d__law_seeds_by:Df P w K mg base 2 "_law_seeds_by" ["script","at","many"] p_law_seeds_by) (d__law_weights:Df P w K mg base 2 "_law_weights" ["script","at","links"] p_law_weights) (d__law_ranks:Df P w K mg base 3 "_law_ranks" ["web","seeds"] p_law_ranks) (d__law_dues:Df P w K mg base 1 "_law_dues" ["web","weights"] p_law_dues) (d_takings:Df P w K mg base 7 "takings" ["web","weights","seeds"] p_takings) (d_is_within:Df P w K mg base 5 "is_within" ["web","weights","seeds"] p_is_within70) (d__law_is:Df P w K mg base 2 "_law_is" ["found","due"] p_law_is) (d__law_taken:Df P w K mg base 1 "_law_taken" ["web","weights","ranks","hearth"] p_law_taken):FnOk P w K mg base CX0 8 f fd ["script"] (spP K p_law_k70):=
 fnP_of F sc_law (fun xs Q h=>by unfold p_law_k70 at h; repeat (first | (obtain ⟨rfl,_⟩:=h; rfl) | (obtain ⟨_,h⟩:=h))) (fun cdv A outer s H E hr=>by
  have nd:=sc_law.nd
  have hu3:(A.deeper (PyProof.Rows.envOfC "law" (defScope (top 41)) s.heap.objs.size f cdv)).units+3 < cLine:=by have:=hr.units; (first|lia|omega)
  exact⟨(t_law_k70 K),(s_cons (s_set (i:=1) nd (q_call d__law_web_by hr (a_cons (qv 0) (a_cons q_int a_nil))))
   (s_cons (s_set (i:=2) nd (q_len B (a_cons (q_ix (qv 1) q_int) a_nil)))
   (s_cons (s_set (i:=3) nd (q_call d__law_seeds_by hr (a_cons (qv 0) (a_cons q_int (a_cons (qv 2) a_nil)))))
   (s_cons (s_set (i:=4) nd (q_call d__law_weights hr (a_cons (qv 0) (a_cons q_int (a_cons (q_len B (a_cons (q_ix (qv 1) q_int) a_nil)) a_nil)))))
   (s_cons (s_set (i:=5) nd (q_call d__law_ranks hr (a_cons (qv 1) (a_cons (qv 3) a_nil))))
   (s_cons (s_set (i:=6) nd (q_call d__law_dues hr (a_cons (qv 1) (a_cons (qv 4) a_nil))))
   (s_cons (s_set (i:=7) nd (q_list B (a_cons (qv 4) a_nil)))
   (s_cons (s_set (i:=8) nd (q_call d_takings hr (a_cons (qv 1) (a_cons (qv 7) (a_cons (q_list B (a_cons (qv 3) a_nil)) a_nil)))))
   (s_cons (s_if (t_w (w_or (t_not (t_val (q_isinst_list B (qv 8)))) (w_or1 (t_ne (q_len B (a_cons (qv 8) a_nil)) (qv 2))))) (s_one (s_ret q_bl)) s_nil)
   (s_cons (s_set (i:=9) nd (q_sum B rfl (a_cons (q_comp1i (N:=["k","seeds","web","weights"]) (fr:=[none,some 3,some 1,some 4]) (i_rng1 rfl B.range (q_len B (a_cons (qv 4) a_nil))) (fun _ _ _ _=>(t_w (w_or (t_notin (q_ix (q_ix (q_ix (qv 2) q_int) (qv 0)) q_int) (qv 1)) (w_or1 (t_notin (q_ix (q_ix (q_ix (qv 2) q_int) (qv 0)) q_int) (qv 1)))))) (fun _ _ _ _=>(q_ix (qv 3) (qv 0)))) a_nil)))
   (s_cons (s_set (i:=10) nd q_int)
   (s_cons (s_for1 11 nd (i_rng1 rfl B.range (qv 2))
    (s_cons (s_if (t_not (t_val (q_call d__law_is hr (a_cons (q_ix (qv 8) (qv 11)) (a_cons (q_call d__law_taken hr (a_cons (qv 1) (a_cons (qv 4) (a_cons (qv 5) (a_cons (qv 11) a_nil))))) a_nil))))) (s_one (s_ret q_bl)) s_nil)
    (s_one (s_if (t_notN (q_ix (qv 5) (qv 11)) q_non) (s_cons (s_set (i:=10) nd (q_add (qv 10) (q_ix (qv 8) (qv 11))))
     (s_one (s_if (t_w (w_and (t_notin (qv 11) (qv 3)) (w_and1 (t_w (w_or (t_isN (q_ix (qv 6) (qv 11)) q_non) (w_or1 (t_lt (q_ix (qv 8) (qv 11)) (q_ix (qv 6) (qv 11))))))))) (s_one (s_ret q_bl)) s_nil))) s_nil))))
   (s_cons (s_setC1i (i:=12) nd (N:=["hearth","seeds","own"]) (fr:=[none,some 3,some 6]) (i_rng1 rfl B.range (qv 2)) (fun _ _ _ _=>(t_notin (qv 0) (qv 1))) (fun _ _ _ _=>(q_ix (qv 2) (qv 0))))
   (s_cons (s_set (i:=13) nd (q_and (q_notinO q_non (qv 12)) (q_one (q_le (q_sum B rfl (a_cons (q_comp1i (N:=["number"]) (fr:=[none]) (i_seq (qv 12)) (fun _ _ _ _=>(t_notN (qv 0) q_non)) (fun _ _ _ _=>(qv 0))) a_nil)) (qv 9)))))
   (s_cons (s_set (i:=14) nd (q_call d_is_within hr (a_cons (qv 1) (a_cons (qv 7) (a_cons (qv 3) a_nil)))))
   (s_cons (s_if (t_w (w_or (t_neP hu3 (qv 7) (qv 4)) (w_or (t_gt (qv 10) (qv 9)) (w_or (t_not (t_val (q_isinst_bool B (qv 14)))) (w_or1 (t_ne (qv 14) (qv 13))))))) (s_one (s_ret q_bl)) s_nil)
   (s_one (s_ret (q_or (qv 13) (q_one (q_inO q_non (qv 5)))))))))))))))))))))),rd_law_k70⟩)
end
theorem all_mk {l:PySem.W.OpenLaw}{w:World}{K:PySem.W.Frag}{h:Heap}{mg:Str->Option Value}{fa f0 f1 f2 f3 f4 f5 f6 f7 f8 f9 f10 f11 f12 f13 f14 f15 f16 f17 f18 f19 f20 f21 f22 f23 f24 f25 f26 f27 f28 f29 f30 f31 f32:Addr} (X:K.In h) (G:h.Ns mainGlobals mg) (hfa:mg "law" = some (.ref fa))
  {od0 an0 od1 an1 od2 an2 od3 an3 od4 an4 od5 an5 od6 an6 od7 an7 od8 an8 od9 an9 od10 an10 od11 an11 od12 an12 od13 an13 od14 an14 od15 an15 od16 an16 od17 an17 od18 an18 od19 an19 od20 an20 od21 an21 od22 an22 od23 an23 od24 an24 od25 an25 od26 an26 od27 an27 od28 an28 od29 an29 od30 an30 od31 an31 od32 an32:Option Addr}{sl0 sl1 sl2 sl3 sl4 sl5 sl6 sl7 sl8 sl9 sl10 sl11 sl12 sl13 sl14 sl15 sl16 sl17 sl18 sl19 sl20 sl21 sl22 sl23 sl24 sl25 sl26 sl27 sl28 sl29 sl30 sl31 sl32:Array (Option Value)}{oc0 kV0 dc0 pm0 cd0 ct0 oc1 kV1 dc1 pm1 cd1 ct1 oc2 kV2 dc2 pm2 cd2 ct2 oc3 kV3 dc3 pm3 cd3 ct3 oc4 kV4 dc4 pm4 cd4 ct4 oc5 kV5 dc5 pm5 cd5 ct5 oc6 kV6 dc6 pm6 cd6 ct6 oc7 kV7 dc7 pm7 cd7 ct7 oc8 kV8 dc8 pm8 cd8 ct8 oc9 kV9 dc9 pm9 cd9 ct9 oc10 kV10 dc10 pm10 cd10 ct10 oc11 kV11 dc11 pm11 cd11 ct11 oc12 kV12 dc12 pm12 cd12 ct12 oc13 kV13 dc13 pm13 cd13 ct13 oc14 kV14 dc14 pm14 cd14 ct14 oc15 kV15 dc15 pm15 cd15 ct15 oc16 kV16 dc16 pm16 cd16 ct16 oc17 kV17 dc17 pm17 cd17 ct17 oc18 kV18 dc18 pm18 cd18 ct18 oc19 kV19 dc19 pm19 cd19 ct19 oc20 kV20 dc20 pm20 cd20 ct20 oc21 kV21 dc21 pm21 cd21 ct21 oc22 kV22 dc22 pm22 cd22 ct22 oc23 kV23 dc23 pm23 cd23 ct23 oc24 kV24 dc24 pm24 cd24 ct24 oc25 kV25 dc25 pm25 cd25 ct25 oc26 kV26 dc26 pm26 cd26 ct26 oc27 kV27 dc27 pm27 cd27 ct27 oc28 kV28 dc28 pm28 cd28 ct28 oc29 kV29 dc29 pm29 cd29 ct29 oc30 kV30 dc30 pm30 cd30 ct30 oc31 kV31 dc31 pm31 cd31 ct31 oc32 kV32 dc32 pm32 cd32 ct32:Value}
  (a0:PySem.W.nsIn K mainGlobals "made_prices" = some (some (.ref f0))) (l0:K.lookup f0=some ⟨oc0,od0,.func (PySem.W.fnOf "made_prices" "made_prices" (defArgs (top 5)) (defBody (top 5)) (defScope (top 5)) .none kV0 dc0 pm0 an0 cd0 ct0),sl0⟩) (c0:PySem.W.codeIn K cd0 "made_prices" = true) (k0:PySem.W.keepIn K (.ref f0)=true)
  (a1:PySem.W.nsIn K mainGlobals "rises" = some (some (.ref f1))) (l1:K.lookup f1=some ⟨oc1,od1,.func (PySem.W.fnOf "rises" "rises" (defArgs (top 7)) (defBody (top 7)) (defScope (top 7)) .none kV1 dc1 pm1 an1 cd1 ct1),sl1⟩) (c1:PySem.W.codeIn K cd1 "rises" = true) (k1:PySem.W.keepIn K (.ref f1)=true)
  (a2:PySem.W.nsIn K mainGlobals "hearths_in" = some (some (.ref f2))) (l2:K.lookup f2=some ⟨oc2,od2,.func (PySem.W.fnOf "hearths_in" "hearths_in" (defArgs (top 8)) (defBody (top 8)) (defScope (top 8)) .none kV2 dc2 pm2 an2 cd2 ct2),sl2⟩) (c2:PySem.W.codeIn K cd2 "hearths_in" = true) (k2:PySem.W.keepIn K (.ref f2)=true)
  (a3:PySem.W.nsIn K mainGlobals "near_lists" = some (some (.ref f3))) (l3:K.lookup f3=some ⟨oc3,od3,.func (PySem.W.fnOf "near_lists" "near_lists" (defArgs (top 9)) (defBody (top 9)) (defScope (top 9)) .none kV3 dc3 pm3 an3 cd3 ct3),sl3⟩) (c3:PySem.W.codeIn K cd3 "near_lists" = true) (k3:PySem.W.keepIn K (.ref f3)=true)
  (a4:PySem.W.nsIn K mainGlobals "marked" = some (some (.ref f4))) (l4:K.lookup f4=some ⟨oc4,od4,.func (PySem.W.fnOf "marked" "marked" (defArgs (top 13)) (defBody (top 13)) (defScope (top 13)) .none kV4 dc4 pm4 an4 cd4 ct4),sl4⟩) (c4:PySem.W.codeIn K cd4 "marked" = true) (k4:PySem.W.keepIn K (.ref f4)=true)
  (a5:PySem.W.nsIn K mainGlobals "count_inside" = some (some (.ref f5))) (l5:K.lookup f5=some ⟨oc5,od5,.func (PySem.W.fnOf "count_inside" "count_inside" (defArgs (top 14)) (defBody (top 14)) (defScope (top 14)) .none kV5 dc5 pm5 an5 cd5 ct5),sl5⟩) (c5:PySem.W.codeIn K cd5 "count_inside" = true) (k5:PySem.W.keepIn K (.ref f5)=true)
  (a6:PySem.W.nsIn K mainGlobals "due_of" = some (some (.ref f6))) (l6:K.lookup f6=some ⟨oc6,od6,.func (PySem.W.fnOf "due_of" "due_of" (defArgs (top 23)) (defBody (top 23)) (defScope (top 23)) .none kV6 dc6 pm6 an6 cd6 ct6),sl6⟩) (c6:PySem.W.codeIn K cd6 "due_of" = true) (k6:PySem.W.keepIn K (.ref f6)=true)
  (a7:PySem.W.nsIn K mainGlobals "taken_by" = some (some (.ref f7))) (l7:K.lookup f7=some ⟨oc7,od7,.func (PySem.W.fnOf "taken_by" "taken_by" (defArgs (top 25)) (defBody (top 25)) (defScope (top 25)) .none kV7 dc7 pm7 an7 cd7 ct7),sl7⟩) (c7:PySem.W.codeIn K cd7 "taken_by" = true) (k7:PySem.W.keepIn K (.ref f7)=true)
  (a8:PySem.W.nsIn K mainGlobals "_law_cell_at" = some (some (.ref f8))) (l8:K.lookup f8=some ⟨oc8,od8,.func (PySem.W.fnOf "_law_cell_at" "_law_cell_at" (defArgs (top 28)) (defBody (top 28)) (defScope (top 28)) .none kV8 dc8 pm8 an8 cd8 ct8),sl8⟩) (c8:PySem.W.codeIn K cd8 "_law_cell_at" = true) (k8:PySem.W.keepIn K (.ref f8)=true)
  (a9:PySem.W.nsIn K mainGlobals "_law_web_of_digits" = some (some (.ref f9))) (l9:K.lookup f9=some ⟨oc9,od9,.func (PySem.W.fnOf "_law_web_of_digits" "_law_web_of_digits" (defArgs (top 29)) (defBody (top 29)) (defScope (top 29)) .none kV9 dc9 pm9 an9 cd9 ct9),sl9⟩) (c9:PySem.W.codeIn K cd9 "_law_web_of_digits" = true) (k9:PySem.W.keepIn K (.ref f9)=true)
  (a10:PySem.W.nsIn K mainGlobals "_law_whole_number" = some (some (.ref f10))) (l10:K.lookup f10=some ⟨oc10,od10,.func (PySem.W.fnOf "_law_whole_number" "_law_whole_number" (defArgs (top 31)) (defBody (top 31)) (defScope (top 31)) .none kV10 dc10 pm10 an10 cd10 ct10),sl10⟩) (c10:PySem.W.codeIn K cd10 "_law_whole_number" = true) (k10:PySem.W.keepIn K (.ref f10)=true)
  (a11:PySem.W.nsIn K mainGlobals "_law_near" = some (some (.ref f11))) (l11:K.lookup f11=some ⟨oc11,od11,.func (PySem.W.fnOf "_law_near" "_law_near" (defArgs (top 32)) (defBody (top 32)) (defScope (top 32)) .none kV11 dc11 pm11 an11 cd11 ct11),sl11⟩) (c11:PySem.W.codeIn K cd11 "_law_near" = true) (k11:PySem.W.keepIn K (.ref f11)=true)
  (a12:PySem.W.nsIn K mainGlobals "_law_dues" = some (some (.ref f12))) (l12:K.lookup f12=some ⟨oc12,od12,.func (PySem.W.fnOf "_law_dues" "_law_dues" (defArgs (top 37)) (defBody (top 37)) (defScope (top 37)) .none kV12 dc12 pm12 an12 cd12 ct12),sl12⟩) (c12:PySem.W.codeIn K cd12 "_law_dues" = true) (k12:PySem.W.keepIn K (.ref f12)=true)
  (a13:PySem.W.nsIn K mainGlobals "_law_taken" = some (some (.ref f13))) (l13:K.lookup f13=some ⟨oc13,od13,.func (PySem.W.fnOf "_law_taken" "_law_taken" (defArgs (top 39)) (defBody (top 39)) (defScope (top 39)) .none kV13 dc13 pm13 an13 cd13 ct13),sl13⟩) (c13:PySem.W.codeIn K cd13 "_law_taken" = true) (k13:PySem.W.keepIn K (.ref f13)=true)
  (a14:PySem.W.nsIn K mainGlobals "is_hearth" = some (some (.ref f14))) (l14:K.lookup f14=some ⟨oc14,od14,.func (PySem.W.fnOf "is_hearth" "is_hearth" (defArgs (top 10)) (defBody (top 10)) (defScope (top 10)) .none kV14 dc14 pm14 an14 cd14 ct14),sl14⟩) (c14:PySem.W.codeIn K cd14 "is_hearth" = true) (k14:PySem.W.keepIn K (.ref f14)=true)
  (a15:PySem.W.nsIn K mainGlobals "can_kindle" = some (some (.ref f15))) (l15:K.lookup f15=some ⟨oc15,od15,.func (PySem.W.fnOf "can_kindle" "can_kindle" (defArgs (top 18)) (defBody (top 18)) (defScope (top 18)) .none kV15 dc15 pm15 an15 cd15 ct15),sl15⟩) (c15:PySem.W.codeIn K cd15 "can_kindle" = true) (k15:PySem.W.keepIn K (.ref f15)=true)
  (a16:PySem.W.nsIn K mainGlobals "weighted_lists" = some (some (.ref f16))) (l16:K.lookup f16=some ⟨oc16,od16,.func (PySem.W.fnOf "weighted_lists" "weighted_lists" (defArgs (top 21)) (defBody (top 21)) (defScope (top 21)) .none kV16 dc16 pm16 an16 cd16 ct16),sl16⟩) (c16:PySem.W.codeIn K cd16 "weighted_lists" = true) (k16:PySem.W.keepIn K (.ref f16)=true)
  (a17:PySem.W.nsIn K mainGlobals "_law_web" = some (some (.ref f17))) (l17:K.lookup f17=some ⟨oc17,od17,.func (PySem.W.fnOf "_law_web" "_law_web" (defArgs (top 30)) (defBody (top 30)) (defScope (top 30)) .none kV17 dc17 pm17 an17 cd17 ct17),sl17⟩) (c17:PySem.W.codeIn K cd17 "_law_web" = true) (k17:PySem.W.keepIn K (.ref f17)=true)
  (a18:PySem.W.nsIn K mainGlobals "_law_seeds_by" = some (some (.ref f18))) (l18:K.lookup f18=some ⟨oc18,od18,.func (PySem.W.fnOf "_law_seeds_by" "_law_seeds_by" (defArgs (top 34)) (defBody (top 34)) (defScope (top 34)) .none kV18 dc18 pm18 an18 cd18 ct18),sl18⟩) (c18:PySem.W.codeIn K cd18 "_law_seeds_by" = true) (k18:PySem.W.keepIn K (.ref f18)=true)
  (a19:PySem.W.nsIn K mainGlobals "_law_rounds" = some (some (.ref f19))) (l19:K.lookup f19=some ⟨oc19,od19,.func (PySem.W.fnOf "_law_rounds" "_law_rounds" (defArgs (top 35)) (defBody (top 35)) (defScope (top 35)) .none kV19 dc19 pm19 an19 cd19 ct19),sl19⟩) (c19:PySem.W.codeIn K cd19 "_law_rounds" = true) (k19:PySem.W.keepIn K (.ref f19)=true)
  (a20:PySem.W.nsIn K mainGlobals "_law_weights" = some (some (.ref f20))) (l20:K.lookup f20=some ⟨oc20,od20,.func (PySem.W.fnOf "_law_weights" "_law_weights" (defArgs (top 36)) (defBody (top 36)) (defScope (top 36)) .none kV20 dc20 pm20 an20 cd20 ct20),sl20⟩) (c20:PySem.W.codeIn K cd20 "_law_weights" = true) (k20:PySem.W.keepIn K (.ref f20)=true)
  (a21:PySem.W.nsIn K mainGlobals "_law_is" = some (some (.ref f21))) (l21:K.lookup f21=some ⟨oc21,od21,.func (PySem.W.fnOf "_law_is" "_law_is" (defArgs (top 40)) (defBody (top 40)) (defScope (top 40)) .none kV21 dc21 pm21 an21 cd21 ct21),sl21⟩) (c21:PySem.W.codeIn K cd21 "_law_is" = true) (k21:PySem.W.keepIn K (.ref f21)=true)
  (a22:PySem.W.nsIn K mainGlobals "is_set" = some (some (.ref f22))) (l22:K.lookup f22=some ⟨oc22,od22,.func (PySem.W.fnOf "is_set" "is_set" (defArgs (top 11)) (defBody (top 11)) (defScope (top 11)) .none kV22 dc22 pm22 an22 cd22 ct22),sl22⟩) (c22:PySem.W.codeIn K cd22 "is_set" = true) (k22:PySem.W.keepIn K (.ref f22)=true)
  (a23:PySem.W.nsIn K mainGlobals "kindling" = some (some (.ref f23))) (l23:K.lookup f23=some ⟨oc23,od23,.func (PySem.W.fnOf "kindling" "kindling" (defArgs (top 17)) (defBody (top 17)) (defScope (top 17)) .none kV23 dc23 pm23 an23 cd23 ct23),sl23⟩) (c23:PySem.W.codeIn K cd23 "kindling" = true) (k23:PySem.W.keepIn K (.ref f23)=true)
  (a24:PySem.W.nsIn K mainGlobals "dues" = some (some (.ref f24))) (l24:K.lookup f24=some ⟨oc24,od24,.func (PySem.W.fnOf "dues" "dues" (defArgs (top 22)) (defBody (top 22)) (defScope (top 22)) .none kV24 dc24 pm24 an24 cd24 ct24),sl24⟩) (c24:PySem.W.codeIn K cd24 "dues" = true) (k24:PySem.W.keepIn K (.ref f24)=true)
  (a25:PySem.W.nsIn K mainGlobals "_law_web_by" = some (some (.ref f25))) (l25:K.lookup f25=some ⟨oc25,od25,.func (PySem.W.fnOf "_law_web_by" "_law_web_by" (defArgs (top 33)) (defBody (top 33)) (defScope (top 33)) .none kV25 dc25 pm25 an25 cd25 ct25),sl25⟩) (c25:PySem.W.codeIn K cd25 "_law_web_by" = true) (k25:PySem.W.keepIn K (.ref f25)=true)
  (a26:PySem.W.nsIn K mainGlobals "_law_ranks" = some (some (.ref f26))) (l26:K.lookup f26=some ⟨oc26,od26,.func (PySem.W.fnOf "_law_ranks" "_law_ranks" (defArgs (top 38)) (defBody (top 38)) (defScope (top 38)) .none kV26 dc26 pm26 an26 cd26 ct26),sl26⟩) (c26:PySem.W.codeIn K cd26 "_law_ranks" = true) (k26:PySem.W.keepIn K (.ref f26)=true)
  (a27:PySem.W.nsIn K mainGlobals "made_set" = some (some (.ref f27))) (l27:K.lookup f27=some ⟨oc27,od27,.func (PySem.W.fnOf "made_set" "made_set" (defArgs (top 12)) (defBody (top 12)) (defScope (top 12)) .none kV27 dc27 pm27 an27 cd27 ct27),sl27⟩) (c27:PySem.W.codeIn K cd27 "made_set" = true) (k27:PySem.W.keepIn K (.ref f27)=true)
  (a28:PySem.W.nsIn K mainGlobals "rounds" = some (some (.ref f28))) (l28:K.lookup f28=some ⟨oc28,od28,.func (PySem.W.fnOf "rounds" "rounds" (defArgs (top 16)) (defBody (top 16)) (defScope (top 16)) .none kV28 dc28 pm28 an28 cd28 ct28),sl28⟩) (c28:PySem.W.codeIn K cd28 "rounds" = true) (k28:PySem.W.keepIn K (.ref f28)=true)
  (a29:PySem.W.nsIn K mainGlobals "is_within" = some (some (.ref f29))) (l29:K.lookup f29=some ⟨oc29,od29,.func (PySem.W.fnOf "is_within" "is_within" (defArgs (top 26)) (defBody (top 26)) (defScope (top 26)) .none kV29 dc29 pm29 an29 cd29 ct29),sl29⟩) (c29:PySem.W.codeIn K cd29 "is_within" = true) (k29:PySem.W.keepIn K (.ref f29)=true)
  (a30:PySem.W.nsIn K mainGlobals "ranks_of" = some (some (.ref f30))) (l30:K.lookup f30=some ⟨oc30,od30,.func (PySem.W.fnOf "ranks_of" "ranks_of" (defArgs (top 19)) (defBody (top 19)) (defScope (top 19)) .none kV30 dc30 pm30 an30 cd30 ct30),sl30⟩) (c30:PySem.W.codeIn K cd30 "ranks_of" = true) (k30:PySem.W.keepIn K (.ref f30)=true)
  (a31:PySem.W.nsIn K mainGlobals "takings" = some (some (.ref f31))) (l31:K.lookup f31=some ⟨oc31,od31,.func (PySem.W.fnOf "takings" "takings" (defArgs (top 24)) (defBody (top 24)) (defScope (top 24)) .none kV31 dc31 pm31 an31 cd31 ct31),sl31⟩) (c31:PySem.W.codeIn K cd31 "takings" = true) (k31:PySem.W.keepIn K (.ref f31)=true)
  (a32:PySem.W.nsIn K mainGlobals "law" = some (some (.ref f32))) (l32:K.lookup f32=some ⟨oc32,od32,.func (PySem.W.fnOf "law" "law" (defArgs (top 41)) (defBody (top 41)) (defScope (top 41)) .none kV32 dc32 pm32 an32 cd32 ct32),sl32⟩) (c32:PySem.W.codeIn K cd32 "law" = true) (k32:PySem.W.keepIn K (.ref f32)=true)
  (z_len:PySem.W.nsIn K mainGlobals "len" = some none)
  (z_range:PySem.W.nsIn K mainGlobals "range" = some none)
  (z_tuple:PySem.W.nsIn K mainGlobals "tuple" = some none)
  (z_list:PySem.W.nsIn K mainGlobals "list" = some none)
  (z_sorted:PySem.W.nsIn K mainGlobals "sorted" = some none)
  (z_all:PySem.W.nsIn K mainGlobals "all" = some none)
  (z_any:PySem.W.nsIn K mainGlobals "any" = some none)
  (z_zip:PySem.W.nsIn K mainGlobals "zip" = some none)
  (z_min:PySem.W.nsIn K mainGlobals "min" = some none)
  (z_max:PySem.W.nsIn K mainGlobals "max" = some none)
  (z_sum:PySem.W.nsIn K mainGlobals "sum" = some none)
  (z_isinstance:PySem.W.nsIn K mainGlobals "isinstance" = some none)
  (z_int:PySem.W.nsIn K mainGlobals "int" = some none)
  (z_bool:PySem.W.nsIn K mainGlobals "bool" = some none)
  (z_enumerate:PySem.W.nsIn K mainGlobals "enumerate" = some none)
  : ∃ fd:FuncData,(∀ (s:Shared) (v:Value),BindsTo s fd ⟨[v],[]⟩ [("script",v)])/\∀ base:Heap,K.In base->base.Ns mainGlobals mg->FnOk l.prog w K mg base CX0 8 fa fd ["script"] (spLawP K):=by
 have e:=hfa.symm.trans (PySem.W.mg_of X G a32)
 cases e
 have F0:=fun_mk (st:=top 5) l0 c0 k0
 have m0:=PySem.W.mg_of X G a0
 have F1:=fun_mk (st:=top 7) l1 c1 k1
 have m1:=PySem.W.mg_of X G a1
 have F2:=fun_mk (st:=top 8) l2 c2 k2
 have m2:=PySem.W.mg_of X G a2
 have F3:=fun_mk (st:=top 9) l3 c3 k3
 have m3:=PySem.W.mg_of X G a3
 have F4:=fun_mk (st:=top 13) l4 c4 k4
 have m4:=PySem.W.mg_of X G a4
 have F5:=fun_mk (st:=top 14) l5 c5 k5
 have m5:=PySem.W.mg_of X G a5
 have F6:=fun_mk (st:=top 23) l6 c6 k6
 have m6:=PySem.W.mg_of X G a6
 have F7:=fun_mk (st:=top 25) l7 c7 k7
 have m7:=PySem.W.mg_of X G a7
 have F8:=fun_mk (st:=top 28) l8 c8 k8
 have m8:=PySem.W.mg_of X G a8
 have F9:=fun_mk (st:=top 29) l9 c9 k9
 have m9:=PySem.W.mg_of X G a9
 have F10:=fun_mk (st:=top 31) l10 c10 k10
 have m10:=PySem.W.mg_of X G a10
 have F11:=fun_mk (st:=top 32) l11 c11 k11
 have m11:=PySem.W.mg_of X G a11
 have F12:=fun_mk (st:=top 37) l12 c12 k12
 have m12:=PySem.W.mg_of X G a12
 have F13:=fun_mk (st:=top 39) l13 c13 k13
 have m13:=PySem.W.mg_of X G a13
 have F14:=fun_mk (st:=top 10) l14 c14 k14
 have m14:=PySem.W.mg_of X G a14
 have F15:=fun_mk (st:=top 18) l15 c15 k15
 have m15:=PySem.W.mg_of X G a15
 have F16:=fun_mk (st:=top 21) l16 c16 k16
 have m16:=PySem.W.mg_of X G a16
 have F17:=fun_mk (st:=top 30) l17 c17 k17
 have m17:=PySem.W.mg_of X G a17
 have F18:=fun_mk (st:=top 34) l18 c18 k18
 have m18:=PySem.W.mg_of X G a18
 have F19:=fun_mk (st:=top 35) l19 c19 k19
 have m19:=PySem.W.mg_of X G a19
 have F20:=fun_mk (st:=top 36) l20 c20 k20
 have m20:=PySem.W.mg_of X G a20
 have F21:=fun_mk (st:=top 40) l21 c21 k21
 have m21:=PySem.W.mg_of X G a21
 have F22:=fun_mk (st:=top 11) l22 c22 k22
 have m22:=PySem.W.mg_of X G a22
 have F23:=fun_mk (st:=top 17) l23 c23 k23
 have m23:=PySem.W.mg_of X G a23
 have F24:=fun_mk (st:=top 22) l24 c24 k24
 have m24:=PySem.W.mg_of X G a24
 have F25:=fun_mk (st:=top 33) l25 c25 k25
 have m25:=PySem.W.mg_of X G a25
 have F26:=fun_mk (st:=top 38) l26 c26 k26
 have m26:=PySem.W.mg_of X G a26
 have F27:=fun_mk (st:=top 12) l27 c27 k27
 have m27:=PySem.W.mg_of X G a27
 have F28:=fun_mk (st:=top 16) l28 c28 k28
 have m28:=PySem.W.mg_of X G a28
 have F29:=fun_mk (st:=top 26) l29 c29 k29
 have m29:=PySem.W.mg_of X G a29
 have F30:=fun_mk (st:=top 19) l30 c30 k30
 have m30:=PySem.W.mg_of X G a30
 have F31:=fun_mk (st:=top 24) l31 c31 k31
 have m31:=PySem.W.mg_of X G a31
 have F32:=fun_mk (st:=top 41) l32 c32 k32
 have m32:=PySem.W.mg_of X G a32
 have B:Bt mg:=⟨PySem.W.mg_none_of X G z_len,PySem.W.mg_none_of X G z_range,PySem.W.mg_none_of X G z_tuple,PySem.W.mg_none_of X G z_list,PySem.W.mg_none_of X G z_sorted,PySem.W.mg_none_of X G z_all,PySem.W.mg_none_of X G z_any,PySem.W.mg_none_of X G z_zip,PySem.W.mg_none_of X G z_min,PySem.W.mg_none_of X G z_max,PySem.W.mg_none_of X G z_sum,PySem.W.mg_none_of X G z_isinstance,PySem.W.mg_none_of X G z_int,PySem.W.mg_none_of X G z_bool,PySem.W.mg_none_of X G z_enumerate⟩
 refine⟨PySem.W.fnOf "law" "law" (defArgs (top 41)) (defBody (top 41)) (defScope (top 41)) .none kV32 dc32 pm32 an32 cd32 ct32,fun s v=>.of_eq rfl,fun base KB _=>?_⟩
 have D0:=df_made_prices (P:=l.prog) (w:=w) (base:=base) B F0 m0
 have D1:=df_rises (ok_rises (P:=l.prog) (w:=w) (base:=base) B F1) (F1.binds (ps:=["things"]) fun _ _ _ _ _ _ us hl=>by obtain ⟨_,rfl⟩:=us1 hl; rfl) F1.kp m1
 have D2:=df_hearths_in (P:=l.prog) (w:=w) (base:=base) B F2 m2
 have D3:=df_near_lists (ok_nearLists (P:=l.prog) (w:=w) (mg:=mg) (base:=base) F3) (F3.binds (ps:=["web"]) fun _ _ _ _ _ _ us hl=>by obtain ⟨_,rfl⟩:=us1 hl; rfl) F3.kp m3
 have D4:=df_marked (P:=l.prog) (w:=w) (base:=base) B F4 m4
 have D5:=df_count_inside (P:=l.prog) (w:=w) (base:=base) B F5 m5
 have D6:=df_due_of (P:=l.prog) (w:=w) (base:=base) B F6 m6
 have D7:=df_taken_by (P:=l.prog) (w:=w) (base:=base) B F7 m7
 have D8:=df_law_cell_at (P:=l.prog) (w:=w) (base:=base) B F8 m8
 have D9:=df_law_web_of_digits (P:=l.prog) (w:=w) (base:=base) B F9 m9
 have D10:=df_law_whole_number (P:=l.prog) (w:=w) (base:=base) B F10 m10
 have D11:=df_law_near (P:=l.prog) (w:=w) (base:=base) B F11 m11
 have D12:=df_law_dues (P:=l.prog) (w:=w) (base:=base) B F12 m12
 have D13:=df_law_taken (P:=l.prog) (w:=w) (base:=base) B F13 m13
 have D14:=df_is_hearth (P:=l.prog) (w:=w) (base:=base) B F14 m14 D2
 have D15:=df_can_kindle (P:=l.prog) (w:=w) (base:=base) B F15 m15 D5
 have D16:=df_weighted_lists (ok_weighted (P:=l.prog) (w:=w) (mg:=mg) (base:=base) B F16 D0) (F16.binds (ps:=["web","weights"]) fun _ _ _ _ _ _ us hl=>by obtain ⟨_,_,rfl⟩:=us2 hl; rfl) F16.kp m16
 have D17:=df_law_web (P:=l.prog) (w:=w) (base:=base) B F17 m17 D9 D8
 have D18:=df_law_seeds_by (P:=l.prog) (w:=w) (base:=base) B F18 m18 D8
 have D19:=df_law_rounds (P:=l.prog) (w:=w) (base:=base) B F19 m19 D11
 have D20:=df_law_weights (P:=l.prog) (w:=w) (base:=base) B F20 m20 D8
 have D21:=df_law_is (P:=l.prog) (w:=w) (base:=base) B F21 m21 D10
 have D22:=df_is_set (P:=l.prog) (w:=w) (base:=base) B F22 m22 D1 D14
 have D23:=df_kindling (P:=l.prog) (w:=w) (base:=base) B F23 m23 D15 D2
 have D24:=df_dues (P:=l.prog) (w:=w) (base:=base) B F24 m24 D6 D16
 have D25:=df_law_web_by (P:=l.prog) (w:=w) (base:=base) B F25 m25 D8 D17
 have D26:=df_law_ranks (P:=l.prog) (w:=w) (base:=base) B F26 m26 D19
 have D27:=df_made_set (P:=l.prog) (w:=w) (base:=base) B F27 m27 D22
 have D28:=df_rounds (P:=l.prog) (w:=w) (base:=base) B F28 m28 D4 D3 D23 D27
 have D29:=df_is_within (P:=l.prog) (w:=w) (base:=base) B F29 m29 D24 D4 D27 D5
 have D30:=df_ranks_of (P:=l.prog) (w:=w) (base:=base) B F30 m30 D28
 have D31:=df_takings (P:=l.prog) (w:=w) (base:=base) B F31 m31 D16 D30 D7
 exact law_ok (ok_law B F32 D25 D18 D20 D26 D12 D31 D29 D21 D13)
theorem walk {l:PySem.W.OpenLaw}{q:Program}{loose:List Str}{XP:(Str->Option Value)->Heap->Prop}{YP:World->Heap->Prop}{d:DefRec}{K:Params->PySem.W.Frag} (hn:l.most=some 63) (hdf:d.params.defaults = [])
  (hY:∀ (w:World) (h:Heap),YP w h->(K w.params).In h)
  (F:∀ (w:World) (mg:Str->Option Value) (fa:Addr) (h:Heap),(K w.params).In h->h.Ns mainGlobals mg->mg d.name=some (.ref fa)->
   ∃ fd:FuncData,(∀ (s:Shared) (u:Value),BindsTo s fd ⟨[u],[]⟩ [("script",u)])/\∀ base:Heap,(K w.params).In base->base.Ns mainGlobals mg->FnOk l.prog w (K w.params) mg base CX0 8 fa fd ["script"] (spLawP (K w.params))) :
  PySem.W.WalkO q loose XP YP l.row.toRowW d [] (fun f vs=>PySem.call f vs):=
 L2.walk_of (n:=63) (k:=8) (x:="script") (CX:=fun _=>CX0) (sp:=fun w=>spLawP (K w.params)) hn (by decide) hdf ⟨rfl,by decide,by decide⟩ hY F (fun _ _ a ns hl hO hS=>⟨a,ns,rfl,scr_of hO hS,hl,fun _=>rfl⟩) fun _ _ _ _ _ z=>z
end K_k70
open PySem PySem.W PyProof.Rows
set_option maxRecDepth 100000 in
set_option maxHeartbeats 0 in
theorem PySem.Challenge.cw_kindleweb_k70_whole_what_is_taken_holds : PySem.Challenge.rw_kindleweb_k70_whole_what_is_taken.Holds := by
 w_on; o_law; k_head; (case hw => w_witness2)
 k_fill
 refine K_k70.walk (l := PySem.Challenge.rw_kindleweb_k70_whole_what_is_taken) rfl rfl (fun w h Y => PySem.W.kIn_of Y) ?F
 case F =>
  intro w mg fa h KX G hmg
  refine' K_k70.all_mk KX G hmg ?a0 ?l0 ?c0 ?k0 ?a1 ?l1 ?c1 ?k1 ?a2 ?l2 ?c2 ?k2 ?a3 ?l3 ?c3 ?k3 ?a4 ?l4 ?c4 ?k4 ?a5 ?l5 ?c5 ?k5 ?a6 ?l6 ?c6 ?k6 ?a7 ?l7 ?c7 ?k7 ?a8 ?l8 ?c8 ?k8 ?a9 ?l9 ?c9 ?k9 ?a10 ?l10 ?c10 ?k10 ?a11 ?l11 ?c11 ?k11 ?a12 ?l12 ?c12 ?k12 ?a13 ?l13 ?c13 ?k13 ?a14 ?l14 ?c14 ?k14 ?a15 ?l15 ?c15 ?k15 ?a16 ?l16 ?c16 ?k16 ?a17 ?l17 ?c17 ?k17 ?a18 ?l18 ?c18 ?k18 ?a19 ?l19 ?c19 ?k19 ?a20 ?l20 ?c20 ?k20 ?a21 ?l21 ?c21 ?k21 ?a22 ?l22 ?c22 ?k22 ?a23 ?l23 ?c23 ?k23 ?a24 ?l24 ?c24 ?k24 ?a25 ?l25 ?c25 ?k25 ?a26 ?l26 ?c26 ?k26 ?a27 ?l27 ?c27 ?k27 ?a28 ?l28 ?c28 ?k28 ?a29 ?l29 ?c29 ?k29 ?a30 ?l30 ?c30 ?k30 ?a31 ?l31 ?c31 ?k31 ?a32 ?l32 ?c32 ?k32 ?z_len ?z_range ?z_tuple ?z_list ?z_sorted ?z_all ?z_any ?z_zip ?z_min ?z_max ?z_sum ?z_isinstance ?z_int ?z_bool ?z_enumerate
  (case a0 => k_is)
  (case l0 => k_is)
  (case c0 => k_is)
  (case k0 => k_is)
  (case a1 => k_is)
  (case l1 => k_is)
  (case c1 => k_is)
  (case k1 => k_is)
  (case a2 => k_is)
  (case l2 => k_is)
  (case c2 => k_is)
  (case k2 => k_is)
  (case a3 => k_is)
  (case l3 => k_is)
  (case c3 => k_is)
  (case k3 => k_is)
  (case a4 => k_is)
  (case l4 => k_is)
  (case c4 => k_is)
  (case k4 => k_is)
  (case a5 => k_is)
  (case l5 => k_is)
  (case c5 => k_is)
  (case k5 => k_is)
  (case a6 => k_is)
  (case l6 => k_is)
  (case c6 => k_is)
  (case k6 => k_is)
  (case a7 => k_is)
  (case l7 => k_is)
  (case c7 => k_is)
  (case k7 => k_is)
  (case a8 => k_is)
  (case l8 => k_is)
  (case c8 => k_is)
  (case k8 => k_is)
  (case a9 => k_is)
  (case l9 => k_is)
  (case c9 => k_is)
  (case k9 => k_is)
  (case a10 => k_is)
  (case l10 => k_is)
  (case c10 => k_is)
  (case k10 => k_is)
  (case a11 => k_is)
  (case l11 => k_is)
  (case c11 => k_is)
  (case k11 => k_is)
  (case a12 => k_is)
  (case l12 => k_is)
  (case c12 => k_is)
  (case k12 => k_is)
  (case a13 => k_is)
  (case l13 => k_is)
  (case c13 => k_is)
  (case k13 => k_is)
  (case a14 => k_is)
  (case l14 => k_is)
  (case c14 => k_is)
  (case k14 => k_is)
  (case a15 => k_is)
  (case l15 => k_is)
  (case c15 => k_is)
  (case k15 => k_is)
  (case a16 => k_is)
  (case l16 => k_is)
  (case c16 => k_is)
  (case k16 => k_is)
  (case a17 => k_is)
  (case l17 => k_is)
  (case c17 => k_is)
  (case k17 => k_is)
  (case a18 => k_is)
  (case l18 => k_is)
  (case c18 => k_is)
  (case k18 => k_is)
  (case a19 => k_is)
  (case l19 => k_is)
  (case c19 => k_is)
  (case k19 => k_is)
  (case a20 => k_is)
  (case l20 => k_is)
  (case c20 => k_is)
  (case k20 => k_is)
  (case a21 => k_is)
  (case l21 => k_is)
  (case c21 => k_is)
  (case k21 => k_is)
  (case a22 => k_is)
  (case l22 => k_is)
  (case c22 => k_is)
  (case k22 => k_is)
  (case a23 => k_is)
  (case l23 => k_is)
  (case c23 => k_is)
  (case k23 => k_is)
  (case a24 => k_is)
  (case l24 => k_is)
  (case c24 => k_is)
  (case k24 => k_is)
  (case a25 => k_is)
  (case l25 => k_is)
  (case c25 => k_is)
  (case k25 => k_is)
  (case a26 => k_is)
  (case l26 => k_is)
  (case c26 => k_is)
  (case k26 => k_is)
  (case a27 => k_is)
  (case l27 => k_is)
  (case c27 => k_is)
  (case k27 => k_is)
  (case a28 => k_is)
  (case l28 => k_is)
  (case c28 => k_is)
  (case k28 => k_is)
  (case a29 => k_is)
  (case l29 => k_is)
  (case c29 => k_is)
  (case k29 => k_is)
  (case a30 => k_is)
  (case l30 => k_is)
  (case c30 => k_is)
  (case k30 => k_is)
  (case a31 => k_is)
  (case l31 => k_is)
  (case c31 => k_is)
  (case k31 => k_is)
  (case a32 => k_is)
  (case l32 => k_is)
  (case c32 => k_is)
  (case k32 => k_is)
  (case z_len => k_is)
  (case z_range => k_is)
  (case z_tuple => k_is)
  (case z_list => k_is)
  (case z_sorted => k_is)
  (case z_all => k_is)
  (case z_any => k_is)
  (case z_zip => k_is)
  (case z_min => k_is)
  (case z_max => k_is)
  (case z_sum => k_is)
  (case z_isinstance => k_is)
  (case z_int => k_is)
  (case z_bool => k_is)
  (case z_enumerate => k_is)


