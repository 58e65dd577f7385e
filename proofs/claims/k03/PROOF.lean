import PyProof.Rows.All
import Wide.All
import OpenK.AllK
import Wide.FinOn
import Lean
import PyProof.EqAt
import PyProof.EqKinds
import PyProof.TupleCall
import PyProof.NeKinds
import PyProof.Draws
import PyProof.ZipIter
import PyProof.DictUpdate
import PyProof.AutoSeq1
import PyProof.ListRange
import PyProof.ListMulRoad
import PyProof.FactsAll.tuple_2
import PyProof.Rows.SortShell
import PyProof.EnumFor
import PyProof.EnumMake
import PyProof.EnumStmt
import PyProof.Rows.SortWalk
import KE.KDictList
import PyProof.SumAny
import PyProof.ConsumeWalk
import PyProof.WalksMore
import PyProof.Rows.TupAssign
import PyProof.ExcArgsOwn
import PySem.Challenge.RW_kindleweb_k03_sets
set_option Elab.async false
set_option linter.all false
set_option maxRecDepth 100000
set_option maxHeartbeats 4000000
namespace L2
open PySem PySem.Spec PyProof.Rows
abbrev Key := Sum Int Str
def keyIs : Key → Value → Bool
  | .inl k, v => Value.isInt k v
  | .inr x, v => Value.isStrOf x v
def keyH (w : World) : Key → Int
  | .inl k => hashInt k
  | .inr x => hashStr w x
theorem keyIs_shape : ∀ {k : Key} {v : Value}, keyIs k v = true → (∃ i t, k = Sum.inl i ∧ v = Value.int i t) ∨ (∃ x t, k = Sum.inr x ∧ v = Value.str x t)
  | .inl i, v, h => by
    obtain ⟨t, e⟩ := Value.isInt_shape (k := i) (v := v) h
    exact .inl ⟨i, t, rfl, e⟩
  | .inr x, v, h => by
    obtain ⟨t, e⟩ := Value.isStrOf_shape (x := x) (v := v) h
    exact .inr ⟨x, t, rfl, e⟩
theorem key_ll (a b : Int) : decide ((Sum.inl a : Key) = Sum.inl b) = (a == b) := by
  by_cases e : a = b
  · subst e; simp
  · have h : ¬ (Sum.inl a : Key) = Sum.inl b := fun q => e (Sum.inl.inj q)
    rw [decide_eq_false h]
    exact (beq_eq_false_iff_ne.mpr e).symm
theorem key_rr (a b : Str) : decide ((Sum.inr a : Key) = Sum.inr b) = decide (a = b) := by
  by_cases e : a = b
  · subst e; simp
  · have h : ¬ (Sum.inr a : Key) = Sum.inr b := fun q => e (Sum.inr.inj q)
    rw [decide_eq_false h, decide_eq_false e]
theorem key_lr (a : Int) (b : Str) : decide ((Sum.inl a : Key) = Sum.inr b) = false := decide_eq_false (fun q => nomatch q)
theorem key_rl (a : Str) (b : Int) : decide ((Sum.inr a : Key) = Sum.inl b) = false := decide_eq_false (fun q => nomatch q)
def mixKind (prog : Program) (w : World) : PySem.KeyKind prog w Key where
  is := keyIs
  hash := keyH w
  inj := fun v a b ha hb => by
    rcases keyIs_shape ha with ⟨i, t, rfl, rfl⟩ | ⟨x, t, rfl, rfl⟩
    · rcases keyIs_shape hb with ⟨j, u, rfl, e⟩ | ⟨y, u, rfl, e⟩
      · injection e with e1 _; rw [e1]
      · exact nomatch e
    · rcases keyIs_shape hb with ⟨j, u, rfl, e⟩ | ⟨y, u, rfl, e⟩
      · exact nomatch e
      · injection e with e1 _; rw [e1]
  byValue := fun k v h => by
    rcases keyIs_shape h with ⟨i, t, rfl, rfl⟩ | ⟨x, t, rfl, rfl⟩ <;> rfl
  pyHash := fun hv h => by
    rcases keyIs_shape hv with ⟨i, t, rfl, rfl⟩ | ⟨x, t, rfl, rfl⟩
    · exact wpAny_pyHash_int h
    · exact wpAny_pyHash_str h
  eqBool := fun hu hv h => by
    rcases keyIs_shape hu with ⟨i, t, rfl, rfl⟩ | ⟨x, t, rfl, rfl⟩
    · rcases keyIs_shape hv with ⟨j, u, rfl, rfl⟩ | ⟨y, u, rfl, rfl⟩
      · rw [key_ll] at h; exact wpAny_eqBool_int h
      · rw [key_lr] at h; exact SeqAt.EqAt.int_str i t y u _ _ _ _ h
    · rcases keyIs_shape hv with ⟨j, u, rfl, rfl⟩ | ⟨y, u, rfl, rfl⟩
      · rw [key_rl] at h; exact SeqAt.EqAt.str_int x t j u _ _ _ _ h
      · rw [key_rr] at h; exact wpAny_eqBool_str h
  «strs» := fun k x t v h => by
    rcases keyIs_shape h with ⟨i, u, rfl, e⟩ | ⟨y, u, rfl, e⟩
    · exact nomatch e
    · injection e with e1 _
      subst e1
      cases v <;> rfl
end L2
namespace L2
open PySem PySem.Spec PyProof.Rows
inductive V where
  | non | bl (b : Bool) | int (i : Int) | str (x : Str) | byt (b : Array UInt8) | flt (b : UInt64) | ref (a : Addr) | ty (n : String)
  deriving DecidableEq
def RelV : V → Value → Prop
  | .non, u => u = Value.none
  | .bl b, u => u = Value.bool b
  | .int i, u => ∃ t, u = Value.int i t
  | .str x, u => ∃ t, u = Value.str x t
  | .byt b, u => ∃ t, u = Value.bytes b t
  | .flt b, u => ∃ t, u = Value.float b t
  | .ref a, u => u = Value.ref a
  | .ty n, u => u = Value.type n
abbrev Vals : List V → List Value → Prop := Paired RelV
theorem Vals.length {xs : List V} {us : List Value} (r : Vals xs us) : xs.length = us.length := Paired.length r
theorem Vals.get : ∀ {xs : List V} {us : List Value} {i : Nat} {x : V}, Vals xs us → xs[i]? = some x → ∃ u, us[i]? = some u ∧ RelV x u
  | _, _, _, _, .nil, e => by simp at e
  | _, _, 0, _, .cons r _, e => by simp at e; subst e; exact ⟨_, rfl, r⟩
  | _, _, i + 1, x, .cons _ t, e => by
    obtain ⟨u, h1, h2⟩ := Vals.get (i := i) (x := x) t (by simpa using e)
    exact ⟨u, by simpa using h1, h2⟩
theorem Vals.append : ∀ {xs ys : List V} {us ws : List Value}, Vals xs us → Vals ys ws → Vals (xs ++ ys) (us ++ ws)
  | _, _, _, _, .nil, s => s
  | _, _, _, _, .cons r t, s => .cons r (Vals.append t s)
theorem Vals.take : ∀ {xs : List V} {us : List Value} (n : Nat), Vals xs us → Vals (xs.take n) (us.take n)
  | _, _, 0, _ => .nil
  | _, _, _ + 1, .nil => .nil
  | _, _, n + 1, .cons r t => .cons r (Vals.take n t)
theorem Vals.drop : ∀ {xs : List V} {us : List Value} (n : Nat), Vals xs us → Vals (xs.drop n) (us.drop n)
  | _, _, 0, r => r
  | _, _, _ + 1, .nil => .nil
  | _, _, n + 1, .cons _ t => Vals.drop n t
def RelO : Option V → Option Value → Prop
  | some v, some u => RelV v u
  | none, none => True
  | _, _ => False
def KV {κ : Type} : List (κ × V) → List (κ × Value) → Prop := Paired fun (p : κ × V) (q : κ × Value) => p.1 = q.1 ∧ RelV p.2 q.2
def kV : Key → V
  | .inl i => .int i
  | .inr x => .str x
inductive HO where
  | lst (xs : List V)
  | tup (xs : List V)
  | dK (kvs : List (Key × V)) | dT (kvs : List (List Key × V))
  | set (S : Int → Bool) (n : Nat)
  | ins (C dx : Addr) (fs : List (Str × V))
  | own (x : Addr)
  | xd (fs : List (Str × V))
  | met (f x : Addr)
  | rng (lo hi : Int)
  | frz (o : Obj) (u : HO)
  | tbl (ps : Array Value)
  | ext (φ : Heap → Prop)
abbrev Hp := Addr → Option HO
def upd (H : Hp) (a : Addr) (o : HO) : Hp := fun b => if b = a then some o else H b
theorem upd_same {H : Hp} {a : Addr} {o : HO} : upd H a o a = some o := by unfold upd; rw [if_pos rfl]
theorem upd_ne {H : Hp} {a b : Addr} {o : HO} (h : b ≠ a) : upd H a o b = H b := by unfold upd; rw [if_neg h]
theorem ne_of_none {H : Hp} {a b : Addr} {o : HO} (h : H a = some o) (h' : H b = none) : a ≠ b := by
  intro e; subst e; rw [h] at h'; cases h'
section
variable (P : Program) (w : World)
def ObjOk (H : Hp) (h : Heap) (a : Addr) : HO → Prop
  | .lst xs => xs.length ≤ sizeLine ∧ ∃ (its : List Value) (n : Nat), Vals xs its ∧ h.get? a = some { cls := .type "list", data := .seq its.toArray n }
  | .tup xs => xs.length ≤ sizeLine ∧ ∃ its : List Value, Vals xs its ∧ IsTup h a its.toArray
  | .dK kvs => kvs.length ≤ sizeLine ∧ (a == sysModules) = false ∧ ∃ vs, KV kvs vs ∧ h.DictOf (mixKind P w) a vs
  | .dT kvs => kvs.length ≤ sizeLine ∧ (a == sysModules) = false ∧ ∃ xs : List (List Key × Addr × Value),
      Paired (fun (p : List Key × V) (q : List Key × Addr × Value) => p.1 = q.1 ∧ H q.2.1 = some (.tup (p.1.map kV)) ∧ RelV p.2 q.2.2) kvs xs ∧
      ∃ o es ep, h.get? a = some o ∧ o.ExactDict ∧ o.data = .dict es ep ∧ es.toList = xs.map (entryOfKey (tupleKind (mixKind P w))) ∧ (xs.map (·.1)).Nodup
  | .set S n => h.SetOf (intKind P w) a S n
  | .ins C dx fs => H dx = some (.own a) ∧ fs.length ≤ 1000 ∧ dx ≠ a ∧ h.get? a = some (PySem.W.instObj C dx) ∧
      ∃ mA, h.Ns1 dx mA ∧ (∀ f, RelO (fs.lookup f) (mA f)) ∧ PySem.Within mA (fs.map (·.1))
  | .own _ => ∃ o, h.get? a = some o
  | .xd fs => ∃ mA, h.Ns1 a mA ∧ ∀ f, RelO (fs.lookup f) (mA f)
  | .rng lo hi => ∃ t u v, h.get? a = some { cls := .type "range", data := .fields #[.int lo t, .int hi u, .int 1 v] }
  | .frz o u => h.get? a = some o ∧ ObjOk H h a u
  | .tbl ps => h.get? a = some { cls := .none, data := .fields ps }
  | .met f x => h.get? a = some (PySem.W.methodObj (.ref f) (.ref x))
  | .ext φ => φ h ∧ (∃ o, h.get? a = some o) ∧ ∀ h1 h2 : Heap, φ h1 → (∀ o, h1.get? a = some o → h2.get? a = some o) → φ h2
def HOk (H : Hp) (h : Heap) : Prop := ∀ a o, H a = some o → ObjOk P w H h a o
end
section
variable {P : Program} {w : World} {H H' : Hp} {h h' : Heap} {a : Addr} {o : HO}
theorem ObjOk.lt (x : ObjOk P w H h a o) : a < h.objs.size := by
  cases o with
  | lst xs => obtain ⟨_, _, _, _, e⟩ := x; exact Heap.lt_size e
  | tup xs => obtain ⟨_, _, _, p⟩ := x; exact p.lt
  | dK kvs => obtain ⟨_, _, _, _, o, _, _, e, _⟩ := x; exact Heap.lt_size e
  | dT kvs => obtain ⟨_, _, _, _, o, _, _, e, _⟩ := x; exact Heap.lt_size e
  | set S n => obtain ⟨o, _, _, _, e, _⟩ := x; exact Heap.lt_size e
  | ins C dx fs => obtain ⟨_, _, _, e, _⟩ := x; exact Heap.lt_size e
  | own y => obtain ⟨_, e⟩ := x; exact Heap.lt_size e
  | xd fs => obtain ⟨_, ⟨_, _, _, e, _⟩, _⟩ := x; exact Heap.lt_size e
  | rng lo hi => obtain ⟨_, _, _, e⟩ := x; exact Heap.lt_size e
  | frz ob u => obtain ⟨e, _⟩ := x; exact Heap.lt_size e
  | tbl ps => exact Heap.lt_size (show h.get? a = some _ from x)
  | met f y => exact Heap.lt_size (show h.get? a = some _ from x)
  | ext φ => obtain ⟨_, ⟨_, e⟩, _⟩ := x; exact Heap.lt_size e
theorem Paired.mapP {α β : Type} {F G : α → β → Prop} : ∀ {l₁ : List α} {l₂ : List β}, Paired F l₁ l₂ → (∀ a b, F a b → G a b) → Paired G l₁ l₂
  | _, _, .nil, _ => .nil
  | _, _, .cons r t, f => .cons (f _ _ r) (Paired.mapP t f)
theorem ObjOk.stay (x : ObjOk P w H h a o) (k : ∀ b u, (b = a ∨ H b = some (.own a)) → h.get? b = some u → h'.get? b = some u)
    (ho : ∀ b, H b = some (.own a) → H' b = some (.own a)) (ht : ∀ b xs, H b = some (.tup xs) → H' b = some (.tup xs)) : ObjOk P w H' h' a o := by
  induction o with
  | lst xs => obtain ⟨z, its, n, r, e⟩ := x; exact ⟨z, its, n, r, k _ _ (.inl rfl) e⟩
  | tup xs => obtain ⟨z, its, r, ob, e, c⟩ := x; exact ⟨z, its, r, ob, k _ _ (.inl rfl) e, c⟩
  | dK kvs => obtain ⟨z, y, vs, r, ob, es, ep, e, c⟩ := x; exact ⟨z, y, vs, r, ob, es, ep, k _ _ (.inl rfl) e, c⟩
  | dT kvs =>
    obtain ⟨z, y, xs, r, ob, es, ep, e, c⟩ := x
    exact ⟨z, y, xs, Paired.mapP r fun p q z => ⟨z.1, ht _ _ z.2.1, z.2.2⟩, ob, es, ep, k _ _ (.inl rfl) e, c⟩
  | set S n => obtain ⟨ob, es, ep, t, e, c⟩ := x; exact ⟨ob, es, ep, t, k _ _ (.inl rfl) e, c⟩
  | ins C dx fs =>
    obtain ⟨d, z, ne, e, mA, ⟨od, es, ep, e2, c⟩, r⟩ := x
    exact ⟨ho _ d, z, ne, k _ _ (.inl rfl) e, mA, ⟨od, es, ep, k _ _ (.inr d) e2, c⟩, r⟩
  | own y => obtain ⟨ob, e⟩ := x; exact ⟨ob, k _ _ (.inl rfl) e⟩
  | xd fs => obtain ⟨mA, ⟨od, es, ep, e, c⟩, r⟩ := x; exact ⟨mA, ⟨od, es, ep, k _ _ (.inl rfl) e, c⟩, r⟩
  | rng lo hi => obtain ⟨t, u, v, e⟩ := x; exact ⟨t, u, v, k _ _ (.inl rfl) e⟩
  | frz ob u ih => obtain ⟨e, q⟩ := x; exact ⟨k _ _ (.inl rfl) e, ih q⟩
  | tbl ps =>
    have e : h.get? a = some { cls := .none, data := .fields ps } := x
    show h'.get? a = some { cls := .none, data := .fields ps }
    exact k a _ (.inl rfl) e
  | met f y =>
    have e : h.get? a = some (PySem.W.methodObj (.ref f) (.ref y)) := x
    show h'.get? a = some (PySem.W.methodObj (.ref f) (.ref y))
    exact k a _ (.inl rfl) e
  | ext φ => obtain ⟨p, ⟨o, e⟩, st⟩ := x; exact ⟨st _ _ p fun o q => k _ _ (.inl rfl) q, ⟨o, k _ _ (.inl rfl) e⟩, st⟩
theorem HOk.lt (x : HOk P w H h) (e : H a = some o) : a < h.objs.size := (x a o e).lt
theorem HOk.fresh (x : HOk P w H h) (e : h.objs.size ≤ a) : H a = none := by
  cases q : H a with
  | none => rfl
  | some u => exact absurd (Nat.lt_of_lt_of_le (x.lt q) e) (Nat.lt_irrefl _)
theorem HOk.kept (x : HOk P w H h) (k : ∀ b u, h.get? b = some u → h'.get? b = some u) : HOk P w H h' := fun a o e =>
  (x a o e).stay (fun b u _ q => k b u q) (fun _ q => q) fun _ _ q => q
theorem HOk.laid (x : HOk P w H h) (k : ∀ b u, h.get? b = some u → h'.get? b = some u) (hp : h.objs.size ≤ a) (new : ObjOk P w (upd H a o) h' a o) : HOk P w (upd H a o) h' := fun b u e => by
  have hn := x.fresh hp
  by_cases hb : b = a
  · subst hb; rw [upd_same] at e; cases e; exact new
  · rw [upd_ne hb] at e
    exact (x b u e).stay (fun c v _ q => k c v q) (fun c q => by rw [upd_ne (ne_of_none q hn)]; exact q) fun c xs q => by rw [upd_ne (ne_of_none q hn)]; exact q
end
def Rd (H : Hp) (a : Addr) (u : HO) : Prop := H a = some u ∨ ∃ o, H a = some (.frz o u)
theorem Rd.ok {P : Program} {w : World} {H : Hp} {h : Heap} {a : Addr} {u : HO} (r : Rd H a u) (x : HOk P w H h) : ObjOk P w H h a u := by
  rcases r with r | ⟨o, r⟩
  · exact x a u r
  · obtain ⟨_, q⟩ := x a _ r
    exact q
def Mut : Option HO → Prop
  | some (.lst _) => True
  | some (.dK _) => True
  | some (.dT _) => True
  | some (.set _ _) => True
  | some (.ins _ _ _) => True
  | some (.ext _) => True
  | _ => False
section
variable {P : Program} {w : World} {H : Hp} {h h' : Heap} {x e : Addr} {o' : HO}
theorem HOk.write (ok : HOk P w H h) (mu : Mut (H x)) (he : e = x ∨ H e = some (.own x)) (k : ∀ b u, b ≠ e → h.get? b = some u → h'.get? b = some u) (heo : ∃ u, h'.get? e = some u)
    (new : ObjOk P w (upd H x o') h' x o') : HOk P w (upd H x o') h' := fun b u q => by
  have nown : ∀ c y, H c = some (.own y) → c ≠ x := fun c y r z => by subst z; rw [r] at mu; exact mu
  have ntup : ∀ c xs, H c = some (.tup xs) → c ≠ x := fun c xs r z => by subst z; rw [r] at mu; exact mu
  by_cases hb : b = x
  · subst hb; rw [upd_same] at q; cases q; exact new
  · rw [upd_ne hb] at q
    by_cases hbe : b = e
    · have q' : H b = some (.own x) := by
        rcases he with z | z
        · exact absurd (hbe.trans z) hb
        · rw [hbe]; exact z
      rw [q] at q'; cases q'
      obtain ⟨v, hv⟩ := heo
      exact ⟨v, by rw [hbe]; exact hv⟩
    · refine (ok b u q).stay (fun c v hc r => k c v ?_ r) (fun c r => by rw [upd_ne (nown c b r)]; exact r) fun c xs r => by rw [upd_ne (ntup c xs r)]; exact r
      rcases hc with rfl | hc
      · exact hbe
      · rintro rfl
        rcases he with z | z
        · exact nown c b hc z
        · rw [hc] at z; cases z; exact hb rfl
end
structure Un (fs ex : List Addr) (H H' : Hp) (h h' : Heap) : Prop where
  keep : ∀ b o, h.get? b = some o → H b = none → b ∉ fs → b ∉ ex → h'.get? b = some o
  slot : ∀ b o, h.get? b = some o → H b = none → b ∈ fs → b ∉ ex → ∃ sl, h'.get? b = some { o with slots := sl }
  free : ∀ b o, h.get? b = some o → H b = none → b ∉ ex → H' b = none
  there : ∀ b o, h.get? b = some o → b ∉ ex → ∃ o', h'.get? b = some o'
  tups : ∀ b xs, H b = some (.tup xs) → H' b = some (.tup xs)
  frzs : ∀ b o u, H b = some (.frz o u) → H' b = some (.frz o u)
  tbls : ∀ b ps, H b = some (.tbl ps) → ∃ more, H' b = some (.tbl (ps ++ more))
section
variable {fs fs' ex ex' : List Addr} {H H1 H2 : Hp} {h h1 h2 h' : Heap} {a x e : Addr} {o : HO}
theorem Un.any (u : Un fs ex H H1 h h1) {b : Addr} {ob : Obj} (q : h.get? b = some ob) (n : H b = none) (hx : b ∉ ex) : ∃ sl, h1.get? b = some { ob with slots := sl } := by
  by_cases hb : b ∈ fs
  · exact u.slot b ob q n hb hx
  · exact ⟨ob.slots, u.keep b ob q n hb hx⟩
theorem Un.kept (k : ∀ b u, h.get? b = some u → h'.get? b = some u) : Un fs ex H H h h' :=
  ⟨fun b ob q _ _ _ => k b ob q, fun b ob q _ _ _ => ⟨ob.slots, k b ob q⟩, fun _ _ _ n _ => n, fun b ob q _ => ⟨ob, k b ob q⟩, fun _ _ q => q, fun _ _ _ q => q, fun _ ps q => ⟨#[], by rw [q]; simp⟩⟩
theorem Un.refl : Un fs ex H H h h := Un.kept fun _ _ q => q
theorem Un.laid (k : ∀ b u, h.get? b = some u → h'.get? b = some u) (hp : h.objs.size ≤ a) (hn : H a = none) : Un fs ex H (upd H a o) h h' where
  keep := fun b u q _ _ _ => k b u q
  slot := fun b u q _ _ _ => ⟨u.slots, k b u q⟩
  free := fun b u q n _ => by rw [upd_ne (Nat.ne_of_lt (Nat.lt_of_lt_of_le (Heap.lt_size q) hp))]; exact n
  there := fun b u q _ => ⟨u, k b u q⟩
  tups := fun b xs q => by rw [upd_ne (ne_of_none q hn)]; exact q
  frzs := fun b u xs q => by rw [upd_ne (ne_of_none q hn)]; exact q
  tbls := fun b ps q => ⟨#[], by rw [upd_ne (ne_of_none q hn), q]; simp⟩
theorem Un.write (mu : Mut (H x)) (he : e = x ∨ H e = some (.own x)) (k : ∀ b u, b ≠ e → h.get? b = some u → h'.get? b = some u) (heo : ∃ u, h'.get? e = some u) : Un fs ex H (upd H x o) h h' := by
  have hx : ∀ b, H b = none → b ≠ x := fun b n z => by subst z; rw [n] at mu; exact mu
  have hb : ∀ b, H b = none → b ≠ e := fun b n z => by
    subst z
    rcases he with r | r
    · exact hx b n r
    · rw [n] at r; cases r
  have hm : ∀ b u, H b = some u → ¬ Mut (some u) → b ≠ x := fun b u q nm z => by subst z; rw [q] at mu; exact nm mu
  refine ⟨fun b u q n _ _ => k b u (hb b n) q, fun b u q n _ _ => ⟨u.slots, k b u (hb b n) q⟩, fun b u q n _ => by rw [upd_ne (hx b n)]; exact n, fun b u q _ => ?_,
    fun b xs q => by rw [upd_ne (hm b _ q fun z => z)]; exact q, fun b u xs q => by rw [upd_ne (hm b _ q fun z => z)]; exact q, fun b ps q => ⟨#[], by rw [upd_ne (hm b _ q fun z => z), q]; simp⟩⟩
  by_cases hbe : b = e
  · subst hbe; exact heo
  · exact ⟨u, k b u hbe q⟩
end
def trk (h : Heap) (H : Hp) : List Addr := (List.range h.objs.size).filter fun a => (H a).isSome
def hidT (h : Heap) (H : Hp) : Heap := PySem.W.hideAll h (trk h H)
theorem hidT_size (h : Heap) (H : Hp) : (hidT h H).objs.size = h.objs.size := PySem.W.hideAll_size _ _
theorem hidT_get {h : Heap} {H : Hp} {b : Addr} {o : Obj} (e : h.get? b = some o) (n : H b = none) : (hidT h H).get? b = some o :=
  PySem.W.hideAll_get _ e fun hm => by
    have q : (H b).isSome = true := (List.mem_filter.mp hm).2
    rw [n] at q; simp at q
theorem of_hidT {h : Heap} {H : Hp} {b : Addr} {o : Obj} (e : (hidT h H).get? b = some o) : h.get? b = some o ∧ H b = none := by
  have e' : h.get? b = some o := PySem.W.of_hideAll (trk h H) e
  refine ⟨e', ?_⟩
  cases q : H b with
  | none => rfl
  | some x =>
    have hm : b ∈ trk h H := List.mem_filter.mpr ⟨List.mem_range.mpr (Heap.lt_size e'), by simp [q]⟩
    have z : (hidT h H).get? b = none := PySem.W.hideAll_none (trk h H) hm
    rw [z] at e; cases e
def allNews (g h : Heap) (L : Addr) : List (Addr × Obj) := (List.range h.objs.size).filterMap fun a => if a = L ∨ (g.get? a).isSome = true then none else (h.get? a).map fun o => (a, o)
def rest (g h : Heap) (L d : Addr) : List (Addr × Obj) := (allNews g h L).filter fun p => decide (p.1 ≠ d)
end L2
namespace L2
open PySem PySem.Spec PyProof.Rows
structure Mod (K : PySem.W.Frag) (mg : Str → Option Value) (base : Heap) : Prop where
  kin : K.In base
  glob : base.Ns mainGlobals mg
  blt : ∃ mb, base.Ns builtinsNs mb ∧ ∀ x : Str, x ≠ "__name__" → mb x = bootBuiltins x
  nolimit : base.NoLimit
structure Cx where
  prog : Program
  w : World
  K : PySem.W.Frag
  mg : Str → Option Value
  base : Heap
  A : Around
  N : List Str
  s₀ : Shared
  H₀ : Hp
  env : Env
  outer : List Env
  stack : List Env
  ex : List Addr
  fn : Str → Bool
  calm : Bool
  pn : List (Addr × Obj)
  xe : Value → Shared → Prop
def frs (l : List Env) : List Addr := l.filterMap (·.frame)
abbrev Cx.fs (X : Cx) : List Addr := frs X.outer
def Vis (sc : Scope) (x : Str) : Prop := sc.names.lookup x = some .local ∨ sc.names.lookup x = some .cell ∨ sc.names.lookup x = some .free
def Loc (sc : Scope) (x : Str) : Prop := sc.names.lookup x = some .local ∨ sc.names.lookup x = some .cell
def Look (env : Env) (h : Heap) (m : Str → Option Value) (x : Str) (u : Value) : Prop :=
  (env.kindOf x = some .local ∧ m x = some u) ∨ ((env.kindOf x = some .cell ∨ env.kindOf x = some .free) ∧ ∃ c, env.cells.lookup x = some c ∧ h.IsCell c (some u))
structure Cx.Ok (X : Cx) : Prop where
  mod : Mod X.K X.mg X.base
  kind : X.env.scope.kind = .function
  glob : X.env.globals = mainGlobals
  blt : X.env.builtins = builtinsNs
  above : X.s₀.heap.objs.size ≤ X.env.locals
  inj : ∀ x y c, X.env.cells.lookup x = some c → X.env.cells.lookup y = some c → x = y
  has : ∀ x, (X.env.kindOf x = some .cell ∨ X.env.kindOf x = some .free) → ∃ c, X.env.cells.lookup x = some c
  cab : ∀ x c, X.fn x = true → X.env.cells.lookup x = some c → X.s₀.heap.objs.size ≤ c
  hd : X.calm = true → X.A.handled = none
  frames : X.A.frames = some X.stack
  stk : X.stack = X.outer ∨ (X.stack = X.env :: X.outer ∧ X.env.frame = some X.env.locals)
  exf : ∀ b ∈ X.ex, b ≠ X.env.locals ∧ ∀ x c, X.env.cells.lookup x = some c → c ≠ b
  bs : ∀ b o, X.base.get? b = some o → X.s₀.heap.get? b = some o ∧ X.H₀ b = none
  bsz : X.base.objs.size ≤ X.s₀.heap.objs.size
  noex : ∀ b o, X.base.get? b = some o → b ∉ X.ex
  exfs : ∀ b ∈ X.ex, b ∉ X.fs
  funs : X.s₀.heap.FunFrames X.base X.outer
  frf : ∀ b ∈ X.fs, X.H₀ b = none
structure Inv (X : Cx) (pins : List (Addr × Obj)) (σ : List (Option V)) (H : Hp) (s : Shared) : Prop where
  ok : X.Ok
  os : s.os = X.s₀.os
  bare : AllBare s.gens
  base : Un X.fs X.ex X.H₀ H X.s₀.heap s.heap
  loc : ∃ m, s.heap.Ns X.env.locals m ∧ ∀ (i : Nat) (x : Str) (v : V), X.N[i]? = some x → σ[i]? = some (some v) → Vis X.env.scope x → ∃ u, RelV v u ∧ Look X.env s.heap m x u
  cell : ∀ x c, X.env.cells.lookup x = some c → ∃ v, s.heap.IsCell c v
  free : H X.env.locals = none
  freeC : ∀ x c, X.env.cells.lookup x = some c → H c = none
  pin : ∀ p ∈ X.pn ++ pins, s.heap.get? p.1 = some p.2 ∧ H p.1 = none ∧ p.1 ≠ X.env.locals ∧ p.1 ∉ X.fs ∧ ∀ v, p.2.data ≠ .cell v
  hok : HOk X.prog X.w H s.heap
  len : σ.length = X.N.length
section
variable {X : Cx} {pins : List (Addr × Obj)} {σ : List (Option V)} {H H' : Hp} {s : Shared} {h' : Heap}
theorem Cx.Ok.nofr (ok : X.Ok) {b : Addr} {o : Obj} (e : X.base.get? b = some o) : b ∉ X.fs := fun hb => by
  have := (ok.funs.mem hb).1
  rw [e] at this; cases this
theorem Inv.bs (I : Inv X pins σ H s) : ∀ b o, X.base.get? b = some o → s.heap.get? b = some o ∧ H b = none := fun b o e =>
  ⟨I.base.keep b o (I.ok.bs b o e).1 (I.ok.bs b o e).2 (I.ok.nofr e) (I.ok.noex b o e), I.base.free b o (I.ok.bs b o e).1 (I.ok.bs b o e).2 (I.ok.noex b o e)⟩
theorem Inv.bk (I : Inv X pins σ H s) : ∀ b o, X.base.get? b = some o → s.heap.get? b = some o := fun b o e => (I.bs b o e).1
theorem Inv.mod (I : Inv X pins σ H s) : Mod X.K X.mg X.base := I.ok.mod
theorem Inv.kIn (I : Inv X pins σ H s) : X.K.In s.heap := I.ok.mod.kin.keeps I.bk
theorem Inv.fr (I : Inv X pins σ H s) : ∃ m, Fr X.base X.env.locals s.heap m :=
  let ⟨m, hn, _⟩ := I.loc
  ⟨m, hn, I.bk, Nat.le_trans I.ok.bsz I.ok.above⟩
theorem Inv.lt (I : Inv X pins σ H s) : X.env.locals < s.heap.objs.size := let ⟨_, hn, _⟩ := I.loc; hn.lt
theorem Inv.sz (I : Inv X pins σ H s) : X.s₀.heap.objs.size ≤ s.heap.objs.size := Nat.le_trans I.ok.above (Nat.le_of_lt I.lt)
theorem Inv.nofs (I : Inv X pins σ H s) {a : Addr} (h : s.heap.objs.size ≤ a) : a ∉ X.fs := fun hb => by
  obtain ⟨_, o, ho, _⟩ := I.ok.funs.mem hb
  exact absurd (Nat.lt_of_lt_of_le (Heap.lt_size ho) (Nat.le_trans I.sz h)) (Nat.lt_irrefl _)
theorem Inv.cne (I : Inv X pins σ H s) : ∀ x c, X.env.cells.lookup x = some c → c ≠ X.env.locals := fun x c e z => by
  obtain ⟨v, o, ho, hd⟩ := I.cell x c e
  obtain ⟨m, ⟨o', es, ep, ho', hd', _⟩, _⟩ := I.loc
  rw [z, ho'] at ho; cases ho; rw [hd'] at hd; cases hd
theorem Inv.funs (I : Inv X pins σ H s) : s.heap.FunFrames X.base X.outer := by
  have all : ∀ (l : List Env), (∀ b ∈ frs l, b ∈ X.fs) → X.s₀.heap.FunFrames X.base l → s.heap.FunFrames X.base l := by
    intro l
    induction l with
    | nil => intro _ _; trivial
    | cons env r ih =>
      intro hs hl
      obtain ⟨hk, ⟨L, o, hf, hn, ho, hd⟩, hr⟩ := hl
      have hL : L ∈ X.fs := hs L (by unfold frs; rw [List.filterMap_cons, hf]; exact List.mem_cons_self)
      obtain ⟨sl, e⟩ := I.base.slot L o ho (I.ok.frf L hL) hL fun z => I.ok.exfs L z hL
      exact ⟨hk, ⟨L, _, hf, hn, e, hd⟩, ih (fun b hb => hs b (by unfold frs; rw [List.filterMap_cons, hf]; exact List.mem_cons_of_mem _ hb)) hr⟩
  exact all X.outer (fun _ hb => hb) I.ok.funs
theorem Inv.stack (I : Inv X pins σ H s) : s.heap.FunFrames X.base X.stack := by
  rcases I.ok.stk with e | ⟨e, hf⟩
  · rw [e]; exact I.funs
  · rw [e]
    obtain ⟨m, hn, _⟩ := I.loc
    refine .cons (by rw [I.ok.kind]; decide) hf hn ?_ I.funs
    exact Heap.get?_none_of_le (Nat.le_trans I.ok.bsz I.ok.above)
theorem Inv.stkSub (I : Inv X pins σ H s) : ∀ b ∈ frs X.stack, b ∈ X.env.locals :: X.fs := fun b hb => by
  rcases I.ok.stk with e | ⟨e, hf⟩
  · rw [e] at hb; exact List.mem_cons_of_mem _ hb
  · rw [e] at hb
    unfold frs at hb
    rw [List.filterMap_cons, hf] at hb
    exact hb
theorem Inv.stkFree (I : Inv X pins σ H s) : ∀ b ∈ frs X.stack, H b = none := fun b hb => by
  rcases List.mem_cons.mp (I.stkSub b hb) with e | hb
  · rw [e]; exact I.free
  · obtain ⟨_, o, ho, _⟩ := I.ok.funs.mem hb
    exact I.base.free b o ho (I.ok.frf b hb) fun z => I.ok.exfs b z hb
theorem Inv.step {g' : Array GenState} {t' : Nat} {d' : Drawn} {ch : List Addr} (I : Inv X pins σ H s)
    (hch : ∀ b ∈ ch, (b ∈ X.ex ∨ X.s₀.heap.objs.size ≤ b) ∧ b ≠ X.env.locals ∧ (∀ x c, X.env.cells.lookup x = some c → c ≠ b) ∧ ∀ p ∈ X.pn ++ pins, p.1 ≠ b)
    (keep : ∀ b o, b ≠ X.env.locals → b ∉ X.fs → b ∉ ch → s.heap.get? b = some o → H b = none → h'.get? b = some o)
    (slot : ∀ b o, b ≠ X.env.locals → b ∈ X.fs → b ∉ ch → s.heap.get? b = some o → H b = none → ∃ sl, h'.get? b = some { o with slots := sl }) (free : ∀ b o, b ∉ ch → s.heap.get? b = some o → H b = none → H' b = none)
    (there : ∀ b o, b ∉ ch → s.heap.get? b = some o → ∃ o', h'.get? b = some o')
    (tups : ∀ b xs, H b = some (.tup xs) → H' b = some (.tup xs)) (frzs : ∀ b o u, H b = some (.frz o u) → H' b = some (.frz o u)) (tbls : ∀ b ps, H b = some (.tbl ps) → ∃ more, H' b = some (.tbl (ps ++ more)))
    (ns : ∀ m, s.heap.Ns X.env.locals m → h'.Ns X.env.locals m) (hok : HOk X.prog X.w H' h') (hg : AllBare g') :
    Inv X pins σ H' { s with heap := h', gens := g', drawn := d', toks := t' } := by
  have neL : ∀ b o, X.s₀.heap.get? b = some o → b ≠ X.env.locals := fun b o e => Nat.ne_of_lt (Nat.lt_of_lt_of_le (Heap.lt_size e) I.ok.above)
  have neC : ∀ b o, X.s₀.heap.get? b = some o → b ∉ X.ex → b ∉ ch := fun b o e hx hb => by
    rcases (hch b hb).1 with z | z
    · exact hx z
    · exact absurd (Nat.lt_of_lt_of_le (Heap.lt_size e) z) (Nat.lt_irrefl _)
  have cellK : ∀ x c, X.env.cells.lookup x = some c → ∀ v, s.heap.IsCell c v → h'.IsCell c v := fun x c e v ⟨o, ho, hd⟩ => by
    have nch : c ∉ ch := fun z => (hch c z).2.2.1 x c e rfl
    by_cases hc : c ∈ X.fs
    · obtain ⟨sl, q⟩ := slot c o (I.cne x c e) hc nch ho (I.freeC x c e)
      exact ⟨_, q, hd⟩
    · exact ⟨o, keep c o (I.cne x c e) hc nch ho (I.freeC x c e), hd⟩
  refine ⟨I.ok, I.os, hg, ⟨fun b o e n hb hx => ?_, fun b o e n hb hx => ?_, fun b o e n hx => ?_, fun b o e hx => ?_, fun b xs e => tups b xs (I.base.tups b xs e), fun b o xs e => frzs b o xs (I.base.frzs b o xs e), fun b ps e => ?_⟩, ?_, fun x c e => ?_, ?_, fun x c e => ?_, fun p hp => ?_, hok, I.len⟩
  · exact keep b o (neL b o e) hb (neC b o e hx) (I.base.keep b o e n hb hx) (I.base.free b o e n hx)
  · obtain ⟨sl, e1⟩ := I.base.slot b o e n hb hx
    obtain ⟨sl', e2⟩ := slot b _ (neL b o e) hb (neC b o e hx) e1 (I.base.free b o e n hx)
    exact ⟨sl', e2⟩
  · obtain ⟨o', e1⟩ := I.base.there b o e hx
    exact free b o' (neC b o e hx) e1 (I.base.free b o e n hx)
  · obtain ⟨o', e1⟩ := I.base.there b o e hx
    exact there b o' (neC b o e hx) e1
  · obtain ⟨m1, e1⟩ := I.base.tbls b ps e
    obtain ⟨m2, e2⟩ := tbls b _ e1
    exact ⟨m1 ++ m2, by rw [e2, Array.append_assoc]⟩
  · obtain ⟨m, hn, hl⟩ := I.loc
    refine ⟨m, ns m hn, fun i x v e1 e2 e3 => ?_⟩
    obtain ⟨u, r, l⟩ := hl i x v e1 e2 e3
    refine ⟨u, r, ?_⟩
    rcases l with l | ⟨k, c, e, z⟩
    · exact .inl l
    · exact .inr ⟨k, c, e, cellK x c e _ z⟩
  · obtain ⟨v, z⟩ := I.cell x c e
    exact ⟨v, cellK x c e v z⟩
  · obtain ⟨m, ⟨o, _, _, ho, _⟩, _⟩ := I.loc
    exact free _ o (fun z => (hch _ z).2.1 rfl) ho I.free
  · obtain ⟨v, o, ho, hd⟩ := I.cell x c e
    exact free c o (fun z => (hch c z).2.2.1 x c e rfl) ho (I.freeC x c e)
  · obtain ⟨e, n, ne, nf, d⟩ := I.pin p hp
    have nch : p.1 ∉ ch := fun z => (hch p.1 z).2.2.2 p hp rfl
    exact ⟨keep p.1 p.2 ne nf nch e n, free p.1 p.2 nch e n, ne, nf, d⟩
theorem Inv.un {t' : Nat} (I : Inv X pins σ H s) (u : Un X.fs [] H H' s.heap h') (hok : HOk X.prog X.w H' h') : Inv X pins σ H' { s with heap := h', toks := t' } := by
  obtain ⟨m, ⟨o, es, ep, ho, r⟩, _⟩ := id I.loc
  obtain ⟨sl, hL⟩ := u.any ho I.free (by simp)
  exact I.step (g' := s.gens) (d' := s.drawn) (ch := []) (fun _ z => nomatch z) (fun b o _ hb _ e n => u.keep b o e n hb (by simp)) (fun b o _ hb _ e n => u.slot b o e n hb (by simp)) (fun b o _ e n => u.free b o e n (by simp)) (fun b o _ e => u.there b o e (by simp)) u.tups u.frzs u.tbls (fun m' hm => by
    obtain ⟨o', es', ep', ho', r'⟩ := hm
    rw [ho] at ho'; cases ho'
    exact ⟨_, es', ep', hL, r'⟩) hok I.bare
theorem Inv.call {g' : Array GenState} {t' : Nat} {d' : Drawn} {ch : List Addr} (I : Inv X pins σ H s) (u : Un (frs X.stack) ch H H' s.heap h') (hok : HOk X.prog X.w H' h') (hg : AllBare g')
    (hch : ∀ b ∈ ch, (b ∈ X.ex ∨ X.s₀.heap.objs.size ≤ b) ∧ b ≠ X.env.locals ∧ (∀ x c, X.env.cells.lookup x = some c → c ≠ b) ∧ ∀ p ∈ X.pn ++ pins, p.1 ≠ b) :
    Inv X pins σ H' { s with heap := h', gens := g', drawn := d', toks := t' } := by
  obtain ⟨m, ⟨o, es, ep, ho, r⟩, _⟩ := id I.loc
  obtain ⟨sl, hL⟩ := u.any ho I.free fun z => (hch _ z).2.1 rfl
  exact I.step (ch := ch) hch (fun b o hL hb hc e n => u.keep b o e n (fun z => (List.mem_cons.mp (I.stkSub b z)).elim hL hb) hc) (fun b o _ _ hc e n => u.any e n hc) (fun b o hc e n => u.free b o e n hc) (fun b o hc e => u.there b o e hc) u.tups u.frzs u.tbls (fun m' hm => by
    obtain ⟨o', es', ep', ho', r'⟩ := hm
    rw [ho] at ho'; cases ho'
    exact ⟨_, es', ep', hL, r'⟩) hok hg
theorem Inv.turned {t' : Nat} {it : Addr} (I : Inv X pins σ H s) (k : ∀ b o, b ≠ it → s.heap.get? b = some o → h'.get? b = some o) (hn : H it = none) (hL : it ≠ X.env.locals)
    (h1 : it ∈ X.ex ∨ X.s₀.heap.objs.size ≤ it) (h2 : ∀ x c, X.env.cells.lookup x = some c → c ≠ it) (h3 : ∀ p ∈ X.pn ++ pins, p.1 ≠ it) : Inv X pins σ H { s with heap := h', toks := t' } := by
  have nit : ∀ b u, H b = some u → b ≠ it := fun b u e z => by rw [z, hn] at e; cases e
  refine I.step (g' := s.gens) (d' := s.drawn) (ch := [it]) (fun b hb => ?_) (fun b o _ _ hc e _ => k b o (fun z => hc (by simp [z])) e) (fun b o _ _ hc e _ => ⟨o.slots, k b o (fun z => hc (by simp [z])) e⟩) (fun _ _ _ _ n => n)
    (fun b o hc e => ⟨o, k b o (fun z => hc (by simp [z])) e⟩) (fun _ _ e => e) (fun _ _ _ e => e) (fun b ps e => ⟨#[], by rw [e]; simp⟩) (fun m hm => ?_) (fun b u e => ?_) I.bare
  · have e : b = it := by simpa using hb
    subst e
    exact ⟨h1, hL, h2, h3⟩
  · obtain ⟨o, es, ep, ho, r⟩ := hm
    exact ⟨o, es, ep, k _ o (Ne.symm hL) ho, r⟩
  · refine (I.hok b u e).stay (fun c v hc q => k c v ?_ q) (fun _ q => q) fun _ _ q => q
    rcases hc with z | z
    · rw [z]; exact nit b u e
    · exact nit c _ z
theorem Inv.tok (I : Inv X pins σ H s) (t : Nat) : Inv X pins σ H { s with toks := t } := I.un (h' := s.heap) (t' := t) Un.refl I.hok
theorem Inv.kept {t' : Nat} (I : Inv X pins σ H s) (k : ∀ b u, s.heap.get? b = some u → h'.get? b = some u) : Inv X pins σ H { s with heap := h', toks := t' } := I.un (Un.kept k) (I.hok.kept k)
theorem Inv.laid {a : Addr} {o : HO} {t' : Nat} (I : Inv X pins σ H s) (k : ∀ b u, s.heap.get? b = some u → h'.get? b = some u) (hp : s.heap.objs.size ≤ a) (new : ObjOk X.prog X.w (upd H a o) h' a o) :
    Inv X pins σ (upd H a o) { s with heap := h', toks := t' } := I.un (Un.laid k hp (I.hok.fresh hp)) (I.hok.laid k hp new)
theorem Inv.write {x e : Addr} {o : HO} {t' : Nat} (I : Inv X pins σ H s) (mu : Mut (H x)) (he : e = x ∨ H e = some (.own x)) (k : ∀ b u, b ≠ e → s.heap.get? b = some u → h'.get? b = some u) (heo : ∃ u, h'.get? e = some u)
    (new : ObjOk X.prog X.w (upd H x o) h' x o) : Inv X pins σ (upd H x o) { s with heap := h', toks := t' } := I.un (Un.write mu he k heo) (I.hok.write mu he k heo new)
theorem Inv.weak {σ' : List (Option V)} (I : Inv X pins σ H s) (hl : σ'.length = σ.length) (w : ∀ (i : Nat) v, σ'[i]? = some (some v) → σ[i]? = some (some v)) : Inv X pins σ' H s :=
  ⟨I.ok, I.os, I.bare, I.base, let ⟨m, hn, hl'⟩ := I.loc; ⟨m, hn, fun i x v e1 e2 e3 => hl' i x v e1 (w i v e2) e3⟩, I.cell, I.free, I.freeC, I.pin, I.hok, hl.trans I.len⟩
theorem Inv.pins_of {pins' : List (Addr × Obj)} (I : Inv X pins σ H s) (h : ∀ p ∈ pins', s.heap.get? p.1 = some p.2 ∧ H p.1 = none ∧ p.1 ≠ X.env.locals ∧ p.1 ∉ X.fs ∧ ∀ v, p.2.data ≠ .cell v) : Inv X pins' σ H s :=
  ⟨I.ok, I.os, I.bare, I.base, I.loc, I.cell, I.free, I.freeC, fun p hp => (List.mem_append.mp hp).elim (fun z => I.pin p (List.mem_append_left _ z)) (h p), I.hok, I.len⟩
theorem nodup_ix {N : List Str} (hN : N.Nodup) {i j : Nat} {x : Str} (a : N[i]? = some x) (b : N[j]? = some x) : i = j := by
  obtain ⟨h1, e1⟩ := List.getElem?_eq_some_iff.mp a
  obtain ⟨h2, e2⟩ := List.getElem?_eq_some_iff.mp b
  exact (List.getElem_inj hN).mp (e1.trans e2.symm)
theorem store_ok2 {M : Model} {A : Around} {E : Value → Shared → Prop} {i : Nat} {x : Str} {v : V} {u : Value} {Q : Unit → Shared → Prop} (I : Inv X pins σ H s) (hN : X.N.Nodup) (hi : X.N[i]? = some x) (hx : Loc X.env.scope x) (r : RelV v u)
    (h : ∀ s', Inv X pins (σ.set i (some v)) H s' → (∃ a, Heap.SameBut a s.heap s'.heap ∧ (a = X.env.locals ∨ X.env.cells.lookup x = some a)) → Q () s') (hf : X.fn x = true ∨ X.env.scope.names.lookup x = some .local := by first | exact .inl rfl | exact .inr rfl | assumption) : wpAny M A (storeName X.env x u) Q E s := by
  obtain ⟨m, hn, hl⟩ := id I.loc
  have hcls : (X.env.scope.kind == .class || (X.env.scope.kind == .module && X.env.locals != X.env.globals)) = false := by rw [I.ok.kind]; rfl
  have hiσ : i < σ.length := by rw [I.len]; exact (List.getElem?_eq_some_iff.mp hi).1
  have cne := I.cne
  have tracked : ∀ {a : Addr} {h' : Heap}, (∃ o, s.heap.get? a = some o ∧ H a = none) → Heap.SameBut a s.heap h' → HOk X.prog X.w H h' := fun {a h'} ha hs b ob e => by
    obtain ⟨_, _, hfree⟩ := ha
    refine (I.hok b ob e).stay (fun c w' hc q => (hs.2 c ?_).trans q) (fun _ q => q) fun _ _ q => q
    rintro rfl
    rcases hc with rfl | hc
    · rw [hfree] at e; cases e
    · rw [hfree] at hc; cases hc
  rcases hx with hk | hk
  · refine wpAny_storeName_local hk hn (fun h' hn' hs => ?_) hcls
    obtain ⟨oL, _, _, hoL, _⟩ := id hn
    refine h _ ⟨I.ok, I.os, I.bare, ⟨fun b o e n hb hx => ?_, fun b o e n hb hx => ?_, I.base.free, fun b o e hx => ?_, I.base.tups, I.base.frzs, I.base.tbls⟩, ⟨_, hn', fun j y v' e1 e2 e3 => ?_⟩, fun y c e => ?_, I.free, I.freeC, fun p hp => ?_, tracked ⟨oL, hoL, I.free⟩ hs, by simpa using I.len⟩ ⟨_, hs, .inl rfl⟩
    · exact (hs.2 b (Nat.ne_of_lt (Nat.lt_of_lt_of_le (Heap.lt_size e) I.ok.above))).trans (I.base.keep b o e n hb hx)
    · obtain ⟨sl, e1⟩ := I.base.slot b o e n hb hx
      exact ⟨sl, (hs.2 b (Nat.ne_of_lt (Nat.lt_of_lt_of_le (Heap.lt_size e) I.ok.above))).trans e1⟩
    · obtain ⟨o', e1⟩ := I.base.there b o e hx
      exact ⟨o', (hs.2 b (Nat.ne_of_lt (Nat.lt_of_lt_of_le (Heap.lt_size e) I.ok.above))).trans e1⟩
    · by_cases hj : j = i
      · subst hj
        rw [hi] at e1; cases e1
        rw [List.getElem?_set_self hiσ] at e2
        cases e2
        exact ⟨u, r, .inl ⟨hk, by simp⟩⟩
      · rw [List.getElem?_set_ne (Ne.symm hj)] at e2
        obtain ⟨u', r', q⟩ := hl j y v' e1 e2 e3
        refine ⟨u', r', ?_⟩
        rcases q with ⟨k, e⟩ | ⟨k, c, e, z⟩
        · refine .inl ⟨k, ?_⟩
          have : y ≠ x := fun e => hj (nodup_ix hN e1 (e ▸ hi))
          simp [this, e]
        · exact .inr ⟨k, c, e, z.sameBut hs (cne y c e)⟩
    · obtain ⟨w', z⟩ := I.cell y c e
      exact ⟨w', z.sameBut hs (cne y c e)⟩
    · obtain ⟨e, n, ne, nf, d⟩ := I.pin p hp
      exact ⟨(hs.2 p.1 ne).trans e, n, ne, nf, d⟩
  · have hfn : X.fn x = true := by
      rcases hf with z | z
      · exact z
      · rw [z] at hk; cases hk
    obtain ⟨c, hc⟩ := I.ok.has x (.inl hk)
    obtain ⟨w', z⟩ := I.cell x c hc
    refine wpAny_storeName_cell I.ok.kind hk hc z (fun h' hc' hs => ?_)
    obtain ⟨oc, hoc, hocd⟩ := id z
    refine h { s with heap := h' } ⟨I.ok, I.os, I.bare, ⟨fun b o e n hb hx => ?_, fun b o e n hb hx => ?_, I.base.free, fun b o e hx => ?_, I.base.tups, I.base.frzs, I.base.tbls⟩, ⟨m, hn.sameBut hs (Ne.symm (cne x c hc)), fun j y v' e1 e2 e3 => ?_⟩, fun y c' e => ?_, I.free, I.freeC, fun p hp => ?_, tracked ⟨oc, hoc, I.freeC x c hc⟩ hs, by simpa using I.len⟩ ⟨c, hs, .inr hc⟩
    · exact (hs.2 b (Nat.ne_of_lt (Nat.lt_of_lt_of_le (Heap.lt_size e) (I.ok.cab x c hfn hc)))).trans (I.base.keep b o e n hb hx)
    · obtain ⟨sl, e1⟩ := I.base.slot b o e n hb hx
      exact ⟨sl, (hs.2 b (Nat.ne_of_lt (Nat.lt_of_lt_of_le (Heap.lt_size e) (I.ok.cab x c hfn hc)))).trans e1⟩
    · obtain ⟨o', e1⟩ := I.base.there b o e hx
      exact ⟨o', (hs.2 b (Nat.ne_of_lt (Nat.lt_of_lt_of_le (Heap.lt_size e) (I.ok.cab x c hfn hc)))).trans e1⟩
    · by_cases hj : j = i
      · subst hj
        rw [hi] at e1; cases e1
        rw [List.getElem?_set_self hiσ] at e2
        cases e2
        exact ⟨u, r, .inr ⟨.inl hk, c, hc, hc'⟩⟩
      · rw [List.getElem?_set_ne (Ne.symm hj)] at e2
        obtain ⟨u', r', q⟩ := hl j y v' e1 e2 e3
        refine ⟨u', r', ?_⟩
        rcases q with q | ⟨k, c', e, z'⟩
        · exact .inl q
        · refine .inr ⟨k, c', e, z'.sameBut hs ?_⟩
          rintro rfl
          exact hj (nodup_ix hN e1 (I.ok.inj _ _ _ e hc ▸ hi))
    · by_cases hcc : c' = c
      · subst hcc; exact ⟨_, hc'⟩
      · obtain ⟨w2, z2⟩ := I.cell y c' e
        exact ⟨w2, z2.sameBut hs hcc⟩
    · obtain ⟨e, n, ne, nf, d⟩ := I.pin p hp
      refine ⟨(hs.2 p.1 ?_).trans e, n, ne, nf, d⟩
      intro q
      rw [q, hoc] at e
      have q' : oc = p.2 := Option.some.inj e
      exact d w' (by rw [← q']; exact hocd)
theorem store_ok {M : Model} {A : Around} {E : Value → Shared → Prop} {i : Nat} {x : Str} {v : V} {u : Value} {Q : Unit → Shared → Prop} (I : Inv X pins σ H s) (hN : X.N.Nodup) (hi : X.N[i]? = some x) (hx : Loc X.env.scope x) (r : RelV v u)
    (h : ∀ s', Inv X pins (σ.set i (some v)) H s' → Q () s') (hf : X.fn x = true ∨ X.env.scope.names.lookup x = some .local := by first | exact .inl rfl | exact .inr rfl | assumption) : wpAny M A (storeName X.env x u) Q E s :=
  store_ok2 I hN hi hx r (fun s' I' _ => h s' I') hf
theorem Inv.call' {s' : Shared} {ch : List Addr} (I : Inv X pins σ H s) (ho : s'.os = s.os) (u : Un (frs X.stack) ch H H' s.heap s'.heap) (hok : HOk X.prog X.w H' s'.heap) (hg : AllBare s'.gens)
    (hch : ∀ b ∈ ch, (b ∈ X.ex ∨ X.s₀.heap.objs.size ≤ b) ∧ b ≠ X.env.locals ∧ (∀ x c, X.env.cells.lookup x = some c → c ≠ b) ∧ ∀ p ∈ X.pn ++ pins, p.1 ≠ b) : Inv X pins σ H' s' := by
  obtain ⟨h', g', d', t', o'⟩ := s'
  have e : o' = s.os := ho
  subst e
  exact I.call (g' := g') (t' := t') (d' := d') u hok hg hch
end
abbrev XK := Value → Option Addr → Hp → Prop
abbrev St := List (Option V)
abbrev VK := V → Hp → Prop
abbrev TE := St → Hp → VK → Prop
abbrev TT := St → Hp → (Bool → Hp → Prop) → Prop
abbrev TA := St → Hp → (List V → Hp → Prop) → Prop
structure Ends where
  nx : St → Hp → Prop
  rt : VK
  bk : St → Hp → Prop := fun _ _ => False
  ct : St → Hp → Prop := fun _ _ => False
abbrev TS := Ends → St → Hp → Prop
def EP (X : Cx) (pins : List (Addr × Obj)) (σ : St) (Q : VK) (u : Value) (s' : Shared) : Prop := ∃ v H', Inv X pins σ H' s' ∧ RelV v u ∧ Q v H'
def TP (X : Cx) (pins : List (Addr × Obj)) (σ : St) (Q : Bool → Hp → Prop) (b : Bool) (s' : Shared) : Prop := ∃ H', Inv X pins σ H' s' ∧ Q b H'
def AP (X : Cx) (pins : List (Addr × Obj)) (σ : St) (Q : List V → Hp → Prop) (us : List Value) (s' : Shared) : Prop := ∃ vs H', Inv X pins σ H' s' ∧ Vals vs us ∧ Q vs H'
def SP (X : Cx) (pins : List (Addr × Obj)) (D : Ends) (f : Flow) (s' : Shared) : Prop :=
  match f with
  | .next => ∃ σ' H', Inv X pins σ' H' s' ∧ D.nx σ' H'
  | .brk => ∃ σ' H', Inv X pins σ' H' s' ∧ D.bk σ' H'
  | .cont => ∃ σ' H', Inv X pins σ' H' s' ∧ D.ct σ' H'
  | .ret u => ∃ v σ' H', Inv X pins σ' H' s' ∧ RelV v u ∧ D.rt v H'
def PE (X : Cx) (e : Expr) (t : TE) : Prop :=
  ∀ (pins : List (Addr × Obj)) (s : Shared) (σ : St) (H : Hp) (Q : VK), Inv X pins σ H s → t σ H Q → wpAny (model X.prog X.w) X.A (eval e X.env) (EP X pins σ Q) X.xe s
def PT (X : Cx) (e : Expr) (t : TT) : Prop :=
  ∀ (pins : List (Addr × Obj)) (s : Shared) (σ : St) (H : Hp) (Q : Bool → Hp → Prop), Inv X pins σ H s → t σ H Q → wpAny (model X.prog X.w) X.A (isTrue e X.env (eval e X.env)) (TP X pins σ Q) X.xe s
def PW (X : Cx) (e : Expr) (t : TT) : Prop :=
  ∀ (whole : Sem Value) (pins : List (Addr × Obj)) (s : Shared) (σ : St) (H : Hp) (Q : Bool → Hp → Prop), Inv X pins σ H s → t σ H Q → wpAny (model X.prog X.w) X.A (isTrue e X.env whole) (TP X pins σ Q) X.xe s
theorem PW.pt {X : Cx} {e : Expr} {t : TT} (h : PW X e t) : PT X e t := h _
def PA (X : Cx) (es : List Expr) (t : TA) : Prop :=
  ∀ (pos : Pos) (pins : List (Addr × Obj)) (s : Shared) (σ : St) (H : Hp) (Q : List V → Hp → Prop), Inv X pins σ H s → t σ H Q → wpAny (model X.prog X.w) X.A (spliced (backTo pos (starEach es X.env))) (AP X pins σ Q) X.xe s
def PS (X : Cx) (st : Stmt) (t : TS) : Prop :=
  ∀ (pins : List (Addr × Obj)) (s : Shared) (σ : St) (H : Hp) (D : Ends), Inv X pins σ H s → t D σ H → wpAny (model X.prog X.w) X.A (exec st X.env) (SP X pins D) X.xe s
def PSs (X : Cx) (st : List Stmt) (t : TS) : Prop :=
  ∀ (pins : List (Addr × Obj)) (s : Shared) (σ : St) (H : Hp) (D : Ends), Inv X pins σ H s → t D σ H → wpAny (model X.prog X.w) X.A (execs st X.env) (SP X pins D) X.xe s
theorem thn {α : Type} {t : Sem α} {Q Q' : α → Shared → Prop} {M : Model} {A : Around} {E : Value → Shared → Prop} {s : Shared} (h : wpAny M A t Q E s) (hQ : ∀ a s, Q a s → Q' a s) : wpAny M A t Q' E s := wpAny_mono h hQ fun _ _ x => x
end L2
namespace L2
open PySem PySem.Spec PyProof.Rows
section
variable {X : Cx}
theorem bin {a b : Expr} {ta tb : TE} (ha : PE X a ta) (hb : PE X b tb) {pins : List (Addr × Obj)} {s : Shared} {σ : St} {H : Hp} {R : V → V → Hp → Prop} (I : Inv X pins σ H s) (h : ta σ H fun x H1 => tb σ H1 fun y H2 => R x y H2)
    {α : Type} {Q : α → Shared → Prop} {f : Value → Value → Sem α}
    (hf : ∀ v u s2 x y H2, Inv X pins σ H2 s2 → RelV x v → RelV y u → R x y H2 → wpAny (model X.prog X.w) X.A (f v u) Q X.xe s2) :
    wpAny (model X.prog X.w) X.A (eval a X.env) (fun v s₁ => wpAny (model X.prog X.w) X.A (eval b X.env) (fun u s₂ => wpAny (model X.prog X.w) X.A (f v u) Q X.xe s₂) X.xe s₁) X.xe s := by
  refine thn (ha pins s σ H _ I h) fun v s1 ⟨x, H1, I1, r1, q1⟩ => ?_
  refine thn (hb pins s1 σ H1 _ I1 q1) fun u s2 ⟨y, H2, I2, r2, q2⟩ => ?_
  exact hf v u s2 x y H2 I2 r1 r2 q2
def tVar (i : Nat) : TE := fun σ H Q => ∃ v, σ[i]? = some (some v) ∧ Q v H
def tC (v : V) : TE := fun _ H Q => Q v H
theorem pe_var {i : Nat} {x : Str} {pos : Pos} (hN : X.N[i]? = some x) (hv : Vis X.env.scope x) (hd : (x == ("__debug__" : Str)) = false := by decide) (hcd : (x == ("__classdict__" : Str)) = false := by decide) : PE X (.Name x pos) (tVar i) := by
  intro pins s σ H Q I h
  obtain ⟨v, e, h⟩ := h
  obtain ⟨m, hn, hl⟩ := I.loc
  obtain ⟨u, r, l⟩ := hl i x v hN e hv
  have fin : EP X pins σ Q u s := ⟨v, H, I, r, h⟩
  rcases l with ⟨hk, hm⟩ | ⟨hk, c, hc, hcell⟩
  · exact wpAny_Name (wpAny_loadName_local I.ok.kind hk hn hm fin) hd
  · rcases hk with hk | hk
    · exact wpAny_Name (wpAny_loadName_cell I.ok.kind hk hc hcell fin) hd
    · exact wpAny_Name (wpAny_loadName_free I.ok.kind hk hc hcell fin hcd) hd
theorem pe_int {i j pos} : PE X (.Constant (.int i) j pos) (tC (.int i)) := fun _ _ _ H _ I h => wpAny_Constant_int ⟨.int i, H, I.tok _, ⟨_, rfl⟩, h⟩
theorem pe_bl {b j pos} : PE X (.Constant (.bool b) j pos) (tC (.bl b)) := fun _ _ _ H _ I h => Constant_bool ⟨.bl b, H, I, rfl, h⟩
theorem pe_non {j pos} : PE X (.Constant .none j pos) (tC .non) := fun _ _ _ H _ I h => Constant_none ⟨.non, H, I, rfl, h⟩
theorem pe_str {x j pos} : PE X (.Constant (.str x) j pos) (tC (.str x)) := fun _ _ _ H _ I h => Calls.Constant_str ⟨.str x, H, I.tok _, ⟨_, rfl⟩, h⟩
def Gl (X : Cx) (x : Str) : Prop := X.env.kindOf x = some .globalImplicit
theorem ld_glob {E : Value → Shared → Prop} {pins : List (Addr × Obj)} {s : Shared} {σ : St} {H : Hp} {x : Str} {u : Value} {pos : Pos} {Q : Value → Shared → Prop} (I : Inv X pins σ H s) (hg : Gl X x) (hm : X.mg x = some u) (h : Q u s)
    (hd : (x == ("__debug__" : Str)) = false := by decide) : wpAny (model X.prog X.w) X.A (eval (.Name x pos) X.env) Q E s :=
  Calls.Name_function_global I.ok.kind hg (Calls.loadGlobal_global (by rw [I.ok.glob]; exact I.mod.glob.keeps I.bk) hm h) hd
theorem ld_blt {E : Value → Shared → Prop} {pins : List (Addr × Obj)} {s : Shared} {σ : St} {H : Hp} {x : Str} {u : Value} {pos : Pos} {Q : Value → Shared → Prop} (I : Inv X pins σ H s) (hg : Gl X x) (hm : X.mg x = none) (hv : bootBuiltins x = some u) (h : Q u s)
    (hn : x ≠ "__name__" := by decide) (hd : (x == ("__debug__" : Str)) = false := by decide) : wpAny (model X.prog X.w) X.A (eval (.Name x pos) X.env) Q E s := by
  obtain ⟨mb, h1, h2⟩ := I.mod.blt
  exact Calls.Name_function_global I.ok.kind hg (Calls.loadGlobal_builtin (by rw [I.ok.glob]; exact I.mod.glob.keeps I.bk) hm (by rw [I.ok.blt]; exact h1.keeps I.bk) ((h2 x hn).trans hv) h) hd
theorem pe_glob {x : Str} {v : V} {u : Value} {pos : Pos} (hg : Gl X x) (hm : X.mg x = some u) (r : RelV v u) (hd : (x == ("__debug__" : Str)) = false := by decide) : PE X (.Name x pos) (tC v) :=
  fun _ _ _ H _ I h => ld_glob I hg hm ⟨v, H, I, r, h⟩ hd
theorem pe_bltn {x : Str} {v : V} {u : Value} {pos : Pos} (hg : Gl X x) (hm : X.mg x = none) (hv : bootBuiltins x = some u) (r : RelV v u) (hn : x ≠ "__name__" := by decide) (hd : (x == ("__debug__" : Str)) = false := by decide) : PE X (.Name x pos) (tC v) :=
  fun _ _ _ H _ I h => ld_blt I hg hm hv ⟨v, H, I, r, h⟩ hn hd
variable {a b : Expr} {ta tb : TE} {pos : Pos}
def PC (X : Cx) (op : CmpOp) (a b : Expr) (t : TE) : Prop :=
  ∀ (pins : List (Addr × Obj)) (s : Shared) (σ : St) (H : Hp) (Q : VK), Inv X pins σ H s → t σ H Q →
    wpAny (model X.prog X.w) X.A (eval a X.env) (fun v s₁ => wpAny (model X.prog X.w) X.A (eval b X.env) (fun u s₂ => wpAny (model X.prog X.w) X.A (compareOp op v u) (EP X pins σ Q) X.xe s₂) X.xe s₁) X.xe s
def tB (t : TE) : TT := fun σ H Q => t σ H fun x H1 => ∃ c, x = .bl c ∧ Q c H1
theorem pt_cmp {op : CmpOp} {t : TE} (h : PC X op a b t) (h1 : behindInMarks op b = false := by first | exact nobehind _ (by decide) (by decide) | rfl) : PT X (.Compare a [op] [b] pos) (tB t) := by
  intro pins s σ H Q I hw
  refine wpAny_isTrue_Compare1 (thn (h pins s σ H _ I hw) fun v s1 h1 => thn h1 fun u s2 h2 => thn h2 fun c s3 ⟨x, H1, I1, r1, q1⟩ => ?_) h1
  obtain ⟨d, rfl, q⟩ := q1
  cases r1
  exact wpAny_truthy_bool ⟨H1, I1, q⟩
theorem pt_val {e : Expr} {t : TE} (h : PE X e t) (he : ∀ whole, isTrue e X.env whole = (do let v ← whole; standAt e.pos; holding [v] (truthy v)) := by intro _; rfl) : PT X e (tB t) := by
  intro pins s σ H Q I hw
  refine isTrue_plain (thn (h pins s σ H _ I hw) fun v s1 ⟨x, H1, I1, r1, q1⟩ => ?_) (he _)
  obtain ⟨d, rfl, q⟩ := q1
  cases r1
  exact wpAny_truthy_bool ⟨H1, I1, q⟩
variable {tA tB' : TT} {rest : List Expr}
def tAnd (t u : TT) : TT := fun σ H Q => t σ H fun c H1 => if c = true then u σ H1 Q else Q false H1
def tOr (t u : TT) : TT := fun σ H Q => t σ H fun c H1 => if c = true then Q true H1 else u σ H1 Q
def tNot (t : TT) : TT := fun σ H Q => t σ H fun c H1 => Q (!c) H1
theorem pw_and1 (ha : PT X a tA) : PW X (.BoolOp .And [a] pos) tA := by
  intro wh pins s σ H Q I h
  refine isTrue_and (thn (ha pins s σ H Q I h) fun c s1 e => ?_)
  cases c with
  | true => exact isTrue_and_nil e
  | false => exact e
theorem pw_or1 (ha : PT X a tA) : PW X (.BoolOp .Or [a] pos) tA := by
  intro wh pins s σ H Q I h
  refine isTrue_or (thn (ha pins s σ H Q I h) fun c s1 e => ?_)
  cases c with
  | false => exact isTrue_or_nil e
  | true => exact e
theorem pw_and (ha : PT X a tA) (hb : PW X (.BoolOp .And (b :: rest) pos) tB') : PW X (.BoolOp .And (a :: b :: rest) pos) (tAnd tA tB') := by
  intro wh pins s σ H Q I h
  refine isTrue_and (thn (ha pins s σ H _ I h) fun c s1 ⟨H1, I1, q1⟩ => ?_)
  cases c with
  | true => exact hb wh pins s1 σ H1 Q I1 q1
  | false => exact ⟨H1, I1, q1⟩
theorem pw_or (ha : PT X a tA) (hb : PW X (.BoolOp .Or (b :: rest) pos) tB') : PW X (.BoolOp .Or (a :: b :: rest) pos) (tOr tA tB') := by
  intro wh pins s σ H Q I h
  refine isTrue_or (thn (ha pins s σ H _ I h) fun c s1 ⟨H1, I1, q1⟩ => ?_)
  cases c with
  | true => exact ⟨H1, I1, q1⟩
  | false => exact hb wh pins s1 σ H1 Q I1 q1
theorem pt_not (ha : PT X a tA) : PT X (.UnaryOp .Not a pos) (tNot tA) := by
  intro pins s σ H Q I h
  exact isTrue_not (ha pins s σ H (fun c H1 => Q (!c) H1) I h)
def tAndV (ta tb : TE) : TE := fun σ H Q => ta σ H fun x H1 => ∃ c, x = .bl c ∧ if c = true then tb σ H1 Q else Q (.bl false) H1
def tNotV (ta : TE) : TE := fun σ H Q => ta σ H fun x H1 => ∃ c, x = .bl c ∧ Q (.bl (!c)) H1
theorem pe_one {op} {t : TE} (h : PE X a t) : PE X (.BoolOp op [a] pos) t := fun pins s σ H Q I hw => BoolOp_one (h pins s σ H Q I hw)
theorem pe_and (ha : PE X a ta) (hb : PE X (.BoolOp .And (b :: rest) pos) tb) : PE X (.BoolOp .And (a :: b :: rest) pos) (tAndV ta tb) := by
  intro pins s σ H Q I h
  refine BoolOp_and (thn (ha pins s σ H _ I h) fun v s1 ⟨x, H1, I1, r1, q1⟩ => ?_)
  obtain ⟨c, rfl, q1⟩ := q1
  cases r1
  refine wpAny_truthy_bool ?_
  cases c with
  | true => exact hb pins s1 σ H1 Q I1 q1
  | false => exact ⟨.bl false, H1, I1, rfl, q1⟩
theorem pe_not (ha : PE X a ta) : PE X (.UnaryOp .Not a pos) (tNotV ta) := by
  intro pins s σ H Q I h
  refine UnaryOp_ (thn (ha pins s σ H _ I h) fun v s1 ⟨x, H1, I1, r1, q1⟩ => ?_)
  obtain ⟨c, rfl, q1⟩ := q1
  cases r1
  exact not_of (wpAny_truthy_bool ⟨.bl (!c), H1, I1, rfl, q1⟩)
end
end L2
namespace L2
open PySem PySem.Spec PyProof.Rows
def SqL (K : PySem.W.Frag) (H : Hp) (a : Addr) (xs : List V) : Prop :=
  Rd H a (.lst xs) ∨
    ∃ (o : Obj) (its : Array Value) (n : Nat), K.lookup a = some o ∧ o.cls = .type "list" ∧ o.dict = none ∧ o.data = .seq its n ∧ its.size ≤ sizeLine ∧ Vals xs its.toList
def SqT (K : PySem.W.Frag) (H : Hp) (a : Addr) (xs : List V) : Prop :=
  Rd H a (.tup xs) ∨
    ∃ (o : Obj) (its : Array Value) (n : Nat), K.lookup a = some o ∧ o.cls = .type "tuple" ∧ o.data = .seq its n ∧ its.size ≤ sizeLine ∧ Vals xs its.toList
def absV : Value → Option V
  | .none => some .non
  | .bool b => some (.bl b)
  | .int i _ => some (.int i)
  | .str x _ => some (.str x)
  | .bytes b _ => some (.byt b)
  | .float b _ => some (.flt b)
  | .ref a => some (.ref a)
  | .type n => some (.ty n)
  | _ => none
theorem RelV.abs {x : V} {u : Value} (r : RelV x u) : absV u = some x := by
  cases x with
  | non => cases r; rfl
  | bl _ => cases r; rfl
  | int _ => obtain ⟨t, rfl⟩ := r; rfl
  | str _ => obtain ⟨t, rfl⟩ := r; rfl
  | byt _ => obtain ⟨t, rfl⟩ := r; rfl
  | flt _ => obtain ⟨t, rfl⟩ := r; rfl
  | ref _ => cases r; rfl
  | ty _ => cases r; rfl
theorem RelV.inj {x y : V} {u : Value} (r : RelV x u) (q : RelV y u) : x = y := Option.some.inj (r.abs.symm.trans q.abs)
theorem Vals.inj : ∀ {xs ys : List V} {us : List Value}, Vals xs us → Vals ys us → xs = ys
  | _, _, _, .nil, .nil => rfl
  | _, _, _, .cons r t, .cons r' t' => by rw [r.inj r', Vals.inj t t']
section
variable {X : Cx} {pins : List (Addr × Obj)} {σ : St} {H : Hp} {s : Shared} {a : Addr} {xs ys : List V}
theorem SqL.of {K : PySem.W.Frag} (h : H a = some (.lst xs)) : SqL K H a xs := .inl (.inl h)
theorem SqT.of {K : PySem.W.Frag} (h : H a = some (.tup xs)) : SqT K H a xs := .inl (.inl h)
theorem Inv.list (I : Inv X pins σ H s) (h : SqL X.K H a xs) : ∃ its : List Value, Vals xs its ∧ PlainL s.heap a its.toArray ∧ xs.length ≤ sizeLine := by
  rcases h with h | ⟨o, its, n, hk, hc, hd, hs, hz, r⟩
  · obtain ⟨z, its, n, r, e⟩ := h.ok I.hok
    exact ⟨its, r, ⟨_, n, e, rfl, rfl, rfl⟩, z⟩
  · refine ⟨its.toList, r, ⟨o, n, I.kIn a o hk, hc, hd, by simpa using hs⟩, ?_⟩
    have e := r.length
    simp only [Array.length_toList] at e
    omega
theorem Inv.tuple (I : Inv X pins σ H s) (h : SqT X.K H a xs) : ∃ its : List Value, Vals xs its ∧ IsTup s.heap a its.toArray ∧ xs.length ≤ sizeLine := by
  rcases h with h | ⟨o, its, n, hk, hc, hs, hz, r⟩
  · obtain ⟨z, its, r, p⟩ := h.ok I.hok
    exact ⟨its, r, p, z⟩
  · refine ⟨its.toList, r, ⟨o, I.kIn a o hk, hc, n, by simpa using hs⟩, ?_⟩
    have e := r.length
    simp only [Array.length_toList] at e
    omega
theorem Inv.list_inj (I : Inv X pins σ H s) (h : SqL X.K H a xs) (h' : SqL X.K H a ys) : xs = ys := by
  obtain ⟨its, r, ⟨o, n, e, _, _, d⟩, _⟩ := I.list h
  obtain ⟨its', r', ⟨o', n', e', _, _, d'⟩, _⟩ := I.list h'
  rw [e] at e'; cases e'
  rw [d] at d'
  injection d' with d1 _
  have : its = its' := by simpa using congrArg Array.toList d1
  subst this
  exact r.inj r'
theorem Inv.tuple_inj (I : Inv X pins σ H s) (h : SqT X.K H a xs) (h' : SqT X.K H a ys) : xs = ys := by
  obtain ⟨its, r, ⟨o, e, _, n, d⟩, _⟩ := I.tuple h
  obtain ⟨its', r', ⟨o', e', _, n', d'⟩, _⟩ := I.tuple h'
  rw [e] at e'; cases e'
  rw [d] at d'
  injection d' with d1 _
  have : its = its' := by simpa using congrArg Array.toList d1
  subst this
  exact r.inj r'
end
abbrev Cx.wish (X : Cx) (E : Value → Shared → Prop) : Cx := { X with xe := E }
abbrev Cx.nox (X : Cx) : Cx := X.wish fun _ _ => False
theorem Cx.Ok.wish {X : Cx} (ok : X.Ok) (E : Value → Shared → Prop) : (X.wish E).Ok :=
  ⟨ok.mod, ok.kind, ok.glob, ok.blt, ok.above, ok.inj, ok.has, ok.cab, ok.hd, ok.frames, ok.stk, ok.exf, ok.bs, ok.bsz, ok.noex, ok.exfs, ok.funs, ok.frf⟩
theorem Cx.Ok.unwish {X : Cx} {E : Value → Shared → Prop} (ok : (X.wish E).Ok) : X.Ok :=
  ⟨ok.mod, ok.kind, ok.glob, ok.blt, ok.above, ok.inj, ok.has, ok.cab, ok.hd, ok.frames, ok.stk, ok.exf, ok.bs, ok.bsz, ok.noex, ok.exfs, ok.funs, ok.frf⟩
section
variable {X : Cx} {pins : List (Addr × Obj)} {σ : St} {H : Hp} {s : Shared} {E : Value → Shared → Prop}
theorem Inv.wish (I : Inv X pins σ H s) (E : Value → Shared → Prop) : Inv (X.wish E) pins σ H s := ⟨I.ok.wish E, I.os, I.bare, I.base, I.loc, I.cell, I.free, I.freeC, I.pin, I.hok, I.len⟩
theorem Inv.unwish (I : Inv (X.wish E) pins σ H s) : Inv X pins σ H s := ⟨I.ok.unwish, I.os, I.bare, I.base, I.loc, I.cell, I.free, I.freeC, I.pin, I.hok, I.len⟩
theorem SP.unwish {D : Ends} {f : Flow} {s' : Shared} (h : SP (X.wish E) pins D f s') : SP X pins D f s' := by
  cases f with
  | next => obtain ⟨σ', H', I, q⟩ := h; exact ⟨σ', H', I.unwish, q⟩
  | brk => obtain ⟨σ', H', I, q⟩ := h; exact ⟨σ', H', I.unwish, q⟩
  | cont => obtain ⟨σ', H', I, q⟩ := h; exact ⟨σ', H', I.unwish, q⟩
  | ret u => obtain ⟨v, σ', H', I, r, q⟩ := h; exact ⟨v, σ', H', I.unwish, r, q⟩
theorem PSs.nox {st : List Stmt} {t : TS} (h : PSs X.nox st t) : PSs X st t := fun pins s σ H D I hw =>
  wpAny_mono (h pins s σ H D (I.wish _) hw) (fun _ _ q => q.unwish) fun _ _ z => False.elim z
end
section
variable {X : Cx} {st : Stmt} {rest : List Stmt} {t u : TS} {e : Expr} {te : TE} {pos : Pos}
def tNext : TS := fun D σ H => D.nx σ H
def tSeq (t u : TS) : TS := fun D σ H => t { D with nx := u D } σ H
theorem pss_nil : PSs X [] tNext := fun _ _ σ H _ I h => wpAny_execs_nil ⟨σ, H, I, h⟩
theorem pss_cons (h1 : PS X st t) (h2 : PSs X rest u) : PSs X (st :: rest) (tSeq t u) := by
  intro pins s σ H D I h
  refine wpAny_execs_cons (thn (h1 pins s σ H { D with nx := u D } I h) fun f s1 q => ?_)
  cases f with
  | next =>
    obtain ⟨σ', H', I', q⟩ := q
    exact h2 pins s1 σ' H' D I' q
  | ret v => exact q
  | brk => exact q
  | cont => exact q
theorem pss_one (h1 : PS X st t) : PSs X [st] t := by
  intro pins s σ H D I h
  refine wpAny_execs_cons (thn (h1 pins s σ H D I h) fun f s1 q => ?_)
  cases f with
  | next => exact wpAny_execs_nil q
  | ret v => exact q
  | brk => exact q
  | cont => exact q
theorem Inv.quiet {pins : List (Addr × Obj)} {σ : St} {H : Hp} {s : Shared} (I : Inv X pins σ H s) : interactive X.env = false := by simp [interactive, I.ok.kind]
def tDrop (te : TE) : TS := fun D σ H => te σ H fun _ H1 => D.nx σ H1
theorem ps_expr (he : PE X e te) (hs : swapsWith e none pos.line X.env = pure false := by rfl) : PS X (.Expr e pos) (tDrop te) := by
  intro pins s σ H D I h
  exact wpAny_Expr_any (thn (he pins s σ H _ I h) fun v s1 ⟨x, H1, I1, r1, q1⟩ => ⟨σ, H1, I1, q1⟩) I.quiet hs
def tRet (te : TE) : TS := fun D σ H => te σ H D.rt
theorem ps_ret (he : PE X e te) : PS X (.Return (some e) pos) (tRet te) := by
  intro pins s σ H D I h
  exact wpAny_Return_some (thn (he pins s σ H _ I h) fun v s1 ⟨x, H1, I1, r1, q1⟩ => ⟨x, σ, H1, I1, r1, q1⟩)
def tIfS (c : TT) (t u : TS) : TS := fun D σ H => c σ H fun b H1 => if b = true then t D σ H1 else u D σ H1
theorem ps_if {c : Expr} {a b : List Stmt} {tc : TT} (hc : PT X c tc) (ha : PSs X a t) (hb : PSs X b u) : PS X (.If c a b pos) (tIfS tc t u) := by
  intro pins s σ H D I h
  refine wpAny_If (thn (hc pins s σ H _ I h) fun d s1 ⟨H1, I1, q1⟩ => ?_)
  cases d with
  | true => exact ha pins s1 σ H1 D I1 q1
  | false => exact hb pins s1 σ H1 D I1 q1
end
abbrev TG := V → St → Hp → (St → Hp → Prop) → Prop
abbrev TGs := List V → St → Hp → (St → Hp → Prop) → Prop
def PG (X : Cx) (target : Expr) (t : TG) : Prop :=
  ∀ (pins : List (Addr × Obj)) (s : Shared) (σ : St) (H : Hp) (v : V) (u : Value) (Q : St → Hp → Prop), Inv X pins σ H s → RelV v u → t v σ H Q →
    wpAny (model X.prog X.w) X.A (assign target X.env u) (fun _ s' => ∃ σ' H', Inv X pins σ' H' s' ∧ Q σ' H') X.xe s
def PGs (X : Cx) (ts : List Expr) (t : TGs) : Prop :=
  ∀ (pins : List (Addr × Obj)) (s : Shared) (σ : St) (H : Hp) (vs : List V) (us : List Value) (Q : St → Hp → Prop), Inv X pins σ H s → Vals vs us → t vs σ H Q →
    wpAny (model X.prog X.w) X.A (assignInOrder ((assignEach ts X.env).map (·.2)) us) (fun _ s' => ∃ σ' H', Inv X pins σ' H' s' ∧ Q σ' H') X.xe s
section
variable {X : Cx} {pos : Pos}
def gName (i : Nat) : TG := fun v σ H Q => Q (σ.set i (some v)) H
theorem pg_name {i : Nat} {x : Str} (hN : X.N.Nodup) (hi : X.N[i]? = some x) (hx : Loc X.env.scope x) (hf : X.fn x = true ∨ X.env.scope.names.lookup x = some .local := by first | exact .inl rfl | exact .inr rfl | assumption) : PG X (.Name x pos) (gName i) := by
  intro pins s σ H v u Q I r h
  exact wpAny_assign_Name (store_ok I hN hi hx r (fun s' I' => ⟨_, H, I', h⟩) hf)
def gNil : TGs := fun vs σ H Q => vs = [] ∧ Q σ H
def gCons (t : TG) (u : TGs) : TGs := fun vs σ H Q => ∃ v r, vs = v :: r ∧ t v σ H fun σ' H' => u r σ' H' Q
theorem pgs_nil : PGs X [] gNil := by
  intro pins s σ H vs us Q I r h
  obtain ⟨e, h⟩ := h
  subst e
  cases r
  exact assignInOrder_nil ⟨σ, H, I, h⟩
theorem pgs_cons {e : Expr} {es : List Expr} {t : TG} {u : TGs} (h1 : PG X e t) (h2 : PGs X es u)
    (hs : (assignEach (e :: es) X.env).map (·.2) = assign e X.env :: (assignEach es X.env).map (·.2) := by rfl) : PGs X (e :: es) (gCons t u) := by
  intro pins s σ H vs us Q I r h
  obtain ⟨v, vr, e1, h⟩ := h
  subst e1
  cases r with
  | cons r rr =>
    rw [hs]
    refine assignInOrder_cons (thn (h1 pins s σ H _ _ _ I r h) fun _ s1 ⟨σ1, H1, I1, q1⟩ => ?_)
    exact h2 pins s1 σ1 H1 _ _ Q I1 rr q1
def gTup (K : PySem.W.Frag) (n : Nat) (t : TGs) : TG := fun v σ H Q => ∃ a xs, v = .ref a ∧ SqT K H a xs ∧ xs.length = n ∧ t xs σ H Q
theorem pg_tup {es : List Expr} {k : Nat} {t : TGs} {n : Nat} (hc : X.calm = true) (h : PGs X es t)
    (hn : (assignEach es X.env).length = n := by rfl) (hst : (assignEach es X.env).findIdx? (·.1) = none := by rfl) : PG X (.Tuple es k pos) (gTup X.K n t) := by
  intro pins s σ H v u Q I r hw
  obtain ⟨a, xs, e1, hq, hl, hw⟩ := hw
  subst e1
  cases r
  obtain ⟨its, rv, ht, hz⟩ := I.tuple hq
  refine assign_Tuple_tuple (I.ok.hd hc) ht (by simp [hn, ← hl, rv.length]) hst fun h' hx => ?_
  have I1 : Inv X pins σ H { s with heap := h' } := I.kept (t' := s.toks) fun b o e => hx b o (Nat.ne_of_lt (Heap.lt_size e)) e
  exact h pins _ σ H xs _ Q I1 (by simpa using rv) hw
def tAsg (te : TE) (g : TG) : TS := fun D σ H => te σ H fun x H1 => g x σ H1 D.nx
theorem ps_set {i : Nat} {x : Str} {e : Expr} {te : TE} {pos' : Pos} (hN : X.N.Nodup) (hi : X.N[i]? = some x) (hx : Loc X.env.scope x) (he : PE X e te) (hs : swapsWith e (some (.Name x pos')) pos.line X.env = pure false := by rfl) (hf : X.fn x = true ∨ X.env.scope.names.lookup x = some .local := by first | exact .inl rfl | exact .inr rfl | assumption) :
    PS X (.Assign [.Name x pos'] e pos) (tAsg te (gName i)) := by
  intro pins s σ H D I h
  refine wpAny_Assign_Name (thn (he pins s σ H _ I h) fun v s1 ⟨y, H1, I1, r1, q1⟩ => ?_) hs
  exact store_ok I1 hN hi hx r1 (fun s2 I2 => ⟨_, H1, I2, q1⟩) hf
end
section
variable {X : Cx} {pos : Pos}
end
structure It where
  go : Nat → Hp → Prop
  yld : Nat → Hp → V → Hp → Prop
  stop : Nat → Hp → Prop
def FpOk (X : Cx) (pins : List (Addr × Obj)) (H : Hp) (b : Addr) : Prop :=
  H b = none ∧ b ≠ X.env.locals ∧ b ∉ X.fs ∧ (b ∈ X.ex ∨ X.s₀.heap.objs.size ≤ b) ∧ (∀ x c, X.env.cells.lookup x = some c → c ≠ b) ∧ ∀ p ∈ X.pn ++ pins, p.1 ≠ b
theorem Inv.fpOk {X : Cx} {pins : List (Addr × Obj)} {σ : St} {H H' : Hp} {s : Shared} {b : Addr} (I : Inv X pins σ H s) (hb : s.heap.objs.size ≤ b) (hn : H' b = none) : FpOk X pins H' b := by
  refine ⟨hn, Nat.ne_of_gt (Nat.lt_of_lt_of_le I.lt hb), I.nofs hb, .inr (Nat.le_trans I.sz hb), fun x c e z => ?_, fun p hp z => ?_⟩
  · obtain ⟨v, q⟩ := I.cell x c e
    exact absurd (Nat.lt_of_lt_of_le q.lt (by rw [z]; exact hb)) (Nat.lt_irrefl _)
  · exact absurd (Nat.lt_of_lt_of_le (Heap.lt_size (I.pin p hp).1) (by rw [z]; exact hb)) (Nat.lt_irrefl _)
structure Turn (P : Program) (w : World) (K : PySem.W.Frag) (tg : Expr) (J : It) (fp : List Addr) (it : Addr) (tn : Nat → Heap → Prop) : Prop where
  mem : it ∈ fp
  obj : ∀ i h, tn i h → ∀ b ∈ fp, ∃ o, h.get? b = some o ∧ ∀ v, o.data ≠ .cell v
  keep : ∀ i h h', tn i h → (∀ b ∈ fp, ∀ o, h.get? b = some o → h'.get? b = some o) → tn i h'
  item : ∀ (X : Cx), X.prog = P → X.w = w → X.K = K → X.calm = true → ∀ (i : Nat) (pins : List (Addr × Obj)) (s : Shared) (σ : St) (H : Hp) (E : Value → Shared → Prop), Inv X pins σ H s → (∀ b ∈ fp, FpOk X pins H b) → tn i s.heap → J.go i H →
    wpAny (model P w) X.A (pyNext (.ref it)) (fun r s1 => ∃ u, r = some u ∧
      wpAny (model P w) X.A (letOwnedTupleGo tg (.ref it) u) (fun _ s2 => ∃ x H', Inv X pins σ H' s2 ∧ RelV x u ∧ J.yld i H x H' ∧ tn (i + 1) s2.heap ∧ ∀ b ∈ fp, H' b = none) E s1) E s
  done : ∀ (X : Cx), X.prog = P → X.w = w → X.K = K → X.calm = true → ∀ (i : Nat) (pins : List (Addr × Obj)) (s : Shared) (σ : St) (H : Hp) (E : Value → Shared → Prop), Inv X pins σ H s → (∀ b ∈ fp, FpOk X pins H b) → tn i s.heap → J.stop i H →
    wpAny (model P w) X.A (pyNext (.ref it)) (fun r s1 => r = none ∧ Inv X pins σ H s1) E s
  self : ∀ (A : Around) (i : Nat) (s : Shared) (Q : Value → Shared → Prop) (E : Value → Shared → Prop), tn i s.heap → Q (.ref it) s → wpAny (model P w) A (pyIter (.ref it)) Q E s
abbrev TI := St → Hp → (It → Hp → Prop) → Prop
def PIE (X : Cx) (pins : List (Addr × Obj)) (σ : St) (tg : Expr) (R : It → Hp → Prop) (itv : Value) (s2 : Shared) : Prop :=
  ∃ (it : Addr) (fp : List Addr) (tn : Nat → Heap → Prop) (J : It) (H' : Hp), itv = .ref it ∧ Inv X pins σ H' s2 ∧ Turn X.prog X.w X.K tg J fp it tn ∧ tn 0 s2.heap ∧ (∀ b ∈ fp, FpOk X pins H' b) ∧ R J H'
def PI (X : Cx) (tg iter : Expr) (wi : TI) : Prop :=
  ∀ (pins : List (Addr × Obj)) (s : Shared) (σ : St) (H : Hp) (R : It → Hp → Prop), Inv X pins σ H s → wi σ H R →
    wpAny (model X.prog X.w) X.A (eval iter X.env) (fun v s1 => wpAny (model X.prog X.w) X.A (pyIter v) (PIE X pins σ tg R) X.xe s1) X.xe s
theorem go_of {M : Model} {A : Around} {E : Value → Shared → Prop} {s : Shared} {tg : Expr} {it : Addr} {u : Value} {o : Obj} {n : String} {vs : Array Value} {Q : Unit → Shared → Prop} (ho : s.heap.get? it = some o) (hc : o.cls = .type n) (hd : o.data = .fields vs)
    (hn : ["enumerate", "zip", "dict_itemiterator", "dict_reverseitemiterator", "odict_iterator", "itertools.zip_longest", "itertools.pairwise"].contains n = false) (hQ : Q () s) : wpAny M A (letOwnedTupleGo tg (.ref it) u) Q E s := by
  unfold letOwnedTupleGo
  cases tg <;> first
    | exact wpAny_pure hQ
    | (cases u <;> first
        | exact wpAny_pure hQ
        | (refine wpAny_bind (wpAny_load ho ?_)
           rw [hc, hd]
           show wpAny M A (if (["enumerate", "zip", "dict_itemiterator", "dict_reverseitemiterator", "odict_iterator", "itertools.zip_longest", "itertools.pairwise"].contains n && vs[0]? == some (rawInt _)) = true then _ else _) Q E s
           rw [if_neg (by intro h; rw [hn, Bool.false_and] at h; cases h)]
           exact wpAny_pure hQ))
def Itl (K : PySem.W.Frag) (a : Addr) : It :=
  ⟨fun i H => ∃ xs x, SqL K H a xs ∧ xs[i]? = some x, fun i H x H' => H' = H ∧ ∀ xs, SqL K H a xs → xs[i]? = some x, fun i H => ∃ xs, SqL K H a xs ∧ xs.length ≤ i⟩
def Itt (K : PySem.W.Frag) (a : Addr) : It :=
  ⟨fun i H => ∃ xs x, SqT K H a xs ∧ xs[i]? = some x, fun i H x H' => H' = H ∧ ∀ xs, SqT K H a xs → xs[i]? = some x, fun i H => ∃ xs, SqT K H a xs ∧ xs.length ≤ i⟩
def Itr (lo : Int) (n : Nat) : It := ⟨fun i _ => i < n, fun i H x H' => H' = H ∧ x = .int (lo + i), fun i _ => n ≤ i⟩
theorem turn_list {P : Program} {w : World} {K : PySem.W.Frag} {tg : Expr} (a it : Addr) : Turn P w K tg (Itl K a) [it] it (fun i h => h.IsListIter it a i) where
  mem := by simp
  obj := fun i h st b hb => by
    have e : b = it := by simpa using hb
    subst e
    obtain ⟨o, e, c, d⟩ := st
    exact ⟨o, e, fun v z => by rw [d] at z; cases z⟩
  keep := fun i h h' st k => st.at fun o e => k it (by simp) o e
  item := by
    intro X hP hw hK hc i pins s σ H E I hf st hg
    subst hP hw hK
    obtain ⟨xs, x, hq, hx⟩ := hg
    obtain ⟨its, rv, p, hz⟩ := I.list hq
    obtain ⟨u, hu, ru⟩ := rv.get hx
    obtain ⟨f0, f1, f2, f3, f4, f5⟩ := hf it (by simp)
    refine wpAny_pyNext_list_item st p.isList (x := u) (by simpa using hu) fun h' st' sb => ?_
    have I1 : Inv X pins σ H { s with heap := h' } := I.turned (t' := s.toks) (fun b o hb e => (sb.2 b hb).trans e) f0 f1 f3 f4 f5
    obtain ⟨o, e, c, d⟩ := id st'
    exact ⟨u, rfl, go_of (s := { s with heap := h' }) e c d (by decide) ⟨x, H, I1, ru, ⟨rfl, fun ys hy => by rw [I.list_inj hy hq]; exact hx⟩, st', fun b hb => (hf b hb).1⟩⟩
  done := by
    intro X hP hw hK hc i pins s σ H E I hf st hg
    subst hP hw hK
    obtain ⟨xs, hq, hx⟩ := hg
    obtain ⟨its, rv, p, hz⟩ := I.list hq
    obtain ⟨f0, f1, f2, f3, f4, f5⟩ := hf it (by simp)
    have hl := rv.length
    exact wpAny_pyNext_list_end (I.ok.hd hc) st p.isList (by simp; omega) fun h' eb => ⟨rfl, I.turned (t' := s.toks) (fun b o hb e => eb b o hb e) f0 f1 f3 f4 f5⟩
  self := fun _ _ _ _ _ st h => wpAny_pyIter_listiter st h
theorem turn_tuple {P : Program} {w : World} {K : PySem.W.Frag} {tg : Expr} (a it : Addr) : Turn P w K tg (Itt K a) [it] it (fun i h => h.IsTupleIter it a i) where
  mem := by simp
  obj := fun i h st b hb => by
    have e : b = it := by simpa using hb
    subst e
    obtain ⟨o, e, c, d⟩ := st
    exact ⟨o, e, fun v z => by rw [d] at z; cases z⟩
  keep := fun i h h' st k => st.at fun o e => k it (by simp) o e
  item := by
    intro X hP hw hK hc i pins s σ H E I hf st hg
    subst hP hw hK
    obtain ⟨xs, x, hq, hx⟩ := hg
    obtain ⟨its, rv, p, hz⟩ := I.tuple hq
    obtain ⟨u, hu, ru⟩ := rv.get hx
    obtain ⟨f0, f1, f2, f3, f4, f5⟩ := hf it (by simp)
    refine wpAny_pyNext_tuple_item st (show s.heap.IsTuple a its.toArray from p) (x := u) (by simpa using hu) fun h' st' sb => ?_
    have I1 : Inv X pins σ H { s with heap := h' } := I.turned (t' := s.toks) (fun b o hb e => (sb.2 b hb).trans e) f0 f1 f3 f4 f5
    obtain ⟨o, e, c, d⟩ := id st'
    exact ⟨u, rfl, go_of (s := { s with heap := h' }) e c d (by decide) ⟨x, H, I1, ru, ⟨rfl, fun ys hy => by rw [I.tuple_inj hy hq]; exact hx⟩, st', fun b hb => (hf b hb).1⟩⟩
  done := by
    intro X hP hw hK hc i pins s σ H E I hf st hg
    subst hP hw hK
    obtain ⟨xs, hq, hx⟩ := hg
    obtain ⟨its, rv, p, hz⟩ := I.tuple hq
    obtain ⟨f0, f1, f2, f3, f4, f5⟩ := hf it (by simp)
    have hl := rv.length
    exact wpAny_pyNext_tuple_end (I.ok.hd hc) st (show s.heap.IsTuple a its.toArray from p) (by simp; omega) fun h' eb => ⟨rfl, I.turned (t' := s.toks) (fun b o hb e => eb b o hb e) f0 f1 f3 f4 f5⟩
  self := fun _ _ _ _ _ st h => wpAny_pyIter_tupleiter st h
theorem turn_range {P : Program} {w : World} {K : PySem.W.Frag} {tg : Expr} (it : Addr) (lo : Int) (n : Nat) : Turn P w K tg (Itr lo n) [it] it (fun i h => IsRangeIter h it (lo + (i : Nat) * 1) ((n : Int) - (i : Nat)) 1) where
  mem := by simp
  obj := fun i h st b hb => by
    have e : b = it := by simpa using hb
    subst e
    exact ⟨_, st, fun v z => by
      have z' : Data.fields _ = Data.cell v := z
      cases z'⟩
  keep := fun i h h' st k => k it (by simp) _ st
  item := by
    intro X hP hw hK hc i pins s σ H E I hf st hg
    subst hP hw hK
    obtain ⟨f0, f1, f2, f3, f4, f5⟩ := hf it (by simp)
    have W := Walks.range (prog := X.prog) (w := X.w) (I.ok.hd hc) it lo 1 n
    refine W.item i s _ _ hg st fun v h' tk hv st' kk => ?_
    obtain ⟨t, rfl⟩ := hv
    have I1 : Inv X pins σ H { s with heap := h', toks := tk } := I.turned (fun b o hb e => kk b o (by simpa using hb) e) f0 f1 f3 f4 f5
    refine ⟨_, rfl, go_of (s := { s with heap := h', toks := tk }) (n := "range_iterator") st' rfl rfl (by decide) ⟨.int (lo + i), H, I1, ⟨t, ?_⟩, ⟨rfl, rfl⟩, st', fun b hb => (hf b hb).1⟩⟩
    rw [Int.mul_one]
  done := by
    intro X hP hw hK hc i pins s σ H E I hf st hg
    subst hP hw hK
    obtain ⟨f0, f1, f2, f3, f4, f5⟩ := hf it (by simp)
    exact wpAny_pyNext_range_end (I.ok.hd hc) st (by have : n ≤ i := hg; omega) fun h' eb => ⟨rfl, I.turned (t' := s.toks) (fun b o hb e => eb b o hb e) f0 f1 f3 f4 f5⟩
  self := fun _ _ _ _ _ st h => wpAny_pyIter_rangeiter st h
end L2
namespace L2
open PySem PySem.Spec PyProof.Rows
section
variable {X : Cx} {tg : Expr}
theorem range_it {pins : List (Addr × Obj)} {σ : St} {H : Hp} {s : Shared} {R : It → Hp → Prop} {E : Value → Shared → Prop} {lo hi : Int} {t u v : Tok} {tk : Nat} (I : Inv X pins σ H s) (h1 : -(2 ^ 62) ≤ lo) (h2 : lo < 2 ^ 62) (h3 : -(2 ^ 62) ≤ hi) (h4 : hi < 2 ^ 62)
    (q : R (Itr lo (hi - lo).toNat) H) : wpAny (model X.prog X.w) X.A (pyIter (.ref s.heap.objs.size)) (PIE X pins σ tg R) E { s with heap := s.heap.push { cls := .type "range", data := .fields #[.int lo t, .int hi u, .int 1 v] }, toks := tk } := by
  refine wpAny_pyIter_range (IsRange.new ..) (small_one h1 h2 h3 h4) ?_
  have I1 : Inv X pins σ H { s with heap := s.heap.push { cls := .type "range", data := .fields #[.int lo t, .int hi u, .int 1 v] }, toks := tk } := I.kept fun b o e => Heap.get?_push_of_some _ e
  refine ⟨(s.heap.push { cls := .type "range", data := .fields #[.int lo t, .int hi u, .int 1 v] }).objs.size, [(s.heap.push { cls := .type "range", data := .fields #[.int lo t, .int hi u, .int 1 v] }).objs.size], _, _, H, rfl,
    I1.kept (t' := tk) fun b o e => Heap.get?_push_of_some _ e, turn_range _ lo (hi - lo).toNat, ?_, fun b hb => ?_, q⟩
  · have e1 : lo + ((0 : Nat) : Int) * 1 = lo := by simp
    have e2 : (((hi - lo).toNat : Nat) : Int) - ((0 : Nat) : Int) = Builtin.Range.rangeSize lo hi 1 := by rw [rangeSize_one]; split <;> omega
    show IsRangeIter _ _ (lo + ((0 : Nat) : Int) * 1) ((((hi - lo).toNat : Nat) : Int) - ((0 : Nat) : Int)) 1
    rw [e1, e2]
    exact Heap.get?_push_size _ rfl
  · have e : b = (s.heap.push { cls := .type "range", data := .fields #[.int lo t, .int hi u, .int 1 v] }).objs.size := by simpa using hb
    subst e
    exact I1.fpOk (Nat.le_refl _) (I1.hok.fresh (Nat.le_refl _))
def iRng1 (ta : TA) : TI := fun σ H R => ta σ H fun vs H1 => ∃ j : Int, vs = [.int j] ∧ -(2 ^ 62) ≤ j ∧ j < 2 ^ 62 ∧ R (Itr 0 j.toNat) H1
theorem pi_range1 {a : Expr} {ta : TA} {p pos : Pos} (hg : Gl X "range") (hm : X.mg "range" = none) (ha : PA X [a] ta) (hs : starEach [a] X.env = [(false, eval a X.env)] := by rfl) : PI X tg (.Call (.Name "range" p) [a] [] pos) (iRng1 ta) := by
  intro pins s σ H R I h
  refine Call_ (ld_blt I hg hm boot_range (PyProof.Rows.callWith_type1 (thn (ha pos pins s σ H _ I h) fun us s1 ⟨vs, H1, I1, r1, q1⟩ => ?_) hs rfl))
  obtain ⟨j, e, q1, q2, q⟩ := q1
  subst e
  cases r1 with
  | cons r rr =>
    cases rr
    obtain ⟨t, rfl⟩ := r
    exact call_range_1 (range_it I1 (by omega) (by omega) q1 q2 (by simpa using q))
def tFor (wi : TI) (g : TG) (tb : TS) : TS := fun D σ H => wi σ H fun J H1 => ∃ W : Nat → Nat → St → Hp → Prop, (∃ m, W 0 m σ H1) ∧ ∀ i m σ H, W i m σ H →
  (J.stop i H ∧ D.nx σ H) ∨ (J.go i H ∧ ∃ N : St → Hp → Prop, (∀ σ' H', N σ' H' → ∃ m', m' < m ∧ W (i + 1) m' σ' H') ∧ ∀ x H', J.yld i H x H' → g x σ H' fun σ2 H2 => tb { D with nx := N, ct := N, bk := D.nx } σ2 H2)
def pinsAt (fp : List Addr) (h : Heap) : List (Addr × Obj) := fp.filterMap fun b => (h.get? b).map fun o => (b, o)
theorem mem_pinsAt {fp : List Addr} {h : Heap} {b : Addr} {o : Obj} (hb : b ∈ fp) (e : h.get? b = some o) : (b, o) ∈ pinsAt fp h := List.mem_filterMap.mpr ⟨b, hb, by rw [e]; rfl⟩
theorem of_pinsAt {fp : List Addr} {h : Heap} {p : Addr × Obj} (hp : p ∈ pinsAt fp h) : p.1 ∈ fp ∧ h.get? p.1 = some p.2 := by
  obtain ⟨b, hb, e⟩ := List.mem_filterMap.mp hp
  cases q : h.get? b with
  | none => rw [q] at e; cases e
  | some o =>
    rw [q] at e
    have e' : (b, o) = p := Option.some.inj e
    subst e'
    exact ⟨hb, q⟩
theorem Inv.pinned {pins : List (Addr × Obj)} {σ : St} {H : Hp} {s : Shared} {fp : List Addr} (I : Inv X pins σ H s) (hf : ∀ b ∈ fp, FpOk X pins H b) (ho : ∀ b ∈ fp, ∃ o, s.heap.get? b = some o ∧ ∀ v, o.data ≠ .cell v) : Inv X (pins ++ pinsAt fp s.heap) σ H s :=
  I.pins_of fun p hp => (List.mem_append.mp hp).elim (fun z => I.pin p (List.mem_append_right _ z)) fun z => by
    obtain ⟨hb, e⟩ := of_pinsAt z
    obtain ⟨f0, f1, f2, _⟩ := hf p.1 hb
    obtain ⟨o, e', d⟩ := ho p.1 hb
    rw [e] at e'; cases e'
    exact ⟨e, f0, f1, f2, d⟩
theorem Inv.unpinned {pins pl : List (Addr × Obj)} {σ : St} {H : Hp} {s : Shared} (I : Inv X (pins ++ pl) σ H s) : Inv X pins σ H s := I.pins_of fun p hp => I.pin p (List.mem_append_right _ (List.mem_append_left _ hp))
theorem ps_for {iter : Expr} {body : List Stmt} {wi : TI} {g : TG} {tb : TS} {pos : Pos} (hp : PassesOwn (model X.prog X.w) X.A X.env X.xe) (hc : X.calm = true) (hi : PI X tg iter wi) (hg : PG X tg g) (hb : PSs X body tb)
    (hs : ∀ x, foldedSetIterable iter X.env x = pure x := by intro _; rfl) : PS X (.For tg iter body [] pos) (tFor wi g tb) := by
  intro pins s σ H D I h
  refine wpAny_For (thn (hi pins s σ H _ I h) fun v s1 h1 => thn h1 fun itv s2 h2 => ?_) hs
  obtain ⟨it, fp, tn, J, H2, e, I2, T, st2, f2, W, ⟨m0, w0⟩, turn⟩ := h2
  subst e
  have stat : ∀ {H' : Hp}, (∀ b ∈ fp, H' b = none) → ∀ b ∈ fp, FpOk X pins H' b := fun hn b hb => ⟨hn b hb, (f2 b hb).2⟩
  refine codeAny_forLoop_any (fun n s' => ∃ i σ' H', Inv X pins σ' H' s' ∧ tn i s'.heap ∧ (∀ b ∈ fp, H' b = none) ∧ W i n σ' H') ?_ m0 ⟨0, σ, H2, I2, st2, fun b hb => (f2 b hb).1, w0⟩
  rintro n s3 ⟨i, σ3, H3, I3, st3, fr3, w3⟩
  rcases turn i n σ3 H3 w3 with ⟨stop, qn⟩ | ⟨go, N, hN, step⟩
  · refine wpAny_passesOwn hp (thn (T.done X rfl rfl rfl hc i pins s3 σ3 H3 X.xe I3 (stat fr3) st3 stop) fun r s4 ⟨hr, I4⟩ => ?_)
    subst hr
    exact wpAny_execs_nil ⟨σ3, H3, I4, qn⟩
  · refine wpAny_passesOwn hp (thn (T.item X rfl rfl rfl hc i pins s3 σ3 H3 X.xe I3 (stat fr3) st3 go) fun r s4 ⟨u, hr, h4⟩ => ?_)
    subst hr
    refine wpAny_passesOwn hp (thn h4 fun _ s5 ⟨x, H5, I5, r5, y5, st5, fr5⟩ => ?_)
    have I5' := I5.pinned (stat fr5) (T.obj _ _ st5)
    refine wpAny_passesOwn hp (thn (hg _ s5 σ3 H5 x u _ I5' r5 (step x H5 y5)) fun _ s6 ⟨σ6, H6, I6, q6⟩ => ?_)
    refine wpAny_passesOwn hp (thn (hb _ s6 σ6 H6 _ I6 q6) fun f s7 q7 => ?_)
    have again : ∀ {σ7 : St} {H7 : Hp}, Inv X (pins ++ pinsAt fp s5.heap) σ7 H7 s7 → N σ7 H7 → ∃ m, m < n ∧ ∃ i σ' H', Inv X pins σ' H' s7 ∧ tn i s7.heap ∧ (∀ b ∈ fp, H' b = none) ∧ W i m σ' H' := fun {σ7 H7} I7 n7 => by
      obtain ⟨m', hm, w7⟩ := hN σ7 H7 n7
      refine ⟨m', hm, i + 1, σ7, H7, I7.unpinned, T.keep _ _ _ st5 fun b hb o e => (I7.pin (b, o) (List.mem_append_right _ (List.mem_append_right _ (mem_pinsAt hb e)))).1, fun b hb => ?_, w7⟩
      obtain ⟨o, e, d⟩ := T.obj _ _ st5 b hb
      exact (I7.pin (b, o) (List.mem_append_right _ (List.mem_append_right _ (mem_pinsAt hb e)))).2.1
    cases f with
    | next => obtain ⟨σ7, H7, I7, n7⟩ := q7; exact again I7 n7
    | cont => obtain ⟨σ7, H7, I7, n7⟩ := q7; exact again I7 n7
    | brk => obtain ⟨σ7, H7, I7, q7⟩ := q7; exact ⟨σ7, H7, I7.unpinned, q7⟩
    | ret v => obtain ⟨x7, σ7, H7, I7, r7, q7⟩ := q7; exact ⟨x7, σ7, H7, I7.unpinned, r7, q7⟩
end
end L2
namespace L2
open PySem PySem.Spec PyProof.Rows
abbrev R2 := V → V → Hp → VK → Prop
def OpR (X : Cx) (f : Value → Value → Sem Value) (r : R2) : Prop :=
  ∀ (pins : List (Addr × Obj)) (s : Shared) (σ : St) (H : Hp) (x y : V) (v u : Value) (Q : VK), Inv X pins σ H s → RelV x v → RelV y u → r x y H Q →
    wpAny (model X.prog X.w) X.A (f v u) (EP X pins σ Q) X.xe s
def UnR (X : Cx) (f : Value → Sem Value) (r : V → Hp → VK → Prop) : Prop :=
  ∀ (pins : List (Addr × Obj)) (s : Shared) (σ : St) (H : Hp) (x : V) (v : Value) (Q : VK), Inv X pins σ H s → RelV x v → r x H Q →
    wpAny (model X.prog X.w) X.A (f v) (EP X pins σ Q) X.xe s
def CallR (X : Cx) (f : Value) (r : List V → Hp → VK → Prop) : Prop :=
  ∀ (pins : List (Addr × Obj)) (s : Shared) (σ : St) (H : Hp) (xs : List V) (us : List Value) (Q : VK), Inv X pins σ H s → Vals xs us → r xs H Q →
    wpAny (model X.prog X.w) X.A (call f us) (EP X pins σ Q) X.xe s
def tOp (r : R2) (ta tb : TE) : TE := fun σ H Q => ta σ H fun x H1 => tb σ H1 fun y H2 => r x y H2 Q
def tUn (r : V → Hp → VK → Prop) (ta : TE) : TE := fun σ H Q => ta σ H fun x H1 => r x H1 Q
def rI (C : Int → Int → Prop) (g : Int → Int → V) : R2 := fun x y H Q => ∃ i j, x = .int i ∧ y = .int j ∧ C i j ∧ Q (g i j) H
def rI0 (g : Int → Int → V) : R2 := fun x y H Q => ∃ i j, x = .int i ∧ y = .int j ∧ Q (g i j) H
def rU (g : Int → V) : V → Hp → VK → Prop := fun x H Q => ∃ i, x = .int i ∧ Q (g i) H
section
variable {X : Cx} {a b c : Expr} {ta tb tc : TE} {pos : Pos}
theorem binT (ha : PE X a ta) (hb : PE X b tb) {pins : List (Addr × Obj)} {s : Shared} {σ : St} {H : Hp} {R : V → V → Hp → Prop} (I : Inv X pins σ H s)
    (h : ta σ H fun x H1 => tb σ H1 fun y H2 => R x y H2) {Q : Value → Shared → Prop} {f : Value → Value → Sem Value}
    (hf : ∀ v u s2 x y H2, Inv X pins σ H2 s2 → RelV x v → RelV y u → R x y H2 → wpAny (model X.prog X.w) X.A (f v u) Q X.xe s2) :
    wpAny (model X.prog X.w) X.A (eval a X.env) (fun v s₁ => wpAny (model X.prog X.w) X.A (eval b X.env) (fun u s₂ => wpAny (model X.prog X.w) X.A (f v u) Q X.xe s₂) X.xe s₁) X.xe s := by
  refine thn (ha pins s σ H _ I h) fun v s1 ⟨x, H1, I1, r1, q1⟩ => ?_
  refine thn (hb pins s1 σ H1 _ I1 q1) fun u s2 ⟨y, H2, I2, r2, q2⟩ => ?_
  exact hf v u s2 x y H2 I2 r1 r2 q2
theorem pe_op {op : Operator} {r : R2} (ho : OpR X (binaryOp op) r) (ha : PE X a ta) (hb : PE X b tb) : PE X (.BinOp a op b pos) (tOp r ta tb) := by
  intro pins s σ H Q I h
  exact wpAny_BinOp (binT ha hb I h fun v u s2 x y H2 I2 rx ry q => ho pins s2 σ H2 x y v u Q I2 rx ry q)
theorem pe_un {op : UnaryOp} {r : V → Hp → VK → Prop} (ho : UnR X (unaryOp op) r) (ha : PE X a ta) : PE X (.UnaryOp op a pos) (tUn r ta) := by
  intro pins s σ H Q I h
  exact UnaryOp_ (thn (ha pins s σ H _ I h) fun v s1 ⟨x, H1, I1, r1, q1⟩ => ho pins s1 σ H1 x v Q I1 r1 q1)
theorem opI {f : Value → Value → Sem Value} {C : Int → Int → Prop} {g : Int → Int → Int}
    (rule : ∀ (i j : Int) (t u : Tok) (s : Shared) (Q : Value → Shared → Prop) (E : Value → Shared → Prop), C i j → Q (.int (g i j) s.toks) { s with toks := s.toks + 1 } → wpAny (model X.prog X.w) X.A (f (.int i t) (.int j u)) Q E s) :
    OpR X f (rI C fun i j => .int (g i j)) := by
  intro pins s σ H x y v u Q I rx ry h
  obtain ⟨i, j, rfl, rfl, hc, q⟩ := h
  obtain ⟨t, rfl⟩ := rx
  obtain ⟨t', rfl⟩ := ry
  exact rule i j t t' s _ _ hc ⟨.int (g i j), H, I.tok _, ⟨_, rfl⟩, q⟩
theorem opI0 {f : Value → Value → Sem Value} {g : Int → Int → Int}
    (rule : ∀ (i j : Int) (t u : Tok) (s : Shared) (Q : Value → Shared → Prop) (E : Value → Shared → Prop), Q (.int (g i j) s.toks) { s with toks := s.toks + 1 } → wpAny (model X.prog X.w) X.A (f (.int i t) (.int j u)) Q E s) :
    OpR X f (rI0 fun i j => .int (g i j)) := by
  intro pins s σ H x y v u Q I rx ry h
  obtain ⟨i, j, rfl, rfl, q⟩ := h
  obtain ⟨t, rfl⟩ := rx
  obtain ⟨t', rfl⟩ := ry
  exact rule i j t t' s _ _ ⟨.int (g i j), H, I.tok _, ⟨_, rfl⟩, q⟩
theorem opB0 {f : Value → Value → Sem Value} {g : Int → Int → Bool}
    (rule : ∀ (i j : Int) (t u : Tok) (s : Shared) (Q : Value → Shared → Prop) (E : Value → Shared → Prop), Q (.bool (g i j)) s → wpAny (model X.prog X.w) X.A (f (.int i t) (.int j u)) Q E s) :
    OpR X f (rI0 fun i j => .bl (g i j)) := by
  intro pins s σ H x y v u Q I rx ry h
  obtain ⟨i, j, rfl, rfl, q⟩ := h
  obtain ⟨t, rfl⟩ := rx
  obtain ⟨t', rfl⟩ := ry
  exact rule i j t t' s _ _ ⟨.bl (g i j), H, I, rfl, q⟩
def CDiv (i j : Int) : Prop := 0 < j ∧ j < 1073741824
def CPow (i j : Int) : Prop := 0 ≤ j ∧ j ≤ 1000000 ∧ i.natAbs < 2 ^ 64
theorem op_add : OpR X (binaryOp .Add) (rI0 fun i j => .int (i + j)) := opI0 fun _ _ _ _ _ _ _ q => add_int q
theorem op_sub : OpR X (binaryOp .Sub) (rI0 fun i j => .int (i - j)) := opI0 fun _ _ _ _ _ _ _ q => sub_int q
theorem op_fdiv : OpR X (binaryOp .FloorDiv) (rI CDiv fun i j => .int (i / j)) := opI fun i j _ _ _ _ _ hc q => by
  have h1 : (0 : Int) < j := hc.1
  have h2 : j < 1073741824 := hc.2
  exact floordiv_int (by omega) (by rw [Int.fdiv_eq_ediv_of_nonneg i (by omega)]; exact q) (.inl (PyProof.noPylong_small (by omega)))
theorem op_mod : OpR X (binaryOp .Mod) (rI (fun _ j => 0 < j) fun i j => .int (i % j)) := opI fun i j _ _ _ _ _ hc q => by
  have h1 : (0 : Int) < j := hc
  exact mod_int' (by omega) (by rw [Int.fmod_eq_emod_of_nonneg i (by omega)]; exact q)
theorem op_pow : OpR X (binaryOp .Pow) (rI CPow fun i j => .int (i ^ j.toNat)) := opI fun _ _ _ _ _ _ _ hc q => pow_int_small hc.1 hc.2.1 hc.2.2 q
theorem unI {f : Value → Sem Value} {g : Int → Int}
    (rule : ∀ (i : Int) (t : Tok) (s : Shared) (Q : Value → Shared → Prop) (E : Value → Shared → Prop), Q (.int (g i) s.toks) { s with toks := s.toks + 1 } → wpAny (model X.prog X.w) X.A (f (.int i t)) Q E s) :
    UnR X f (rU fun i => .int (g i)) := by
  intro pins s σ H x v Q I rx h
  obtain ⟨i, rfl, q⟩ := h
  obtain ⟨t, rfl⟩ := rx
  exact rule i t s _ _ ⟨.int (g i), H, I.tok _, ⟨_, rfl⟩, q⟩
theorem un_neg : UnR X (unaryOp .USub) (rU fun i => .int (-i)) := unI fun _ _ _ _ _ q => neg_int q
end
def scal : V → V → Bool
  | .non, .non => true | .non, .int _ => true | .int _, .non => true | .non, .bl _ => true | .bl _, .non => true | .non, .str _ => true | .str _, .non => true
  | .int _, .int _ => true | .bl _, .bl _ => true | .str _, .str _ => true | .byt _, .byt _ => true
  | .int _, .str _ => true | .str _, .int _ => true | .bl _, .str _ => true | .str _, .bl _ => true
  | _, _ => false
def rEq : R2 := fun x y H Q => scal x y = true ∧ Q (.bl (decide (x = y))) H
def rNe : R2 := fun x y H Q => scal x y = true ∧ Q (.bl (!decide (x = y))) H
theorem dec_int {i j : Int} : decide (V.int i = V.int j) = (i == j) := by
  rw [Bool.eq_iff_iff]
  simp
theorem dec_bl {i j : Bool} : decide (V.bl i = V.bl j) = (i == j) := by
  rw [Bool.eq_iff_iff]
  simp
theorem dec_str {i j : Str} : decide (V.str i = V.str j) = (i == j) := by
  rw [Bool.eq_iff_iff]
  simp
theorem dec_byt {i j : Array UInt8} : decide (V.byt i = V.byt j) = (i.toList == j.toList) := by
  rw [Bool.eq_iff_iff]
  cases i
  cases j
  simp
section
variable {X : Cx} {a b c : Expr} {ta tb tc : TE} {pos : Pos}
theorem fin_bl {pins : List (Addr × Obj)} {σ : St} {H : Hp} {s : Shared} {Q : VK} {k k' : Bool} (I : Inv X pins σ H s) (q : Q (.bl k) H) (e : k = k') : EP X pins σ Q (.bool k') s := by
  subst e
  exact ⟨.bl k, H, I, rfl, q⟩
theorem op_eq : OpR X (compareOp .Eq) rEq := by
  intro pins s σ H x y v u Q I rx ry h
  obtain ⟨hs, q⟩ := h
  cases x with
  | non =>
    cases rx
    cases y with
    | non => cases ry; exact PySem.EqNone.eq_none_none (fin_bl I q (by simp))
    | bl j => cases ry; exact PySem.EqNone.eq_none_bool (fin_bl I q (by simp))
    | int j => obtain ⟨t', rfl⟩ := ry; exact PySem.EqNone.eq_none_int (fin_bl I q (by simp))
    | str j => obtain ⟨t', rfl⟩ := ry; exact PySem.EqNone.eq_none_str (fin_bl I q (by simp))
    | _ => exact absurd (show false = true from hs) Bool.false_ne_true
  | bl i =>
    cases rx
    cases y with
    | non => cases ry; exact PySem.EqNone.eq_bool_none (fin_bl I q (by simp))
    | bl j => cases ry; exact eq_bool (fin_bl I q dec_bl)
    | str j => obtain ⟨t', rfl⟩ := ry; exact PySem.EqMixed.eq_bool_str (fin_bl I q (by simp))
    | _ => exact absurd (show false = true from hs) Bool.false_ne_true
  | int i =>
    obtain ⟨t, rfl⟩ := rx
    cases y with
    | non => cases ry; exact PySem.EqNone.eq_int_none (fin_bl I q (by simp))
    | int j => obtain ⟨t', rfl⟩ := ry; exact eq_int (fin_bl I q dec_int)
    | str j => obtain ⟨t', rfl⟩ := ry; exact PySem.EqMixed.eq_int_str (fin_bl I q (by simp))
    | _ => exact absurd (show false = true from hs) Bool.false_ne_true
  | str i =>
    obtain ⟨t, rfl⟩ := rx
    cases y with
    | non => cases ry; exact PySem.EqNone.eq_str_none (fin_bl I q (by simp))
    | bl j => cases ry; exact PySem.EqMixed.eq_str_bool (fin_bl I q (by simp))
    | int j => obtain ⟨t', rfl⟩ := ry; exact PySem.EqMixed.eq_str_int (fin_bl I q (by simp))
    | str j => obtain ⟨t', rfl⟩ := ry; exact eq_str (fin_bl I q dec_str)
    | _ => exact absurd (show false = true from hs) Bool.false_ne_true
  | byt i =>
    obtain ⟨t, rfl⟩ := rx
    cases y with
    | byt j => obtain ⟨t', rfl⟩ := ry; exact PySem.W.eq_bytes (fin_bl I q dec_byt)
    | _ => exact absurd (show false = true from hs) Bool.false_ne_true
  | _ => cases y <;> exact absurd (show false = true from hs) Bool.false_ne_true
theorem op_ne : OpR X (compareOp .NotEq) rNe := by
  intro pins s σ H x y v u Q I rx ry h
  obtain ⟨hs, q⟩ := h
  cases x with
  | non =>
    cases rx
    cases y with
    | non => cases ry; exact PySem.EqNone.ne_none_none (fin_bl I q (by simp))
    | bl j => cases ry; exact PySem.EqNone.ne_none_bool (fin_bl I q (by simp))
    | int j => obtain ⟨t', rfl⟩ := ry; exact PySem.EqNone.ne_none_int (fin_bl I q (by simp))
    | str j => obtain ⟨t', rfl⟩ := ry; exact PySem.EqNone.ne_none_str (fin_bl I q (by simp))
    | _ => exact absurd (show false = true from hs) Bool.false_ne_true
  | bl i =>
    cases rx
    cases y with
    | non => cases ry; exact PySem.EqNone.ne_bool_none (fin_bl I q (by simp))
    | bl j => cases ry; exact ne_bool (fin_bl I q (congrArg not dec_bl))
    | str j => obtain ⟨t', rfl⟩ := ry; exact PySem.EqMixed.ne_bool_str (fin_bl I q (by simp))
    | _ => exact absurd (show false = true from hs) Bool.false_ne_true
  | int i =>
    obtain ⟨t, rfl⟩ := rx
    cases y with
    | non => cases ry; exact PySem.EqNone.ne_int_none (fin_bl I q (by simp))
    | int j => obtain ⟨t', rfl⟩ := ry; exact ne_int (fin_bl I q (congrArg not dec_int))
    | str j => obtain ⟨t', rfl⟩ := ry; exact PySem.EqMixed.ne_int_str (fin_bl I q (by simp))
    | _ => exact absurd (show false = true from hs) Bool.false_ne_true
  | str i =>
    obtain ⟨t, rfl⟩ := rx
    cases y with
    | non => cases ry; exact PySem.EqNone.ne_str_none (fin_bl I q (by simp))
    | bl j => cases ry; exact PySem.EqMixed.ne_str_bool (fin_bl I q (by simp))
    | int j => obtain ⟨t', rfl⟩ := ry; exact PySem.EqMixed.ne_str_int (fin_bl I q (by simp))
    | str j => obtain ⟨t', rfl⟩ := ry; exact ne_str (fin_bl I q (congrArg not dec_str))
    | _ => exact absurd (show false = true from hs) Bool.false_ne_true
  | byt i =>
    obtain ⟨t, rfl⟩ := rx
    cases y with
    | byt j => obtain ⟨t', rfl⟩ := ry; exact PySem.W.ne_bytes (fin_bl I q (congrArg not dec_byt))
    | _ => exact absurd (show false = true from hs) Bool.false_ne_true
  | _ => cases y <;> exact absurd (show false = true from hs) Bool.false_ne_true
theorem op_lt : OpR X (compareOp .Lt) (rI0 fun i j => .bl (decide (i < j))) := opB0 fun _ _ _ _ _ _ _ q => lt_int q
theorem op_gt : OpR X (compareOp .Gt) (rI0 fun i j => .bl (decide (j < i))) := opB0 fun _ _ _ _ _ _ _ q => gt_int q
theorem op_ge : OpR X (compareOp .GtE) (rI0 fun i j => .bl (decide (j ≤ i))) := opB0 fun _ _ _ _ _ _ _ q => ge_int q
theorem nomark (b : Expr) {op : CmpOp} (h : op ≠ .In := by decide) (h2 : op ≠ .NotIn := by decide) : behindInMarks op b = false := by
  have e1 : (op == CmpOp.In) = false := by cases op <;> first | rfl | exact absurd rfl h
  have e2 : (op == CmpOp.NotIn) = false := by cases op <;> first | rfl | exact absurd rfl h2
  cases b <;> simp [behindInMarks, e1, e2]
theorem pe_cmpR {op : CmpOp} {r : R2} (ho : OpR X (compareOp op) r) (ha : PE X a ta) (hb : PE X b tb) (hm : behindInMarks op b = false) : PE X (.Compare a [op] [b] pos) (tOp r ta tb) := by
  intro pins s σ H Q I h
  exact wpAny_Compare1 (binT ha hb I h fun v u s2 x y H2 I2 rx ry q => ho pins s2 σ H2 x y v u Q I2 rx ry q) hm
def tTest (t : TE) : TT := fun σ H Q => t σ H fun x H' => ∃ k, x = .bl k ∧ Q k H'
theorem pt_cmpR {op : CmpOp} {r : R2} (ho : OpR X (compareOp op) r) (ha : PE X a ta) (hb : PE X b tb) (hm : behindInMarks op b = false) : PT X (.Compare a [op] [b] pos) (tTest (tOp r ta tb)) := by
  intro pins s σ H Q I h
  refine wpAny_isTrue_Compare1 (thn (ha pins s σ H _ I h) fun v s1 ⟨x, H1, I1, r1, q1⟩ => thn (hb pins s1 σ H1 _ I1 q1) fun u s2 ⟨y, H2, I2, r2, q2⟩ =>
    thn (ho pins s2 σ H2 x y v u _ I2 r1 r2 q2) fun c s3 ⟨z, H3, I3, r3, k, e, q3⟩ => ?_) hm
  subst e
  cases r3
  exact wpAny_truthy_bool ⟨H3, I3, q3⟩
theorem line63 : (sizeLine : Nat) < 2 ^ 63 := by rw [sizeLine_eq]; decide
theorem vals1 {x : V} {us : List Value} (r : Vals [x] us) : ∃ u, us = [u] ∧ RelV x u := by
  cases r with
  | cons r1 r2 => cases r2; exact ⟨_, rfl, r1⟩
theorem vals2 {x y : V} {us : List Value} (r : Vals [x, y] us) : ∃ u w', us = [u, w'] ∧ RelV x u ∧ RelV y w' := by
  cases r with
  | cons r1 r2 =>
    cases r2 with
    | cons r3 r4 => cases r4; exact ⟨_, _, rfl, r1, r3⟩
end
end L2
namespace L2
open PySem PySem.Spec PyProof.Rows
structure ObjM (h : Heap) (x dx C : Addr) (mA : Str → Option Value) : Prop where
  obj : h.get? x = some (PySem.W.instObj C dx)
  ns : h.Ns1 dx mA
  ne : dx ≠ x
theorem lookIn_ns {h : Heap} {dx : Addr} {mA : Str → Option Value} (n : h.Ns1 dx mA) : ∃ od, h.get? dx = some od ∧ ∀ name, PySem.W.lookIn name od = some (mA name) := by
  obtain ⟨o, es, ep, ho, hd, hk, _, hm⟩ := n
  refine ⟨o, ho, fun name => ?_⟩
  have e := hm name
  unfold nsFind findBy at e
  rw [← Array.find?_toList] at e
  unfold PySem.W.lookIn
  rw [hd]
  dsimp only
  split
  · rename_i y q
    rw [q] at e
    exact congrArg some e
  · rename_i q
    rw [q] at e
    have a : es.toList.any (·.refKey) = false := by
      rw [List.any_eq_false]
      intro y hy
      obtain ⟨z, t, hkey⟩ := hk y (Array.mem_toList_iff.mp hy)
      simp [DictEntry.refKey, hkey]
    have a' : ¬ es.toList.any (·.refKey) = true := by rw [a]; exact Bool.false_ne_true
    rw [if_neg a']
    exact congrArg some e
theorem ObjM.look {h : Heap} {x dx C : Addr} {mA : Str → Option Value} (I : ObjM h x dx C mA) : ∃ od, PySem.W.InstAt h x (PySem.W.instObj C dx) C (some od) ∧ ∀ name, PySem.W.lookIn name od = some (mA name) :=
  let ⟨od, ho, hl⟩ := lookIn_ns I.ns
  ⟨od, ⟨I.obj, rfl, rfl, ho⟩, hl⟩
section
variable {prog : Program} {w : World} {A : Around} {E : Value → Shared → Prop} {s : Shared} {K : PySem.W.Frag} {x dx C f : Addr} {mA : Str → Option Value} {name : Str} {v : Value}
end
section
variable {P : Program} {w : World} {H H' : Hp} {h h' : Heap} {a C dx : Addr} {fs fs' : List (Str × V)}
theorem ins_get (hok : HOk P w H h) (e : H a = some (.ins C dx fs)) : ∃ mA, ObjM h a dx C mA ∧ (∀ f, RelO (fs.lookup f) (mA f)) ∧ PySem.Within mA (fs.map (·.1)) ∧ fs.length ≤ 1000 ∧ H dx = some (.own a) := by
  obtain ⟨d, z, ne, ob, mA, n, r, q⟩ := (show ObjOk P w H h a (.ins C dx fs) from hok a _ e)
  exact ⟨mA, ⟨ob, n, ne⟩, r, q, z, d⟩
end
structure Cls (K : PySem.W.Frag) (C : Addr) : Prop where
  pg : PySem.W.plainGet K C Str.empty = true
  hd : PySem.W.hasDictIn K C = true
  po : PySem.W.plainOver K C = true
  sa : PySem.W.findIn K (.ref C) "__setattr__" = some (some (.builtin "object.__setattr__"))
theorem Cls.get {K : PySem.W.Frag} {C : Addr} (c : Cls K C) (f : Str) : PySem.W.plainGet K C f = true := c.pg
section
variable {X : Cx} {pins : List (Addr × Obj)} {σ : St} {H : Hp} {s : Shared} {a C dx : Addr} {fs : List (Str × V)} {f : Str} {v : V} {A : Around} {E : Value → Shared → Prop}
end
section
variable {X : Cx} {o e value : Expr} {f : Str} {pos pos' tpos : Pos} {ta tv : TE}
end
section
variable {X : Cx} {pins : List (Addr × Obj)} {σ : St} {H : Hp} {s : Shared} {A : Around} {E : Value → Shared → Prop} {Q : Value → Shared → Prop} {c : Value} {b : Bool}
inductive TyOf (K : PySem.W.Frag) (H : Hp) : V → Value → Prop where
  | non : TyOf K H .non (.type "NoneType")
  | bl (x : Bool) : TyOf K H (.bl x) (.type "bool")
  | int (i : Int) : TyOf K H (.int i) (.type "int")
  | str (x : Str) : TyOf K H (.str x) (.type "str")
  | flt (x : UInt64) : TyOf K H (.flt x) (.type "float")
  | lst {a : Addr} {xs : List V} (e : H a = some (.lst xs)) : TyOf K H (.ref a) (.type "list")
  | frz {a : Addr} {o : Obj} {xs : List V} (e : H a = some (.frz o (.lst xs))) : TyOf K H (.ref a) (.type "list")
  | tup {a : Addr} {xs : List V} (e : H a = some (.tup xs)) : TyOf K H (.ref a) (.type "tuple")
  | dK {a : Addr} {kvs : List (Key × V)} (e : H a = some (.dK kvs)) : TyOf K H (.ref a) (.type "dict")
  | dT {a : Addr} {kvs : List (List Key × V)} (e : H a = some (.dT kvs)) : TyOf K H (.ref a) (.type "dict")
  | ins {a C dx : Addr} {fs : List (Str × V)} (e : H a = some (.ins C dx fs)) (cl : Cls K C) (ha : PySem.W.findIn K (.ref C) "__class__" = some (some (.builtin "object.__class__")))
      (hn : PySem.W.specialIn K (.builtin "object.__class__") "__get__" = some (some (.builtin "getset_descriptor.__get__"))) (htk : PySem.W.takesIn K (.builtin "object.__class__") = some true)
      (hm : PySem.W.mroIn K C (.type "object") = some true) : TyOf K H (.ref a) (.ref C)
theorem isinst_ok {x : V} {u t : Value} (I : Inv X pins σ H s) (rx : RelV x u) (ty : TyOf X.K H x t) (e : PySem.W.kitOne X.K t c = some b) (h : ∀ tk, Q (.bool b) { s with toks := tk }) :
    wpAny (model X.prog X.w) A (call (.builtin "isinstance") [u, c]) Q E s := by
  cases ty with
  | non => cases (show u = Value.none from rx); exact PySem.W.kia_one PySem.W.kitx_none I.kIn True.intro e (fun z => nomatch z) h
  | bl y => cases (show u = Value.bool y from rx); exact PySem.W.kia_one PySem.W.kitx_bool I.kIn True.intro e (fun z => nomatch z) h
  | int i => obtain ⟨t, q⟩ := (show ∃ t, u = Value.int i t from rx); cases q; exact PySem.W.kia_one PySem.W.kitx_int I.kIn True.intro e (fun z => nomatch z) h
  | str y => obtain ⟨t, q⟩ := (show ∃ t, u = Value.str y t from rx); cases q; exact PySem.W.kia_one PySem.W.kitx_str I.kIn True.intro e (fun z => nomatch z) h
  | flt y => obtain ⟨t, q⟩ := (show ∃ t, u = Value.float y t from rx); cases q; exact PySem.W.kia_one PySem.W.kitx_float I.kIn True.intro e (fun z => nomatch z) h
  | @lst a xs ea =>
    cases (show u = Value.ref a from rx)
    obtain ⟨_, _, n, _, h1⟩ := (show ObjOk X.prog X.w H s.heap a (.lst xs) from I.hok a _ ea)
    exact PySem.W.kia_one PySem.W.kitx_list I.kIn ⟨_, h1, rfl⟩ e (fun z => nomatch z) h
  | @frz a ob xs ea =>
    cases (show u = Value.ref a from rx)
    obtain ⟨_, _, _, n, _, h1⟩ := (show ObjOk X.prog X.w H s.heap a (.frz ob (.lst xs)) from I.hok a _ ea)
    exact PySem.W.kia_one PySem.W.kitx_list I.kIn ⟨_, h1, rfl⟩ e (fun z => nomatch z) h
  | @tup a xs ea =>
    cases (show u = Value.ref a from rx)
    obtain ⟨_, _, _, p⟩ := (show ObjOk X.prog X.w H s.heap a (.tup xs) from I.hok a _ ea)
    obtain ⟨o, h1, h2, _⟩ := p
    exact PySem.W.kia_one PySem.W.kitx_tuple I.kIn ⟨o, h1, h2⟩ e (fun z => nomatch z) h
  | @dK a kvs ea =>
    cases (show u = Value.ref a from rx)
    obtain ⟨_, _, vs, _, p⟩ := (show ObjOk X.prog X.w H s.heap a (.dK kvs) from I.hok a _ ea)
    obtain ⟨o, es, ep, h1, h2, _⟩ := p
    exact PySem.W.kia_one PySem.W.kitx_dict I.kIn ⟨o, h1, h2.1⟩ e (fun z => nomatch z) h
  | @dT a kvs ea =>
    cases (show u = Value.ref a from rx)
    obtain ⟨_, _, xs, _, o, es, ep, h1, h2, _⟩ := (show ObjOk X.prog X.w H s.heap a (.dT kvs) from I.hok a _ ea)
    exact PySem.W.kia_one PySem.W.kitx_dict I.kIn ⟨o, h1, h2.1⟩ e (fun z => nomatch z) h
  | @ins a C dx fs ea cl ha hn htk hm =>
    cases (show u = Value.ref a from rx)
    obtain ⟨mA, O, _⟩ := ins_get I.hok ea
    obtain ⟨od, J, _⟩ := O.look
    exact PySem.W.kia_one (PySem.W.kitx_own (cl.get _) cl.hd ha hn htk hm) I.kIn J e (fun z => nomatch z) h
end
end L2
namespace L2
open PySem PySem.Spec PyProof.Rows
structure Room (k : Nat) (A : Around) : Prop where
  hd : A.handled = none
  dp : A.depth + 3 * k + 5 < recursionLimit
  un : A.units + 16 * k + 200 < cLine
theorem Room.mono {j k : Nat} {A : Around} (r : Room k A) (h : j ≤ k) : Room j A := ⟨r.hd, by have := r.dp; omega, by have := r.un; omega⟩
theorem Room.deeper {k : Nat} {A : Around} (r : Room (k + 1) A) (env : Env) : Room k (A.deeper env) :=
  ⟨r.hd, by have := r.dp; show A.depth + 1 + 3 * k + 5 < _; omega, by have := r.un; show A.units + 3 + 16 * k + 200 < _; omega⟩
theorem Room.depth {k : Nat} {A : Around} (r : Room k A) : A.depth < recursionLimit := by have := r.dp; omega
theorem Room.units {k : Nat} {A : Around} (r : Room k A) : A.units + 64 < cLine := by have := r.un; omega
def tNil : TA := fun _ H Q => Q [] H
def tCons (ta : TE) (tr : TA) : TA := fun σ H Q => ta σ H fun x H1 => tr σ H1 fun xs H2 => Q (x :: xs) H2
section
variable {X : Cx} {e : Expr} {es : List Expr} {te : TE} {t : TA} {pos : Pos}
theorem pa_nil : PA X [] tNil := fun _ _ _ _ H Q I h => Calls.spliced_nil ⟨[], H, I, .nil, h⟩
theorem pa_cons (ha : PE X e te) (hr : PA X es t) (hs : starEach (e :: es) X.env = (false, eval e X.env) :: starEach es X.env := by rfl) : PA X (e :: es) (tCons te t) := by
  intro pos pins s σ H Q I h
  rw [hs]
  show wpAny _ _ (spliced ((false, eval e X.env) :: backTo pos (starEach es X.env))) _ _ s
  refine Calls.spliced_cons (thn (ha pins s σ H _ I h) fun u s1 ⟨x, H1, I1, r1, q1⟩ => ?_)
  exact thn (hr pos pins s1 σ H1 _ I1 q1) fun us s2 ⟨xs, H2, I2, r2, q2⟩ => ⟨x :: xs, H2, I2, .cons r1 r2, q2⟩
def tTup (t : TA) : TE := fun σ H Q => t σ H fun xs H1 => xs.length ≤ sizeLine ∧ ∀ p, H1 p = none → Q (.ref p) (upd H1 p (.tup xs))
def tLst (t : TA) : TE := fun σ H Q => t σ H fun xs H1 => xs.length ≤ sizeLine ∧ ∀ p, H1 p = none → Q (.ref p) (upd H1 p (.lst xs))
theorem pe_tup {x1} (h : PA X es t) : PE X (.Tuple es x1 pos) (tTup t) := by
  intro pins s σ H Q I hq
  refine wpAny_Tuple_spliced (thn (h pos pins s σ H _ I hq) fun us s1 ⟨xs, H1, I1, r, z, q⟩ => ⟨by rw [← r.length]; exact z, ?_⟩)
  have hf : H1 s1.heap.objs.size = none := I1.hok.fresh (Nat.le_refl _)
  refine ⟨.ref s1.heap.objs.size, upd H1 s1.heap.objs.size (.tup xs), I1.laid (t' := s1.toks) (fun b u e => Heap.get?_push_of_some _ e) (Nat.le_refl _) ?_, rfl, q _ hf⟩
  exact ⟨z, us, r, ⟨_, Heap.get?_push_size _ rfl, rfl, _, rfl⟩⟩
theorem pe_lst (h : PA X es t) : PE X (.List es pos) (tLst t) := by
  intro pins s σ H Q I hq
  refine wpAny_List_spliced (thn (h pos pins s σ H _ I hq) fun us s1 ⟨xs, H1, I1, r, z, q⟩ => ⟨by rw [← r.length]; exact z, ?_⟩)
  have hf : H1 s1.heap.objs.size = none := I1.hok.fresh (Nat.le_refl _)
  refine ⟨.ref s1.heap.objs.size, upd H1 s1.heap.objs.size (.lst xs), I1.laid (t' := s1.toks) (fun b u e => Heap.get?_push_of_some _ e) (Nat.le_refl _) ?_, rfl, q _ hf⟩
  exact ⟨z, us, 0, r, Heap.get?_push_size _ rfl⟩
end
abbrev Sp := List V → Hp → VK → XK → Prop
abbrev CXT := List Env → Hp → Shared → XK → Value → Shared → Prop
structure Env0 (P : Program) (w : World) (K : PySem.W.Frag) (mg : Str → Option Value) (base : Heap) (A : Around) (outer : List Env) (s : Shared) (H : Hp) : Prop where
  frames : A.frames = some outer
  mod : Mod K mg base
  bs : ∀ b o, base.get? b = some o → s.heap.get? b = some o ∧ H b = none
  bsz : base.objs.size ≤ s.heap.objs.size
  funs : s.heap.FunFrames base outer
  frf : ∀ b ∈ frs outer, H b = none
  hok : HOk P w H s.heap
  bare : AllBare s.gens
def CE (outer : List Env) (P : Program) (w : World) (H : Hp) (s : Shared) (Q : VK) (u : Value) (s' : Shared) : Prop :=
  ∃ v H', s'.os = s.os ∧ AllBare s'.gens ∧ Un (frs outer) [] H H' s.heap s'.heap ∧ HOk P w H' s'.heap ∧ RelV v u ∧ Q v H'
def CR (CX : CXT) (outer : List Env) (P : Program) (w : World) (H : Hp) (s : Shared) (Q : VK) (E : XK) (r : Result) (s' : Shared) : Prop :=
  match r with
  | .ok (.ret u) => CE outer P w H s Q u s'
  | .ok _ => False
  | .error e => CX outer H s E e s'
structure FnOk (P : Program) (w : World) (K : PySem.W.Frag) (mg : Str → Option Value) (base : Heap) (CX : CXT) (k : Nat) (f : Addr) (fd : FuncData) (ps : List Str) (sp : Sp) : Prop where
  len : ∀ vs H Q E, sp vs H Q E → vs.length = ps.length
  run : ∀ (A : Around) (outer : List Env) (s : Shared) (H : Hp) (args : Args) (us : List Value) (vs : List V) (Q : VK) (E : XK), Room k A → Env0 P w K mg base A outer s H → BindsTo s fd args (ps.zip us) → Vals vs us → sp vs H Q E →
    codeAny (model P w) A (.call (.ref f) args) (CR CX outer P w H s Q E) s
theorem FnOk.imp {P : Program} {w : World} {K : PySem.W.Frag} {mg : Str → Option Value} {base : Heap} {CX : CXT} {k : Nat} {f : Addr} {fd : FuncData} {ps : List Str} {sp sp' : Sp} (F : FnOk P w K mg base CX k f fd ps sp)
    (h : ∀ vs H Q E, sp' vs H Q E → sp vs H Q E) : FnOk P w K mg base CX k f fd ps sp' :=
  ⟨fun vs H Q E q => F.len vs H Q E (h _ _ _ _ q), fun A outer s H args us vs Q E hr he hb hv hs => F.run A outer s H args us vs Q E hr he hb hv (h _ _ _ _ hs)⟩
section
variable {X : Cx} {pins : List (Addr × Obj)} {σ : St} {H : Hp} {s s' : Shared}
theorem Inv.env0 (I : Inv X pins σ H s) : Env0 X.prog X.w X.K X.mg X.base X.A X.stack s H :=
  ⟨I.ok.frames, I.ok.mod, I.bs, Nat.le_trans I.ok.bsz I.sz, I.stack, I.stkFree, I.hok, I.bare⟩
theorem Inv.after {Q : VK} {u : Value} (I : Inv X pins σ H s) (h : CE X.stack X.prog X.w H s Q u s') : EP X pins σ Q u s' := by
  obtain ⟨v, H', os, bare, un, hok, r, q⟩ := h
  obtain ⟨hh, g, d, t, os'⟩ := s'
  obtain rfl : os' = s.os := os
  exact ⟨v, H', I.call (h' := hh) (g' := g) (d' := d) (t' := t) (ch := []) un hok bare (fun b z => absurd z (by simp)), r, q⟩
end
def tCall (sp : Sp) (dvs : List V) (E : XK) (t : TA) : TE := fun σ H Q => t σ H fun vs H1 => sp (vs ++ dvs) H1 Q E
def Binds (K : PySem.W.Frag) (fd : FuncData) (ps : List Str) (ds : List Value) : Prop :=
  ∀ (s : Shared) (us : List Value), K.In s.heap → (us ++ ds).length = ps.length → BindsTo s fd ⟨us, []⟩ (ps.zip (us ++ ds))
theorem Binds.all {K : PySem.W.Frag} {fd : FuncData} {ps : List Str} (h : ∀ us : List Value, us.length = ps.length → bindArgs fd ⟨us, []⟩ = pure (ps.zip us)) : Binds K fd ps [] := fun s us _ hl => by
  rw [List.append_nil] at hl ⊢
  exact .of_eq (h us hl)
def Passes (CX : CXT) (X : Cx) (E : XK) : Prop := ∀ (pins : List (Addr × Obj)) (σ : St) (H : Hp) (s : Shared) (e : Value) (s' : Shared), Inv X pins σ H s → CX X.stack H s E e s' → X.xe e s'
section
variable {X : Cx} {CX : CXT} {k : Nat} {f C : Addr} {fd : FuncData} {ps : List Str} {sp : Sp} {dvs : List V} {ds : List Value} {E : XK} {x m : Str} {p pos apos : Pos} {e o : Expr} {es : List Expr} {ta : TE} {t : TA}
theorem run_fn {pins : List (Addr × Obj)} {σ : St} {H : Hp} {s : Shared} {Q : VK} {us : List Value} {vs : List V} (F : FnOk X.prog X.w X.K X.mg X.base CX k f fd ps sp) (hr : Room k X.A) (hb : Binds X.K fd ps ds) (hd : Vals dvs ds) (hx : Passes CX X E)
    (I : Inv X pins σ H s) (r : Vals vs us) (h : sp (vs ++ dvs) H Q E) : wpAny (model X.prog X.w) X.A (call (.ref f) us) (EP X pins σ Q) X.xe s := by
  have r2 : Vals (vs ++ dvs) (us ++ ds) := r.append hd
  have hl : (us ++ ds).length = ps.length := by rw [← r2.length]; exact F.len _ _ _ _ h
  refine wpAny_call (codeAny_mono (F.run X.A X.stack s H ⟨us, []⟩ (us ++ ds) (vs ++ dvs) Q E hr I.env0 (hb s us I.kIn hl) r2 h) fun r s' hq => ?_)
  cases r with
  | error e => exact hx pins σ H s e s' I hq
  | ok fl =>
    cases fl with
    | ret u => exact I.after hq
    | next => exact False.elim hq
    | brk => exact False.elim hq
    | cont => exact False.elim hq
theorem pe_call (F : FnOk X.prog X.w X.K X.mg X.base CX k f fd ps sp) (hr : Room k X.A) (hg : Gl X x) (hm : X.mg x = some (.ref f)) (hk : PySem.W.keepIn X.K (.ref f) = true) (hb : Binds X.K fd ps ds) (hd : Vals dvs ds) (hx : Passes CX X E)
    (ha : PA X (e :: es) t) (hdb : (x == ("__debug__" : Str)) = false := by decide) (he : starEach (e :: es) X.env = (false, eval e X.env) :: starEach es X.env := by rfl) (hpl : (backTo pos (starEach es X.env)).any (·.1) = false := by rfl) :
    PE X (.Call (.Name x p) (e :: es) [] pos) (tCall sp dvs E t) := by
  intro pins s σ H Q I h
  refine wpAny_Call_Name_kw (ld_glob I hg hm ?_ hdb)
  refine PySem.W.callWith_K (h₀ := X.base) I.ok.mod.kin hk (thn (ha pos pins s σ H _ I h) fun us s1 ⟨vs, H1, I1, r, q⟩ => ⟨I1.kIn, ?_⟩) he hpl
  exact run_fn F hr hb hd hx I1 r q
end
def PK (X : Cx) (kws : List Keyword) (t : TA) : Prop :=
  ∀ (pos : Pos) (pins : List (Addr × Obj)) (s : Shared) (σ : St) (H : Hp) (Q : List V → Hp → Prop), Inv X pins σ H s → t σ H Q → wpAny (model X.prog X.w) X.A (evalAll ((backToKw pos (keywordEach kws X.env)).map (·.2))) (AP X pins σ Q) X.xe s
section
variable {X : Cx} {CX : CXT} {k : Nat} {f C : Addr} {fd : FuncData} {ps ks : List Str} {sp : Sp} {E : XK} {x m : Str} {p pos apos kpos : Pos} {e o : Expr} {es : List Expr} {kws : List Keyword} {te ta : TE} {t tk : TA} {nm : Option Str}
variable {g : List Value → List Value → List Value} {gV : List V → List V → List V}
end
structure FnScope (N P : List Str) (sc : Scope) : Prop where
  kind : sc.kind = .function
  co : sc.isCoroutine = false
  gen : sc.isGenerator = false
  nd : N.Nodup
  pre : N.take P.length = P
  par : ∀ x ∈ P, sc.names.lookup x = some .local ∨ sc.names.lookup x = some .cell
  nofree : ∀ y ∈ sc.names, y.2 ≠ .free
theorem bindL_out {kindOf : Str → Option NameKind} {x : Str} : ∀ {binds : List (Str × Value)} {m : Str → Option Value}, (∀ v, (x, v) ∉ binds) → bindL kindOf binds m x = m x
  | [], _, _ => rfl
  | (n, v) :: r, m, h => by
    unfold bindL
    rw [bindL_out fun w hw => h w (List.mem_cons_of_mem _ hw)]
    split
    · have : x ≠ n := by rintro rfl; exact h v List.mem_cons_self
      simp [this]
    · rfl
theorem bindC_out {kindOf : Str → Option NameKind} {x : Str} : ∀ {binds : List (Str × Value)} {m : Str → Option Value}, (∀ v, (x, v) ∉ binds) → bindC kindOf binds m x = m x
  | [], _, _ => rfl
  | (n, v) :: r, m, h => by
    unfold bindC
    rw [bindC_out fun w hw => h w (List.mem_cons_of_mem _ hw)]
    split
    · rfl
    · have : x ≠ n := by rintro rfl; exact h v List.mem_cons_self
      simp [this]
theorem bindL_get {kindOf : Str → Option NameKind} {x : Str} {v : Value} : ∀ {P : List Str} {vs : List Value} {i : Nat} {m : Str → Option Value}, P.Nodup → P[i]? = some x → vs[i]? = some v → kindOf x = some .local →
    bindL kindOf (P.zip vs) m x = some v
  | [], _, _, _, _, h, _, _ => by simp at h
  | _ :: _, [], _, _, _, _, h, _ => by simp at h
  | p :: P, w :: vs, 0, m, nd, h1, h2, hk => by
    simp at h1 h2; subst h1; subst h2
    show bindL kindOf ((p, w) :: P.zip vs) m p = _
    unfold bindL
    rw [bindL_out fun v hv => (List.nodup_cons.mp nd).1 (List.of_mem_zip hv).1, if_pos hk]
    simp
  | p :: P, w :: vs, i + 1, m, nd, h1, h2, hk => by
    show bindL kindOf ((p, w) :: P.zip vs) m x = _
    unfold bindL
    exact bindL_get (i := i) (List.nodup_cons.mp nd).2 (by simpa using h1) (by simpa using h2) hk
theorem bindC_get {kindOf : Str → Option NameKind} {x : Str} {v : Value} : ∀ {P : List Str} {vs : List Value} {i : Nat} {m : Str → Option Value}, P.Nodup → P[i]? = some x → vs[i]? = some v → kindOf x ≠ some .local →
    bindC kindOf (P.zip vs) m x = some v
  | [], _, _, _, _, h, _, _ => by simp at h
  | _ :: _, [], _, _, _, _, h, _ => by simp at h
  | p :: P, w :: vs, 0, m, nd, h1, h2, hk => by
    simp at h1 h2; subst h1; subst h2
    show bindC kindOf ((p, w) :: P.zip vs) m p = _
    unfold bindC
    rw [bindC_out fun v hv => (List.nodup_cons.mp nd).1 (List.of_mem_zip hv).1, if_neg hk]
    simp
  | p :: P, w :: vs, i + 1, m, nd, h1, h2, hk => by
    show bindC kindOf ((p, w) :: P.zip vs) m x = _
    unfold bindC
    exact bindC_get (i := i) (List.nodup_cons.mp nd).2 (by simpa using h1) (by simpa using h2) hk
def start (N : List Str) (vs : List V) : St := vs.map some ++ List.replicate (N.length - vs.length) none
def cxOf (CX : CXT) (P : Program) (w : World) (K : PySem.W.Frag) (mg : Str → Option Value) (base : Heap) (N : List Str) (qual : Str) (scope : Scope) (f : Addr) (cd : Value) (A : Around) (outer : List Env) (s : Shared) (H : Hp) (E : XK) : Cx where
  prog := P
  w := w
  K := K
  mg := mg
  base := base
  A := A.deeper (envOfC qual scope s.heap.objs.size f cd)
  N := N
  s₀ := s
  H₀ := H
  env := envOfC qual scope s.heap.objs.size f cd
  outer := outer
  stack := envOfC qual scope s.heap.objs.size f cd :: outer
  ex := []
  calm := true
  fn := fun _ => true
  pn := []
  xe := fun e s' => wpAny (model P w) (A.deeper (envOfC qual scope s.heap.objs.size f cd)) (leaving (envOfC qual scope s.heap.objs.size f cd) e) (fun _ s'' => CX outer H s E e s'') (fun e' s'' => CX outer H s E e' s'') s'
theorem cell_has {sc : Scope} {n : Nat} {x : Str} (h : sc.names.lookup x = some .cell) : ∃ c, (cellsFrom n sc.names []).lookup x = some c := by
  have q := PySem.W.cellsFrom_some sc.names n [] (.inl h)
  exact Option.isSome_iff_exists.mp q
theorem inv_start {CX : CXT} {P : Program} {w : World} {K : PySem.W.Frag} {mg : Str → Option Value} {base : Heap} {N ps : List Str} {qual : Str} {scope : Scope} {f : Addr} {cd : Value} {A : Around} {outer : List Env} {s s1 : Shared} {H : Hp} {E : XK} {us : List Value} {vs : List V}
    (S : FnScope N ps scope) (hd : A.handled = none) (e0 : Env0 P w K mg base A outer s H) (hl : vs.length = ps.length) (r : Vals vs us)
    (x : InCallC s s.heap.objs.size (bindL (envOfC qual scope s.heap.objs.size f cd).kindOf (ps.zip us) fun _ => none) (cellsFrom (s.heap.objs.size + 1) scope.names []) (bindC (envOfC qual scope s.heap.objs.size f cd).kindOf (ps.zip us) fun _ => none) s1) :
    Inv (cxOf CX P w K mg base N qual scope f cd A outer s H E) [] (start N vs) H s1 := by
  have hpl : ps.length ≤ N.length := by have := congrArg List.length S.pre; rw [List.length_take] at this; omega
  obtain ⟨h1, tk, rfl, hk⟩ := x.done
  have noA : ∀ b : Addr, b ∉ (cxOf CX P w K mg base N qual scope f cd A outer s H E).ex := fun b z => absurd (show b ∈ ([] : List Addr) from z) (by simp)
  refine ⟨⟨e0.mod, S.kind, rfl, rfl, Nat.le_refl _, fun y z c h1 h2 => ?_, fun y hy => ?_, fun y c _ h => ?_, fun _ => hd, Around.frames_deeper e0.frames, .inr ⟨rfl, rfl⟩, fun b z => absurd z (noA b), e0.bs, e0.bsz, fun b _ _ => noA b, fun b z => absurd z (noA b), e0.funs, e0.frf⟩,
    rfl, e0.bare, Un.kept hk, ⟨_, x.toInCall.ns, fun i y v h1 h2 h3 => ?_⟩, fun y c h => ⟨_, x.cell y c h⟩, e0.hok.fresh (Nat.le_refl _), fun y c h => ?_, fun p hp => absurd (show p ∈ ([] : List (Addr × Obj)) from hp) (by simp), e0.hok.kept hk, ?_⟩
  · exact name_of_addr x.apart (PySem.mem_of_lookup h1) (PySem.mem_of_lookup h2)
  · have hy : scope.names.lookup y = some .cell ∨ scope.names.lookup y = some .free := hy
    rcases hy with hy | hy
    · exact cell_has hy
    · exact absurd rfl (S.nofree _ (PySem.mem_of_lookup hy))
  · exact Nat.le_of_lt (x.above y c (PySem.mem_of_lookup h))
  · have hi : i < vs.length := by
      unfold start at h2
      by_cases hi : i < vs.length
      · exact hi
      · rw [List.getElem?_append_right (by simpa using hi)] at h2
        rw [List.getElem?_replicate] at h2
        split at h2 <;> cases h2
    have ha : vs[i]? = some v := by
      unfold start at h2
      rw [List.getElem?_append_left (by simpa using hi), List.getElem?_map] at h2
      cases e : vs[i]? with
      | none => rw [e] at h2; cases h2
      | some a => rw [e] at h2; cases h2; rfl
    obtain ⟨u, hu, rv⟩ := r.get ha
    have hp : ps[i]? = some y := by
      rw [← S.pre, List.getElem?_take_of_lt (by omega)]; exact h1
    have ndP : ps.Nodup := by rw [← S.pre]; exact S.nd.sublist (List.take_sublist _ _)
    refine ⟨u, rv, ?_⟩
    rcases S.par y (List.mem_of_getElem? hp) with k | k
    · exact .inl ⟨k, bindL_get ndP hp hu k⟩
    · obtain ⟨c, e⟩ := cell_has (n := s.heap.objs.size + 1) k
      refine .inr ⟨.inl k, c, e, ?_⟩
      have q := x.cell y c e
      rw [bindC_get ndP hp hu (by show scope.names.lookup y ≠ _; rw [k]; decide)] at q
      exact q
  · exact e0.hok.fresh (Nat.le_of_lt (x.above y c (PySem.mem_of_lookup h)))
  · unfold start
    show _ = N.length
    rw [List.length_append, List.length_map, List.length_replicate]
    omega
theorem fn_of {CX : CXT} {P : Program} {w : World} {K : PySem.W.Frag} {mg : Str → Option Value} {base : Heap} {k : Nat} {f : Addr} {name qual : Str} {params : Arguments} {body : List Stmt} {scope : Scope} {dV kV doc pm cdv ct oc : Value} {an od : Option Addr}
    {osl : Array (Option Value)} {N ps : List Str} {sp : Sp} (lk : K.lookup f = some ⟨oc, od, .func (PySem.W.fnOf name qual params body scope dV kV doc pm an cdv ct), osl⟩) (hcd : PySem.W.codeIn K cdv qual = true) (S : FnScope N ps scope)
    (len : ∀ vs H Q E, sp vs H Q E → vs.length = ps.length)
    (hbody : ∀ (A : Around) (outer : List Env) (s : Shared) (H : Hp) (vs : List V) (Q : VK) (E : XK), Room k (A.deeper (envOfC qual scope s.heap.objs.size f cdv)) → sp vs H Q E →
      ∃ t, PSs (cxOf CX P w K mg base N qual scope f cdv A outer s H E) body t ∧ t { nx := fun _ H' => Q .non H', rt := Q } (start N vs) H) :
    FnOk P w K mg base CX (k + 1) f (PySem.W.fnOf name qual params body scope dV kV doc pm an cdv ct) ps sp := by
  refine ⟨len, fun A outer s H args us vs Q E hr e0 hb r hsp => ?_⟩
  have hl := len _ _ _ _ hsp
  have KX : K.In s.heap := e0.mod.kin.keeps fun b o e => (e0.bs b o e).1
  have lim : s.heap.NoLimit := e0.mod.nolimit.keeps fun b o e => (e0.bs b o e).1
  have hkind : ∀ y ∈ ps.zip us, scope.names.lookup y.1 = some .local ∨ (scope.names.lookup y.1 = some .cell ∧ ((cellsFrom (s.heap.objs.size + 1) scope.names []).lookup y.1).isSome = true) := fun ⟨n, v⟩ hy => by
    rcases S.par n (List.of_mem_zip hy).1 with q | q
    · exact .inl q
    · exact .inr ⟨q, PySem.W.cellsFrom_some _ _ _ (.inl q)⟩
  refine codeAny_call_function hr.depth (KX _ _ lk) rfl S.co S.gen rfl (PySem.W.codeRec_of KX hcd) (hb _ _ _ _ ?_)
  refine wpAny_newFunctionEnv_cells S.kind hkind fun env he s1 x => ?_
  subst he
  refine ⟨lim.keeps x.toInCall.keep, codeAny_func ?_⟩
  obtain ⟨t, ht, hq⟩ := hbody A outer s H vs Q E (hr.deeper _) hsp
  have I : Inv (cxOf CX P w K mg base N qual scope f cdv A outer s H E) [] (start N vs) H s1 := inv_start S hr.hd e0 hl r x
  refine wpAny_mono (ht [] s1 (start N vs) H _ I hq) (fun fl s' hs => ?_) fun e s' hs => hs
  have fin : ∀ {σ' : St} {H' : Hp} {v : V} {u : Value}, Inv (cxOf CX P w K mg base N qual scope f cdv A outer s H E) [] σ' H' s' → RelV v u → Q v H' → CE outer P w H s Q u s' :=
    fun {σ' H' v u} J rv q => ⟨v, H', J.os, J.bare, J.base, J.hok, rv, q⟩
  cases fl with
  | ret u =>
    obtain ⟨v, σ', H', J, rv, q⟩ := hs
    exact fin J rv q
  | next =>
    obtain ⟨σ', H', J, q⟩ := hs
    exact fin (v := V.non) (u := Value.none) J rfl q
  | brk =>
    obtain ⟨_, _, _, q⟩ := hs
    exact False.elim q
  | cont =>
    obtain ⟨_, _, _, q⟩ := hs
    exact False.elim q
end L2
namespace L2
open PySem PySem.Spec PyProof.Rows
section
variable {X : Cx} {x : Str} {p pos : Pos} {e : Expr} {es : List Expr} {t : TA} {id T : String} {r : List V → Hp → VK → Prop}
def tCB (r : List V → Hp → VK → Prop) (t : TA) : TE := fun σ H Q => t σ H fun vs H1 => r vs H1 Q
theorem pe_callB (hc : CallR X (.builtin id) r) (hg : Gl X x) (hm : X.mg x = none) (hv : bootBuiltins x = some (.builtin id)) (ha : PA X (e :: es) t) (hn : x ≠ "__name__" := by decide) (hdb : (x == ("__debug__" : Str)) = false := by decide)
    (he : starEach (e :: es) X.env = (false, eval e X.env) :: starEach es X.env := by rfl) (hpl : (backTo pos (starEach es X.env)).any (·.1) = false := by rfl) : PE X (.Call (.Name x p) (e :: es) [] pos) (tCB r t) := by
  intro pins s σ H Q I h
  refine wpAny_Call_Name_kw (ld_blt I hg hm hv ?_ hn hdb)
  exact PyProof.Rows.callWith_builtin1 (thn (ha pos pins s σ H _ I h) fun us s1 ⟨vs, H1, I1, r1, q1⟩ => hc pins s1 σ H1 vs us Q I1 r1 q1) he hpl
theorem pe_callTy (hc : CallR X (.type T) r) (hg : Gl X x) (hm : X.mg x = none) (hv : bootBuiltins x = some (.type T)) (ha : PA X (e :: es) t) (hn : x ≠ "__name__" := by decide) (hdb : (x == ("__debug__" : Str)) = false := by decide)
    (he : starEach (e :: es) X.env = (false, eval e X.env) :: starEach es X.env := by rfl) (hpl : (backTo pos (starEach es X.env)).any (·.1) = false := by rfl) : PE X (.Call (.Name x p) (e :: es) [] pos) (tCB r t) := by
  intro pins s σ H Q I h
  refine wpAny_Call_Name_kw (ld_blt I hg hm hv ?_ hn hdb)
  exact PyProof.Rows.callWith_type1 (thn (ha pos pins s σ H _ I h) fun us s1 ⟨vs, H1, I1, r1, q1⟩ => hc pins s1 σ H1 vs us Q I1 r1 q1) he hpl
end
end L2
namespace HT
open PySem PyProof.Rows
section
open PySem.SeqAt
open PySem.AutoSeq1 (wpAny_loadPart')
open PySem.MeetsSeq PySem.MeetsSeq2 PySem.MeetsSeq3
end
section
variable {prog : Program} {w : World} {A : Around} {E : Value → Shared → Prop} {s : Shared}
def sIx (n d : Nat) : Option Int → Nat
  | none => d
  | some v => if v < 0 then (v + (n : Int)).toNat else min v.toNat n
theorem sIx_none (n d : Nat) : sIx n d none = d := rfl
theorem sIx_nat (n d k : Nat) : sIx n d (some (k : Int)) = min k n := by
  show (if (k : Int) < 0 then ((k : Int) + (n : Int)).toNat else min (k : Int).toNat n) = min k n
  rw [if_neg (by omega), Int.toNat_natCast]
theorem sIx_le (n d : Nat) (hd : d ≤ n) (o : Option Int) : sIx n d o ≤ n := by
  cases o with
  | none => exact hd
  | some v =>
    show (if v < 0 then (v + (n : Int)).toNat else min v.toNat n) ≤ n
    by_cases hv : v < 0
    · rw [if_pos hv]; omega
    · rw [if_neg hv]; exact Nat.min_le_right _ _
theorem clip_eq (v : Int) (n d : Nat) : (if v < 0 then max (v + (n : Int)) 0 else min v (n : Int)) = ((sIx n d (some v) : Nat) : Int) := by
  show (if v < 0 then max (v + (n : Int)) 0 else min v (n : Int)) = (((if v < 0 then (v + (n : Int)).toNat else min v.toNat n) : Nat) : Int)
  by_cases hv : v < 0
  · simp only [if_pos hv]; omega
  · simp only [if_neg hv]; omega
theorem adjust_gen (lo hi : Option Int) (n : Nat) : Builtin.Slice.sliceAdjust lo hi 1 (n : Int) = (((sIx n 0 lo : Nat) : Int), ((sIx n n hi : Nat) : Int)) := by
  have h1 : ¬ ((1 : Int) < 0) := by omega
  unfold Builtin.Slice.sliceAdjust
  simp only [h1, if_false]
  refine Prod.ext ?_ ?_
  · cases lo with
    | none => rfl
    | some v => exact clip_eq v n 0
  · cases hi with
    | none => rfl
    | some v => exact clip_eq v n n
theorem places_gen (i j : Nat) : Builtin.Slice.slicePlaces (i : Int) (j : Int) 1 = j - i := by
  unfold Builtin.Slice.slicePlaces
  have h1 : (1 : Int) > 0 := by omega
  simp only [h1, if_true, Int.ediv_one]
  split <;> omega
theorem slicePart_ {v : Value} {o : Option Int} {Q : Option Int → Shared → Prop} (p : IsPart v o) (h : Q o s) : wpAny (model prog w) A (Builtin.Slice.slicePartIndex v) Q E s := by
  cases p with
  | none => exact slicePart_none h
  | int i t => exact slicePart_int h
theorem sliceApplied_gen {sl : Addr} {vl vu : Value} {lo hi : Option Int} {n : Nat} {Q : Int × Int × Nat → Shared → Prop} (hs : s.heap.IsSliceOf sl vl vu .none) (pl : IsPart vl lo) (pu : IsPart vu hi)
    (h : Q (((sIx n 0 lo : Nat) : Int), 1, sIx n n hi - sIx n 0 lo) s) : wpAny (model prog w) A (Builtin.Slice.sliceApplied (.ref sl) (pure (n : Int))) Q E s := by
  obtain ⟨os, hos, hcs, hds⟩ := id hs
  unfold Builtin.Slice.sliceApplied Builtin.Slice.sliceFields
  refine wpAny_bind (wpAny_bind (wpAny_field hos hds (x := vl) rfl (wpAny_bind (wpAny_field hos hds (x := vu) rfl (wpAny_bind (wpAny_field hos hds (x := .none) rfl (wpAny_pure ?_)))))))
  refine wpAny_bind (slicePart_none ?_)
  show wpAny _ _ (if ((1 : Int) == 0) = true then _ else _) _ _ s
  rw [if_neg (by decide)]
  refine wpAny_bind (slicePart_ pl (wpAny_bind (slicePart_ pu (wpAny_bind (wpAny_pure ?_)))))
  show wpAny _ _ (match Builtin.Slice.sliceAdjust lo hi 1 (n : Int) with | (lo, hi) => pure (lo, (1 : Int), Builtin.Slice.slicePlaces lo hi 1)) _ _ s
  rw [adjust_gen lo hi n]
  show wpAny _ _ (pure (((sIx n 0 lo : Nat) : Int), (1 : Int), Builtin.Slice.slicePlaces ((sIx n 0 lo : Nat) : Int) ((sIx n n hi : Nat) : Int) 1)) _ _ s
  rw [places_gen]
  exact wpAny_pure h
theorem pick_gen (xs : Array Value) (i k : Nat) : ((List.range k).filterMap fun (m : Nat) => xs[((i : Int) + (m : Int) * 1).toNat]?).toArray = ((xs.toList.drop i).take k).toArray := by
  have e : (fun (m : Nat) => xs[((i : Int) + (m : Int) * 1).toNat]?) = fun m => xs[i + m]? := by
    funext m
    have : ((i : Int) + (m : Int) * 1).toNat = i + m := by omega
    rw [this]
  rw [e]
  have := pick_run xs i k
  rw [List.filterMap_map] at this
  have e2 : ((fun x => xs[x]?) ∘ fun x => i + x) = fun m => xs[i + m]? := rfl
  rw [e2] at this
  rw [this]
theorem getItem_tuple_cut {t sl : Addr} {items : Array Value} {vl vu : Value} {lo hi : Option Int} {Q : Value → Shared → Prop} (ht : IsTup s.heap t items) (hs : s.heap.IsSliceOf sl vl vu .none) (pl : IsPart vl lo) (pu : IsPart vu hi)
    (hw : ¬ (sIx items.size 0 lo = 0 ∧ sIx items.size items.size hi = items.size))
    (h : Q (.ref s.heap.objs.size) { s with heap := s.heap.push { cls := .type "tuple", data := .seq ((items.toList.drop (sIx items.size 0 lo)).take (sIx items.size items.size hi - sIx items.size 0 lo)).toArray } })
    (hsz : items.size ≤ sizeLine) : wpAny (model prog w) A (getItem (.ref t) (.ref sl)) Q E s := by
  have htake : sizeOk (.seq ((items.toList.drop (sIx items.size 0 lo)).take (sIx items.size items.size hi - sIx items.size 0 lo)).toArray) := by
    show ((items.toList.drop (sIx items.size 0 lo)).take (sIx items.size items.size hi - sIx items.size 0 lo)).toArray.size ≤ sizeLine
    rw [List.size_toArray, List.length_take, List.length_drop, Array.length_toList]
    omega
  have hj : sIx items.size items.size hi ≤ items.size := sIx_le _ _ (Nat.le_refl _) hi
  obtain ⟨os, hos, hcs, hds⟩ := id hs
  have hTs : s.TypeIs (.ref sl) "slice" := ⟨os, hos, hcs⟩
  unfold getItem
  try with_reducible refine wpAny_holding ?_
  first | refine wpAny_bind (wpAny_pure ?_) | skip
  refine wpAny_bind (wpAny_sequenceKey ht.typeIs (by decide) ?_)
  refine wpAny_bind (wpAny_callSpecial?_slot (name := Str.ofString "__getitem__") ht.typeIs PyProof.Rows.slot_tuple_getitem
    (wpAny_call_entry PyProof.Rows.slot_tuple_getitem ht.typeIs entry_tuple_getitem ?_ (args_tuple_getitem _ _)))
  show wpAny _ _ (Builtin.Tuple.tupleItemsOf (.ref t) >>= _) _ _ s
  refine wpAny_bind (tupleItemsOf_ ht ?_)
  refine wpAny_bind (wpAny_typeOf hTs ?_)
  rw [if_pos (by decide)]
  refine wpAny_bind (sliceApplied_gen hs pl pu ?_)
  have hno : ¬ ((((sIx items.size 0 lo : Nat) : Int) == 0 && (1 : Int) == 1 && (sIx items.size items.size hi - sIx items.size 0 lo) == items.size) = true) := by
    intro q
    rw [Bool.and_eq_true, Bool.and_eq_true] at q
    have q1 : ((sIx items.size 0 lo : Nat) : Int) = 0 := eq_of_beq q.1.1
    have q2 : sIx items.size items.size hi - sIx items.size 0 lo = items.size := eq_of_beq q.2
    exact hw ⟨by omega, by omega⟩
  show wpAny _ _ (if (((sIx items.size 0 lo : Nat) : Int) == 0 && (1 : Int) == 1 && (sIx items.size items.size hi - sIx items.size 0 lo) == items.size) = true then _ else _) _ _ s
  rw [if_neg hno, pick_gen]
  first
    | exact wpAny_bind (m := Builtin.Tuple.tupleExact _) (wpAny_newObj_type (wpAny_pure ⟨_, rfl, wpAny_pure h⟩) htake)
    | exact wpAny_bind (m := Builtin.Tuple.tupleExact _) (wpAny_newObj_type (wpAny_bind (wpAny_pure (wpAny_pure ⟨_, rfl, wpAny_pure h⟩))) htake)
    | exact wpAny_bind (wpAny_bind (m := Builtin.Tuple.tupleExact _) (wpAny_newObj_type (wpAny_pure (wpAny_pure ⟨_, rfl, wpAny_pure h⟩)) htake))
    | exact wpAny_bind (wpAny_bind (m := Builtin.Tuple.tupleExact _) (wpAny_newObj_type (wpAny_pure ⟨_, rfl, wpAny_pure h⟩) htake))
end
end HT
namespace L2
open PySem PySem.Spec PyProof.Rows
abbrev TO := St → Hp → (Option Int → Hp → Prop) → Prop
def PO (X : Cx) (e : Option Expr) (t : TO) : Prop :=
  ∀ (pins : List (Addr × Obj)) (s : Shared) (σ : St) (H : Hp) (Q : Option Int → Hp → Prop), Inv X pins σ H s → t σ H Q →
    wpAny (model X.prog X.w) X.A (evalPart e X.env) (fun u s' => ∃ o H', Inv X pins σ H' s' ∧ IsPart u o ∧ Q o H') X.xe s
def tNoPart : TO := fun _ H Q => Q none H
def tPart (t : TE) : TO := fun σ H Q => t σ H fun x H1 => ∃ i, x = .int i ∧ Q (some i) H1
section
variable {X : Cx} {e : Expr} {te : TE} {lo hi : Option Expr} {tl th : TO} {pos p2 : Pos}
theorem po_none : PO X none tNoPart := by
  intro pins s σ H Q I h
  rw [evalPart_none]
  exact wpAny_pure ⟨none, H, I, .none, h⟩
theorem po_some (h : PE X e te) : PO X (some e) (tPart te) := by
  intro pins s σ H Q I hw
  rw [evalPart_some]
  refine thn (h pins s σ H _ I hw) fun u s1 ⟨x, H1, I1, r1, q1⟩ => ?_
  obtain ⟨i, rfl, q⟩ := q1
  obtain ⟨t, rfl⟩ := r1
  exact ⟨some i, H1, I1, .int i t, q⟩
def SlR (X : Cx) (r : V → Option Int → Option Int → Hp → VK → Prop) : Prop :=
  ∀ (pins : List (Addr × Obj)) (s : Shared) (σ : St) (H : Hp) (x : V) (v vl vu : Value) (lo hi : Option Int) (sl : Addr) (Q : VK), Inv X pins σ H s → RelV x v → s.heap.IsSliceOf sl vl vu .none → IsPart vl lo → IsPart vu hi → r x lo hi H Q →
    ∃ T id, typeLookup (.type T) "__getitem__" = pure (some (.builtin id)) ∧ s.TypeIs v T ∧ wpAny (model X.prog X.w) X.A (getItem v (.ref sl)) (EP X pins σ Q) X.xe s
theorem SlR.or {r r' : V → Option Int → Option Int → Hp → VK → Prop} (h : SlR X r) (h' : SlR X r') : SlR X (fun x lo hi H Q => r x lo hi H Q ∨ r' x lo hi H Q) := by
  intro pins s σ H x v vl vu lo hi sl Q I rx hs pl pu q
  rcases q with q | q
  · exact h pins s σ H x v vl vu lo hi sl Q I rx hs pl pu q
  · exact h' pins s σ H x v vl vu lo hi sl Q I rx hs pl pu q
def tSl (r : V → Option Int → Option Int → Hp → VK → Prop) (te : TE) (tl th : TO) : TE := fun σ H Q => te σ H fun x H1 => tl σ H1 fun l H2 => th σ H2 fun u H3 => r x l u H3 Q
theorem pe_slice {r : V → Option Int → Option Int → Hp → VK → Prop} (hr : SlR X r) (he : PE X e te) (hl : PO X lo tl) (hu : PO X hi th) : PE X (.Subscript e (.Slice lo hi none p2) pos) (tSl r te tl th) := by
  intro pins s σ H Q I h
  refine Subscript_ (thn (he pins s σ H _ I h) fun v s1 ⟨x, H1, I1, r1, q1⟩ => ?_)
  refine wpAny_Slice (thn (hl pins s1 σ H1 _ I1 q1) fun vl s2 ⟨l, H2, I2, pl, q2⟩ => thn (hu pins s2 σ H2 _ I2 q2) fun vu s3 ⟨u, H3, I3, pu, q3⟩ => ?_)
  rw [evalPart_none]
  refine wpAny_pure ?_
  have I4 : Inv X pins σ H3 { s3 with heap := s3.heap.push { cls := .type "slice", data := .fields #[vl, vu, .none] } } := I3.kept (t' := s3.toks) fun b ob q => Heap.get?_push_of_some _ q
  obtain ⟨T, id, hT, ht, hg⟩ := hr pins { s3 with heap := s3.heap.push { cls := .type "slice", data := .fields #[vl, vu, .none] } } σ H3 x v vl vu l u s3.heap.objs.size Q I4 r1 (Heap.IsSliceOf.new ..) pl pu q3
  show wpAny (model X.prog X.w) X.A (subscriptTail e (.Slice lo hi none p2) v (.ref s3.heap.objs.size)) (EP X pins σ Q) X.xe { s3 with heap := s3.heap.push { cls := .type "slice", data := .fields #[vl, vu, .none] } }
  exact tail_any (ops := [.ref s3.heap.objs.size, v]) ht hT hg (by with_unfolding_all rfl)
def cutV (xs : List V) (lo hi : Option Int) : List V := (xs.drop (HT.sIx xs.length 0 lo)).take (HT.sIx xs.length xs.length hi - HT.sIx xs.length 0 lo)
theorem cutV_length (xs : List V) (lo hi : Option Int) : (cutV xs lo hi).length ≤ xs.length := by
  unfold cutV
  rw [List.length_take, List.length_drop]
  omega
def rSlT (K : PySem.W.Frag) : V → Option Int → Option Int → Hp → VK → Prop := fun x lo hi H Q => ∃ a xs, x = .ref a ∧ SqT K H a xs ∧
  ¬ (HT.sIx xs.length 0 lo = 0 ∧ HT.sIx xs.length xs.length hi = xs.length) ∧ ∀ p, H p = none → Q (.ref p) (upd H p (.tup (cutV xs lo hi)))
theorem sl_tup : SlR X (rSlT X.K) := by
  intro pins s σ H x v vl vu lo hi sl Q I rx hs pl pu h
  obtain ⟨a, xs, rfl, hx, hw, q⟩ := h
  cases rx
  obtain ⟨its, r, ht, hz⟩ := I.tuple hx
  have hlen : its.toArray.size = xs.length := by rw [List.size_toArray]; exact r.length.symm
  refine ⟨"tuple", _, PyProof.Rows.slot_tuple_getitem.lookup, ht.typeIs, ?_⟩
  refine HT.getItem_tuple_cut ht hs pl pu (by rw [hlen]; exact hw) ?_ (by rw [hlen]; exact hz)
  rw [hlen]
  refine ⟨.ref s.heap.objs.size, _, I.laid (t' := s.toks) (o := .tup (cutV xs lo hi)) (fun b ob q => Heap.get?_push_of_some _ q) (Nat.le_refl _) ?_, rfl, q _ (I.hok.fresh (Nat.le_refl _))⟩
  exact ⟨Nat.le_trans (cutV_length xs lo hi) hz, _, (r.drop (HT.sIx xs.length 0 lo)).take (HT.sIx xs.length xs.length hi - HT.sIx xs.length 0 lo), IsTup.new _ _⟩
end
end L2
namespace L2
open PySem PySem.Spec PyProof.Rows
def ixN (n : Nat) (i : Int) : Option Nat := if 0 ≤ i then (if i < n then some i.toNat else none) else if -(n : Int) ≤ i then some (i + n).toNat else none
def atI {α : Type} (xs : List α) (i : Int) : Option α := (ixN xs.length i).bind fun j => xs[j]?
theorem ixN_seq {n : Nat} {i : Int} {j : Nat} (h : ixN n i = some j) : seqIndex? i n = some j ∧ j < n ∧ -(n : Int) ≤ i ∧ i < n := by
  unfold ixN at h
  by_cases h0 : 0 ≤ i
  · rw [if_pos h0] at h
    by_cases h1 : i < n
    · rw [if_pos h1] at h
      have e : i.toNat = j := Option.some.inj h
      exact ⟨by rw [seqIndex_of h0 h1, e], by omega, by omega, h1⟩
    · rw [if_neg h1] at h; cases h
  · rw [if_neg h0] at h
    by_cases h1 : -(n : Int) ≤ i
    · rw [if_pos h1] at h
      have e : (i + n).toNat = j := Option.some.inj h
      exact ⟨by rw [seqIndex_neg (by omega) h1, e], by omega, h1, by omega⟩
    · rw [if_neg h1] at h; cases h
theorem atI_get {α : Type} {xs : List α} {i : Int} {v : α} (h : atI xs i = some v) : ∃ j, seqIndex? i xs.length = some j ∧ xs[j]? = some v ∧ j < xs.length ∧ -(xs.length : Int) ≤ i ∧ i < xs.length := by
  unfold atI at h
  cases e : ixN xs.length i with
  | none => rw [e] at h; cases h
  | some j =>
    rw [e] at h
    obtain ⟨h1, h2, h3, h4⟩ := ixN_seq e
    exact ⟨j, h1, h, h2, h3, h4⟩
theorem atI_nat {α : Type} {xs : List α} {j : Nat} {v : α} (h : xs[j]? = some v) : atI xs (j : Int) = some v := by
  have hj : j < xs.length := (List.getElem?_eq_some_iff.mp h).1
  have e : ixN xs.length (j : Int) = some j := by
    unfold ixN
    rw [if_pos (by omega), if_pos (by omega)]; simp
  unfold atI; rw [e]; exact h
def PlainIx (b : Expr) : Prop := ∀ o i, subscripted b false o i = operate [o, i] (getItem o i)
def IxR (X : Cx) (r : R2) : Prop :=
  ∀ (value slice : Expr) (pins : List (Addr × Obj)) (s : Shared) (σ : St) (H : Hp) (x y : V) (v u : Value) (Q : VK), Inv X pins σ H s → RelV x v → RelV y u → r x y H Q →
    subscripted slice false v u = operate [v, u] (getItem v u) → wpAny (model X.prog X.w) X.A (subscriptTail value slice v u) (EP X pins σ Q) X.xe s
def MtR (X : Cx) (id : String) (r : V → List V → Hp → VK → Prop) : Prop :=
  ∀ (pins : List (Addr × Obj)) (s : Shared) (σ : St) (H : Hp) (x : V) (xs : List V) (v : Value) (us : List Value) (Q : VK), Inv X pins σ H s → RelV x v → Vals xs us → r x xs H Q →
    wpAny (model X.prog X.w) X.A (call (.builtin id) (v :: us)) (EP X pins σ Q) X.xe s
section
variable {X : Cx} {a b : Expr} {ta tb : TE} {pos : Pos}
theorem IxR.or {r r' : R2} (h : IxR X r) (h' : IxR X r') : IxR X (fun x y H Q => r x y H Q ∨ r' x y H Q) := by
  intro value slice pins s σ H x y v u Q I rx ry q hs
  rcases q with q | q
  · exact h value slice pins s σ H x y v u Q I rx ry q hs
  · exact h' value slice pins s σ H x y v u Q I rx ry q hs
theorem pe_ix {r : R2} (hr : IxR X r) (ha : PE X a ta) (hb : PE X b tb) (hs : PlainIx b) : PE X (.Subscript a b pos) (tOp r ta tb) := by
  intro pins s σ H Q I h
  exact Subscript_ (binT ha hb I h fun v u s2 x y H2 I2 rx ry q => hr a b pins s2 σ H2 x y v u Q I2 rx ry q (hs _ _))
def rIxL (K : PySem.W.Frag) : R2 := fun x y H Q => ∃ p xs i v, x = .ref p ∧ y = .int i ∧ SqL K H p xs ∧ atI xs i = some v ∧ Q v H
def rIxT (K : PySem.W.Frag) : R2 := fun x y H Q => ∃ p xs i v, x = .ref p ∧ y = .int i ∧ SqT K H p xs ∧ atI xs i = some v ∧ Q v H
def rIxS : R2 := fun x y H Q => ∃ z i c, x = .str z ∧ y = .int i ∧ z.length ≤ sizeLine ∧ atI z.cps.toList i = some c ∧ Q (.str ⟨#[c]⟩) H
theorem ix_list : IxR X (rIxL X.K) := by
  intro value slice pins s σ H x y v u Q I rx ry h hs
  obtain ⟨p, xs, i, z, rfl, rfl, hq, he, q⟩ := h
  cases rx
  obtain ⟨t, rfl⟩ := ry
  obtain ⟨its, r, pl, hz⟩ := I.list hq
  obtain ⟨j, h1, h2, h3, h4, h5⟩ := atI_get he
  obtain ⟨w, ew, rw'⟩ := r.get h2
  have hl := r.length
  have hn := line63
  have fin : EP X pins σ Q w s := ⟨z, H, I, rw', q⟩
  by_cases h0 : 0 ≤ i
  · have hj : i.toNat = j := by
      rw [seqIndex_of h0 h5] at h1
      exact Option.some.inj h1
    exact item_listR pl.isList h0 (by omega) (by rw [hj]; simpa using ew) fin hs
  · have hj : (i + (its.toArray.size : Int)).toNat = j := by
      rw [seqIndex_neg (by omega) h4] at h1
      rw [List.size_toArray, ← hl]
      exact Option.some.inj h1
    exact subscriptTail_builtinR (x := w) pl.isList.typeIs slot_list_getitem.lookup
      (wpAny_getItem_list_neg (Q := fun r s' => r = w ∧ EP X pins σ Q r s') pl.isList (by omega) (by rw [List.size_toArray] <;> omega) (by omega) (by rw [hj]; simpa using ew) ⟨rfl, fin⟩) hs
theorem ix_tup : IxR X (rIxT X.K) := by
  intro value slice pins s σ H x y v u Q I rx ry h hs
  obtain ⟨p, xs, i, z, rfl, rfl, hq, he, q⟩ := h
  cases rx
  obtain ⟨t, rfl⟩ := ry
  obtain ⟨its, r, pl, hz⟩ := I.tuple hq
  obtain ⟨j, h1, h2, h3, h4, h5⟩ := atI_get he
  obtain ⟨w, ew, rw'⟩ := r.get h2
  have hl := r.length
  have hn := line63
  have fin : EP X pins σ Q w s := ⟨z, H, I, rw', q⟩
  exact subscriptTail_builtinR (x := w) pl.typeIs slot_tuple_getitem.lookup
    (getItem_tuple (j := j) (Q := fun r s' => r = w ∧ EP X pins σ Q r s') pl (by omega) (by omega) (by rw [List.size_toArray, ← hl]; exact h1) (by simpa using ew) ⟨rfl, fin⟩) hs
theorem ix_str : IxR X rIxS := by
  intro value slice pins s σ H x y v u Q I rx ry h hs
  obtain ⟨z, i, c, rfl, rfl, hz, he, q⟩ := h
  obtain ⟨t, rfl⟩ := rx
  obtain ⟨t', rfl⟩ := ry
  obtain ⟨j, h1, h2, h3, h4, h5⟩ := atI_get he
  have hl : z.cps.toList.length = z.length := by simp [Str.length]
  rw [hl] at h1 h4 h5
  have hn := line63
  exact tail_any (typeIs_str s z t) slot_str_getitem.lookup (getItem_str (c := c) (by
    have e1 : decide (i < -(2 ^ 63 : Int)) = false := decide_eq_false (by omega)
    have e2 : decide (i ≥ 2 ^ 63) = false := decide_eq_false (by omega)
    rw [e1, e2, Bool.or_false]) (by rw [h1]; simpa using h2) ⟨.str ⟨#[c]⟩, H, I.tok _, ⟨_, rfl⟩, q⟩) hs
def rIx (K : PySem.W.Frag) : R2 := fun x y H Q => rIxL K x y H Q ∨ rIxT K x y H Q ∨ rIxS x y H Q
theorem ix_seq : IxR X (rIx X.K) := ix_list.or (ix_tup.or ix_str)
theorem slice_bounds (lo hi : Option Int) (n : Nat) : (sliceBounds lo hi none n).1 = ((HT.sIx n 0 lo : Nat) : Int) ∧ (sliceBounds lo hi none n).2.1 = ((HT.sIx n n hi : Nat) : Int) ∧ (sliceBounds lo hi none n).2.2 = 1 := by
  refine ⟨?_, ?_, rfl⟩
  · cases lo with
    | none => simp [sliceBounds, HT.sIx]
    | some i =>
      simp only [sliceBounds, HT.sIx, Option.getD_none, show (1 : Int) > 0 by decide, if_true]
      by_cases h : i < 0
      · simp only [h, if_true] <;> omega
      · simp only [h, if_false] <;> omega
  · cases hi with
    | none => simp [sliceBounds, HT.sIx]
    | some i =>
      simp only [sliceBounds, HT.sIx, Option.getD_none, show (1 : Int) > 0 by decide, if_true]
      by_cases h : i < 0
      · simp only [h, if_true] <;> omega
      · simp only [h, if_false] <;> omega
theorem slicePick_cut (its : List Value) (lo hi : Option Int) : slicePick its.toArray lo hi none = ((its.drop (HT.sIx its.length 0 lo)).take (HT.sIx its.length its.length hi - HT.sIx its.length 0 lo)).toArray := by
  obtain ⟨h1, h2, h3⟩ := slice_bounds lo hi its.toArray.size
  unfold slicePick
  rw [h1, h2, h3]
  simp only [sliceRange_one, pick_run, List.size_toArray] <;> rfl
def rSlL (K : PySem.W.Frag) : V → Option Int → Option Int → Hp → VK → Prop := fun x lo hi H Q => ∃ a xs, x = .ref a ∧ SqL K H a xs ∧ ∀ p, H p = none → Q (.ref p) (upd H p (.lst (cutV xs lo hi)))
theorem sl_list : SlR X (rSlL X.K) := by
  intro pins s σ H x v vl vu lo hi sl Q I rx hs pl pu h
  obtain ⟨a, xs, rfl, hx, q⟩ := h
  cases rx
  obtain ⟨its, r, ht, hz⟩ := I.list hx
  have hlen := r.length
  refine ⟨"list", _, slot_list_getitem.lookup, ht.isList.typeIs, ?_⟩
  refine wpAny_getItem_list_slice ht.isList hs pl pu .none (by simp) ?_ (by rw [List.size_toArray] <;> omega)
  rw [slicePick_cut, ← hlen]
  refine ⟨.ref s.heap.objs.size, _, I.laid (t' := s.toks) (o := .lst (cutV xs lo hi)) (fun b ob q => Heap.get?_push_of_some _ q) (Nat.le_refl _) ?_, rfl, q _ (I.hok.fresh (Nat.le_refl _))⟩
  exact ⟨Nat.le_trans (cutV_length xs lo hi) hz, _, 0, (r.drop (HT.sIx xs.length 0 lo)).take (HT.sIx xs.length xs.length hi - HT.sIx xs.length 0 lo), Heap.get?_push_size _ rfl⟩
theorem call_len_seq : CallR X (.builtin "len") (fun xs H Q => ∃ p ys, xs = [.ref p] ∧ (SqL X.K H p ys ∨ SqT X.K H p ys) ∧ Q (.int ys.length) H) := by
  intro pins s σ H xs us Q I r h
  obtain ⟨p, ys, rfl, hq, q⟩ := h
  obtain ⟨u, rfl, rx⟩ := vals1 r
  cases rx
  have hn := line63
  rcases hq with hq | hq
  · obtain ⟨its, r', pl, hz⟩ := I.list hq
    have hlen := r'.length
    exact Calls.call_len_list pl.isList (by simp only [List.size_toArray] <;> omega) ⟨.int ys.length, H, I.tok _, ⟨s.toks + 1, by rw [List.size_toArray, hlen]⟩, q⟩
  · obtain ⟨its, r', pl, hz⟩ := I.tuple hq
    have hlen := r'.length
    exact len_tuple pl (by simp only [List.size_toArray] <;> omega) ⟨.int ys.length, H, I.tok _, ⟨s.toks + 1, by rw [List.size_toArray, hlen]⟩, q⟩
theorem CallR.or {f : Value} {r r' : List V → Hp → VK → Prop} (h : CallR X f r) (h' : CallR X f r') : CallR X f (fun xs H Q => r xs H Q ∨ r' xs H Q) := by
  intro pins s σ H xs us Q I rs q
  rcases q with q | q
  · exact h pins s σ H xs us Q I rs q
  · exact h' pins s σ H xs us Q I rs q
theorem call_list_of : CallR X (.type "list") (fun xs H Q => ∃ p ys, xs = [.ref p] ∧ (SqL X.K H p ys ∨ SqT X.K H p ys) ∧ ∀ l, H l = none → Q (.ref l) (upd H l (.lst ys))) := by
  intro pins s σ H xs us Q I r h
  obtain ⟨p, ys, rfl, hq, q⟩ := h
  obtain ⟨u, rfl, rx⟩ := vals1 r
  cases rx
  have fin : ∀ (its : List Value), Vals ys its → ys.length ≤ sizeLine → ∀ (h' : Heap) (c' : Nat), (∀ b o', s.heap.get? b = some o' → h'.get? b = some o') →
      h'.get? s.heap.objs.size = some { cls := .type "list", dict := none, data := .seq its.toArray c', slots := #[] } → EP X pins σ Q (.ref s.heap.objs.size) { s with heap := h' } := fun its r' hz h' c' kp e =>
    ⟨.ref s.heap.objs.size, _, I.laid (t' := s.toks) kp (Nat.le_refl _) (show ObjOk X.prog X.w _ h' _ (.lst ys) from ⟨hz, its, c', r', e⟩), rfl, q _ (I.hok.fresh (Nat.le_refl _))⟩
  rcases hq with hq | hq
  · obtain ⟨its, r', pl, hz⟩ := I.list hq
    have hlen := r'.length
    obtain ⟨o, ho, hc, n, hd⟩ := pl.isList
    exact call_list_seq p (.inl rfl) ho hc hd (fun h' c' kp e => fin its r' hz h' c' kp e) (by simp only [List.size_toArray] <;> omega)
  · obtain ⟨its, r', pl, hz⟩ := I.tuple hq
    have hlen := r'.length
    obtain ⟨o, ho, hc, n, hd⟩ := pl
    exact call_list_seq p (.inr rfl) ho hc hd (fun h' c' kp e => fin its r' hz h' c' kp e) (by simp only [List.size_toArray] <;> omega)
theorem call_tuple_of : CallR X (.type "tuple") (fun xs H Q => ∃ p ys, xs = [.ref p] ∧ ((SqL X.K H p ys ∧ ∀ l, H l = none → Q (.ref l) (upd H l (.tup ys))) ∨ (SqT X.K H p ys ∧ Q (.ref p) H))) := by
  intro pins s σ H xs us Q I r h
  obtain ⟨p, ys, rfl, h⟩ := h
  obtain ⟨u, rfl, rx⟩ := vals1 r
  cases rx
  rcases h with ⟨hq, q⟩ | ⟨hq, q⟩
  · obtain ⟨its, r', pl, hz⟩ := I.list hq
    have hlen := r'.length
    refine call_tuple_list pl.isList (fun h' kp => ?_) (by simp only [List.size_toArray] <;> omega)
    have I1 : Inv X pins σ H { s with heap := h' } := I.kept (t' := s.toks) kp
    have I2 : Inv X pins σ (upd H h'.objs.size (.tup ys)) { s with heap := h'.push { cls := .type "tuple", data := .seq its.toArray } } :=
      I1.laid (t' := s.toks) (fun b o e => Heap.get?_push_of_some _ e) (Nat.le_refl _) (show ObjOk X.prog X.w _ _ _ (.tup ys) from ⟨hz, its, r', IsTup.new _ _⟩)
    exact ⟨.ref h'.objs.size, _, I2, rfl, q _ (I1.hok.fresh (Nat.le_refl _))⟩
  · obtain ⟨its, r', pl, hz⟩ := I.tuple hq
    exact call_tuple_same pl ⟨.ref p, H, I, rfl, q⟩
def tyV (K : PySem.W.Frag) (T : String) (x : V) (H : Hp) : Prop := match x with
  | .str _ => T = "str"
  | .int _ => T = "int"
  | .ref p => (T = "list" ∧ ∃ xs, SqL K H p xs) ∨ (T = "tuple" ∧ ∃ o, K.lookup p = some o ∧ o.cls = .type "tuple" ∧ o.dict = none) ∨
      (T = "dict" ∧ ((∃ kvs, H p = some (.dK kvs)) ∨ ∃ kvs, H p = some (.dT kvs))) ∨ (T = "set" ∧ ∃ S n, H p = some (.set S n))
  | _ => False
theorem tyV_is {pins : List (Addr × Obj)} {σ : St} {H : Hp} {s : Shared} {T : String} {x : V} {v : Value} (I : Inv X pins σ H s) (r : RelV x v) (ty : tyV X.K T x H) :
    s.TypeIs v T ∧ ∀ a, v = .ref a → ∃ ob, s.heap.get? a = some ob ∧ ob.dict = none := by
  cases x with
  | str z =>
    obtain ⟨t, rfl⟩ := r
    cases (show T = "str" from ty)
    exact ⟨typeIs_str s z t, fun _ e => nomatch e⟩
  | int i =>
    obtain ⟨t, rfl⟩ := r
    cases (show T = "int" from ty)
    exact ⟨typeIs_int s i t, fun _ e => nomatch e⟩
  | ref p =>
    cases r
    rcases ty with ⟨rfl, xs, hq⟩ | ⟨rfl, o, hk, hc, hd⟩ | ⟨rfl, hk⟩ | ⟨rfl, S, n, hk⟩
    · obtain ⟨its, _, pl, _⟩ := I.list hq
      refine ⟨pl.isList.typeIs, fun a e => ?_⟩
      cases e
      obtain ⟨o, n, e, c, hd, _⟩ := pl
      exact ⟨o, e, hd⟩
    · refine ⟨⟨o, I.kIn p o hk, hc⟩, fun a e => ?_⟩
      cases e
      exact ⟨o, I.kIn _ o hk, hd⟩
    · have z : ∃ o, s.heap.get? p = some o ∧ o.ExactDict := by
        rcases hk with ⟨kvs, hk⟩ | ⟨kvs, hk⟩
        · obtain ⟨_, _, _, _, o, _, _, e, ex, _⟩ := I.hok p _ hk
          exact ⟨o, e, ex⟩
        · obtain ⟨_, _, _, _, o, _, _, e, ex, _⟩ := I.hok p _ hk
          exact ⟨o, e, ex⟩
      obtain ⟨o, e, ex⟩ := z
      refine ⟨⟨o, e, ex.1⟩, fun a e2 => ?_⟩
      cases e2
      exact ⟨o, e, ex.2.1⟩
    · obtain ⟨o, _, _, _, e, ex, _⟩ := I.hok p _ hk
      refine ⟨⟨o, e, ex.1⟩, fun a e2 => ?_⟩
      cases e2
      exact ⟨o, e, ex.2.1⟩
  | _ => exact False.elim ty
def tBM (K : PySem.W.Frag) (T : String) (r : V → List V → Hp → VK → Prop) (to : TE) (t : TA) : TE := fun σ H Q => to σ H fun x H1 => tyV K T x H1 ∧ t σ H1 fun xs H2 => r x xs H2 Q
variable {o e : Expr} {es : List Expr} {to : TE} {t : TA} {name : Str} {apos cpos : Pos} {T id : String} {r : V → List V → Hp → VK → Prop}
theorem pe_bm (pa : PlainAttrs T) (slot : Slot T name id) (hty : typeOf (.builtin id) = pure (.type "method_descriptor")) (hm : MtR X id r) (ho : PE X o to) (ha : PA X (e :: es) t)
    (hbase : attributeBase o name X.env (eval o X.env) = eval o X.env := by rfl)
    (hfew : ((backTo cpos (starEach (e :: es) X.env)).all (fun x => !x.1) && (backToKw cpos (keywordEach [] X.env)).all (fun x => x.1.isSome)
      && decide ((e :: es).length + ([] : List Keyword).length + (if ([] : List Keyword).isEmpty then 0 else 1) < 30)) = true := by rfl)
    (hline : (apos.endLine == cpos.line) = true := by rfl) (hs : starEach (e :: es) X.env = (false, eval e X.env) :: starEach es X.env := by rfl) (hplain : (backTo cpos (starEach es X.env)).any (·.1) = false := by rfl) :
    PE X (.Call (.Attribute o name apos) (e :: es) [] cpos) (tBM X.K T r to t) := by
  intro pins s σ H Q I h
  refine wpAny_Call_method_late hbase hfew hline rfl (thn (ho pins s σ H _ I h) fun v s1 ⟨x, H1, I1, r1, ty, q1⟩ => ?_)
  obtain ⟨h1, h2⟩ := tyV_is I1 r1 ty
  refine ⟨T, id, pa, slot, hty, h1, h2, ?_⟩
  have hA := ha cpos pins s1 σ H1 _ I1 q1
  rw [hs] at hA ⊢
  refine Calls.callWith_builtin (by show (false || (backTo cpos (starEach es X.env)).any (·.1)) = false; rw [hplain] <;> rfl) (Calls.evalArgs_plain ?_)
  exact thn hA fun us s2 ⟨vs, H2, I2, r2, q2⟩ => hm pins s2 σ H2 x vs v us Q I2 r1 r2 q2
end
end L2
namespace L2
open PySem PySem.Spec PyProof.Rows
def MtM (X : Cx) (id : String) (r : V → List V → Hp → VK → Prop) : Prop :=
  ∀ (pins : List (Addr × Obj)) (s : Shared) (σ : St) (H : Hp) (x : V) (xs : List V) (v : Value) (us : List Value) (Q : VK), Inv X pins σ H s → RelV x v → Vals xs us → r x xs H Q →
    wpAny (model X.prog X.w) X.A (call (.builtin id) (v :: us)) (EP X pins σ Q) X.xe s
theorem Vals.one : ∀ {x : V} {us : List Value}, Vals [x] us → ∃ u, us = [u] ∧ RelV x u
  | _, _, .cons r .nil => ⟨_, rfl, r⟩
section
variable {X : Cx} {pins : List (Addr × Obj)} {σ : St} {H : Hp} {s : Shared} {l b : Addr} {xs ys zs : List V}
theorem Inv.lset {its its' : List Value} {n : Nat} {f : Array Value → Array Value} {t' : Nat} (I : Inv X pins σ H s) (hH : H l = some (.lst xs))
    (e : s.heap.get? l = some { cls := .type "list", data := .seq its.toArray n }) (hf : f its.toArray = its'.toArray) (hv : Vals ys its') (hz : ys.length ≤ sizeLine) :
    Inv X pins σ (upd H l (.lst ys)) { s with heap := s.heap.update l (Obj.mapSeq f), toks := t' } := by
  have q := PySem.IsL.update e f
  rw [hf] at q
  refine I.write (x := l) (e := l) (by rw [hH]; exact trivial) (.inl rfl) (fun b' u hb hu => (Heap.get?_update_other s.heap (Obj.mapSeq f) (Ne.symm hb)).trans hu) ⟨_, q⟩ ?_
  exact ⟨hz, its', _, hv, q⟩
theorem Inv.lnew {its : List Value} {t' : Nat} (I : Inv X pins σ H s) (hv : Vals ys its) (hz : ys.length ≤ sizeLine) :
    Inv X pins σ (upd H s.heap.objs.size (.lst ys)) { s with heap := s.heap.push { cls := .type "list", data := .seq its.toArray }, toks := t' } :=
  I.laid (fun _ _ q => Heap.get?_push_of_some _ q) (Nat.le_refl _) ⟨hz, its, 0, hv, Heap.get?_push_size _ rfl⟩
theorem Inv.fresh (I : Inv X pins σ H s) : H s.heap.objs.size = none := I.hok.fresh (Nat.le_refl _)
theorem Inv.lstM (I : Inv X pins σ H s) (hH : H l = some (.lst xs)) : xs.length ≤ sizeLine ∧ ∃ (its : List Value) (n : Nat), Vals xs its ∧ xs.length = its.length ∧ s.heap.get? l = some { cls := .type "list", data := .seq its.toArray n } := by
  obtain ⟨z, its, n, r, e⟩ := I.hok l _ hH
  exact ⟨z, its, n, r, r.length, e⟩
theorem notLongL {n : Nat} (h : n ≤ sizeLine) : Builtin.List.listTooLong n = false := by
  unfold Builtin.List.listTooLong
  exact decide_eq_false (by omega)
end
section
variable {X : Cx}
def rAppend : V → List V → Hp → VK → Prop := fun x vs H Q => ∃ l xs y, x = .ref l ∧ vs = [y] ∧ H l = some (.lst xs) ∧ xs.length < sizeLine ∧ Q .non (upd H l (.lst (xs ++ [y])))
theorem mt_append : MtM X "list.append" rAppend := by
  intro pins s σ H x vs v us Q I rx rv h
  obtain ⟨l, xs, y, rfl, rfl, hH, hz, q⟩ := h
  cases rx
  obtain ⟨u, rfl, ru⟩ := rv.one
  obtain ⟨z, its, n, r, hl, e⟩ := I.lstM hH
  refine call_meets F.slot_list_append ⟨_, e, rfl⟩ F.entry_list_append (F.args_list_append_2 _ _) (PySem.list_append l its.toArray n u (by rw [List.size_toArray]; omega)) ⟨e, ?_⟩
  refine ⟨.non, _, I.lset (its' := its ++ [u]) hH e (by simp) (r.append (.cons ru .nil)) ?_, rfl, q⟩
  rw [List.length_append, List.length_singleton]
  omega
def rExtend : V → List V → Hp → VK → Prop := fun x vs H Q => ∃ l b xs zs, x = .ref l ∧ vs = [.ref b] ∧ H l = some (.lst xs) ∧ H b = some (.lst zs) ∧ xs.length + zs.length ≤ sizeLine ∧ Q .non (upd H l (.lst (xs ++ zs)))
theorem mt_extend : MtM X "list.extend" rExtend := by
  intro pins s σ H x vs v us Q I rx rv h
  obtain ⟨l, b, xs, zs, rfl, rfl, hH, hB, hz, q⟩ := h
  cases rx
  obtain ⟨u, rfl, ru⟩ := rv.one
  cases ru
  obtain ⟨z, its, n, r, hl, e⟩ := I.lstM hH
  obtain ⟨z2, its2, n2, r2, hl2, e2⟩ := I.lstM hB
  have hsz : its.toArray.size + its2.toArray.size ≤ sizeLine := by rw [List.size_toArray, List.size_toArray]; omega
  have hlong : ¬ (!its.toArray.isEmpty && Builtin.List.listTooLong (its.toArray.size + its2.toArray.size)) = true := by
    rw [notLongL hsz, Bool.and_false]
    exact Bool.false_ne_true
  refine call_meets F.slot_list_extend ⟨_, e, rfl⟩ F.entry_list_extend (F.args_list_extend_2 _ _)
    (AutoSeq1.list_extend_list_list_0 l its.toArray n b its2.toArray n2 hlong (by rw [List.size_toArray]; omega) (by omega)) ⟨e, e2, ?_⟩
  refine ⟨.non, _, I.lset (its' := its ++ its2) hH e (by simp) (r.append r2) ?_, rfl, q⟩
  rw [List.length_append]
  omega
def rCat : R2 := fun x y H Q => ∃ l b xs zs, x = .ref l ∧ y = .ref b ∧ H l = some (.lst xs) ∧ H b = some (.lst zs) ∧ xs.length + zs.length ≤ sizeLine ∧ ∀ p, H p = none → Q (.ref p) (upd H p (.lst (xs ++ zs)))
theorem op_cat : OpR X (binaryOp .Add) rCat := by
  intro pins s σ H x y v u Q I rx ry h
  obtain ⟨l, b, xs, zs, rfl, rfl, hH, hB, hz, q⟩ := h
  cases rx
  cases ry
  obtain ⟨z, its, n, r, hl, e⟩ := I.lstM hH
  obtain ⟨z2, its2, n2, r2, hl2, e2⟩ := I.lstM hB
  refine PySem.P.add_list e e2 ?_ (by rw [List.size_toArray, List.size_toArray]; omega)
  have ea : its.toArray ++ its2.toArray = (its ++ its2).toArray := by simp
  rw [ea]
  exact ⟨.ref _, _, I.lnew (t' := s.toks) (r.append r2) (by rw [List.length_append]; omega), rfl, q _ I.fresh⟩
end
section
variable {prog : Program} {w : World} {A : Around} {E : Value → Shared → Prop} {s : Shared}
end
section
variable {X : Cx}
end
end L2
namespace L2
open PySem PySem.Spec PyProof.Rows
section
variable {κ : Type} [DecidableEq κ]
theorem KV.length {kvs : List (κ × V)} {vs : List (κ × Value)} (r : KV kvs vs) : kvs.length = vs.length := Paired.length r
end
section
variable {P : Program} {w : World} {H : Hp} {h : Heap} {a : Addr}
theorem rd_of {u : HO} (ok : HOk P w H h) (e : Rd H a u) : ObjOk P w H h a u := e.ok ok
theorem dk_rd {kvs : List (Key × V)} (ok : HOk P w H h) (e : Rd H a (.dK kvs)) : kvs.length ≤ sizeLine ∧ (a == sysModules) = false ∧ ∃ vs, KV kvs vs ∧ h.DictOf (mixKind P w) a vs :=
  show ObjOk P w H h a (.dK kvs) from rd_of ok e
end
section
variable {X : Cx} {pins : List (Addr × Obj)} {σ : St} {H : Hp} {s : Shared} {a : Addr} {y v : V} {u r : Value} {o : Option V} {A : Around} {E : Value → Shared → Prop}
end
section
variable {X : Cx} {pins : List (Addr × Obj)} {σ : St} {H : Hp} {s : Shared} {a : Addr} {kvs : List (Key × V)} {k : Key} {u : Value} {A : Around} {E : Value → Shared → Prop}
theorem d_len {Q : Value → Shared → Prop} (I : Inv X pins σ H s) (e : Rd H a (.dK kvs)) (h : ∀ t s', Inv X pins σ H s' → Q (.int kvs.length t) s') : wpAny (model X.prog X.w) A (call (.builtin "len") [.ref a]) Q E s := by
  obtain ⟨z, hd, vs, rel, dd⟩ := dk_rd I.hok e
  refine call_len_dict hd dd (by rw [← rel.length]; rw [sizeLine_eq] at z; omega) ?_
  rw [← rel.length]
  exact h _ _ (I.tok _)
end
section
variable {X : Cx} {o i e value : Expr} {pos pos' tpos : Pos} {td ty tv : TE}
end
section
variable {X : Cx} {pos : Pos}
end
section
variable {X : Cx} {pins : List (Addr × Obj)} {σ : St} {H : Hp} {s : Shared} {a : Addr} {y d : V} {u r : Value} {o : Option V} {A : Around} {E : Value → Shared → Prop}
end
section
variable {X : Cx} {o e f : Expr} {apos cpos : Pos} {td ty tx : TE}
end
section
variable {X : Cx} {pins : List (Addr × Obj)} {σ : St} {H : Hp} {s : Shared} {a : Addr} {kvs : List (Key × V)} {A : Around} {E : Value → Shared → Prop}
end
section
variable {X : Cx} {pins : List (Addr × Obj)} {σ : St} {H : Hp} {s : Shared} {a : Addr} {y : V} {u : Value} {A : Around} {E : Value → Shared → Prop}
end
end L2
namespace Att
open PySem PySem.W PySem.Calls PyProof.Rows
theorem ints_of_wellAll {P : Params} {h : Heap} : ∀ (ns : List Int) (vs : List Value), WellAll P h vs (ns.map WData.int) → IntsAre vs ns := by
  intro ns
  induction ns with
  | nil =>
    intro vs w
    rw [List.map_nil] at w
    cases w
    exact .nil
  | cons n ns ih =>
    intro vs w
    rw [List.map_cons] at w
    cases w with
    | cons a b =>
      cases a
      exact .cons _ _ (ih _ b)
theorem script_of {l : OpenLaw} {n : Nat} (hn : l.most = some n) {P : Params} {h : Heap} {args : List WData} {vals : List Value}
    (hpre : l.row.toRowW.claim.pre args = true) (hwl : WellAll P h vals args) :
    ∃ a vs ns, vals = [Value.ref a] ∧ args = [WData.list (ns.map WData.int)] ∧ h.get? a = some { cls := .type "list", data := .seq vs.toArray } ∧ IntsAre vs ns ∧ ns.length ≤ n := by
  have hsh : WShape.hasAll [] args [.list .int] = true := (pre_splitW hpre).1
  have hc : l.pre.holds [] { args := args } = true := (pre_splitW hpre).2
  obtain ⟨d, r, rfl, h1, h2⟩ := hasAllW_cons hsh
  obtain rfl := hasAllW_nil h2
  obtain ⟨xs, rfl, h3⟩ := hasW_list h1
  obtain ⟨ns, rfl⟩ := items_int h3
  have hlen : ns.length ≤ n := by
    unfold OpenLaw.pre at hc
    have h4 : (WTm.not (.lt (.lit (.int (n : Int))) (.len (.arg 0)))).holds [] { args := [.list (ns.map .int)] } = true := by
      have h4 := (holds_andW hc).1
      rw [hn] at h4
      exact h4
    have h5 := condW_of h4 (w_not (w_lt w_lit (w_len_list (w_arg rfl))))
    rw [List.length_map] at h5
    refine Nat.le_of_not_lt fun q => ?_
    have q' : (n : Int) < ((ns.length : Nat) : Int) := by omega
    first
      | (rw [decide_eq_true q'] at h5; exact absurd h5 (by decide))
      | (simp at h5; omega)
  cases hwl with
  | cons w1 w2 =>
    cases w2
    cases w1 with
    | list ho hall => exact ⟨_, _, ns, rfl, rfl, ho, ints_of_wellAll ns _ hall, hlen⟩
theorem post_true (l : OpenLaw) (args : List WData) : l.row.toRowW.claim.post args (.bool true) args = true :=
  postW_of (r := l.row.toRowW) (X := (true == true))
    (show WShape.has [] (.bool true) .bool = true by first | rfl | decide | simp [WShape.has, WShape.arms, WShape.armsAll])
    (show (WTm.eq .res (.lit (.bool true))).value [] { args := args, res := some (.bool true), after := args } = some (.bool (true == true)) from w_eq_bool (w_res rfl) w_lit) rfl
theorem attach {l : OpenLaw} {n : Nat} {q : Program} {loose : List Str} {XP : (Str → Option Value) → Heap → Prop} {YP : World → Heap → Prop} {d : DefRec} {x : Str}
    (hn : l.most = some n) (hdf : d.params.defaults = [])
    (hbind : ∀ pm cd doc v : Value, bindArgs (docDef d.name d.params d.body d.scope pm cd doc) ⟨[v], []⟩ = pure [(x, v)])
    (hx : d.scope.names.lookup x = some .local ∨ d.scope.names.lookup x = some .cell)
    (hk : d.scope.kind = .function) (hco : d.scope.isCoroutine = false) (hgen : d.scope.isGenerator = false)
    (body : ∀ (w : World) (s₀ s₁ s : Shared) (mg mb : Str → Option Value) (fa : Addr) (o : Obj) (pm cd doc : Value) (a : Addr) (vs : List Value) (ns : List Int),
      Ground q loose [] XP w s₀ mg mb s₁.heap → YP w s₁.heap →
      s₁.heap.get? fa = some o → o.data = .func (docDef d.name d.params d.body d.scope pm cd doc) → s₁.heap.CodeRec cd d.name → mg d.name = some (.ref fa) →
      s₁.heap.get? a = some { cls := .type "list", data := .seq vs.toArray } → IntsAre vs ns → ns.length ≤ n →
      s.gens = #[] → s.os = s₁.os →
      Fr s₁.heap s₁.heap.objs.size s.heap (bindL (envOfC d.name d.scope s₁.heap.objs.size fa cd).kindOf [(x, .ref a)] fun _ => none) →
      Cl s₁.heap.objs.size (cellsFrom (s₁.heap.objs.size + 1) d.scope.names []) s.heap (bindC (envOfC d.name d.scope s₁.heap.objs.size fa cd).kindOf [(x, .ref a)] fun _ => none) →
      wpAny (model l.prog w) (callerA.deeper (envOfC d.name d.scope s₁.heap.objs.size fa cd)) (execs d.body (envOfC d.name d.scope s₁.heap.objs.size fa cd))
        (fun f s' => f = .ret (.bool true) ∧ OldK s₁.heap s'.heap ∧ s'.os = s₁.os ∧ AllBare s'.gens) (fun _ _ => False) s) :
    WalkO q loose XP YP l.row.toRowW d [] (fun f vs => PySem.call f vs) := by
  intro w s₀ s₁ mg mb G Y fa o pm cd doc dV kV ho hd hcd hD hmg hg args vals as hpre hlay hrd hwl hlo
  obtain rfl : dV = .none := Dflts.none hD hdf
  obtain rfl : kV = .none := Dflts.noKw hD
  obtain ⟨a, vs, ns, rfl, rfl, hobj, hints, hlen⟩ := script_of hn hpre hwl
  refine enter_call ?_
  refine call_cells_ret (o := o) (by rw [depth_caller]; decide) ho (fd_plain hd) G.T.nolimit hcd (hbind pm cd doc (.ref a)) (fun y hy => ?_) (fun h₁ tk F X => ?_) hco hgen hk
  · obtain rfl : y = (x, Value.ref a) := List.mem_singleton.mp hy
    rcases hx with e | e
    · exact .inl e
    · exact .inr ⟨e, cellsFrom_some _ _ _ (.inl e)⟩
  · refine wpAny_mono (body w s₀ s₁ { s₁ with heap := h₁, toks := tk } mg mb fa o pm cd doc a vs ns G Y ho (fd_plain hd) hcd hmg hobj hints hlen hg rfl F X) (fun f s' hq => ?_) (fun _ _ hq => hq)
    obtain ⟨rfl, h2, h3, h4⟩ := hq
    exact ⟨.inl ⟨.bool true, .bool true, [], rfl, fun _ => rfl, .bool true, post_true l _, fun _ => ⟨List.Pairwise.nil, fun _ hm => (nomatch hm)⟩⟩, h2, h3, h4⟩
theorem attach_call {l : OpenLaw} {n : Nat} {q : Program} {loose : List Str} {XP : (Str → Option Value) → Heap → Prop} {YP : World → Heap → Prop} {d : DefRec}
    (hn : l.most = some n) (hdf : d.params.defaults = [])
    (call : ∀ (w : World) (s₀ s₁ : Shared) (mg mb : Str → Option Value) (fa : Addr) (o : Obj) (pm cd doc : Value) (a : Addr) (vs : List Value) (ns : List Int),
      Ground q loose [] XP w s₀ mg mb s₁.heap → YP w s₁.heap →
      s₁.heap.get? fa = some o → o.data = .func (docDef d.name d.params d.body d.scope pm cd doc) → s₁.heap.CodeRec cd d.name → mg d.name = some (.ref fa) →
      s₁.heap.get? a = some { cls := .type "list", data := .seq vs.toArray } → IntsAre vs ns → ns.length ≤ n → s₁.gens = #[] →
      codeAny (model l.prog w) callerA (.call (.ref fa) ⟨[.ref a], []⟩) (fun r s' => r = .ok (.ret (.bool true)) ∧ OldK s₁.heap s'.heap ∧ s'.os = s₁.os ∧ AllBare s'.gens) s₁) :
    WalkO q loose XP YP l.row.toRowW d [] (fun f vs => PySem.call f vs) := by
  intro w s₀ s₁ mg mb G Y fa o pm cd doc dV kV ho hd hcd hD hmg hg args vals as hpre hlay hrd hwl hlo
  obtain rfl : dV = .none := Dflts.none hD hdf
  obtain rfl : kV = .none := Dflts.noKw hD
  obtain ⟨a, vs, ns, rfl, rfl, hobj, hints, hlen⟩ := script_of hn hpre hwl
  refine enter_call (codeAny_mono (call w s₀ s₁ mg mb fa o pm cd doc a vs ns G Y ho (fd_plain hd) hcd hmg hobj hints hlen hg) fun r s' hq => ?_)
  obtain ⟨rfl, h2, h3, h4⟩ := hq
  exact ⟨.inl ⟨.bool true, .bool true, [], rfl, fun _ => rfl, .bool true, post_true l _, fun _ => ⟨List.Pairwise.nil, fun _ hm => (nomatch hm)⟩⟩, h2, h3, h4⟩
section
variable {prog : Program} {w : World} {A : Around} {E : Value → Shared → Prop} {s : Shared} {K : Frag}
end
end Att
namespace L2
open PySem PySem.Spec PyProof.Rows
theorem vals_ints : ∀ {vs : List Value} {ns : List Int}, IntsAre vs ns → Vals (ns.map V.int) vs
  | _, _, .nil => .nil
  | _, _, .cons n t h => .cons ⟨t, rfl⟩ (vals_ints h)
def Only (H : Hp) : Prop := ∀ b, H b = none ∨ ∃ o xs, H b = some (.frz o (.lst xs))
theorem law_call {P : Program} {w : World} {K : PySem.W.Frag} {mg mb : Str → Option Value} {CX : CXT} {k : Nat} {fa a : Addr} {fd : FuncData} {x : Str} {sp : Sp} {s₁ : Shared} {vs : List Value} {ns : List Int}
    (KX : K.In s₁.heap) (hns : s₁.heap.Ns mainGlobals mg) (hb : s₁.heap.Ns builtinsNs mb) (hbb : ∀ x : Str, x ≠ "__name__" → mb x = bootBuiltins x) (hlim : s₁.heap.NoLimit) (hg : s₁.gens = #[])
    (ha : s₁.heap.get? a = some { cls := .type "list", data := .seq vs.toArray }) (hi : IntsAre vs ns) (hl : ns.length ≤ sizeLine) (hr : Room k callerA)
    (F : ∀ base : Heap, K.In base → base.Ns mainGlobals mg → FnOk P w K mg base CX k fa fd [x] sp) (hbind : ∀ (s : Shared) (u : Value), BindsTo s fd ⟨[u], []⟩ [(x, u)])
    (hsp : ∀ H : Hp, Only H → SqL K H a (ns.map V.int) → sp [.ref a] H (fun v _ => v = .bl true) fun _ _ _ => False)
    (hCX : ∀ H e s', CX [] H s₁ (fun _ _ _ => False) e s' → False) :
    codeAny (model P w) callerA (.call (.ref fa) ⟨[.ref a], []⟩) (fun r s' => r = .ok (.ret (.bool true)) ∧ OldK s₁.heap s'.heap ∧ s'.os = s₁.os ∧ AllBare s'.gens) s₁ := by
  have rv := vals_ints hi
  have lenV := hi.length
  have core : ∀ H : Hp, Only H → SqL K H a (ns.map V.int) → HOk P w H s₁.heap → (∀ b, H b ≠ none → b = a) → (H a ≠ none → K.lookup a = none) →
      codeAny (model P w) callerA (.call (.ref fa) ⟨[.ref a], []⟩) (fun r s' => r = .ok (.ret (.bool true)) ∧ OldK s₁.heap s'.heap ∧ s'.os = s₁.os ∧ AllBare s'.gens) s₁ := by
    intro H hO hS hok hA hK
    have base_of : ∀ {b : Addr} {o : Obj}, s₁.heap.get? b = some o → H b = none → (hidT s₁.heap H).get? b = some o := fun e n => hidT_get e n
    have noA : ∀ {b : Addr} {o : Obj} {es : Array DictEntry} {ep : Nat}, s₁.heap.get? b = some o → o.data = .dict es ep → H b = none := fun {b o es ep} e d => by
      cases q : H b with
      | none => rfl
      | some u =>
        have e' : b = a := hA b (by rw [q]; simp)
        subst e'
        rw [ha] at e; cases e
        have d' : Data.seq vs.toArray _ = Data.dict es ep := d
        cases d'
    have nsK : ∀ {b : Addr} {m : Str → Option Value}, s₁.heap.Ns b m → (hidT s₁.heap H).Ns b m := fun {b m} ⟨o, es, ep, e, d, r⟩ => ⟨o, es, ep, base_of e (noA e d), d, r⟩
    have hKb : K.In (hidT s₁.heap H) := fun b o e => base_of (KX b o e) (by
      cases q : H b with
      | none => rfl
      | some u =>
        have e' : b = a := hA b (by rw [q]; simp)
        subst e'
        rw [hK (by rw [q]; simp)] at e; cases e)
    have hM : Mod K mg (hidT s₁.heap H) := ⟨hKb, nsK hns, ⟨mb, nsK hb, hbb⟩, let ⟨mc, h1, h2⟩ := hlim; ⟨mc, nsK h1, h2⟩⟩
    have e0 : Env0 P w K mg (hidT s₁.heap H) callerA [] s₁ H := ⟨rfl, hM, fun b o e => of_hidT e, Nat.le_of_eq (hidT_size _ _), trivial, fun b hb => absurd (show b ∈ ([] : List Addr) from hb) (by simp), hok, .of_eq hg⟩
    refine codeAny_mono ((F _ hKb (nsK hns)).run callerA [] s₁ H ⟨[.ref a], []⟩ [.ref a] [.ref a] _ _ hr e0 (hbind s₁ (.ref a)) (.cons rfl .nil) (hsp H hO hS)) fun r s' h => ?_
    cases r with
    | error e => exact (hCX H e s' h).elim
    | ok fl =>
      cases fl with
      | next => exact False.elim h
      | brk => exact False.elim h
      | cont => exact False.elim h
      | ret u =>
        obtain ⟨v, H', os, bare, un, hok', r', q⟩ := h
        have q' : v = .bl true := q
        subst q'
        obtain rfl : u = Value.bool true := r'
        refine ⟨rfl, OldK.of_keep fun b o e => ?_, os, bare⟩
        cases q : H b with
        | none => exact un.keep b o e q (by intro z; exact absurd (show b ∈ ([] : List Addr) from z) (by simp)) (by simp)
        | some u =>
          rcases hO b with z | ⟨ob, xs, z⟩
          · rw [q] at z; cases z
          · have z2 := un.frzs b ob _ z
            obtain ⟨e1, _⟩ := hok b _ z
            obtain ⟨e2, _⟩ := hok' b _ z2
            rw [e] at e1; cases e1
            exact e2
  cases hk : K.lookup a with
  | some o =>
    have e := KX a o hk
    rw [ha] at e
    cases e
    refine core (fun _ => none) (fun _ => .inl rfl) (.inr ⟨_, vs.toArray, _, hk, rfl, rfl, rfl, by rw [List.size_toArray, lenV]; exact hl, by simpa using rv⟩) (fun b u z => by have z' : (none : Option HO) = some u := z; cases z') (fun b z => absurd rfl z) fun z => absurd rfl z
  | none =>
    refine core (fun b => if b = a then some (.frz { cls := .type "list", data := .seq vs.toArray } (.lst (ns.map V.int))) else none) (fun b => ?_) (.inl (.inr ⟨{ cls := .type "list", data := .seq vs.toArray }, if_pos rfl⟩)) (fun b u z => ?_) (fun b z => ?_) fun _ => hk
    · by_cases hb : b = a
      · exact .inr ⟨_, _, if_pos hb⟩
      · exact .inl (if_neg hb)
    · by_cases hb : b = a
      · have z' := (if_pos hb).symm.trans z
        cases z'
        subst hb
        exact ⟨ha, by rw [List.length_map]; exact hl, vs, _, rv, ha⟩
      · have z' := (if_neg hb).symm.trans z
        cases z'
    · by_cases hb : b = a
      · exact hb
      · exact absurd (if_neg hb) z
end L2
namespace L2
open PySem PySem.Spec PyProof.Rows
theorem walk_of {l : PySem.W.OpenLaw} {n k : Nat} {q : Program} {loose : List Str} {XP : (Str → Option Value) → Heap → Prop} {YP : World → Heap → Prop} {d : DefRec} {K : Params → PySem.W.Frag} {CX : World → CXT} {sp : World → Sp} {x : Str}
    (hn : l.most = some n) (hn2 : n ≤ sizeLine) (hdf : d.params.defaults = []) (hr : Room k callerA)
    (hY : ∀ (w : World) (h : Heap), YP w h → (K w.params).In h)
    (F : ∀ (w : World) (mg : Str → Option Value) (fa : Addr) (h : Heap), (K w.params).In h → h.Ns mainGlobals mg → mg d.name = some (.ref fa) →
      ∃ fd : FuncData, (∀ (s : Shared) (u : Value), BindsTo s fd ⟨[u], []⟩ [(x, u)]) ∧
        ∀ base : Heap, (K w.params).In base → base.Ns mainGlobals mg → FnOk l.prog w (K w.params) mg base (CX w) k fa fd [x] (sp w))
    (hsp : ∀ (w : World) (H : Hp) (a : Addr) (ns : List Int), ns.length ≤ n → Only H → SqL (K w.params) H a (ns.map V.int) → sp w [.ref a] H (fun v _ => v = .bl true) fun _ _ _ => False)
    (hCX : ∀ (w : World) (H : Hp) (s : Shared) (e : Value) (s' : Shared), CX w [] H s (fun _ _ _ => False) e s' → False) :
    PySem.W.WalkO q loose XP YP l.row.toRowW d [] (fun f vs => PySem.call f vs) := by
  refine Att.attach_call hn hdf fun w s₀ s₁ mg mb fa o pm cd doc a vs ns G Y ho hd hcd hmg hobj hints hlen hg => ?_
  have KX := hY w _ Y
  obtain ⟨fd, hb, hF⟩ := F w mg fa _ KX G.T.g hmg
  exact law_call KX G.T.g G.T.b G.T.builtins G.T.nolimit hg hobj hints (Nat.le_trans hlen hn2) hr hF hb (fun H hO hS => hsp w H a ns hlen hO hS) fun H e s' => hCX w H s₁ e s'
end L2
namespace L2
open PySem PySem.Spec PyProof.Rows
def defArgs (s : Stmt) : Arguments := match s with
  | .FunctionDef _ a _ _ _ _ _ _ _ _ => a
  | _ => { posonlyargs := [], args := [], vararg := none, kwonlyargs := [], kw_defaults := [], kwarg := none, defaults := [] }
def defBody (s : Stmt) : List Stmt := match s with
  | .FunctionDef _ _ b _ _ _ _ _ _ _ => b
  | _ => []
def defScope (s : Stmt) : Scope := match s with
  | .FunctionDef _ _ _ _ _ _ sc _ _ _ => sc
  | _ => { kind := .function, names := [], isGenerator := false, isCoroutine := false }
abbrev CX0 : CXT := fun _ _ _ _ _ _ => False
abbrev E0 : XK := fun _ _ _ => False
theorem pass0 {X : Cx} : Passes CX0 X E0 := fun _ _ _ _ _ _ _ h => h.elim
structure Fun (K : PySem.W.Frag) (x qual : Str) (st : Stmt) (f : Addr) (fd : FuncData) : Prop where
  ex : ∃ (oc : Value) (od : Option Addr) (kV doc pm : Value) (an : Option Addr) (cdv ct : Value) (osl : Array (Option Value)),
    fd = PySem.W.fnOf x qual (defArgs st) (defBody st) (defScope st) .none kV doc pm an cdv ct ∧ K.lookup f = some ⟨oc, od, .func fd, osl⟩ ∧ PySem.W.codeIn K cdv qual = true
  kp : PySem.W.keepIn K (.ref f) = true
section
variable {P : Program} {w : World} {K : PySem.W.Frag} {mg : Str → Option Value} {base : Heap}
theorem Fun.ok {x qual : Str} {st : Stmt} {f : Addr} {fd : FuncData} {N ps : List Str} {k : Nat} {sp : Sp} (F : Fun K x qual st f fd) (S : FnScope N ps (defScope st)) (len : ∀ vs H Q E, sp vs H Q E → vs.length = ps.length)
    (hbody : ∀ (cdv : Value) (A : Around) (outer : List Env) (s : Shared) (H : Hp) (vs : List V) (Q : VK) (E : XK), Room k (A.deeper (envOfC qual (defScope st) s.heap.objs.size f cdv)) → sp vs H Q E →
      ∃ t, PSs (cxOf CX0 P w K mg base N qual (defScope st) f cdv A outer s H E).nox (defBody st) t ∧ t { nx := fun _ H' => Q .non H', rt := Q } (start N vs) H) : FnOk P w K mg base CX0 (k + 1) f fd ps sp := by
  obtain ⟨oc, od, kV, doc, pm, an, cdv, ct, osl, rfl, lk, hcd⟩ := F.ex
  refine fn_of lk hcd S len fun A outer s H vs Q E hr hsp => ?_
  obtain ⟨t, h, q⟩ := hbody cdv A outer s H vs Q E hr hsp
  exact ⟨t, h.nox, q⟩
theorem Fun.binds {x qual : Str} {st : Stmt} {f : Addr} {fd : FuncData} {ps : List Str} (F : Fun K x qual st f fd)
    (h : ∀ (kV doc pm : Value) (an : Option Addr) (cdv ct : Value) (us : List Value), us.length = ps.length → bindArgs (PySem.W.fnOf x qual (defArgs st) (defBody st) (defScope st) .none kV doc pm an cdv ct) ⟨us, []⟩ = pure (ps.zip us)) : Binds K fd ps [] := by
  obtain ⟨oc, od, kV, doc, pm, an, cdv, ct, osl, rfl, lk, hcd⟩ := F.ex
  exact .all (h kV doc pm an cdv ct)
theorem fun_mk {x qual : Str} {st : Stmt} {f : Addr} {oc : Value} {od an : Option Addr} {osl : Array (Option Value)} {kV doc pm cdv ct : Value} (l : K.lookup f = some ⟨oc, od, .func (PySem.W.fnOf x qual (defArgs st) (defBody st) (defScope st) .none kV doc pm an cdv ct), osl⟩)
    (c : PySem.W.codeIn K cdv qual = true) (k : PySem.W.keepIn K (.ref f) = true) : Fun K x qual st f (PySem.W.fnOf x qual (defArgs st) (defBody st) (defScope st) .none kV doc pm an cdv ct) := ⟨⟨oc, od, kV, doc, pm, an, cdv, ct, osl, rfl, l, c⟩, k⟩
end
theorem hu_of {A : Around} {k : Nat} (hr : Room k A) : A.units + 1 < cLine := Nat.lt_of_le_of_lt (Nat.add_le_add_left (by decide : 1 ≤ 64) _) hr.units
theorem small1000 {n : Nat} (h : n ≤ 1000) : n < sizeLine := Nat.lt_of_le_of_lt h (by decide)
section
variable {X : Cx}
theorem pv (i : Nat) {x : Str} {pos : Pos} (hN : X.N[i]? = some x := by rfl) (hv : Vis X.env.scope x := by first | exact Or.inl rfl | exact Or.inr (Or.inl rfl) | exact Or.inr (Or.inr rfl)) (hd : (x == ("__debug__" : Str)) = false := by decide)
    (hcd : (x == ("__classdict__" : Str)) = false := by decide) : PE X (.Name x pos) (tVar i) := pe_var hN hv hd hcd
theorem call_lenD : CallR X (.builtin "len") (fun xs H Q => ∃ a kvs, xs = [V.ref a] ∧ H a = some (.dK kvs) ∧ Q (.int kvs.length) H) := by
  intro pins s σ H xs us Q I r h
  obtain ⟨a, kvs, rfl, ha, q⟩ := h
  obtain ⟨u, rfl, ru⟩ := vals1 r
  cases ru
  exact d_len I (.inl ha) fun t s' I' => ⟨.int kvs.length, H, I', ⟨t, rfl⟩, q⟩
end
theorem iteF {A B : Prop} (h : B) : if false = true then A else B := by
  rw [if_neg Bool.false_ne_true]
  exact h
theorem iteT {A B : Prop} (h : A) : if true = true then A else B := by
  rw [if_pos rfl]
  exact h
def Same (H H' : Hp) : Prop := ∀ b o, H b = some o → H' b = some o
theorem Same.refl (H : Hp) : Same H H := fun _ _ h => h
theorem Same.trans {H H1 H2 : Hp} (a : Same H H1) (b : Same H1 H2) : Same H H2 := fun c o h => b c o (a c o h)
theorem Same.free {H H' : Hp} (e : Same H H') {l : Addr} (h : H' l = Option.none) : H l = Option.none := by
  cases q : H l with
  | none => rfl
  | some o =>
    rw [e l o q] at h
    cases h
theorem Same.seq {K : PySem.W.Frag} {H H' : Hp} {a : Addr} {xs : List V} (e : Same H H') (h : SqL K H a xs) : SqL K H' a xs := by
  rcases h with (h | ⟨o, h⟩) | h
  · exact .inl (.inl (e _ _ h))
  · exact .inl (.inr ⟨o, e _ _ h⟩)
  · exact .inr h
section
variable {κ : Type} [DecidableEq κ]
end
end L2
namespace L2
open PySem PySem.Spec PyProof.Rows
def clGo (cells : List (Str × Addr)) : List (Str × NameKind) → List (Str × Addr) → List (Str × Addr)
  | [], cs => cs
  | (n, k) :: r, cs => clGo cells r (if k == .free then (n, (cells.lookup n).getD 0) :: cs else cs)
theorem closure_go {env : Env} : ∀ (ns : List (Str × NameKind)) (cs : List (Str × Addr)), (∀ x ∈ ns, x.2 = .free → ∃ c, env.cells.lookup x.1 = some c) →
    (forIn ns cs (fun (x : Str × NameKind) r => (match x with
      | (name, kind) => if (kind == .free) = true then (do let y ← cellOf env name; pure (ForInStep.yield ((name, y) :: r))) else pure (ForInStep.yield r)) : _ → _ → Sem _)) = (pure (clGo env.cells ns cs) : Sem (List (Str × Addr)))
  | [], cs, _ => by rw [List.forIn_nil]; rfl
  | (n, k) :: r, cs, h => by
    rw [List.forIn_cons]
    have hr : ∀ x ∈ r, x.2 = .free → ∃ c, env.cells.lookup x.1 = some c := fun x hx => h x (List.mem_cons_of_mem _ hx)
    cases hk : (k == NameKind.free) with
    | true =>
      have e : k = .free := by simpa using hk
      obtain ⟨c, hc⟩ := h (n, k) List.mem_cons_self e
      simp only [hk, if_true]
      have e1 : cellOf env n = pure c := by unfold cellOf; rw [hc]
      rw [e1]
      show ((pure c >>= fun y => pure (ForInStep.yield ((n, y) :: cs))) >>= _ : Sem _) = _
      rw [pure_bind, pure_bind]
      have := closure_go (env := env) r ((n, c) :: cs) hr
      refine this.trans ?_
      unfold clGo
      simp only [hk, if_true, hc, Option.getD_some]
      cases r <;> rfl
    | false =>
      simp only [hk, Bool.false_eq_true, if_false]
      rw [pure_bind]
      have := closure_go (env := env) r cs hr
      refine this.trans ?_
      conv => rhs; unfold clGo
      simp only [hk, Bool.false_eq_true, if_false]
theorem closureFor_eq {scope : Scope} {env : Env} (h : ∀ x ∈ scope.names, x.2 = .free → ∃ c, env.cells.lookup x.1 = some c) : closureFor scope env = pure (clGo env.cells scope.names []) := by
  have e := closure_go (env := env) scope.names [] h
  unfold closureFor
  rw [show (pure (clGo env.cells scope.names []) : Sem (List (Str × Addr))) = (pure (clGo env.cells scope.names []) >>= pure) by rw [pure_bind]]
  rw [← e]
theorem clGo_sound {cells : List (Str × Addr)} : ∀ (ns : List (Str × NameKind)) (cs : List (Str × Addr)) {x : Str} {c : Addr}, (∀ y ∈ ns, y.2 = .free → ∃ c, cells.lookup y.1 = some c) →
    (∀ x c, cs.lookup x = some c → cells.lookup x = some c) → (clGo cells ns cs).lookup x = some c → cells.lookup x = some c
  | [], cs, x, c, _, hc, h => hc x c h
  | (n, k) :: r, cs, x, c, hn, hc, h => by
    unfold clGo at h
    have hr : ∀ y ∈ r, y.2 = .free → ∃ c, cells.lookup y.1 = some c := fun y hy => hn y (List.mem_cons_of_mem _ hy)
    cases hk : (k == NameKind.free) with
    | false =>
      simp only [hk, Bool.false_eq_true, if_false] at h
      exact clGo_sound r cs hr hc h
    | true =>
      simp only [hk, if_true] at h
      refine clGo_sound r _ hr (fun y d e => ?_) h
      obtain ⟨c0, h0⟩ := hn (n, k) List.mem_cons_self (by simpa using hk)
      have h0 : cells.lookup n = some c0 := h0
      rw [h0] at e
      rw [List.lookup_cons] at e
      by_cases hyn : y = n
      · subst hyn
        simp only [beq_self_eq_true, Option.getD_some] at e
        rw [h0]; exact e
      · have : (y == n) = false := beq_eq_false_iff_ne.mpr hyn
        simp only [this] at e
        exact hc y d e
theorem clGo_has {cells : List (Str × Addr)} : ∀ (ns : List (Str × NameKind)) (cs : List (Str × Addr)) {x : Str}, ((x, NameKind.free) ∈ ns ∨ ∃ c, cs.lookup x = some c) → ∃ c, (clGo cells ns cs).lookup x = some c
  | [], cs, x, h => by
    rcases h with h | h
    · simp at h
    · exact h
  | (n, k) :: r, cs, x, h => by
    unfold clGo
    refine clGo_has r _ ?_
    rcases h with h | ⟨c, h⟩
    · rcases List.mem_cons.mp h with e | e
      · cases e
        exact .inr ⟨_, by simp [List.lookup_cons]; rfl⟩
      · exact .inl e
    · right
      cases hk : (k == NameKind.free) with
      | false => exact ⟨c, by simpa [hk] using h⟩
      | true =>
        simp only [if_true]
        rw [List.lookup_cons]
        by_cases hxn : (x == n) = true
        · simp only [hxn]; exact ⟨_, rfl⟩
        · simp only [Bool.eq_false_iff.mpr hxn]; exact ⟨c, h⟩
theorem lookup_relabel {env : Env} : ∀ {names : List (Str × NameKind)} {x : Str} {k : NameKind}, (names.map fun (n, k) => if (k == NameKind.free && env.scope.kind == .function && env.kindOf n == some .cell) then (n, NameKind.cell) else (n, k)).lookup x = some k →
    names.lookup x = some k ∨ (names.lookup x = some .free ∧ k = .cell)
  | [], _, _, h => by simp at h
  | (n, q) :: r, x, k, h => by
    have ih := @lookup_relabel env r x k
    rw [List.map_cons] at h
    by_cases hx : (x == n) = true
    · have e : x = n := by simpa using hx
      subst e
      by_cases hc : (q == NameKind.free && env.scope.kind == .function && env.kindOf x == some .cell) = true
      · simp only [hc, if_true, List.lookup_cons, beq_self_eq_true] at h
        have hq : q = .free := by simp at hc; exact hc.1.1
        exact .inr ⟨by simp [List.lookup_cons, hq], (Option.some.inj h).symm⟩
      · simp only [hc, Bool.false_eq_true, if_false, List.lookup_cons, beq_self_eq_true] at h
        exact .inl (by simp [List.lookup_cons]; exact Option.some.inj h)
    · have hx' : (x == n) = false := Bool.eq_false_iff.mpr hx
      have h' : (r.map fun (n, k) => if (k == NameKind.free && env.scope.kind == .function && env.kindOf n == some .cell) then (n, NameKind.cell) else (n, k)).lookup x = some k := by
        by_cases hc : (q == NameKind.free && env.scope.kind == .function && env.kindOf n == some .cell) = true
        · simp only [hc, if_true, List.lookup_cons, hx'] at h; exact h
        · simp only [hc, Bool.false_eq_true, if_false, List.lookup_cons, hx'] at h; exact h
      simp only [List.lookup_cons, hx']
      exact ih h'
def blockSt (fr : List (Option Nat)) (σ : St) : St := fr.map fun o => o.bind fun j => (σ[j]?).join
def Wk (σ₁ σ₂ : St) : Prop := σ₁.length = σ₂.length ∧ ∀ (i : Nat) v, σ₁[i]? = some (some v) → σ₂[i]? = some (some v)
theorem Wk.refl (σ : St) : Wk σ σ := ⟨rfl, fun _ _ h => h⟩
theorem Wk.set {σ τ : St} {i : Nat} {v : V} (h : Wk σ τ) (hi : σ[i]? = some none) : Wk σ (τ.set i (some v)) := by
  refine ⟨by rw [List.length_set]; exact h.1, fun j w e => ?_⟩
  by_cases hj : j = i
  · subst hj; rw [hi] at e; cases e
  · rw [List.getElem?_set_ne (Ne.symm hj)]; exact h.2 j w e
def cxC (X : Cx) (scope : Scope) (N : List Str) (s : Shared) (H : Hp) (C : Addr) (fp : List Addr) (E : Value → Shared → Prop) : Cx :=
  { X with N := N, s₀ := s, H₀ := H, env := compEnvC scope (clGo X.env.cells scope.names []) C X.env, outer := X.stack, ex := fp, fn := fun _ => false, pn := [], xe := E }
structure CoScope (X : Cx) (scope : Scope) (N : List Str) (fr : List (Option Nat)) : Prop where
  kind : scope.kind = .function
  nocell : ∀ y ∈ scope.names, y.2 ≠ .cell
  names : ∀ y ∈ scope.names, y.2 = .local → scope.names.lookup y.1 = some .local
  free : ∀ y ∈ scope.names, y.2 = .free → X.env.scope.names.lookup y.1 = some .cell ∨ X.env.scope.names.lookup y.1 = some .free
  len : fr.length = N.length
  from_ : ∀ (i j : Nat), fr[i]? = some (some j) → ∃ x, N[i]? = some x ∧ X.N[j]? = some x ∧ scope.names.lookup x = some .free
section
variable {X : Cx} {pins : List (Addr × Obj)} {σ : St} {H : Hp} {s : Shared} {scope : Scope} {N : List Str} {fr : List (Option Nat)}
theorem CoScope.cells (S : CoScope X scope N fr) (I : Inv X pins σ H s) : ∀ y ∈ scope.names, y.2 = .free → ∃ c, X.env.cells.lookup y.1 = some c := fun y hy hk => I.ok.has y.1 (S.free y hy hk)
theorem inv_block {C D : Addr} {fp : List Addr} {E : Value → Shared → Prop} {h1 : Heap} {tk : Nat} {m : Str → Option Value} (S : CoScope X scope N fr) (I : Inv X pins σ H s)
    (hf : ∀ b ∈ fp, FpOk X pins H b) (hfl : ∀ b ∈ fp, b < s.heap.objs.size) (hD : s.heap.objs.size ≤ D) (hC : s.heap.objs.size ≤ C) (hDC : D ≠ C)
    (old : ∀ b o, s.heap.get? b = some o → h1.get? b = some o) (hns : h1.Ns C m) (hacc : h1.get? D = some { cls := .type "list", data := .seq #[] 0 }) :
    Inv (cxC X scope N s H C fp E) [] (blockSt fr σ) (upd H D (.lst [])) { s with heap := h1, toks := tk } := by
  have hHD : H D = none := I.hok.fresh hD
  have cl := S.cells I
  have cs : ∀ {x : Str} {c : Addr}, (clGo X.env.cells scope.names []).lookup x = some c → X.env.cells.lookup x = some c := fun {x c} h => clGo_sound scope.names [] cl (fun _ _ z => by simp at z) h
  have clt : ∀ {x : Str} {c : Addr}, X.env.cells.lookup x = some c → c < s.heap.objs.size := fun {x c} h => by obtain ⟨v, z⟩ := I.cell x c h; exact z.lt
  refine ⟨⟨I.ok.mod, ?_, I.ok.glob, I.ok.blt, hC, ?_, ?_, (fun _ _ z => Bool.noConfusion (show (false : Bool) = true from z)), I.ok.hd, I.ok.frames, .inl rfl, ?_, I.bs, Nat.le_trans I.ok.bsz I.sz, ?_, ?_, I.stack, I.stkFree⟩, rfl, I.bare, Un.laid old hD hHD, ⟨m, hns, ?_⟩, ?_, ?_, ?_, fun p hp => absurd (show p ∈ ([] : List (Addr × Obj)) from hp) (by simp), ?_, ?_⟩
  · exact S.kind
  · intro x y c h1 h2
    exact I.ok.inj x y c (cs h1) (cs h2)
  · intro x hx
    have hx : (relabel scope X.env).names.lookup x = some .cell ∨ (relabel scope X.env).names.lookup x = some .free := hx
    have fin : (x, NameKind.free) ∈ scope.names → ∃ c, (clGo X.env.cells scope.names []).lookup x = some c := fun z => clGo_has scope.names [] (.inl z)
    rcases hx with hx | hx
    · rcases lookup_relabel hx with z | z
      · exact absurd rfl (S.nocell _ (PySem.mem_of_lookup z))
      · exact fin (PySem.mem_of_lookup z.1)
    · rcases lookup_relabel hx with z | z
      · exact fin (PySem.mem_of_lookup z)
      · exact absurd z.2 (by decide)
  · intro b hb
    refine ⟨Nat.ne_of_lt (Nat.lt_of_lt_of_le (hfl b hb) hC), fun x c e => (hf b hb).2.2.2.2.1 x c (cs e)⟩
  · intro b o e hb
    rcases (hf b hb).2.2.2.1 with z | z
    · exact I.ok.noex b o e z
    · exact absurd (Nat.lt_of_lt_of_le (Heap.lt_size e) (Nat.le_trans I.ok.bsz z)) (Nat.lt_irrefl _)
  · intro b hb z
    rcases List.mem_cons.mp (I.stkSub b z) with e | e
    · exact (hf b hb).2.1 e
    · exact (hf b hb).2.2.1 e
  · intro i x v e1 e2 e3
    have e2 : (fr.map fun o => o.bind fun j => (σ[j]?).join)[i]? = some (some v) := e2
    rw [List.getElem?_map] at e2
    cases ef : fr[i]? with
    | none => rw [ef] at e2; cases e2
    | some o =>
      rw [ef] at e2
      cases o with
      | none => cases e2
      | some j =>
        have e2 : some ((σ[j]?).join) = some (some v) := e2
        have ej : σ[j]? = some (some v) := by
          cases q : σ[j]? with
          | none => rw [q] at e2; cases e2
          | some w => rw [q] at e2; cases w with
            | none => cases e2
            | some w => cases e2; rfl
        obtain ⟨y, a1, a2, a4⟩ := S.from_ i j ef
        have e1 : N[i]? = some x := e1
        rw [e1] at a1
        cases a1
        have a3 : (x, NameKind.free) ∈ scope.names := PySem.mem_of_lookup a4
        have vis : Vis X.env.scope x := (S.free _ a3 rfl).elim (fun z => .inr (.inl z)) fun z => .inr (.inr z)
        obtain ⟨m0, hn0, hl0⟩ := I.loc
        obtain ⟨u, r, l⟩ := hl0 j x v a2 ej vis
        refine ⟨u, r, .inr ⟨?_, ?_⟩⟩
        · have e3 : (relabel scope X.env).names.lookup x = some .local ∨ (relabel scope X.env).names.lookup x = some .cell ∨ (relabel scope X.env).names.lookup x = some .free := e3
          rcases e3 with z | z | z
          · rcases lookup_relabel z with y | y
            · rw [a4] at y; cases y
            · exact absurd y.2 (by decide)
          · exact .inl z
          · exact .inr z
        · obtain ⟨c, hc⟩ := clGo_has (cells := X.env.cells) scope.names [] (x := x) (.inl a3)
          refine ⟨c, hc, ?_⟩
          have hc' := cs hc
          have S1 := S.free (x, .free) a3 rfl
          rcases l with ⟨k, _⟩ | ⟨_, c2, hc2, z⟩
          · have k : X.env.scope.names.lookup x = some .local := k
            rcases S1 with q | q <;> (have q : X.env.scope.names.lookup x = _ := q; rw [k] at q; cases q)
          · rw [hc'] at hc2; cases hc2
            obtain ⟨oc, ho, hd⟩ := z
            exact ⟨oc, old c oc ho, hd⟩
  · intro x c e
    obtain ⟨v, oc, ho, hd⟩ := I.cell x c (cs e)
    exact ⟨v, oc, old c oc ho, hd⟩
  · show upd H D (.lst []) C = none
    rw [upd_ne (Ne.symm hDC)]; exact I.hok.fresh hC
  · intro x c e
    have q := cs e
    show upd H D (.lst []) c = none
    rw [upd_ne (Nat.ne_of_lt (Nat.lt_of_lt_of_le (clt q) hD))]
    exact I.freeC x c q
  · exact I.hok.laid old hD ⟨Nat.zero_le _, [], 0, .nil, hacc⟩
  · show (blockSt fr σ).length = N.length
    unfold blockSt; rw [List.length_map]; exact S.len
end
end L2
namespace L2
open PySem PySem.Spec PyProof.Rows
def PTs (X : Cx) (ifs : List Expr) (t : TT) : Prop :=
  ∀ (pins : List (Addr × Obj)) (s : Shared) (σ : St) (H : Hp) (Q : Bool → Hp → Prop), Inv X pins σ H s → t σ H Q →
    wpAny (model X.prog X.w) X.A (forIn ifs true fun c r => if r = true then do let ok ← isTrue c X.env (eval c X.env); pure (ForInStep.yield ok) else pure (ForInStep.yield r)) (TP X pins σ Q) X.xe s
def tYes : TT := fun _ H Q => Q true H
theorem pts_nil {X : Cx} : PTs X [] tYes := fun _ _ _ H _ I h => wpAny_tests_nil ⟨H, I, h⟩
theorem pts_one {X : Cx} {c : Expr} {t : TT} (h : PT X c t) : PTs X [c] t := fun pins s σ H Q I hq => wpAny_tests_one (h pins s σ H Q I hq)
section
variable {prog : Program} {w : World} {A : Around}
def OneTurn (prog : Program) (w : World) (A : Around) (elt tg : Expr) (ifs : List Expr) (it acc : Value) (env : Env) (lost : Value → Shared → Prop) (stop next : Shared → Prop) (s : Shared) : Prop :=
  let M := model prog w
  let tests : Sem Bool := forIn ifs true fun c r => if r = true then do let ok ← isTrue c env (eval c env); pure (ForInStep.yield ok) else pure (ForInStep.yield r)
  let put : Shared → Prop := wpAny M A (eval elt env) (fun x => wpAny M A (call (.builtin "list.append") [acc, x]) (fun _ => next) lost) lost
  let taken : Value → Shared → Prop := fun v => wpAny M A (letOwnedTupleGo tg it v) (fun _ => wpAny M A (assign tg env v) (fun _ => wpAny M A tests (fun ok s' => if ok = true then put s' else next s') lost) lost) lost
  wpAny M A (pyNext it) (fun r s' => match r with
    | none => stop s'
    | some v => taken v s') lost s
theorem comp_turns {R : Result → Shared → Prop} {s : Shared} {elt tg iter : Expr} {ifs : List Expr} {scope : Scope} {pos : Pos} {it acc : Value} {env : Env} (I : Nat → Shared → Prop)
    (turn : ∀ n s, I n s → OneTurn prog w A elt tg ifs it acc env (notedBy (model prog w) A env fun e => R (.error e)) (R (.ok .next)) (fun s' => ∃ m, m < n ∧ I m s') s) (n : Nat) (h : I n s) :
    codeAny (model prog w) A (.compLoop (.ListComp elt [⟨tg, iter, ifs, 0⟩] scope pos) 0 it acc env) R s := by
  apply codeAny_loop rfl I _ n h
  intro k s1 h1
  change wpAny _ A ((compTurn _ 0 it acc env).onRaise (fun x => do noteFrame x env; theTreesLotGoes x)) _ _ s1
  apply wpAny_noted
  rw [compTurn_list]
  have t := turn k s1 h1
  unfold OneTurn at t
  apply wpAny_bind
  apply wpAny_standAt
  apply wpAny_bind
  refine wpAny_mono t (fun r s2 h2 => ?_) fun _ _ z => z
  cases r with
  | none => exact wpAny_pure h2
  | some v =>
    apply wpAny_bind
    refine wpAny_mono h2 (fun _ s3 h3 => ?_) fun _ _ z => z
    apply wpAny_bind
    refine wpAny_mono h3 (fun _ s4 h4 => ?_) fun _ _ z => z
    apply wpAny_bind
    refine wpAny_mono h4 (fun ok s5 h5 => ?_) fun _ _ z => z
    cases ok with
    | false => exact wpAny_pure ⟨rfl, h5⟩
    | true =>
      apply wpAny_bind
      apply wpAny_bind
      refine wpAny_mono h5 (fun x s6 h6 => ?_) fun _ _ z => z
      apply wpAny_bind
      exact wpAny_mono h6 (fun _ s7 h7 => wpAny_pure (wpAny_pure ⟨rfl, h7⟩)) fun _ _ z => z
end
def tTurns (g : TG) (tc : TT) (te : TE) (σ0 : St) (J : It) (D : Addr) (Q : VK) (W : Nat → Nat → List V → Hp → Prop) : Prop :=
  ∀ i m acc H', W i m acc H' → H' D = some (.lst acc) ∧ ((J.stop i H' ∧ Q (.ref D) H') ∨ (J.go i H' ∧ ∀ x H2, J.yld i H' x H2 → g x σ0 H2 fun σ2 H3 => Wk σ0 σ2 ∧ tc σ2 H3 fun b H4 =>
    if b = true then te σ2 H4 fun v H5 => H5 D = some (.lst acc) ∧ acc.length < sizeLine ∧ ∃ m', m' < m ∧ W (i + 1) m' (acc ++ [v]) (upd H5 D (.lst (acc ++ [v]))) else ∃ m', m' < m ∧ W (i + 1) m' acc H4))
def tComp (wi : TI) (fr : List (Option Nat)) (g : TG) (tc : TT) (te : TE) : TE := fun σ H Q => wi σ H fun J H1 => ∀ D, H1 D = none →
  ∃ W : Nat → Nat → List V → Hp → Prop, (∃ m, W 0 m [] (upd H1 D (.lst []))) ∧ tTurns g tc te (blockSt fr σ) J D Q W
section
variable {X : Cx} {pins : List (Addr × Obj)} {σ : St} {H : Hp} {s : Shared} {scope : Scope} {N : List Str} {fr : List (Option Nat)} {tg iter elt : Expr} {ifs : List Expr} {pos : Pos} {wi : TI} {g : TG} {tc : TT} {te : TE}
structure BlkAt (X : Cx) (scope : Scope) (N : List Str) (tg : Expr) (ifs : List Expr) (elt : Expr) (s : Shared) (H : Hp) (g : TG) (tc : TT) (te : TE) : Prop where
  tg : ∀ (C : Addr) (fp : List Addr), PG (cxC X scope N s H C fp fun _ _ => False) tg g
  ifs : ∀ (C : Addr) (fp : List Addr), PTs (cxC X scope N s H C fp fun _ _ => False) ifs tc
  elt : ∀ (C : Addr) (fp : List Addr), PE (cxC X scope N s H C fp fun _ _ => False) elt te
structure Blk (X : Cx) (scope : Scope) (N : List Str) (tg : Expr) (ifs : List Expr) (elt : Expr) (g : TG) (tc : TT) (te : TE) : Prop where
  tg : ∀ (s : Shared) (H : Hp) (C : Addr) (fp : List Addr), PG (cxC X scope N s H C fp fun _ _ => False) tg g
  ifs : ∀ (s : Shared) (H : Hp) (C : Addr) (fp : List Addr), PTs (cxC X scope N s H C fp fun _ _ => False) ifs tc
  elt : ∀ (s : Shared) (H : Hp) (C : Addr) (fp : List Addr), PE (cxC X scope N s H C fp fun _ _ => False) elt te
theorem Blk.at (B : Blk X scope N tg ifs elt g tc te) (s : Shared) (H : Hp) : BlkAt X scope N tg ifs elt s H g tc te := ⟨B.tg s H, B.ifs s H, B.elt s H⟩
theorem inv_out {C : Addr} {fp : List Addr} {E : Value → Shared → Prop} {pins' : List (Addr × Obj)} {σ' : St} {H' : Hp} {s' : Shared} (I : Inv X pins σ H s) (hf : ∀ b ∈ fp, FpOk X pins H b) (I' : Inv (cxC X scope N s H C fp E) pins' σ' H' s') : Inv X pins σ H' s' :=
  I.call' (ch := fp) I'.os I'.base I'.hok I'.bare fun b hb => ⟨(hf b hb).2.2.2.1, (hf b hb).2.1, (hf b hb).2.2.2.2.1, (hf b hb).2.2.2.2.2⟩
theorem comp_run {Rr : Value → Addr → Result → Shared → Prop} {J : It} {fp : List Addr} {it : Addr} {tn : Nat → Heap → Prop} {Q : VK}
    (hc : X.calm = true) (S : CoScope X scope N fr) (B : BlkAt X scope N tg ifs elt s H g tc te) (I : Inv X pins σ H s) (T : Turn X.prog X.w X.K tg J fp it tn) (hst : tn 0 s.heap) (hf : ∀ b ∈ fp, FpOk X pins H b)
    (h : ∀ D, H D = none → ∃ W : Nat → Nat → List V → Hp → Prop, (∃ m, W 0 m [] (upd H D (.lst []))) ∧ tTurns g tc te (blockSt fr σ) J D Q W)
    (hend : ∀ (D C : Addr) (s' : Shared) (H' : Hp) (m : Str → Option Value), s.heap.objs.size ≤ C → s.heap.objs.size ≤ D → Inv X pins σ H' s' → s'.heap.Ns C m → H' C = none → Q (.ref D) H' → Rr (.ref D) C (.ok .next) s') :
    wpAny (model X.prog X.w) X.A (newList []) (fun acc s₃ => wpAny (model X.prog X.w) X.A (newFunctionEnv scope X.env.globals (clGo X.env.cells scope.names []) [] X.env.qual none .none (some X.env)) (fun cenv s₄ =>
      codeAny (model X.prog X.w) X.A (.compStart (.ListComp elt [⟨tg, iter, ifs, 0⟩] scope pos) 0 (.ref it) acc { cenv with scope := relabel scope X.env }) (Rr acc cenv.locals) s₄) X.xe s₃) X.xe s := by
  refine wpAny_newObj_type (wpAny_newFunctionEnv S.nocell (by intro y hy; simp at hy) (fun h₁ hns₁ hsb₁ => ?_) S.kind)
  dsimp only at hns₁ hsb₁ ⊢
  generalize hH2 : s.heap.push { cls := .type "list", dict := none, data := .seq ([] : List Value).toArray } = H2 at hns₁ hsb₁ ⊢
  have hC : H2.objs.size = s.heap.objs.size + 1 := by rw [← hH2, Heap.size_push]
  have hDC : s.heap.objs.size ≠ H2.objs.size := by rw [hC]; exact Nat.ne_of_lt (Nat.lt_succ_self _)
  have hCle : s.heap.objs.size ≤ H2.objs.size := by rw [hC]; exact Nat.le_succ _
  have old : ∀ b o, s.heap.get? b = some o → h₁.get? b = some o := fun b o e =>
    hsb₁.extBut b o (by rw [hC]; exact Nat.ne_of_lt (Nat.lt_succ_of_lt (Heap.lt_size e))) (Heap.get?_push_of_some _ (hH2 ▸ Heap.get?_push_of_some _ e))
  have hacc : h₁.get? s.heap.objs.size = some { cls := .type "list", data := .seq #[] 0 } := hsb₁.extBut _ _ hDC (Heap.get?_push_of_some _ (hH2 ▸ Heap.get?_push_size _ rfl))
  have hfl : ∀ b ∈ fp, b < s.heap.objs.size := fun b hb => by obtain ⟨o, e, _⟩ := T.obj _ _ hst b hb; exact Heap.lt_size e
  obtain ⟨W, ⟨m0, w0⟩, turn⟩ := h s.heap.objs.size (I.hok.fresh (Nat.le_refl _))
  have st1 : tn 0 h₁ := T.keep _ _ _ hst fun b _ o e => old b o e
  have fr0 : ∀ b ∈ fp, upd H s.heap.objs.size (.lst []) b = none := fun b hb => by rw [upd_ne (Nat.ne_of_lt (hfl b hb))]; exact (hf b hb).1
  have stat : ∀ {H' : Hp}, (∀ b ∈ fp, H' b = none) → ∀ b ∈ fp, FpOk (cxC X scope N s H H2.objs.size fp fun _ _ => False) [] H' b := fun {H'} hn b hb => by
    have f := hf b hb
    refine ⟨hn b hb, Nat.ne_of_lt (Nat.lt_of_lt_of_le (hfl b hb) hCle), fun z => ?_, .inl hb, fun x c e => f.2.2.2.2.1 x c (clGo_sound scope.names [] (S.cells I) (fun _ _ z => by simp at z) e), fun p hp => absurd (show p ∈ ([] : List (Addr × Obj)) from hp) (by simp)⟩
    rcases List.mem_cons.mp (I.stkSub b z) with e | e
    · exact f.2.1 e
    · exact f.2.2.1 e
  generalize hX : cxC X scope N s H H2.objs.size fp (fun _ _ => False) = Y at stat
  have I0 : Inv Y [] (blockSt fr σ) (upd H s.heap.objs.size (.lst [])) { s with heap := h₁, toks := s.toks + ([] : List (Str × Value)).length } := hX ▸ inv_block S I hf hfl (Nat.le_refl _) hCle hDC old hns₁ hacc
  have bt : PG Y tg g := hX ▸ B.tg H2.objs.size fp
  have bi : PTs Y ifs tc := hX ▸ B.ifs H2.objs.size fp
  have be : PE Y elt te := hX ▸ B.elt H2.objs.size fp
  have eP : Y.prog = X.prog := by rw [← hX]; rfl
  have ew : Y.w = X.w := by rw [← hX]; rfl
  have eK : Y.K = X.K := by rw [← hX]; rfl
  have eA : Y.A = X.A := by rw [← hX]; rfl
  have eE : Y.env = compEnvC scope (clGo X.env.cells scope.names []) H2.objs.size X.env := by rw [← hX]; rfl
  have eX : Y.xe = fun _ _ => False := by rw [← hX]; rfl
  have ec : Y.calm = true := by rw [← hX]; exact hc
  have never : ∀ {E : Value → Shared → Prop} (e : Value) (s' : Shared), Y.xe e s' → E e s' := fun {E} e s' z => by rw [eX] at z; exact z.elim
  have out : ∀ {pins' σ' H' s'}, Inv Y pins' σ' H' s' → Inv X pins σ H' s' := fun {_ _ _ _} I' => inv_out (C := H2.objs.size) (E := fun _ _ => False) (scope := scope) (N := N) I hf (hX ▸ I')
  have loop : codeAny (model X.prog X.w) X.A (.compLoop (.ListComp elt [⟨tg, iter, ifs, 0⟩] scope pos) 0 (.ref it) (.ref s.heap.objs.size) (compEnvC scope (clGo X.env.cells scope.names []) H2.objs.size X.env))
      (Rr (.ref s.heap.objs.size) H2.objs.size) { s with heap := h₁, toks := s.toks + ([] : List (Str × Value)).length } := by
    refine comp_turns (fun n s' => ∃ i acc H', Inv Y [] (blockSt fr σ) H' s' ∧ tn i s'.heap ∧ (∀ b ∈ fp, H' b = none) ∧ W i n acc H') ?_ m0 ⟨0, [], _, I0, st1, fr0, w0⟩
    rintro n s3 ⟨i, acc, H3, I3, st3, fr3, w3⟩
    unfold OneTurn
    dsimp only
    obtain ⟨hD3, step⟩ := turn i n acc H3 w3
    rcases step with ⟨stop, qn⟩ | ⟨go, step⟩
    · have z := T.done Y eP ew eK ec i [] s3 _ H3 (notedBy (model X.prog X.w) X.A (compEnvC scope (clGo X.env.cells scope.names []) H2.objs.size X.env) fun e s' => Rr (.ref s.heap.objs.size) H2.objs.size (.error e) s') I3 (stat fr3) st3 stop
      rw [eA] at z
      refine thn z fun r s4 ⟨hr, I4⟩ => ?_
      subst hr
      obtain ⟨m4, hn4, _⟩ := I4.loc
      rw [eE] at hn4
      have f4 := I4.free
      rw [eE] at f4
      exact hend _ _ s4 H3 m4 hCle (Nat.le_refl _) (out I4) hn4 f4 qn
    · have z := T.item Y eP ew eK ec i [] s3 _ H3 (notedBy (model X.prog X.w) X.A (compEnvC scope (clGo X.env.cells scope.names []) H2.objs.size X.env) fun e s' => Rr (.ref s.heap.objs.size) H2.objs.size (.error e) s') I3 (stat fr3) st3 go
      rw [eA] at z
      refine thn z fun r s4 ⟨u, hr, h4⟩ => ?_
      subst hr
      refine thn h4 fun _ s5 ⟨x, H5, I5, r5, y5, st5, fr5⟩ => ?_
      have I5' := I5.pinned (stat fr5) (T.obj _ _ st5)
      have q1 := bt _ s5 _ H5 x u _ I5' r5 (step x H5 y5)
      rw [eP, ew, eA, eE] at q1
      refine wpAny_mono q1 (fun _ s6 ⟨σ6, H6, I6, wk, q6⟩ => ?_) never
      have q2 := bi _ s6 σ6 H6 _ I6 q6
      rw [eP, ew, eA, eE] at q2
      refine wpAny_mono q2 (fun b s7 ⟨H7, I7, q7⟩ => ?_) never
      have again : ∀ {H8 : Hp} {s8 : Shared} {acc' : List V}, Inv Y ([] ++ pinsAt fp s5.heap) σ6 H8 s8 → (∃ m', m' < n ∧ W (i + 1) m' acc' H8) → ∃ m, m < n ∧ ∃ i acc H', Inv Y [] (blockSt fr σ) H' s8 ∧ tn i s8.heap ∧ (∀ b ∈ fp, H' b = none) ∧ W i m acc H' := fun {H8 s8 acc'} I8 n8 => by
        obtain ⟨m', hm, w8⟩ := n8
        refine ⟨m', hm, i + 1, acc', H8, (I8.unpinned).weak wk.1 wk.2, T.keep _ _ _ st5 fun b hb o e => (I8.pin (b, o) (List.mem_append_right _ (List.mem_append_right _ (mem_pinsAt hb e)))).1, fun b hb => ?_, w8⟩
        obtain ⟨o, e, d⟩ := T.obj _ _ st5 b hb
        exact (I8.pin (b, o) (List.mem_append_right _ (List.mem_append_right _ (mem_pinsAt hb e)))).2.1
      cases b with
      | false =>
        rw [if_neg Bool.false_ne_true] at q7 ⊢
        exact again I7 q7
      | true =>
        rw [if_pos rfl] at q7 ⊢
        have q3 := be _ s7 σ6 H7 _ I7 q7
        rw [eP, ew, eA, eE] at q3
        refine wpAny_mono q3 (fun v s8 ⟨y, H8, I8, r8, hD8, hz8, q8⟩ => ?_) never
        have q4 := mt_append _ s8 σ6 H8 (.ref s.heap.objs.size) [y] (.ref s.heap.objs.size) [v] (fun _ H9 => ∃ m', m' < n ∧ W (i + 1) m' (acc ++ [y]) H9) I8 rfl (.cons r8 .nil) ⟨_, _, _, rfl, rfl, hD8, hz8, q8⟩
        rw [eP, ew, eA] at q4
        exact wpAny_mono q4 (fun _ s9 ⟨_, H9, I9, _, q9⟩ => again I9 q9) never
  exact codeAny_compStart_list loop (T.self _ 0 _ _ _ st1 loop)
end
end L2
namespace L2
open PySem PySem.Spec PyProof.Rows
section
variable {X : Cx} {scope : Scope} {N : List Str} {fr : List (Option Nat)} {tg iter elt : Expr} {ifs : List Expr} {pos : Pos} {wi : TI} {g : TG} {tc : TT} {te : TE}
theorem Inv.drop {pins : List (Addr × Obj)} {σ : St} {H H' : Hp} {s s' : Shared} {C : Addr} {h' : Heap} (I0 : Inv X pins σ H s) (hC : s.heap.objs.size ≤ C) {σ' : St} (I : Inv X pins σ' H' s') (hn : H' C = none) (sb : Heap.SameBut C s'.heap h') : Inv X pins σ' H' { s' with heap := h' } := by
  refine I.turned (t' := s'.toks) (it := C) (fun b o hb e => (sb.2 b hb).trans e) hn (Nat.ne_of_gt (Nat.lt_of_lt_of_le I0.lt hC)) (.inr (Nat.le_trans I0.sz hC)) (fun x c e z => ?_) fun p hp z => ?_
  · obtain ⟨v, q⟩ := I0.cell x c e
    exact absurd (Nat.lt_of_lt_of_le q.lt (by rw [z]; exact hC)) (Nat.lt_irrefl _)
  · exact absurd (Nat.lt_of_lt_of_le (Heap.lt_size (I0.pin p hp).1) (by rw [z]; exact hC)) (Nat.lt_irrefl _)
theorem pe_comp (hc : X.calm = true) (S : CoScope X scope N fr) (hi : PI X tg iter wi) (B : Blk X scope N tg ifs elt g tc te)
    (hs : ∀ x, foldedSetIterable iter X.env x = pure x := by intro _; rfl) : PE X (.ListComp elt [⟨tg, iter, ifs, 0⟩] scope pos) (tComp wi fr g tc te) := by
  intro pins s σ H Q I h
  rw [eval_ListComp]
  refine wpAny_comprehension_free (use := none) rfl hs (closureFor_eq (S.cells I)) S.kind S.names (thn (hi pins s σ H _ I h) fun v s1 h1 => thn h1 fun itv s2 h2 => ?_)
  obtain ⟨it, fp, tn, J, H2, e, I2, T, st2, f2, hW⟩ := h2
  subst e
  refine comp_run (Rr := fun acc C => compPost (model X.prog X.w) X.A X.xe none (EP X pins σ Q) acc C) hc S (B.at _ _) I2 T st2 f2 hW ?_
  intro D C s' H' m hC hD I' hns hHC q
  exact ⟨m, hns, fun h' sb => ⟨.ref D, H', I2.drop hC I' hHC sb, rfl, q⟩⟩
variable {gh : Hp → TG} {tch : Hp → TT} {teh : Hp → TE}
def tCompH (wi : TI) (fr : List (Option Nat)) (gh : Hp → TG) (tch : Hp → TT) (teh : Hp → TE) : TE := fun σ H Q => wi σ H fun J H1 => ∀ D, H1 D = none →
  ∃ W : Nat → Nat → List V → Hp → Prop, (∃ m, W 0 m [] (upd H1 D (.lst []))) ∧ tTurns (gh H1) (tch H1) (teh H1) (blockSt fr σ) J D Q W
theorem pe_compH (hc : X.calm = true) (S : CoScope X scope N fr) (hi : PI X tg iter wi) (B : ∀ (s : Shared) (H : Hp), BlkAt X scope N tg ifs elt s H (gh H) (tch H) (teh H))
    (hs : ∀ x, foldedSetIterable iter X.env x = pure x := by intro _; rfl) : PE X (.ListComp elt [⟨tg, iter, ifs, 0⟩] scope pos) (tCompH wi fr gh tch teh) := by
  intro pins s σ H Q I h
  rw [eval_ListComp]
  refine wpAny_comprehension_free (use := none) rfl hs (closureFor_eq (S.cells I)) S.kind S.names (thn (hi pins s σ H _ I h) fun v s1 h1 => thn h1 fun itv s2 h2 => ?_)
  obtain ⟨it, fp, tn, J, H2, e, I2, T, st2, f2, hW⟩ := h2
  subst e
  refine comp_run (Rr := fun acc C => compPost (model X.prog X.w) X.A X.xe none (EP X pins σ Q) acc C) hc S (B _ _) I2 T st2 f2 hW ?_
  intro D C s' H' m hC hD I' hns hHC q
  exact ⟨m, hns, fun h' sb => ⟨.ref D, H', I2.drop hC I' hHC sb, rfl, q⟩⟩
theorem ps_setCH {i : Nat} {x : Str} {px spos : Pos} (hc : X.calm = true) (S : CoScope X scope N fr) (hi : PI X tg iter wi) (B : ∀ (s : Shared) (H : Hp), BlkAt X scope N tg ifs elt s H (gh H) (tch H) (teh H)) (hN : X.N.Nodup) (hix : X.N[i]? = some x) (hx : X.env.scope.names.lookup x = some .local)
    (hsw : swapsWith (.ListComp elt [⟨tg, iter, ifs, 0⟩] scope pos) (some (.Name x px)) spos.line X.env = pure true) (hs : ∀ x, foldedSetIterable iter X.env x = pure x := by intro _; rfl) :
    PS X (.Assign [.Name x px] (.ListComp elt [⟨tg, iter, ifs, 0⟩] scope pos) spos) (tAsg (tCompH wi fr gh tch teh) (gName i)) := by
  intro pins s σ H D I h
  rw [exec_Assign_Name_used _ _ _ _ hsw]
  refine wpAny_bind (wpAny_standAt (wpAny_bind ?_))
  show wpAny _ _ (do let _ ← comprehension (.ListComp elt [⟨tg, iter, ifs, 0⟩] scope pos) scope X.env _ (newList []) false (eval iter X.env) (some (assign (.Name x px) X.env))) _ _ s
  refine wpAny_bind (wpAny_mono (wpAny_comprehension_free (Q := fun _ s' => SP X pins D .next s') (use := some (assign (.Name x px) X.env)) rfl hs (closureFor_eq (S.cells I)) S.kind S.names (thn (hi pins s σ H _ I h) fun v s1 h1 => thn h1 fun itv s2 h2 => ?_))
    (fun _ s' hq => wpAny_pure (wpAny_pure hq)) fun _ _ e => e)
  obtain ⟨it, fp, tn, J, H2, e, I2, T, st2, f2, hW⟩ := h2
  subst e
  refine comp_run (Rr := fun acc C => compPost (model X.prog X.w) X.A X.xe (some (assign (.Name x px) X.env)) (fun _ s' => SP X pins D .next s') acc C) hc S (B _ _) I2 T st2 f2 hW ?_
  intro D' C s' H' m hC hD I' hns hHC q
  refine wpAny_assign_Name (store_ok2 I' hN hix (.inl hx) (v := .ref D') rfl (fun s'' I'' sb => ?_) (.inr hx))
  obtain ⟨a, sb, ha⟩ := sb
  have hCa : C ≠ a := by
    rcases ha with z | z
    · rw [z]; exact Nat.ne_of_gt (Nat.lt_of_lt_of_le I2.lt hC)
    · intro e; subst e
      obtain ⟨v, q⟩ := I2.cell x _ z
      exact absurd (Nat.lt_of_lt_of_le q.lt hC) (Nat.lt_irrefl _)
  exact ⟨m, hns.sameBut sb hCa, fun h' sb' => ⟨_, H', I2.drop hC I'' hHC sb', q⟩⟩
end
theorem same_new {H : Hp} {p : Addr} (h : H p = none) (o : HO) : Same H (upd H p o) := fun b u q => by rw [upd_ne (ne_of_none q h)]; exact q
theorem Same.tup {K : PySem.W.Frag} {H H' : Hp} {a : Addr} {xs : List V} (e : Same H H') (h : SqT K H a xs) : SqT K H' a xs := by
  rcases h with (h | ⟨o, h⟩) | h
  · exact .inl (.inl (e _ _ h))
  · exact .inl (.inr ⟨o, e _ _ h⟩)
  · exact .inr h
def CW (H1 : Hp) (D : Addr) (n : Nat) (Pv : Nat → List V → Hp → Prop) : Nat → Nat → List V → Hp → Prop := fun i m acc H' => m = n - i ∧ i ≤ n ∧ acc.length ≤ i ∧ Same H1 H' ∧ H' D = some (.lst acc) ∧ Pv i acc H'
def CYes (H1 : Hp) (D : Addr) (n : Nat) (Pv : Nat → List V → Hp → Prop) (i : Nat) (acc : List V) (v : V) (H5 : Hp) : Prop := H5 D = some (.lst acc) ∧ acc.length < sizeLine ∧ ∃ m', m' < n - i ∧ CW H1 D n Pv (i + 1) m' (acc ++ [v]) (upd H5 D (.lst (acc ++ [v])))
def CNo (H1 : Hp) (D : Addr) (n : Nat) (Pv : Nat → List V → Hp → Prop) (i : Nat) (acc : List V) (H4 : Hp) : Prop := ∃ m', m' < n - i ∧ CW H1 D n Pv (i + 1) m' acc H4
structure CAt (H1 : Hp) (D : Addr) (n i : Nat) (acc : List V) (H' : Hp) : Prop where
  lt : i < n
  few : acc.length ≤ i
  sz : n ≤ sizeLine
  same : Same H1 H'
  new : H1 D = none
  acc : H' D = some (.lst acc)
theorem CAt.yes {H1 : Hp} {D : Addr} {n i : Nat} {acc : List V} {H' H5 : Hp} {Pv : Nat → List V → Hp → Prop} {v : V} (c : CAt H1 D n i acc H') (s : Same H' H5) (p : Pv (i + 1) (acc ++ [v]) (upd H5 D (.lst (acc ++ [v])))) : CYes H1 D n Pv i acc v H5 := by
  refine ⟨s _ _ c.acc, Nat.lt_of_le_of_lt c.few (Nat.lt_of_lt_of_le c.lt c.sz), _, ?_, rfl, c.lt, ?_, fun b o e => ?_, upd_same, p⟩
  · have := c.lt; omega
  · rw [List.length_append, List.length_singleton]; exact Nat.succ_le_succ c.few
  · rw [upd_ne (ne_of_none e c.new)]; exact s _ _ (c.same _ _ e)
end L2
namespace Srt
open PySem PySem.W PyProof.Rows
abbrev G (p : Array Nat) (i : Nat) : Nat := p.getD i 0
def PP (n : Nat) (p : Array Nat) : Prop := p.toList.Perm (List.range n)
structure Ord (c : Nat → Nat → Bool) : Prop where
  asym : ∀ {i j}, c i j = true → c j i = false
  ntr : ∀ {i j k}, c i j = false → c j k = false → c i k = false
section
variable {c : Nat → Nat → Bool} (O : Ord c)
def Le (c : Nat → Nat → Bool) (i j : Nat) : Prop := c j i = false
include O
theorem le_refl (i : Nat) : Le c i i := by
  unfold Le
  cases h : c i i with
  | false => rfl
  | true => have := O.asym h; rw [h] at this; exact this
theorem le_trans {i j k : Nat} (h1 : Le c i j) (h2 : Le c j k) : Le c i k := O.ntr h2 h1
end
end Srt
namespace L2
open PySem PySem.Spec PyProof.Rows
section
variable {X : Cx} {pins : List (Addr × Obj)} {σ : St} {H : Hp} {s : Shared} {h' : Heap} {a : Addr} {o : HO} {t' : Nat}
end
section
variable {prog : Program} {w : World} {A : Around} {s : Shared} {Q : Bool → Shared → Prop}
end
end L2
namespace Raw
open PySem PySem.W PySem.Calls PyProof.Rows
section
variable {prog : Program} {w : World} {A : Around} {E : Value → Shared → Prop} {s : Shared} {d it : Addr} {es : Array DictEntry} {ep i : Nat}
end
end Raw
namespace L2
open PySem PySem.Spec PyProof.Rows
section
variable {X : Cx} {pins : List (Addr × Obj)} {σ : St} {H : Hp} {s : Shared} {a : Addr}
end
end L2
namespace L2
open PySem PySem.Spec PyProof.Rows
section
variable {X : Cx}
theorem call_isinst : CallR X (.builtin "isinstance") (fun xs H Q => ∃ x t n b, xs = [x, .ty n] ∧ TyOf X.K H x t ∧ PySem.W.kitOne X.K t (.type n) = some b ∧ Q (.bl b) H) := by
  intro pins s σ H xs us Q I r h
  obtain ⟨x, t, n, b, rfl, ty, e, q⟩ := h
  obtain ⟨u, u', rfl, ru, ru'⟩ := vals2 r
  cases ru'
  exact isinst_ok I ru ty e fun tk => ⟨.bl b, H, I.tok tk, rfl, q⟩
end
end L2
namespace L2
open PySem PySem.Spec PyProof.Rows
def coAll (outer : List (Str × NameKind)) (XN : List Str) (names : List (Str × NameKind)) (N : List Str) (fr : List (Option Nat)) : Bool :=
  names.all (fun y => !(y.2 == .cell)) && names.all (fun y => !(y.2 == .local) || names.lookup y.1 == some .local) &&
  names.all (fun y => !(y.2 == .free) || (outer.lookup y.1 == some .cell || outer.lookup y.1 == some .free)) && fr.length == N.length &&
  (fr.zip N).all (fun p => match p.1 with
    | none => true
    | some j => XN[j]? == some p.2 && names.lookup p.2 == some .free)
theorem CoScope.of {X : Cx} {scope : Scope} {N : List Str} {fr : List (Option Nat)} (hk : scope.kind = .function) (h : coAll X.env.scope.names X.N scope.names N fr = true) : CoScope X scope N fr := by
  unfold coAll at h
  simp only [Bool.and_eq_true] at h
  obtain ⟨⟨⟨⟨h1, h2⟩, h3⟩, h4⟩, h5⟩ := h
  refine ⟨hk, fun y hy e => ?_, fun y hy e => ?_, fun y hy e => ?_, by simpa using h4, fun i j e => ?_⟩
  · have := List.all_eq_true.mp h1 y hy
    rw [e] at this; cases this
  · have := List.all_eq_true.mp h2 y hy
    rw [e] at this; simpa using this
  · have := List.all_eq_true.mp h3 y hy
    rw [e] at this; simpa using this
  · have hl : fr.length = N.length := by simpa using h4
    have hi : i < fr.length := (List.getElem?_eq_some_iff.mp e).1
    have m : (some j, N[i]'(by omega)) ∈ fr.zip N := by
      have : (fr.zip N)[i]? = some (some j, N[i]'(by omega)) := by
        rw [List.getElem?_zip_eq_some]
        exact ⟨e, by simp⟩
      exact List.mem_of_getElem? this
    have := List.all_eq_true.mp h5 _ m
    simp only [Bool.and_eq_true, beq_iff_eq] at this
    exact ⟨N[i]'(by omega), by simp, this.1, this.2⟩
def nbrs (ls : List (Int × Int)) (k : Int) : List Int := ls.flatMap fun l => (if l.1 = k then [l.2] else []) ++ (if l.2 = k then [l.1] else [])
theorem atI_int {α : Type} {xs : List α} {i : Int} {v : α} (h0 : 0 ≤ i) (h : xs[i.toNat]? = some v) : atI xs i = some v := by
  have := atI_nat h
  rwa [show ((i.toNat : Nat) : Int) = i by omega] at this
theorem bigEnough {n : Nat} (h : n ≤ 16000000) : n < sizeLine := by rw [sizeLine_eq]; omega
theorem tyes {σ : St} {H : Hp} {A B : Hp → Prop} (h : A H) : tYes σ H fun b H4 => if b = true then A H4 else B H4 := by
  show if true = true then A H else B H
  rw [if_pos rfl]; exact h
theorem tyL {K : PySem.W.Frag} {H : Hp} {p : Addr} {xs : List V} (h : SqL K H p xs) : tyV K "list" (.ref p) H := .inl ⟨rfl, xs, h⟩
end L2
namespace L2
open PySem PySem.Spec PyProof.Rows
end L2
namespace L2
open PySem PySem.Spec PyProof.Rows
end L2
namespace L2
open PySem PySem.Spec PyProof.Rows
end L2
namespace Zp
open PySem PyProof.Rows
section
variable {prog : Program} {w : World} {A : Around} {E : Value → Shared → Prop} {s : Shared}
theorem tup_item {it t : Addr} {i : Nat} {items : Array Value} {x : Value} {Q : Value → Shared → Prop} (hi : s.heap.IsTupleIter it t i) (ht : s.heap.IsTuple t items) (hx : items[i]? = some x)
    (q : ∀ h', h'.IsTupleIter it t (i + 1) → Heap.SameBut it s.heap h' → Q x { s with heap := h' }) : wpAny (model prog w) A (Builtin.SmallTypes.nextOf (.ref it)) Q E s := by
  have T := hi.typeIs
  obtain ⟨o, e1, e2, e3⟩ := hi
  obtain ⟨u, f1, _, k, f3⟩ := ht
  have slot := PySem.F.slot_tuple_iterator_next
  have isref : (Value.ref t == Value.none) = false := rfl
  unfold Builtin.SmallTypes.nextOf
  apply wpAny_bind
  apply wpAny_callSpecial?_slot (name := Str.ofString "__next__") T slot
  apply wpAny_call_entry slot T PySem.F.entry_tuple_iterator_next _ (PySem.F.args_tuple_iterator_next_1 _)
  change wpAny _ _ (field (.ref it) 0 >>= _) _ _ s
  apply wpAny_bind
  refine wpAny_field e1 e3 (x := .ref t) rfl ?_
  change wpAny _ _ (if (Value.ref t == Value.none) = true then _ else _) _ _ s
  simp only [isref, Bool.false_eq_true, if_false]
  change wpAny _ _ (field (.ref it) 1 >>= _) _ _ s
  apply wpAny_bind
  refine wpAny_field e1 e3 (x := .int i 0) rfl ?_
  change wpAny _ _ (seqItems? (.ref t) >>= _) _ _ s
  apply wpAny_bind
  apply wpAny_seqItems f1 f3
  simp only [Int.toNat_natCast, hx]
  apply wpAny_bind
  refine wpAny_setField e1 e3 (by simp) ?_
  apply wpAny_pure
  refine ⟨x, rfl, wpAny_pure (q _ ⟨_, Heap.get?_update_self _ e1 (Obj.isFreed_of_fields (Obj.data_mapFields e3 _)), ?_, ?_⟩ (Heap.SameBut.update ..))⟩
  · rw [Obj.cls_mapFields]; exact e2
  · rw [Obj.data_mapFields e3]; simp [rawInt]
theorem tup_end {it t : Addr} {i : Nat} {items : Array Value} {Q : Value → Shared → Prop} (hh : A.handled = none) (hi : s.heap.IsTupleIter it t i) (ht : s.heap.IsTuple t items) (hx : items[i]? = none)
    (q : ∀ h' e, Heap.ExtBut it s.heap h' → (∃ o, h'.get? e = some o ∧ o.cls = .type "StopIteration") → E (.ref e) { s with heap := h' }) : wpAny (model prog w) A (Builtin.SmallTypes.nextOf (.ref it)) Q E s := by
  have T := hi.typeIs
  obtain ⟨o, e1, e2, e3⟩ := hi
  obtain ⟨u, f1, _, k, f3⟩ := ht
  have slot := PySem.F.slot_tuple_iterator_next
  have isref : (Value.ref t == Value.none) = false := rfl
  unfold Builtin.SmallTypes.nextOf
  apply wpAny_bind
  apply wpAny_callSpecial?_slot (name := Str.ofString "__next__") T slot
  apply wpAny_call_entry slot T PySem.F.entry_tuple_iterator_next _ (PySem.F.args_tuple_iterator_next_1 _)
  change wpAny _ _ (field (.ref it) 0 >>= _) _ _ s
  apply wpAny_bind
  refine wpAny_field e1 e3 (x := .ref t) rfl ?_
  change wpAny _ _ (if (Value.ref t == Value.none) = true then _ else _) _ _ s
  simp only [isref, Bool.false_eq_true, if_false]
  change wpAny _ _ (field (.ref it) 1 >>= _) _ _ s
  apply wpAny_bind
  refine wpAny_field e1 e3 (x := .int i 0) rfl ?_
  change wpAny _ _ (seqItems? (.ref t) >>= _) _ _ s
  apply wpAny_bind
  apply wpAny_seqItems f1 f3
  simp only [Int.toNat_natCast, hx]
  apply wpAny_bind
  apply wpAny_rule
  apply wpAny_bind
  refine wpAny_setField e1 e3 (by simp) ?_
  apply wpAny_bind
  simp only [newExc, newTuple]
  apply wpAny_bind
  refine wpAny_newObj_type ?_ (by size_fits)
  apply wpAny_bind
  refine wpAny_of_eq (a := Value.none) (by first | rfl | (simp only [firstArgMember]; rfl)) ?_
  refine wpAny_newObj_type ?_ (by size_fits)
  unfold raiseNew
  apply wpAny_bind
  apply wpAny_handled
  have quiet : A.in1.handled = none := hh
  rw [quiet]
  refine wpAny_throw ?_
  exact q _ _ (((Heap.SameBut.update ..).extBut.push _).push _) ⟨_, Heap.get?_push_size _ rfl, rfl⟩
theorem draws_tuple (hh : A.handled = none) (it t : Addr) (ne : t ≠ it) (items : Array Value) : Draws prog w A it [it, t] items.size (fun i v => items[i]? = some v) (fun i h => h.IsTupleIter it t i ∧ h.IsTuple t items) where
  live := fun _ _ st => st.1.elim fun o y => ⟨o, y.1⟩
  frame := fun _ _ _ st k => ⟨st.1.at fun o e => k it List.mem_cons_self o e, st.2.elim fun o y => ⟨o, k t (List.mem_cons_of_mem _ List.mem_cons_self) o y.1, y.2⟩⟩
  item := fun i s Q E lt st q => tup_item st.1 st.2 (Array.getElem?_eq_getElem lt) fun h' again sb => q _ h' s.toks (Array.getElem?_eq_getElem lt) ⟨again, st.2.elim fun o y => ⟨o, sb.extBut t o ne y.1, y.2⟩⟩ sb
  done := fun s Q E st q => tup_end hh st.1 st.2 (Array.getElem?_eq_none (Nat.le_refl _)) q
end
end Zp
namespace Zp
open PySem PyProof.Rows
structure Ap (z TI TO i1 i2 : Addr) (fp1 fp2 : List Addr) : Prop where
  TIz : TI ≠ z
  TOz : TO ≠ z
  TITO : TI ≠ TO
  z1 : z ∉ fp1
  z2 : z ∉ fp2
  o1 : TO ∉ fp1
  o2 : TO ∉ fp2
  t1 : TI ∉ fp1
  t2 : TI ∉ fp2
  m1 : i1 ∈ fp1
  m2 : i2 ∈ fp2
  n1 : i1 ∉ fp2
  n2 : i2 ∉ fp1
structure ZSt (z TI TO i1 i2 : Addr) (St1 St2 : Nat → Heap → Prop) (f0 : Value) (i j : Nat) (h : Heap) : Prop where
  zz : IsZip h z TI TO f0
  ti : IsPair h TI (.ref i1) (.ref i2)
  to_ : ∃ a b, IsPair h TO a b
  s1 : St1 i h
  s2 : St2 j h
section
variable {prog : Program} {w : World} {A : Around} {E : Value → Shared → Prop} {s : Shared} {z TI TO i1 i2 : Addr} {fp1 fp2 : List Addr} {n1 n2 : Nat} {P1 P2 : Nat → Value → Prop} {St1 St2 : Nat → Heap → Prop}
theorem ne1 (ap : Ap z TI TO i1 i2 fp1 fp2) {b : Addr} (h : b ∉ fp1) : b ≠ i1 := fun e => h (e ▸ ap.m1)
theorem ne2 (ap : Ap z TI TO i1 i2 fp1 fp2) {b : Addr} (h : b ∉ fp2) : b ≠ i2 := fun e => h (e ▸ ap.m2)
theorem item (D1 : Draws prog w A.in1 i1 fp1 n1 P1 St1) (D2 : Draws prog w A.in1 i2 fp2 n2 P2 St2) (ap : Ap z TI TO i1 i2 fp1 fp2) {i : Nat} (l1 : i < n1) (l2 : i < n2) (st : ZSt z TI TO i1 i2 St1 St2 .none i i s.heap) {Q : Option Value → Shared → Prop}
    (q : ∀ x y h' tk, P1 i x → P2 i y → ZSt z TI TO i1 i2 St1 St2 (rawInt s.heap.objs.size) (i + 1) (i + 1) h' → IsPair h' s.heap.objs.size x y → (∀ c o, c ≠ z → c ≠ TO → c ≠ i1 → c ≠ i2 → s.heap.get? c = some o → h'.get? c = some o) →
      h'.objs.size = s.heap.objs.size + 1 → Q (some (.ref s.heap.objs.size)) { s with heap := h', toks := tk }) : wpAny (model prog w) A (pyNext (.ref z)) Q E s := by
  obtain ⟨hz, hti, ⟨a, b, hto⟩, h1, h2⟩ := st
  have T : s.TypeIs (.ref z) "zip" := ⟨_, hz, rfl⟩
  have slot := PySem.F.slot_zip_next
  unfold pyNext
  apply wpAny_bind
  apply wpAny_attempt
  apply wpAny_callSpecial?_slot (name := Str.ofString "__next__") T slot
  apply wpAny_call_entry slot T PySem.F.entry_zip_next _ (PySem.F.args_zip_next_1 _)
  change wpAny _ _ (field (.ref z) 2 >>= _) _ _ _
  apply wpAny_bind
  refine wpAny_field hz rfl (x := .bool false) rfl ?_
  change wpAny _ _ (field (.ref z) 3 >>= _) _ _ _
  apply wpAny_bind
  refine wpAny_field hz rfl (x := .ref TI) rfl ?_
  apply wpAny_bind
  apply wpAny_seqItems hti rfl
  change wpAny _ _ (Builtin.SmallTypes.ownedTupleIsFree (.ref z) >>= _) _ _ _
  apply wpAny_bind
  unfold Builtin.SmallTypes.ownedTupleIsFree
  apply wpAny_bind
  refine wpAny_field hz rfl (x := .none) rfl (wpAny_pure ?_)
  simp only [if_true]
  apply wpAny_bind
  apply wpAny_rule
  apply wpAny_bind
  refine wpAny_field hz rfl (x := .ref TO) rfl ?_
  apply wpAny_bind
  refine wpAny_setField_rec hz (by simp) fun g1 hz1 sb1 => ?_
  have k1 : ∀ c o, c ≠ z → s.heap.get? c = some o → g1.get? c = some o := fun c o c1 e => sb1.extBut c o c1 e
  apply wpAny_bind
  simp only [List.zipIdx_cons, List.zipIdx_nil, List.forIn_cons, List.forIn_nil]
  apply wpAny_bind
  apply wpAny_bind
  apply wpAny_onRaise
  change wpAny _ _ (Builtin.SmallTypes.nextOf (.ref i1) >>= _) _ _ _
  apply wpAny_bind
  refine D1.item i { s with heap := g1 } _ _ l1 (D1.frame _ _ _ h1 fun c hc o e => k1 c o (fun y => ap.z1 (y ▸ hc)) e) fun x g2 tk2 px st1 sb2 => wpAny_pure ?_
  have k2 : ∀ c o, c ≠ z → c ≠ i1 → s.heap.get? c = some o → g2.get? c = some o := fun c o c1 c2 e => sb2.extBut c o c2 (k1 c o c1 e)
  have to2 : IsPair g2 TO a b := k2 _ _ ap.TOz (ne1 ap ap.o1) hto
  apply wpAny_bind
  apply wpAny_seqItems to2 rfl
  apply wpAny_bind
  refine wpAny_updateSeq_pair to2 fun g3 to3 sb3 => ?_
  have to3 : IsPair g3 TO x b := to3
  apply wpAny_bind
  apply wpAny_letGo
  apply wpAny_pure
  apply wpAny_bind
  apply wpAny_bind
  apply wpAny_onRaise
  change wpAny _ _ (Builtin.SmallTypes.nextOf (.ref i2) >>= _) _ _ _
  apply wpAny_bind
  have k3 : ∀ c o, c ≠ z → c ≠ i1 → c ≠ TO → s.heap.get? c = some o → g3.get? c = some o := fun c o c1 c2 c3 e => sb3.extBut c o c3 (k2 c o c1 c2 e)
  refine D2.item i { s with heap := g3, toks := tk2 } _ _ l2 (D2.frame _ _ _ h2 fun c hc o e => k3 c o (fun y => ap.z2 (y ▸ hc)) (fun y => ap.n1 (y ▸ hc)) (fun y => ap.o2 (y ▸ hc)) e) fun y g4 tk4 py st2 sb4 => wpAny_pure ?_
  have to4 : IsPair g4 TO x b := sb4.extBut _ _ (ne2 ap ap.o2) to3
  apply wpAny_bind
  apply wpAny_seqItems to4 rfl
  apply wpAny_bind
  refine wpAny_updateSeq_pair to4 fun g5 to5 sb5 => ?_
  have to5 : IsPair g5 TO x y := to5
  apply wpAny_bind
  apply wpAny_letGo
  apply wpAny_pure
  apply wpAny_pure
  apply wpAny_bind
  apply wpAny_seqItems to5 rfl
  apply wpAny_bind
  refine wpAny_newTuple ?_ (by show 2 ≤ sizeLine; decide)
  have size : g5.objs.size = s.heap.objs.size := by rw [sb5.1, sb4.1, sb3.1, sb2.1, sb1.1]
  have k5 : ∀ c o, c ≠ z → c ≠ TO → c ≠ i1 → c ≠ i2 → s.heap.get? c = some o → g5.get? c = some o := fun c o c1 c2 c3 c4 e => sb5.extBut c o c2 (sb4.extBut c o c4 (k3 c o c1 c3 c2 e))
  have z5 : IsZip g5 z TI TO .ellipsis := sb5.extBut _ _ (Ne.symm ap.TOz) (sb4.extBut _ _ (ne2 ap ap.z2) (sb3.extBut _ _ (Ne.symm ap.TOz) (sb2.extBut _ _ (ne1 ap ap.z1) hz1)))
  change wpAny _ _ (Builtin.SmallTypes.ownedTupleHandOut (.ref z) (.ref g5.objs.size) >>= _) _ _ _
  apply wpAny_bind
  unfold Builtin.SmallTypes.ownedTupleHandOut
  apply wpAny_bind
  have z6 : IsZip (g5.push { cls := .type "tuple", data := .seq #[x, y] }) z TI TO .ellipsis := Heap.get?_push_of_some _ z5
  refine wpAny_setField_rec z6 (by simp) fun g7 z7 sb7 => ?_
  have z7 : IsZip g7 z TI TO (rawInt g5.objs.size) := z7
  refine wpAny_setField_rec z7 (by simp) fun g8 z8 sb8 => ?_
  have z8 : IsZip g8 z TI TO (rawInt g5.objs.size) := z8
  have zlt : z < g5.objs.size := Heap.lt_size z5
  have up : ∀ c o, c ≠ z → g5.get? c = some o → g8.get? c = some o := fun c o c1 e => sb8.extBut c o c1 (sb7.extBut c o c1 (Heap.get?_push_of_some _ e))
  have p8 : IsPair g8 g5.objs.size x y := sb8.extBut _ _ (Nat.ne_of_gt zlt) (sb7.extBut _ _ (Nat.ne_of_gt zlt) (Heap.get?_push_size _ rfl))
  have s8 : g8.objs.size = g5.objs.size + 1 := by rw [sb8.1, sb7.1, Heap.size_push]
  have f1 : St1 (i + 1) g8 := D1.frame _ _ _ st1 fun c hc o e => up c o (fun y => ap.z1 (y ▸ hc)) (sb5.extBut c o (fun y => ap.o1 (y ▸ hc)) (sb4.extBut c o (fun y => ap.n2 (y ▸ hc)) (sb3.extBut c o (fun y => ap.o1 (y ▸ hc)) e)))
  have f2 : St2 (i + 1) g8 := D2.frame _ _ _ st2 fun c hc o e => up c o (fun y => ap.z2 (y ▸ hc)) (sb5.extBut c o (fun y => ap.o2 (y ▸ hc)) e)
  have ti8 : IsPair g8 TI (.ref i1) (.ref i2) := up _ _ ap.TIz (k5 _ _ ap.TIz ap.TITO (ne1 ap ap.t1) (ne2 ap ap.t2) hti)
  rw [size] at z8 p8 s8
  apply wpAny_pure
  refine ⟨_, rfl, wpAny_pure ?_⟩
  change Q (some (.ref g5.objs.size)) _
  rw [size]
  exact q x y g8 tk4 px py ⟨z8, ti8, ⟨x, y, up _ _ ap.TOz to5⟩, f1, f2⟩ p8 (fun c o c1 c2 c3 c4 e => up c o c1 (k5 c o c1 c2 c3 c4 e)) s8
theorem fin (D1 : Draws prog w A.in1 i1 fp1 n1 P1 St1) (D2 : Draws prog w A.in1 i2 fp2 n2 P2 St2) (ap : Ap z TI TO i1 i2 fp1 fp2) {i : Nat} (le : i = n1 ∨ (i < n1 ∧ i = n2)) (st : ZSt z TI TO i1 i2 St1 St2 .none i i s.heap) {Q : Option Value → Shared → Prop}
    (q : ∀ h' tk, (∀ c o, c ≠ z → c ≠ TO → c ≠ i1 → c ≠ i2 → s.heap.get? c = some o → h'.get? c = some o) → Q none { s with heap := h', toks := tk }) : wpAny (model prog w) A (pyNext (.ref z)) Q E s := by
  obtain ⟨hz, hti, ⟨a, b, hto⟩, h1, h2⟩ := st
  have T : s.TypeIs (.ref z) "zip" := ⟨_, hz, rfl⟩
  have slot := PySem.F.slot_zip_next
  unfold pyNext
  apply wpAny_bind
  apply wpAny_attempt
  apply wpAny_callSpecial?_slot (name := Str.ofString "__next__") T slot
  apply wpAny_call_entry slot T PySem.F.entry_zip_next _ (PySem.F.args_zip_next_1 _)
  change wpAny _ _ (field (.ref z) 2 >>= _) _ _ _
  apply wpAny_bind
  refine wpAny_field hz rfl (x := .bool false) rfl ?_
  change wpAny _ _ (field (.ref z) 3 >>= _) _ _ _
  apply wpAny_bind
  refine wpAny_field hz rfl (x := .ref TI) rfl ?_
  apply wpAny_bind
  apply wpAny_seqItems hti rfl
  change wpAny _ _ (Builtin.SmallTypes.ownedTupleIsFree (.ref z) >>= _) _ _ _
  apply wpAny_bind
  unfold Builtin.SmallTypes.ownedTupleIsFree
  apply wpAny_bind
  refine wpAny_field hz rfl (x := .none) rfl (wpAny_pure ?_)
  simp only [if_true]
  apply wpAny_bind
  apply wpAny_rule
  apply wpAny_bind
  refine wpAny_field hz rfl (x := .ref TO) rfl ?_
  apply wpAny_bind
  refine wpAny_setField_rec hz (by simp) fun g1 hz1 sb1 => ?_
  have k1 : ∀ c o, c ≠ z → s.heap.get? c = some o → g1.get? c = some o := fun c o c1 e => sb1.extBut c o c1 e
  apply wpAny_bind
  simp only [List.zipIdx_cons, List.zipIdx_nil, List.forIn_cons, List.forIn_nil]
  apply wpAny_bind
  apply wpAny_bind
  apply wpAny_onRaise
  change wpAny _ _ (Builtin.SmallTypes.nextOf (.ref i1) >>= _) _ _ _
  apply wpAny_bind
  have z1 : IsZip g1 z TI TO .ellipsis := hz1
  rcases le with rfl | ⟨lt, rfl⟩
  · refine D1.done { s with heap := g1 } _ _ (D1.frame _ _ _ h1 fun c hc o e => k1 c o (fun y => ap.z1 (y ▸ hc)) e) fun g2 e eb ex => ?_
    have z2 : IsZip g2 z TI TO .ellipsis := eb _ _ (ne1 ap ap.z1) z1
    refine wpAny_setField_rec z2 (by simp) fun g3 z3 sb3 => ?_
    obtain ⟨oe, eo, co⟩ := ex
    have ne : e ≠ z := fun y => by
      rw [y, z2] at eo
      have := Option.some.inj eo
      rw [← this] at co; exact absurd (show Value.type "zip" = Value.type "StopIteration" from co) (by decide)
    apply wpAny_bind
    refine wpAny_isInstance (T := "StopIteration") (b := true) ⟨oe, sb3.extBut _ _ ne eo, co⟩ isSubtype_stop ?_
    exact wpAny_pure (q g3 s.toks fun c o c1 _ c3 _ e => sb3.extBut c o c1 (eb c o c3 (k1 c o c1 e)))
  · refine D1.item i { s with heap := g1 } _ _ lt (D1.frame _ _ _ h1 fun c hc o e => k1 c o (fun y => ap.z1 (y ▸ hc)) e) fun x g2 tk2 px st1 sb2 => wpAny_pure ?_
    have k2 : ∀ c o, c ≠ z → c ≠ i1 → s.heap.get? c = some o → g2.get? c = some o := fun c o c1 c2 e => sb2.extBut c o c2 (k1 c o c1 e)
    have to2 : IsPair g2 TO a b := k2 _ _ ap.TOz (ne1 ap ap.o1) hto
    apply wpAny_bind
    apply wpAny_seqItems to2 rfl
    apply wpAny_bind
    refine wpAny_updateSeq_pair to2 fun g3 to3 sb3 => ?_
    apply wpAny_bind
    apply wpAny_letGo
    apply wpAny_pure
    apply wpAny_bind
    apply wpAny_bind
    apply wpAny_onRaise
    change wpAny _ _ (Builtin.SmallTypes.nextOf (.ref i2) >>= _) _ _ _
    apply wpAny_bind
    have k3 : ∀ c o, c ≠ z → c ≠ i1 → c ≠ TO → s.heap.get? c = some o → g3.get? c = some o := fun c o c1 c2 c3 e => sb3.extBut c o c3 (k2 c o c1 c2 e)
    refine D2.done { s with heap := g3, toks := tk2 } _ _ (D2.frame _ _ _ h2 fun c hc o e => k3 c o (fun y => ap.z2 (y ▸ hc)) (fun y => ap.n1 (y ▸ hc)) (fun y => ap.o2 (y ▸ hc)) e) fun g4 e eb ex => ?_
    have z4 : IsZip g4 z TI TO .ellipsis := eb _ _ (ne2 ap ap.z2) (sb3.extBut _ _ (Ne.symm ap.TOz) (sb2.extBut _ _ (ne1 ap ap.z1) z1))
    refine wpAny_setField_rec z4 (by simp) fun g5 z5 sb5 => ?_
    obtain ⟨oe, eo, co⟩ := ex
    have ne : e ≠ z := fun y => by
      rw [y, z4] at eo
      have := Option.some.inj eo
      rw [← this] at co; exact absurd (show Value.type "zip" = Value.type "StopIteration" from co) (by decide)
    apply wpAny_bind
    refine wpAny_isInstance (T := "StopIteration") (b := true) ⟨oe, sb5.extBut _ _ ne eo, co⟩ isSubtype_stop ?_
    exact wpAny_pure (q g5 tk2 fun c o c1 c2 c3 c4 e => sb5.extBut c o c1 (eb c o c4 (k3 c o c1 c3 c2 e)))
end
end Zp
namespace Zp
open PySem PyProof.Rows
def tup5 (h : Heap) (t u : Addr) : Heap :=
  ((((h.push { cls := .type "tuple_iterator", data := .fields #[.ref t, .int 0 0] }).push { cls := .type "tuple_iterator", data := .fields #[.ref u, .int 0 0] }).push { cls := .type "tuple", data := .seq #[.ref h.objs.size, .ref (h.objs.size + 1)] }).push
    { cls := .type "tuple", data := .seq #[.none, .none] }).push { cls := .type "zip", data := .fields #[.none, .bool false, .bool false, .ref (h.objs.size + 2), .ref (h.objs.size + 3)] }
theorem meets_tt (t u : Addr) (xs ys : Array Value) : Meets (Builtin.«zip.__new__» ⟨[.type "zip", .ref t, .ref u], []⟩) (fun _ R s => s.heap.IsTuple t xs ∧ s.heap.IsTuple u ys ∧ R (.ok (.ret (.ref (s.heap.objs.size + 4)))) { s with heap := tup5 s.heap t u }) :=
  .of_wp fun prog w A R s h => by
    obtain ⟨hp, g, d, tk, os⟩ := s
    obtain ⟨ht, hu, h⟩ := h
    have sub := sub_zip
    have a1 : Heap.IsTuple (Shared.heap ⟨hp, g, d, tk, os⟩) t xs := ht
    have a2 : Heap.IsTuple (Shared.heap ⟨hp.push { cls := .type "tuple_iterator", data := .fields #[.ref t, .int 0 0] }, g, d, tk, os⟩) u ys := hu.elim fun o y => ⟨o, Heap.get?_push_of_some _ y.1, y.2⟩
    wp_walk using wpAny_pyIter_tuple a1, wpAny_pyIter_tuple a2
    have e : ∀ (o : Obj) (k : Heap), (k.push o).objs.size = k.objs.size + 1 := fun o k => Heap.size_push ..
    refine ⟨_, rfl, ?_⟩
    simp only [tup5, e] at h ⊢
    exact h
section
variable {prog : Program} {w : World} {A : Around} {E : Value → Shared → Prop} {s : Shared}
theorem call_tt {t u : Addr} {xs ys : Array Value} {Q : Value → Shared → Prop} (ht : s.heap.IsTuple t xs) (hu : s.heap.IsTuple u ys)
    (q : ∀ h', IsZip h' (s.heap.objs.size + 4) (s.heap.objs.size + 2) (s.heap.objs.size + 3) .none → IsPair h' (s.heap.objs.size + 2) (.ref s.heap.objs.size) (.ref (s.heap.objs.size + 1)) →
      IsPair h' (s.heap.objs.size + 3) .none .none → h'.IsTupleIter s.heap.objs.size t 0 → h'.IsTupleIter (s.heap.objs.size + 1) u 0 → (∀ c o, s.heap.get? c = some o → h'.get? c = some o) → Q (.ref (s.heap.objs.size + 4)) { s with heap := h' }) :
    wpAny (model prog w) A (call (.type "zip") [.ref t, .ref u]) Q E s := by
  refine callType_new PySem.F.called_zip (by decide) (PySem.F.typeCall_zip_2 _ _) (PySem.F.newCall_zip_2 _ _) (fun obj => PySem.F.args_object_init_3 obj _ _) PySem.F.entry_zip_new (meets_tt t u xs ys) ⟨ht, hu, ?_⟩
  have e : ∀ (o : Obj) (k : Heap), (k.push o).objs.size = k.objs.size + 1 := fun o k => Heap.size_push ..
  have p0 : ∀ (k : Heap) (o : Obj) (m : Nat), o.isFreed = false → m = k.objs.size → (k.push o).get? m = some o := fun k o m f z => by rw [z]; exact Heap.get?_push_size _ f
  have g0 : (tup5 s.heap t u).get? s.heap.objs.size = some { cls := .type "tuple_iterator", data := .fields #[.ref t, .int 0 0] } := by
    unfold tup5
    exact Heap.get?_push_of_some _ (Heap.get?_push_of_some _ (Heap.get?_push_of_some _ (Heap.get?_push_of_some _ (p0 _ _ _ rfl rfl))))
  have g1 : (tup5 s.heap t u).get? (s.heap.objs.size + 1) = some { cls := .type "tuple_iterator", data := .fields #[.ref u, .int 0 0] } := by
    unfold tup5
    exact Heap.get?_push_of_some _ (Heap.get?_push_of_some _ (Heap.get?_push_of_some _ (p0 _ _ _ rfl (by simp only [e]))))
  have g2 : (tup5 s.heap t u).get? (s.heap.objs.size + 2) = some { cls := .type "tuple", data := .seq #[.ref s.heap.objs.size, .ref (s.heap.objs.size + 1)] } := by
    unfold tup5
    exact Heap.get?_push_of_some _ (Heap.get?_push_of_some _ (p0 _ _ _ rfl (by simp only [e])))
  have g3 : (tup5 s.heap t u).get? (s.heap.objs.size + 3) = some { cls := .type "tuple", data := .seq #[.none, .none] } := by
    unfold tup5
    exact Heap.get?_push_of_some _ (p0 _ _ _ rfl (by simp only [e]))
  have g4 : (tup5 s.heap t u).get? (s.heap.objs.size + 4) = some { cls := .type "zip", data := .fields #[.none, .bool false, .bool false, .ref (s.heap.objs.size + 2), .ref (s.heap.objs.size + 3)] } := by
    unfold tup5
    exact p0 _ _ _ rfl (by simp only [e])
  refine ⟨⟨_, g4, rfl⟩, q _ g4 g2 g3 ⟨_, g0, rfl, rfl⟩ ⟨_, g1, rfl, rfl⟩ fun c o z => ?_⟩
  unfold tup5
  exact Heap.get?_push_of_some _ (Heap.get?_push_of_some _ (Heap.get?_push_of_some _ (Heap.get?_push_of_some _ (Heap.get?_push_of_some _ z))))
end
end Zp
namespace L2
open PySem PySem.Spec PyProof.Rows
def Itz (K : PySem.W.Frag) (a b : Addr) : It :=
  ⟨fun i H => ∃ xs ys x y, SqT K H a xs ∧ SqT K H b ys ∧ xs[i]? = some x ∧ ys[i]? = some y,
   fun i H v H' => ∃ T x y, H T = none ∧ v = .ref T ∧ H' = upd H T (.tup [x, y]) ∧ ∀ xs ys, SqT K H a xs → SqT K H b ys → xs[i]? = some x ∧ ys[i]? = some y,
   fun i H => ∃ xs ys, SqT K H a xs ∧ SqT K H b ys ∧ (i = xs.length ∨ (i < xs.length ∧ i = ys.length))⟩
structure ZNow (z TI TO i1 i2 a b : Addr) (i : Nat) (h : Heap) : Prop where
  zz : IsZip h z TI TO .none
  ti : IsPair h TI (.ref i1) (.ref i2)
  to_ : ∃ x y, IsPair h TO x y
  s1 : h.IsTupleIter i1 a i
  s2 : h.IsTupleIter i2 b i
theorem turn_zip {P : Program} {w : World} {K : PySem.W.Frag} {elts : List Expr} {k : Nat} {pos : Pos} (a b z TI TO i1 i2 : Addr) (d : [z, TI, TO, i1, i2].Nodup) :
    Turn P w K (.Tuple elts k pos) (Itz K a b) [z, TI, TO, i1, i2] z (ZNow z TI TO i1 i2 a b) := by
  have nd : z ≠ TI ∧ z ≠ TO ∧ z ≠ i1 ∧ z ≠ i2 ∧ TI ≠ TO ∧ TI ≠ i1 ∧ TI ≠ i2 ∧ TO ≠ i1 ∧ TO ≠ i2 ∧ i1 ≠ i2 := by
    simp only [List.nodup_cons, List.mem_cons, List.not_mem_nil, or_false, not_or] at d
    obtain ⟨⟨a1, a2, a3, a4⟩, ⟨b1, b2, b3⟩, ⟨c1, c2⟩, e1, _⟩ := d
    exact ⟨a1, a2, a3, a4, b1, b2, b3, c1, c2, e1⟩
  obtain ⟨n1, n2, n3, n4, n5, n6, n7, n8, n9, n10⟩ := nd
  have offBase : ∀ {X : Cx} {pins : List (Addr × Obj)} {σ : St} {H : Hp} {s : Shared}, Inv X pins σ H s → (∀ c ∈ [z, TI, TO, i1, i2], FpOk X pins H c) → ∀ c ∈ [z, TI, TO, i1, i2], X.base.get? c = none := by
    intro X pins σ H s I hf c hc
    cases q : X.base.get? c with
    | none => rfl
    | some o =>
      rcases (hf c hc).2.2.2.1 with h | h
      · exact absurd h (I.ok.noex c o q)
      · exact absurd (Nat.lt_of_lt_of_le (Heap.lt_size q) (Nat.le_trans I.ok.bsz h)) (Nat.lt_irrefl _)
  have off : ∀ {X : Cx} {pins : List (Addr × Obj)} {σ : St} {H : Hp} {s : Shared} {c : Addr} {zs : List V}, Inv X pins σ H s → (∀ c ∈ [z, TI, TO, i1, i2], FpOk X pins H c) → SqT X.K H c zs → c ∉ [z, TI, TO, i1, i2] := by
    intro X pins σ H s c zs I hf hc hm
    have he := (hf c hm).1
    have hbe := offBase I hf c hm
    rcases hc with (h | ⟨_, h⟩) | ⟨o, _, _, h, _⟩
    · rw [he] at h; cases h
    · rw [he] at h; cases h
    · have := I.ok.mod.kin c o h
      rw [hbe] at this; cases this
  have ap : ∀ {c e : Addr}, c ∉ [z, TI, TO, i1, i2] → e ∉ [z, TI, TO, i1, i2] → Zp.Ap z TI TO i1 i2 [i1, c] [i2, e] := fun {c e} hc he => by
    simp only [List.mem_cons, List.not_mem_nil, or_false, not_or] at hc he
    obtain ⟨c1, c2, c3, c4, c5⟩ := hc
    obtain ⟨e1, e2, e3, e4, e5⟩ := he
    have two : ∀ {q u v : Addr}, q ≠ u → q ≠ v → q ∉ [u, v] := fun {q u v} h1 h2 hm => by
      simp only [List.mem_cons, List.not_mem_nil, or_false] at hm
      exact hm.elim h1 h2
    exact ⟨n1.symm, n2.symm, n5, two n3 (Ne.symm c1), two n4 (Ne.symm e1), two n8 (Ne.symm c3), two n9 (Ne.symm e3), two n6 (Ne.symm c2), two n7 (Ne.symm e2), List.mem_cons_self, List.mem_cons_self, two n10 (Ne.symm e4), two n10.symm (Ne.symm c5)⟩
  refine ⟨by simp, fun i h st c hc => ?_, fun i h h' st kp => ?_, ?_, ?_, fun A i s Q E st q => wpAny_pyIter_zip st.zz q⟩
  · simp only [List.mem_cons, List.not_mem_nil, or_false] at hc
    obtain ⟨x, y, to⟩ := st.to_
    obtain ⟨o1, f1, g1, d1⟩ := st.s1
    obtain ⟨o2, f2, g2, d2⟩ := st.s2
    rcases hc with rfl | rfl | rfl | rfl | rfl
    · exact ⟨_, st.zz, fun v q => by cases q⟩
    · exact ⟨_, st.ti, fun v q => by cases q⟩
    · exact ⟨_, to, fun v q => by cases q⟩
    · exact ⟨_, f1, fun v q => by rw [d1] at q; cases q⟩
    · exact ⟨_, f2, fun v q => by rw [d2] at q; cases q⟩
  · obtain ⟨x, y, to⟩ := st.to_
    exact ⟨kp z (by simp) _ st.zz, kp TI (by simp) _ st.ti, ⟨x, y, kp TO (by simp) _ to⟩, st.s1.at fun o e => kp i1 (by simp) o e, st.s2.at fun o e => kp i2 (by simp) o e⟩
  ·
    intro X hP hw hK hc i pins s σ H E I hf st hg
    subst hP hw hK
    obtain ⟨xs, ys, x, y, ha, hb, hx, hy⟩ := hg
    obtain ⟨us, ru, pu, lu⟩ := I.tuple ha
    obtain ⟨vs, rv, pv', lv⟩ := I.tuple hb
    obtain ⟨ux, eux, rux⟩ := ru.get hx
    obtain ⟨vy, evy, rvy⟩ := rv.get hy
    have fa := off I hf ha
    have fb := off I hf hb
    have hh : X.A.in1.handled = none := I.ok.hd hc
    have l1 : i < us.toArray.size := by simpa using (List.getElem?_eq_some_iff.mp eux).1
    have l2 : i < vs.toArray.size := by simpa using (List.getElem?_eq_some_iff.mp evy).1
    have fa' : a ≠ i1 := fun q => fa (by rw [q]; simp)
    have fb' : b ≠ i2 := fun q => fb (by rw [q]; simp)
    have D1 := Zp.draws_tuple (prog := X.prog) (w := X.w) hh i1 a fa' us.toArray
    have D2 := Zp.draws_tuple (prog := X.prog) (w := X.w) hh i2 b fb' vs.toArray
    refine Zp.item D1 D2 (ap fa fb) l1 l2 ⟨st.zz, st.ti, st.to_, ⟨st.s1, pu⟩, ⟨st.s2, pv'⟩⟩ fun p q h' tk hp hq st' pr kp sz => ⟨_, rfl, ?_⟩
    obtain rfl : p = ux := by
      have : us.toArray[i]? = some ux := by simpa using eux
      rw [this] at hp; exact (Option.some.inj hp).symm
    obtain rfl : q = vy := by
      have : vs.toArray[i]? = some vy := by simpa using evy
      rw [this] at hq; exact (Option.some.inj hq).symm
    refine wpAny_letOwnedTupleGo_zip (s := { s with heap := h', toks := tk }) st'.zz fun g zz sb => ?_
    have hzl : z < s.heap.objs.size := Heap.lt_size st.zz
    have up : ∀ c o, c ≠ z → c ≠ TO → c ≠ i1 → c ≠ i2 → s.heap.get? c = some o → g.get? c = some o := fun c o c1 c2 c3 c4 e => sb.extBut c o c1 (kp c o c1 c2 c3 c4 e)
    have hT : H s.heap.objs.size = none := I.hok.fresh (Nat.le_refl _)
    have prG : IsPair g s.heap.objs.size p q := sb.extBut _ _ (Nat.ne_of_gt hzl) pr
    have fpn : ∀ c u, H c = some u → c ∉ [z, TI, TO, i1, i2] := fun c u e hm => by rw [(hf c hm).1] at e; cases e
    have upH : ∀ c o u, H c = some u → s.heap.get? c = some o → g.get? c = some o := fun c o u e z => by
      have := fpn c u e
      simp only [List.mem_cons, List.not_mem_nil, or_false, not_or] at this
      exact up c o this.1 this.2.2.1 this.2.2.2.1 this.2.2.2.2 z
    have ns : ∀ m, s.heap.Ns X.env.locals m → g.Ns X.env.locals m := fun m hm => by
      obtain ⟨o, es, ep, e1, e2⟩ := hm
      exact ⟨o, es, ep, up _ o (Ne.symm (hf z (by simp)).2.1) (Ne.symm (hf TO (by simp)).2.1) (Ne.symm (hf i1 (by simp)).2.1) (Ne.symm (hf i2 (by simp)).2.1) e1, e2⟩
    have I2 : Inv X pins σ (upd H s.heap.objs.size (.tup [x, y])) { s with heap := g, toks := tk } := by
      refine I.step (g' := s.gens) (d' := s.drawn) (ch := [z, TO, i1, i2]) (fun c hc' => ?_) (fun c o _ _ hc' e _ => ?_) (fun c o _ _ hc' e _ => ⟨o.slots, ?_⟩) (fun c o _ e n => ?_) (fun c o hc' e => ⟨o, ?_⟩)
        (fun c zs e => by rw [upd_ne (ne_of_none e hT)]; exact e) (fun c u zs e => by rw [upd_ne (ne_of_none e hT)]; exact e) (fun c ps e => ⟨#[], by rw [upd_ne (ne_of_none e hT), e]; simp⟩) ns (fun c u e => ?_) I.bare
      · have hm : c ∈ [z, TI, TO, i1, i2] := by
          simp only [List.mem_cons, List.not_mem_nil, or_false] at hc' ⊢
          rcases hc' with h | h | h | h <;> simp [h]
        exact ⟨(hf c hm).2.2.2.1, (hf c hm).2.1, (hf c hm).2.2.2.2.1, (hf c hm).2.2.2.2.2⟩
      · simp only [List.mem_cons, List.not_mem_nil, or_false, not_or] at hc'
        exact up c o hc'.1 hc'.2.1 hc'.2.2.1 hc'.2.2.2 e
      · simp only [List.mem_cons, List.not_mem_nil, or_false, not_or] at hc'
        exact up c o hc'.1 hc'.2.1 hc'.2.2.1 hc'.2.2.2 e
      · rw [upd_ne (Nat.ne_of_lt (Heap.lt_size e))]; exact n
      · simp only [List.mem_cons, List.not_mem_nil, or_false, not_or] at hc'
        exact up c o hc'.1 hc'.2.1 hc'.2.2.1 hc'.2.2.2 e
      · by_cases hcT : c = s.heap.objs.size
        · subst hcT
          rw [upd_same] at e; cases e
          exact ⟨by show 2 ≤ sizeLine; decide, [p, q], .cons rux (.cons rvy .nil), ⟨_, prG, rfl, _, rfl⟩⟩
        · rw [upd_ne hcT] at e
          refine (I.hok c u e).stay (fun c' o' hc2 q' => ?_) (fun c' q' => by rw [upd_ne (ne_of_none q' hT)]; exact q') fun c' zs q' => by rw [upd_ne (ne_of_none q' hT)]; exact q'
          rcases hc2 with rfl | hc2
          · exact upH _ _ _ e q'
          · exact upH _ _ _ hc2 q'
    obtain ⟨x', y', to'⟩ := st'.to_
    refine ⟨.ref s.heap.objs.size, _, I2, rfl, ⟨_, x, y, hT, rfl, rfl, fun xs' ys' ha' hb' => ?_⟩, ⟨zz, sb.extBut _ _ n1.symm st'.ti, ⟨x', y', sb.extBut _ _ n2.symm to'⟩, st'.s1.1.at fun o e => sb.extBut _ o n3.symm e, st'.s2.1.at fun o e => sb.extBut _ o n4.symm e⟩, fun c hc' => ?_⟩
    · rw [I.tuple_inj ha' ha, I.tuple_inj hb' hb]; exact ⟨hx, hy⟩
    · obtain ⟨o, e, _⟩ : ∃ o, s.heap.get? c = some o ∧ True := by
        simp only [List.mem_cons, List.not_mem_nil, or_false] at hc'
        obtain ⟨x2, y2, to2⟩ := st.to_
        obtain ⟨o1, f1, _⟩ := st.s1
        obtain ⟨o2, f2, _⟩ := st.s2
        rcases hc' with rfl | rfl | rfl | rfl | rfl
        · exact ⟨_, st.zz, trivial⟩
        · exact ⟨_, st.ti, trivial⟩
        · exact ⟨_, to2, trivial⟩
        · exact ⟨_, f1, trivial⟩
        · exact ⟨_, f2, trivial⟩
      rw [upd_ne (Nat.ne_of_lt (Heap.lt_size e))]; exact (hf c hc').1
  ·
    intro X hP hw hK hc i pins s σ H E I hf st hg
    subst hP hw hK
    obtain ⟨xs, ys, ha, hb, hi⟩ := hg
    obtain ⟨us, ru, pu, lu⟩ := I.tuple ha
    obtain ⟨vs, rv, pv', lv⟩ := I.tuple hb
    have fa := off I hf ha
    have fb := off I hf hb
    have hh : X.A.in1.handled = none := I.ok.hd hc
    have fa' : a ≠ i1 := fun q => fa (by rw [q]; simp)
    have fb' : b ≠ i2 := fun q => fb (by rw [q]; simp)
    have D1 := Zp.draws_tuple (prog := X.prog) (w := X.w) hh i1 a fa' us.toArray
    have D2 := Zp.draws_tuple (prog := X.prog) (w := X.w) hh i2 b fb' vs.toArray
    have e1 := ru.length
    have e2 := rv.length
    refine Zp.fin D1 D2 (ap fa fb) (by simp only [List.size_toArray]; omega) ⟨st.zz, st.ti, st.to_, ⟨st.s1, pu⟩, ⟨st.s2, pv'⟩⟩ fun g tk kp => ⟨rfl, ?_⟩
    have fpn : ∀ c u, H c = some u → c ∉ [z, TI, TO, i1, i2] := fun c u e hm => by rw [(hf c hm).1] at e; cases e
    have upH : ∀ c o u, H c = some u → s.heap.get? c = some o → g.get? c = some o := fun c o u e z => by
      have := fpn c u e
      simp only [List.mem_cons, List.not_mem_nil, or_false, not_or] at this
      exact kp c o this.1 this.2.2.1 this.2.2.2.1 this.2.2.2.2 z
    have ns : ∀ m, s.heap.Ns X.env.locals m → g.Ns X.env.locals m := fun m hm => by
      obtain ⟨o, es, ep, e1, e2⟩ := hm
      exact ⟨o, es, ep, kp _ o (Ne.symm (hf z (by simp)).2.1) (Ne.symm (hf TO (by simp)).2.1) (Ne.symm (hf i1 (by simp)).2.1) (Ne.symm (hf i2 (by simp)).2.1) e1, e2⟩
    refine I.step (g' := s.gens) (d' := s.drawn) (ch := [z, TO, i1, i2]) (fun c hc' => ?_) (fun c o _ _ hc' e _ => ?_) (fun c o _ _ hc' e _ => ⟨o.slots, ?_⟩) (fun c o _ e n => n) (fun c o hc' e => ⟨o, ?_⟩)
      (fun c zs e => e) (fun c u zs e => e) (fun c ps e => ⟨#[], by rw [e]; simp⟩) ns (fun c u e => ?_) I.bare
    · have hm : c ∈ [z, TI, TO, i1, i2] := by
        simp only [List.mem_cons, List.not_mem_nil, or_false] at hc' ⊢
        rcases hc' with h | h | h | h <;> simp [h]
      exact ⟨(hf c hm).2.2.2.1, (hf c hm).2.1, (hf c hm).2.2.2.2.1, (hf c hm).2.2.2.2.2⟩
    · simp only [List.mem_cons, List.not_mem_nil, or_false, not_or] at hc'
      exact kp c o hc'.1 hc'.2.1 hc'.2.2.1 hc'.2.2.2 e
    · simp only [List.mem_cons, List.not_mem_nil, or_false, not_or] at hc'
      exact kp c o hc'.1 hc'.2.1 hc'.2.2.1 hc'.2.2.2 e
    · simp only [List.mem_cons, List.not_mem_nil, or_false, not_or] at hc'
      exact kp c o hc'.1 hc'.2.1 hc'.2.2.1 hc'.2.2.2 e
    · refine (I.hok c u e).stay (fun c' o' hc2 q' => ?_) (fun _ q' => q') fun _ _ q' => q'
      rcases hc2 with rfl | hc2
      · exact upH _ _ _ e q'
      · exact upH _ _ _ hc2 q'
end L2
namespace L2
open PySem PySem.Spec PyProof.Rows
section
variable {X : Cx}
def iZip (K : PySem.W.Frag) (ta : TA) : TI := fun σ H R => ta σ H fun vs H1 => ∃ a b xs ys, vs = [.ref a, .ref b] ∧ SqT K H1 a xs ∧ SqT K H1 b ys ∧ R (Itz K a b) H1
theorem pi_zip {elts : List Expr} {kt : Nat} {pt : Pos} {a b : Expr} {ta : TA} {p pos : Pos} (hg : Gl X "zip") (hm : X.mg "zip" = none) (ha : PA X [a, b] ta) (hs : starEach [a, b] X.env = [(false, eval a X.env), (false, eval b X.env)] := by rfl) (hs2 : starEach [b] X.env = [(false, eval b X.env)] := by rfl) :
    PI X (.Tuple elts kt pt) (.Call (.Name "zip" p) [a, b] [] pos) (iZip X.K ta) := by
  intro pins s σ H R I h
  refine Call_ (ld_blt I hg hm PyProof.Rows.boot_zip (PyProof.Rows.callWith_type1 (thn (ha pos pins s σ H _ I h) fun us s1 ⟨vs, H1, I1, r1, q1⟩ => ?_) (by rw [hs, hs2]) (by rw [hs2]; rfl)))
  obtain ⟨a', b', xs, ys, e, h1, h2, q⟩ := q1
  subst e
  cases r1 with
  | cons r rr =>
    cases rr with
    | cons r' rr =>
      cases rr
      cases r
      cases r'
      obtain ⟨us, _, p1, _⟩ := I1.tuple h1
      obtain ⟨ws, _, p2, _⟩ := I1.tuple h2
      refine Zp.call_tt p1 p2 fun h' z ti to s1' s2' kp => wpAny_pyIter_zip z ?_
      have fresh : ∀ k, H1 (s1.heap.objs.size + k) = none := fun k => I1.hok.fresh (Nat.le_add_right _ _)
      refine ⟨s1.heap.objs.size + 4, [s1.heap.objs.size + 4, s1.heap.objs.size + 2, s1.heap.objs.size + 3, s1.heap.objs.size, s1.heap.objs.size + 1], _, _, H1, rfl, I1.kept (t' := s1.toks) kp,
        turn_zip a' b' _ _ _ _ _ (by simp), ⟨z, ti, ⟨_, _, to⟩, s1', s2'⟩, fun c hc => ?_, q⟩
      simp only [List.mem_cons, List.not_mem_nil, or_false] at hc
      rcases hc with rfl | rfl | rfl | rfl | rfl
      · exact I1.fpOk (Nat.le_add_right _ _) (fresh 4)
      · exact I1.fpOk (Nat.le_add_right _ _) (fresh 2)
      · exact I1.fpOk (Nat.le_add_right _ _) (fresh 3)
      · exact I1.fpOk (Nat.le_refl _) (fresh 0)
      · exact I1.fpOk (Nat.le_add_right _ _) (fresh 1)
theorem call_allB (hc : X.calm = true) : CallR X (.builtin "all") (fun xs H Q => ∃ (a : Addr) (bs : List Bool), xs = [.ref a] ∧ SqL X.K H a (bs.map V.bl) ∧ Q (.bl (bs.all id)) H) := by
  intro pins s σ H xs us Q I r h
  obtain ⟨a, bs, rfl, hq, q⟩ := h
  obtain ⟨u, rfl, ru⟩ := vals1 r
  cases ru
  obtain ⟨its, rv, p, hz⟩ := I.list hq
  have hl := rv.length
  rw [List.length_map] at hl
  have hlt : a < s.heap.objs.size := by obtain ⟨o, e, _⟩ := p.isList; exact Heap.lt_size e
  refine call_all_walk (wpAny_pyIter_list p.isList ?_)
  have hh : X.A.in1.handled = none := I.ok.hd hc
  refine ⟨s.heap.objs.size, _, _, _, _, _, fun i => bs.getD i false, rfl, Walks.list hh s.heap.objs.size a (Nat.ne_of_lt hlt) its.toArray, ⟨⟨_, Heap.get?_push_size _ rfl, rfl, rfl⟩, p.isList.push _⟩, ?_, fun h' tk kp => ?_⟩
  · intro i v s' Q' E' hP hQ'
    have hi : its[i]? = some v := by simpa using hP
    have hil : i < bs.length := by rw [hl]; exact (List.getElem?_eq_some_iff.mp hi).1
    obtain ⟨u, e1, e2⟩ := rv.get (i := i) (x := .bl bs[i]) (by simp [hil])
    rw [hi] at e1; cases e1
    cases e2
    have : bs.getD i false = bs[i] := by rw [List.getD_eq_getElem?_getD, List.getElem?_eq_getElem hil]; rfl
    have hQ2 : Q' (bs.getD i false) s' := hQ'
    rw [this] at hQ2
    exact wpAny_truthy_bool hQ2
  · have all_eq : (List.range its.toArray.size).all (fun i => bs.getD i false) = bs.all id := by
      rw [List.size_toArray, ← hl]
      clear q rv hz hl hq hlt p hh kp
      induction bs with
      | nil => rfl
      | cons b r ih =>
        rw [List.length_cons, List.range_succ_eq_map, List.all_cons, List.all_map, List.all_cons, ← ih]
        rfl
    rw [all_eq]
    refine ⟨.bl (bs.all id), H, I.kept (t' := tk) (h' := h') fun b o e => kp b o (fun z => ?_) (Heap.get?_push_of_some _ e), rfl, q⟩
    rw [List.mem_singleton.mp z] at e
    exact absurd (Heap.lt_size e) (Nat.lt_irrefl _)
end
structure OverR (H : Hp) (J : It) (n : Nat) (R : Nat → V → Hp → Prop) : Prop where
  go : ∀ i H', Same H H' → i < n → J.go i H'
  yld : ∀ i H' x H2, Same H H' → J.yld i H' x H2 → i < n → Same H' H2 ∧ R i x H2
  stop : ∀ H', Same H H' → J.stop n H'
theorem comp_byR {H1 : Hp} {J : It} {n : Nat} {R : Nat → V → Hp → Prop} {g : TG} {tc : TT} {te : TE} {σ0 : St} {Q : VK} (O : OverR H1 J n R) (Pv : Nat → List V → Hp → Prop) (hn : n ≤ sizeLine)
    (h0 : ∀ D, H1 D = none → Pv 0 [] (upd H1 D (.lst [])))
    (mono : ∀ i acc H' H2, Same H' H2 → Pv i acc H' → Pv i acc H2)
    (hs : ∀ i x acc D H', i < n → R i x H' → CAt H1 D n i acc H' → Pv i acc H' → g x σ0 H' fun σ2 H3 => Wk σ0 σ2 ∧ tc σ2 H3 fun b H4 =>
      if b = true then te σ2 H4 fun v H5 => CYes H1 D n Pv i acc v H5 else CNo H1 D n Pv i acc H4)
    (hd : ∀ D acc H', H1 D = none → Same H1 H' → H' D = some (.lst acc) → acc.length ≤ n → Pv n acc H' → Q (.ref D) H') :
    ∀ D, H1 D = none → ∃ W : Nat → Nat → List V → Hp → Prop, (∃ m, W 0 m [] (upd H1 D (.lst []))) ∧ tTurns g tc te σ0 J D Q W := by
  intro D hD
  refine ⟨CW H1 D n Pv, ⟨n, rfl, Nat.zero_le _, Nat.le_refl _, same_new hD _, upd_same, h0 D hD⟩, ?_⟩
  rintro i m acc H' ⟨rfl, hi, ha, sm, hDa, p⟩
  refine ⟨hDa, ?_⟩
  by_cases hlt : i < n
  · refine .inr ⟨O.go i H' sm hlt, fun x H2 y => ?_⟩
    obtain ⟨s2, r2⟩ := O.yld i H' x H2 sm y hlt
    exact hs i x acc D H2 hlt r2 ⟨hlt, ha, hn, sm.trans s2, hD, s2 _ _ hDa⟩ (mono i acc H' H2 s2 p)
  · have e : i = n := by omega
    subst e
    exact .inl ⟨O.stop H' sm, hd D acc H' hD sm hDa ha p⟩
theorem over_zip {K : PySem.W.Frag} {H : Hp} {a b : Addr} {xs ys : List V} (ha : SqT K H a xs) (hb : SqT K H b ys) (hl : ys.length ≤ xs.length) :
    OverR H (Itz K a b) ys.length (fun i v H2 => ∃ T x y, v = .ref T ∧ H2 T = some (.tup [x, y]) ∧ xs[i]? = some x ∧ ys[i]? = some y) := by
  refine ⟨fun i H' sm hi => ⟨xs, ys, xs[i]'(by omega), ys[i], sm.tup ha, sm.tup hb, by simp, by simp⟩, fun i H' v H2 sm y hi => ?_, fun H' sm => ⟨xs, ys, sm.tup ha, sm.tup hb, by omega⟩⟩
  obtain ⟨T, x, y', hT, hv, e, hxy⟩ := y
  subst e
  obtain ⟨h1, h2⟩ := hxy xs ys (sm.tup ha) (sm.tup hb)
  exact ⟨same_new hT _, T, x, y', hv, upd_same, h1, h2⟩
end L2
namespace HT
open PySem PyProof.Rows
section
variable {prog : Program} {w : World} {A : Around} {E : Value → Shared → Prop} {s : Shared}
theorem getItem_tuple_all {t sl : Addr} {items : Array Value} {vl vu : Value} {lo hi : Option Int} {Q : Value → Shared → Prop} (ht : IsTup s.heap t items) (hs : s.heap.IsSliceOf sl vl vu .none) (pl : IsPart vl lo) (pu : IsPart vu hi)
    (h1 : sIx items.size 0 lo = 0) (h2 : sIx items.size items.size hi = items.size) (h : Q (.ref t) s) : wpAny (model prog w) A (getItem (.ref t) (.ref sl)) Q E s := by
  obtain ⟨o, e1, e2, e3⟩ := id hs
  have T : s.TypeIs (.ref sl) "slice" := ⟨o, e1, e2⟩
  unfold getItem
  try with_reducible refine wpAny_holding ?_
  first | refine wpAny_bind (wpAny_pure ?_) | skip
  apply wpAny_bind
  apply wpAny_sequenceKey ht.typeIs (by decide)
  apply wpAny_bind
  apply wpAny_callSpecial?_slot (name := Str.ofString "__getitem__") ht.typeIs PyProof.Rows.slot_tuple_getitem
  apply wpAny_call_entry PyProof.Rows.slot_tuple_getitem ht.typeIs entry_tuple_getitem _ (args_tuple_getitem _ _)
  change wpAny _ _ (Builtin.Tuple.tupleItemsOf (.ref t) >>= _) _ _ s
  apply wpAny_bind
  apply tupleItemsOf_ ht
  apply wpAny_bind
  apply wpAny_typeOf T
  rw [if_pos (by decide)]
  apply wpAny_bind
  apply sliceApplied_gen hs pl pu
  rw [h1, h2]
  have yes : ((((0 : Nat) : Int) == 0 && (1 : Int) == 1 && (items.size - 0) == items.size) = true) := by simp
  change wpAny _ _ (if ((((0 : Nat) : Int) == 0 && (1 : Int) == 1 && (items.size - 0) == items.size) = true) then _ else _) _ _ s
  rw [if_pos yes]
  apply wpAny_bind
  unfold Builtin.Tuple.tupleIsExact
  apply wpAny_bind
  apply wpAny_typeOf ht.typeIs
  apply wpAny_pure
  change wpAny _ _ (rule "tuple.getitem.whole" >>= fun _ => ret (Value.ref t)) _ _ s
  apply wpAny_bind
  apply wpAny_rule
  exact wpAny_pure ⟨_, rfl, wpAny_pure h⟩
end
end HT
namespace L2
open PySem PySem.Spec PyProof.Rows
section
variable {X : Cx}
def rSlA (K : PySem.W.Frag) : V → Option Int → Option Int → Hp → VK → Prop := fun x lo hi H Q => ∃ a xs, x = .ref a ∧ SqT K H a xs ∧ (∀ p, H p = none → Q (.ref p) (upd H p (.tup (cutV xs lo hi)))) ∧ (cutV xs lo hi = xs → Q (.ref a) H)
theorem sl_tupA : SlR X (rSlA X.K) := by
  intro pins s σ H x v vl vu lo hi sl Q I rx hs pl pu h
  obtain ⟨a, xs, ex, hx, q1, q2⟩ := h
  by_cases hw : HT.sIx xs.length 0 lo = 0 ∧ HT.sIx xs.length xs.length hi = xs.length
  · subst ex
    cases rx
    obtain ⟨its, r, ht, hz⟩ := I.tuple hx
    have hlen : its.toArray.size = xs.length := by rw [List.size_toArray]; exact r.length.symm
    refine ⟨"tuple", _, PyProof.Rows.slot_tuple_getitem.lookup, ht.typeIs, ?_⟩
    refine HT.getItem_tuple_all ht hs pl pu (by rw [hlen]; exact hw.1) (by rw [hlen]; exact hw.2) ⟨.ref a, H, I, rfl, q2 ?_⟩
    unfold cutV
    rw [hw.1, hw.2]
    simp
  · exact sl_tup pins s σ H x v vl vu lo hi sl Q I rx hs pl pu ⟨a, xs, ex, hx, hw, q1⟩
end
theorem cut1 (xs : List V) : cutV xs (some 1) none = xs.drop 1 := by
  unfold cutV
  have e1 : HT.sIx xs.length 0 (some 1) = min 1 xs.length := HT.sIx_nat xs.length 0 1
  have e2 : HT.sIx xs.length xs.length none = xs.length := rfl
  rw [e1, e2]
  cases xs with
  | nil => rfl
  | cons x r =>
    have : min 1 (x :: r).length = 1 := by simp
    rw [this]
    simp
end L2
namespace L2
open PySem PySem.Spec PyProof.Rows
def ItzL (K : PySem.W.Frag) (a b : Addr) : It :=
  ⟨fun i H => ∃ xs ys x y, SqL K H a xs ∧ SqL K H b ys ∧ xs[i]? = some x ∧ ys[i]? = some y,
   fun i H v H' => ∃ T x y, H T = none ∧ v = .ref T ∧ H' = upd H T (.tup [x, y]) ∧ ∀ xs ys, SqL K H a xs → SqL K H b ys → xs[i]? = some x ∧ ys[i]? = some y,
   fun i H => ∃ xs ys, SqL K H a xs ∧ SqL K H b ys ∧ (i = xs.length ∨ (i < xs.length ∧ i = ys.length))⟩
structure ZNowL (z TI TO i1 i2 a b : Addr) (i : Nat) (h : Heap) : Prop where
  zz : IsZip h z TI TO .none
  ti : IsPair h TI (.ref i1) (.ref i2)
  to_ : ∃ x y, IsPair h TO x y
  s1 : h.IsListIter i1 a i
  s2 : h.IsListIter i2 b i
theorem turn_zipL {P : Program} {w : World} {K : PySem.W.Frag} {elts : List Expr} {k : Nat} {pos : Pos} (a b z TI TO i1 i2 : Addr) (d : [z, TI, TO, i1, i2].Nodup) :
    Turn P w K (.Tuple elts k pos) (ItzL K a b) [z, TI, TO, i1, i2] z (ZNowL z TI TO i1 i2 a b) := by
  have nd : z ≠ TI ∧ z ≠ TO ∧ z ≠ i1 ∧ z ≠ i2 ∧ TI ≠ TO ∧ TI ≠ i1 ∧ TI ≠ i2 ∧ TO ≠ i1 ∧ TO ≠ i2 ∧ i1 ≠ i2 := by
    simp only [List.nodup_cons, List.mem_cons, List.not_mem_nil, or_false, not_or] at d
    obtain ⟨⟨a1, a2, a3, a4⟩, ⟨b1, b2, b3⟩, ⟨c1, c2⟩, e1, _⟩ := d
    exact ⟨a1, a2, a3, a4, b1, b2, b3, c1, c2, e1⟩
  obtain ⟨n1, n2, n3, n4, n5, n6, n7, n8, n9, n10⟩ := nd
  have offBase : ∀ {X : Cx} {pins : List (Addr × Obj)} {σ : St} {H : Hp} {s : Shared}, Inv X pins σ H s → (∀ c ∈ [z, TI, TO, i1, i2], FpOk X pins H c) → ∀ c ∈ [z, TI, TO, i1, i2], X.base.get? c = none := by
    intro X pins σ H s I hf c hc
    cases q : X.base.get? c with
    | none => rfl
    | some o =>
      rcases (hf c hc).2.2.2.1 with h | h
      · exact absurd h (I.ok.noex c o q)
      · exact absurd (Nat.lt_of_lt_of_le (Heap.lt_size q) (Nat.le_trans I.ok.bsz h)) (Nat.lt_irrefl _)
  have off : ∀ {X : Cx} {pins : List (Addr × Obj)} {σ : St} {H : Hp} {s : Shared} {c : Addr} {zs : List V}, Inv X pins σ H s → (∀ c ∈ [z, TI, TO, i1, i2], FpOk X pins H c) → SqL X.K H c zs → c ∉ [z, TI, TO, i1, i2] := by
    intro X pins σ H s c zs I hf hc hm
    have he := (hf c hm).1
    have hbe := offBase I hf c hm
    rcases hc with (h | ⟨_, h⟩) | ⟨o, _, _, h, _⟩
    · rw [he] at h; cases h
    · rw [he] at h; cases h
    · have := I.ok.mod.kin c o h
      rw [hbe] at this; cases this
  have ap : ∀ {c e : Addr}, c ∉ [z, TI, TO, i1, i2] → e ∉ [z, TI, TO, i1, i2] → Zp.Ap z TI TO i1 i2 [i1, c] [i2, e] := fun {c e} hc he => by
    simp only [List.mem_cons, List.not_mem_nil, or_false, not_or] at hc he
    obtain ⟨c1, c2, c3, c4, c5⟩ := hc
    obtain ⟨e1, e2, e3, e4, e5⟩ := he
    have two : ∀ {q u v : Addr}, q ≠ u → q ≠ v → q ∉ [u, v] := fun {q u v} h1 h2 hm => by
      simp only [List.mem_cons, List.not_mem_nil, or_false] at hm
      exact hm.elim h1 h2
    exact ⟨n1.symm, n2.symm, n5, two n3 (Ne.symm c1), two n4 (Ne.symm e1), two n8 (Ne.symm c3), two n9 (Ne.symm e3), two n6 (Ne.symm c2), two n7 (Ne.symm e2), List.mem_cons_self, List.mem_cons_self, two n10 (Ne.symm e4), two n10.symm (Ne.symm c5)⟩
  refine ⟨by simp, fun i h st c hc => ?_, fun i h h' st kp => ?_, ?_, ?_, fun A i s Q E st q => wpAny_pyIter_zip st.zz q⟩
  · simp only [List.mem_cons, List.not_mem_nil, or_false] at hc
    obtain ⟨x, y, to⟩ := st.to_
    obtain ⟨o1, f1, g1, d1⟩ := st.s1
    obtain ⟨o2, f2, g2, d2⟩ := st.s2
    rcases hc with rfl | rfl | rfl | rfl | rfl
    · exact ⟨_, st.zz, fun v q => by cases q⟩
    · exact ⟨_, st.ti, fun v q => by cases q⟩
    · exact ⟨_, to, fun v q => by cases q⟩
    · exact ⟨_, f1, fun v q => by rw [d1] at q; cases q⟩
    · exact ⟨_, f2, fun v q => by rw [d2] at q; cases q⟩
  · obtain ⟨x, y, to⟩ := st.to_
    exact ⟨kp z (by simp) _ st.zz, kp TI (by simp) _ st.ti, ⟨x, y, kp TO (by simp) _ to⟩, st.s1.at fun o e => kp i1 (by simp) o e, st.s2.at fun o e => kp i2 (by simp) o e⟩
  ·
    intro X hP hw hK hc i pins s σ H E I hf st hg
    subst hP hw hK
    obtain ⟨xs, ys, x, y, ha, hb, hx, hy⟩ := hg
    obtain ⟨us, ru, pu, lu⟩ := I.list ha
    obtain ⟨vs, rv, pv', lv⟩ := I.list hb
    obtain ⟨ux, eux, rux⟩ := ru.get hx
    obtain ⟨vy, evy, rvy⟩ := rv.get hy
    have fa := off I hf ha
    have fb := off I hf hb
    have hh : X.A.in1.handled = none := I.ok.hd hc
    have l1 : i < us.toArray.size := by simpa using (List.getElem?_eq_some_iff.mp eux).1
    have l2 : i < vs.toArray.size := by simpa using (List.getElem?_eq_some_iff.mp evy).1
    have fa' : a ≠ i1 := fun q => fa (by rw [q]; simp)
    have fb' : b ≠ i2 := fun q => fb (by rw [q]; simp)
    have D1 := Draws.list (prog := X.prog) (w := X.w) hh i1 a fa' us.toArray
    have D2 := Draws.list (prog := X.prog) (w := X.w) hh i2 b fb' vs.toArray
    refine Zp.item D1 D2 (ap fa fb) l1 l2 ⟨st.zz, st.ti, st.to_, ⟨st.s1, pu.isList⟩, ⟨st.s2, pv'.isList⟩⟩ fun p q h' tk hp hq st' pr kp sz => ⟨_, rfl, ?_⟩
    obtain rfl : p = ux := by
      have : us.toArray[i]? = some ux := by simpa using eux
      rw [this] at hp; exact (Option.some.inj hp).symm
    obtain rfl : q = vy := by
      have : vs.toArray[i]? = some vy := by simpa using evy
      rw [this] at hq; exact (Option.some.inj hq).symm
    refine wpAny_letOwnedTupleGo_zip (s := { s with heap := h', toks := tk }) st'.zz fun g zz sb => ?_
    have hzl : z < s.heap.objs.size := Heap.lt_size st.zz
    have up : ∀ c o, c ≠ z → c ≠ TO → c ≠ i1 → c ≠ i2 → s.heap.get? c = some o → g.get? c = some o := fun c o c1 c2 c3 c4 e => sb.extBut c o c1 (kp c o c1 c2 c3 c4 e)
    have hT : H s.heap.objs.size = none := I.hok.fresh (Nat.le_refl _)
    have prG : IsPair g s.heap.objs.size p q := sb.extBut _ _ (Nat.ne_of_gt hzl) pr
    have fpn : ∀ c u, H c = some u → c ∉ [z, TI, TO, i1, i2] := fun c u e hm => by rw [(hf c hm).1] at e; cases e
    have upH : ∀ c o u, H c = some u → s.heap.get? c = some o → g.get? c = some o := fun c o u e z => by
      have := fpn c u e
      simp only [List.mem_cons, List.not_mem_nil, or_false, not_or] at this
      exact up c o this.1 this.2.2.1 this.2.2.2.1 this.2.2.2.2 z
    have ns : ∀ m, s.heap.Ns X.env.locals m → g.Ns X.env.locals m := fun m hm => by
      obtain ⟨o, es, ep, e1, e2⟩ := hm
      exact ⟨o, es, ep, up _ o (Ne.symm (hf z (by simp)).2.1) (Ne.symm (hf TO (by simp)).2.1) (Ne.symm (hf i1 (by simp)).2.1) (Ne.symm (hf i2 (by simp)).2.1) e1, e2⟩
    have I2 : Inv X pins σ (upd H s.heap.objs.size (.tup [x, y])) { s with heap := g, toks := tk } := by
      refine I.step (g' := s.gens) (d' := s.drawn) (ch := [z, TO, i1, i2]) (fun c hc' => ?_) (fun c o _ _ hc' e _ => ?_) (fun c o _ _ hc' e _ => ⟨o.slots, ?_⟩) (fun c o _ e n => ?_) (fun c o hc' e => ⟨o, ?_⟩)
        (fun c zs e => by rw [upd_ne (ne_of_none e hT)]; exact e) (fun c u zs e => by rw [upd_ne (ne_of_none e hT)]; exact e) (fun c ps e => ⟨#[], by rw [upd_ne (ne_of_none e hT), e]; simp⟩) ns (fun c u e => ?_) I.bare
      · have hm : c ∈ [z, TI, TO, i1, i2] := by
          simp only [List.mem_cons, List.not_mem_nil, or_false] at hc' ⊢
          rcases hc' with h | h | h | h <;> simp [h]
        exact ⟨(hf c hm).2.2.2.1, (hf c hm).2.1, (hf c hm).2.2.2.2.1, (hf c hm).2.2.2.2.2⟩
      · simp only [List.mem_cons, List.not_mem_nil, or_false, not_or] at hc'
        exact up c o hc'.1 hc'.2.1 hc'.2.2.1 hc'.2.2.2 e
      · simp only [List.mem_cons, List.not_mem_nil, or_false, not_or] at hc'
        exact up c o hc'.1 hc'.2.1 hc'.2.2.1 hc'.2.2.2 e
      · rw [upd_ne (Nat.ne_of_lt (Heap.lt_size e))]; exact n
      · simp only [List.mem_cons, List.not_mem_nil, or_false, not_or] at hc'
        exact up c o hc'.1 hc'.2.1 hc'.2.2.1 hc'.2.2.2 e
      · by_cases hcT : c = s.heap.objs.size
        · subst hcT
          rw [upd_same] at e; cases e
          exact ⟨by show 2 ≤ sizeLine; decide, [p, q], .cons rux (.cons rvy .nil), ⟨_, prG, rfl, _, rfl⟩⟩
        · rw [upd_ne hcT] at e
          refine (I.hok c u e).stay (fun c' o' hc2 q' => ?_) (fun c' q' => by rw [upd_ne (ne_of_none q' hT)]; exact q') fun c' zs q' => by rw [upd_ne (ne_of_none q' hT)]; exact q'
          rcases hc2 with rfl | hc2
          · exact upH _ _ _ e q'
          · exact upH _ _ _ hc2 q'
    obtain ⟨x', y', to'⟩ := st'.to_
    refine ⟨.ref s.heap.objs.size, _, I2, rfl, ⟨_, x, y, hT, rfl, rfl, fun xs' ys' ha' hb' => ?_⟩, ⟨zz, sb.extBut _ _ n1.symm st'.ti, ⟨x', y', sb.extBut _ _ n2.symm to'⟩, st'.s1.1.at fun o e => sb.extBut _ o n3.symm e, st'.s2.1.at fun o e => sb.extBut _ o n4.symm e⟩, fun c hc' => ?_⟩
    · rw [I.list_inj ha' ha, I.list_inj hb' hb]; exact ⟨hx, hy⟩
    · obtain ⟨o, e, _⟩ : ∃ o, s.heap.get? c = some o ∧ True := by
        simp only [List.mem_cons, List.not_mem_nil, or_false] at hc'
        obtain ⟨x2, y2, to2⟩ := st.to_
        obtain ⟨o1, f1, _⟩ := st.s1
        obtain ⟨o2, f2, _⟩ := st.s2
        rcases hc' with rfl | rfl | rfl | rfl | rfl
        · exact ⟨_, st.zz, trivial⟩
        · exact ⟨_, st.ti, trivial⟩
        · exact ⟨_, to2, trivial⟩
        · exact ⟨_, f1, trivial⟩
        · exact ⟨_, f2, trivial⟩
      rw [upd_ne (Nat.ne_of_lt (Heap.lt_size e))]; exact (hf c hc').1
  ·
    intro X hP hw hK hc i pins s σ H E I hf st hg
    subst hP hw hK
    obtain ⟨xs, ys, ha, hb, hi⟩ := hg
    obtain ⟨us, ru, pu, lu⟩ := I.list ha
    obtain ⟨vs, rv, pv', lv⟩ := I.list hb
    have fa := off I hf ha
    have fb := off I hf hb
    have hh : X.A.in1.handled = none := I.ok.hd hc
    have fa' : a ≠ i1 := fun q => fa (by rw [q]; simp)
    have fb' : b ≠ i2 := fun q => fb (by rw [q]; simp)
    have D1 := Draws.list (prog := X.prog) (w := X.w) hh i1 a fa' us.toArray
    have D2 := Draws.list (prog := X.prog) (w := X.w) hh i2 b fb' vs.toArray
    have e1 := ru.length
    have e2 := rv.length
    refine Zp.fin D1 D2 (ap fa fb) (by simp only [List.size_toArray]; omega) ⟨st.zz, st.ti, st.to_, ⟨st.s1, pu.isList⟩, ⟨st.s2, pv'.isList⟩⟩ fun g tk kp => ⟨rfl, ?_⟩
    have fpn : ∀ c u, H c = some u → c ∉ [z, TI, TO, i1, i2] := fun c u e hm => by rw [(hf c hm).1] at e; cases e
    have upH : ∀ c o u, H c = some u → s.heap.get? c = some o → g.get? c = some o := fun c o u e z => by
      have := fpn c u e
      simp only [List.mem_cons, List.not_mem_nil, or_false, not_or] at this
      exact kp c o this.1 this.2.2.1 this.2.2.2.1 this.2.2.2.2 z
    have ns : ∀ m, s.heap.Ns X.env.locals m → g.Ns X.env.locals m := fun m hm => by
      obtain ⟨o, es, ep, e1, e2⟩ := hm
      exact ⟨o, es, ep, kp _ o (Ne.symm (hf z (by simp)).2.1) (Ne.symm (hf TO (by simp)).2.1) (Ne.symm (hf i1 (by simp)).2.1) (Ne.symm (hf i2 (by simp)).2.1) e1, e2⟩
    refine I.step (g' := s.gens) (d' := s.drawn) (ch := [z, TO, i1, i2]) (fun c hc' => ?_) (fun c o _ _ hc' e _ => ?_) (fun c o _ _ hc' e _ => ⟨o.slots, ?_⟩) (fun c o _ e n => n) (fun c o hc' e => ⟨o, ?_⟩)
      (fun c zs e => e) (fun c u zs e => e) (fun c ps e => ⟨#[], by rw [e]; simp⟩) ns (fun c u e => ?_) I.bare
    · have hm : c ∈ [z, TI, TO, i1, i2] := by
        simp only [List.mem_cons, List.not_mem_nil, or_false] at hc' ⊢
        rcases hc' with h | h | h | h <;> simp [h]
      exact ⟨(hf c hm).2.2.2.1, (hf c hm).2.1, (hf c hm).2.2.2.2.1, (hf c hm).2.2.2.2.2⟩
    · simp only [List.mem_cons, List.not_mem_nil, or_false, not_or] at hc'
      exact kp c o hc'.1 hc'.2.1 hc'.2.2.1 hc'.2.2.2 e
    · simp only [List.mem_cons, List.not_mem_nil, or_false, not_or] at hc'
      exact kp c o hc'.1 hc'.2.1 hc'.2.2.1 hc'.2.2.2 e
    · simp only [List.mem_cons, List.not_mem_nil, or_false, not_or] at hc'
      exact kp c o hc'.1 hc'.2.1 hc'.2.2.1 hc'.2.2.2 e
    · refine (I.hok c u e).stay (fun c' o' hc2 q' => ?_) (fun _ q' => q') fun _ _ q' => q'
      rcases hc2 with rfl | hc2
      · exact upH _ _ _ e q'
      · exact upH _ _ _ hc2 q'
section
variable {X : Cx}
def iZipL (K : PySem.W.Frag) (ta : TA) : TI := fun σ H R => ta σ H fun vs H1 => ∃ a b xs ys, vs = [.ref a, .ref b] ∧ SqL K H1 a xs ∧ SqL K H1 b ys ∧ R (ItzL K a b) H1
theorem pi_zipL {elts : List Expr} {kt : Nat} {pt : Pos} {a b : Expr} {ta : TA} {p pos : Pos} (hg : Gl X "zip") (hm : X.mg "zip" = none) (ha : PA X [a, b] ta) (hs : starEach [a, b] X.env = [(false, eval a X.env), (false, eval b X.env)] := by rfl) (hs2 : starEach [b] X.env = [(false, eval b X.env)] := by rfl) :
    PI X (.Tuple elts kt pt) (.Call (.Name "zip" p) [a, b] [] pos) (iZipL X.K ta) := by
  intro pins s σ H R I h
  refine Call_ (ld_blt I hg hm PyProof.Rows.boot_zip (PyProof.Rows.callWith_type1 (thn (ha pos pins s σ H _ I h) fun us s1 ⟨vs, H1, I1, r1, q1⟩ => ?_) (by rw [hs, hs2]) (by rw [hs2]; rfl)))
  obtain ⟨a', b', xs, ys, e, h1, h2, q⟩ := q1
  subst e
  cases r1 with
  | cons r rr =>
    cases rr with
    | cons r' rr =>
      cases rr
      cases r
      cases r'
      obtain ⟨us, _, p1, _⟩ := I1.list h1
      obtain ⟨ws, _, p2, _⟩ := I1.list h2
      refine call_zip_2 p1.isList p2.isList fun h' z ti to s1' s2' _ kp => wpAny_pyIter_zip z ?_
      have fresh : ∀ k, H1 (s1.heap.objs.size + k) = none := fun k => I1.hok.fresh (Nat.le_add_right _ _)
      refine ⟨s1.heap.objs.size + 4, [s1.heap.objs.size + 4, s1.heap.objs.size + 2, s1.heap.objs.size + 3, s1.heap.objs.size, s1.heap.objs.size + 1], _, _, H1, rfl, I1.kept (t' := s1.toks) kp,
        turn_zipL a' b' _ _ _ _ _ (by simp), ⟨z, ti, ⟨_, _, to⟩, s1', s2'⟩, fun c hc => ?_, q⟩
      simp only [List.mem_cons, List.not_mem_nil, or_false] at hc
      rcases hc with rfl | rfl | rfl | rfl | rfl
      · exact I1.fpOk (Nat.le_add_right _ _) (fresh 4)
      · exact I1.fpOk (Nat.le_add_right _ _) (fresh 2)
      · exact I1.fpOk (Nat.le_add_right _ _) (fresh 3)
      · exact I1.fpOk (Nat.le_refl _) (fresh 0)
      · exact I1.fpOk (Nat.le_add_right _ _) (fresh 1)
end
theorem over_zipL {K : PySem.W.Frag} {H : Hp} {a b : Addr} {xs ys : List V} (ha : SqL K H a xs) (hb : SqL K H b ys) (hl : ys.length ≤ xs.length) :
    OverR H (ItzL K a b) ys.length (fun i v H2 => ∃ T x y, v = .ref T ∧ H2 T = some (.tup [x, y]) ∧ xs[i]? = some x ∧ ys[i]? = some y) := by
  refine ⟨fun i H' sm hi => ⟨xs, ys, xs[i]'(by omega), ys[i], sm.seq ha, sm.seq hb, by simp, by simp⟩, fun i H' v H2 sm y hi => ?_, fun H' sm => ⟨xs, ys, sm.seq ha, sm.seq hb, by omega⟩⟩
  obtain ⟨T, x, y', hT, hv, e, hxy⟩ := y
  subst e
  obtain ⟨h1, h2⟩ := hxy xs ys (sm.seq ha) (sm.seq hb)
  exact ⟨same_new hT _, T, x, y', hv, upd_same, h1, h2⟩
end L2
namespace L2
open PySem PySem.Spec PyProof.Rows
section
variable {X : Cx} {pins : List (Addr × Obj)} {σ : St} {H : Hp} {s : Shared} {a b : Addr} {A : Around} {E : Value → Shared → Prop}
end
section
variable {X : Cx} {o e : Expr} {apos cpos : Pos} {td ty : TE}
end
end L2
namespace L2
open PySem PySem.Spec PyProof.Rows
section
variable {X : Cx}
end
end L2
namespace PP
open PySem L2
inductive PV where
  | non | bl (b : Bool) | int (i : Int) | str (x : Str) | tup (xs : List PV) | lst (xs : List PV)
  | dK (kvs : List (Key × PV)) | dT (kvs : List (List Key × PV)) | scr (ns : List Int) | kt (xs : List PV) | exc (c : Str)
mutual
def flat : PV → Bool
  | .tup xs => flats xs
  | .lst _ => false
  | .dK _ => false
  | .dT _ => false
  | .non => true
  | .bl _ => true
  | .int _ => true
  | .str _ => true
  | .scr _ => true
  | .kt xs => flats xs
  | .exc _ => true
def flats : List PV → Bool
  | [] => true
  | x :: r => flat x && flats r
end
def Scr (K : PySem.W.Frag) (H : Hp) (a : Addr) (ns : List Int) : Prop := (∃ o, H a = some (.frz o (.lst (ns.map V.int)))) ∨
    ∃ (o : Obj) (its : Array Value) (n : Nat), K.lookup a = some o ∧ o.cls = .type "list" ∧ o.dict = none ∧ o.data = .seq its n ∧ its.size ≤ sizeLine ∧ Vals (ns.map V.int) its.toList
def KtAt (K : PySem.W.Frag) (a : Addr) (us : List V) : Prop := ∃ (o : Obj) (its : Array Value) (n : Nat), K.lookup a = some o ∧ o.cls = .type "tuple" ∧ o.data = .seq its n ∧ its.size ≤ sizeLine ∧ Vals us its.toList
mutual
inductive Rep (K : PySem.W.Frag) (M : Addr → Prop) (H : Hp) : V → PV → Prop
  | non : Rep K M H .non .non
  | bl (b : Bool) : Rep K M H (.bl b) (.bl b)
  | int (i : Int) : Rep K M H (.int i) (.int i)
  | str (x : Str) : Rep K M H (.str x) (.str x)
  | tup {a : Addr} {us : List V} {xs : List PV} : H a = some (.tup us) → Reps K M H us xs → Rep K M H (.ref a) (.tup xs)
  | lst {a : Addr} {us : List V} {xs : List PV} : M a → H a = some (.lst us) → Reps K M H us xs → Rep K M H (.ref a) (.lst xs)
  | dK {a : Addr} {kvs : List (Key × V)} {ps : List (Key × PV)} : M a → H a = some (.dK kvs) → kvs.map (·.1) = ps.map (·.1) → Reps K M H (kvs.map (·.2)) (ps.map (·.2)) → Rep K M H (.ref a) (.dK ps)
  | dT {a : Addr} {kvs : List (List Key × V)} {ps : List (List Key × PV)} : M a → H a = some (.dT kvs) → kvs.map (·.1) = ps.map (·.1) → Reps K M H (kvs.map (·.2)) (ps.map (·.2)) → Rep K M H (.ref a) (.dT ps)
  | scr {a : Addr} {ns : List Int} : Scr K H a ns → Rep K M H (.ref a) (.scr ns)
  | kt {a : Addr} {us : List V} {xs : List PV} : KtAt K a us → Reps K M H us xs → Rep K M H (.ref a) (.kt xs)
  | exc {a C : Addr} {o : Obj} {c : Str} : H a = some (.frz o (.own a)) → PySem.W.nsIn K mainGlobals c = some (some (.ref C)) → o.cls = .ref C → Rep K M H (.ref a) (.exc c)
inductive Reps (K : PySem.W.Frag) (M : Addr → Prop) (H : Hp) : List V → List PV → Prop
  | nil : Reps K M H [] []
  | cons {v : V} {x : PV} {vs : List V} {xs : List PV} : Rep K M H v x → Reps K M H vs xs → Reps K M H (v :: vs) (x :: xs)
end
structure Keep (M M' : Addr → Prop) (H H' : Hp) : Prop where
  lst : ∀ a us, M a → H a = some (.lst us) → M' a ∧ H' a = some (.lst us)
  dK : ∀ a kvs, M a → H a = some (.dK kvs) → M' a ∧ H' a = some (.dK kvs)
  dT : ∀ a kvs, M a → H a = some (.dT kvs) → M' a ∧ H' a = some (.dT kvs)
  tup : ∀ a us, H a = some (.tup us) → H' a = some (.tup us)
  frz : ∀ a o u, H a = some (.frz o u) → H' a = some (.frz o u)
theorem Scr.keep {K : PySem.W.Frag} {H H' : Hp} {a : Addr} {ns : List Int} (k : ∀ a o u, H a = some (.frz o u) → H' a = some (.frz o u)) (h : Scr K H a ns) : Scr K H' a ns :=
  h.elim (fun ⟨o, e⟩ => .inl ⟨o, k _ _ _ e⟩) .inr
mutual
theorem Rep.keep {K : PySem.W.Frag} {M M' : Addr → Prop} {H H' : Hp} (k : Keep M M' H H') : ∀ {v : V} {x : PV}, Rep K M H v x → Rep K M' H' v x
  | _, _, .non => .non
  | _, _, .bl b => .bl b
  | _, _, .int i => .int i
  | _, _, .str x => .str x
  | _, _, .tup h r => .tup (k.tup _ _ h) (Reps.keep k r)
  | _, _, .lst m h r => .lst (k.lst _ _ m h).1 (k.lst _ _ m h).2 (Reps.keep k r)
  | _, _, .dK m h e r => .dK (k.dK _ _ m h).1 (k.dK _ _ m h).2 e (Reps.keep k r)
  | _, _, .dT m h e r => .dT (k.dT _ _ m h).1 (k.dT _ _ m h).2 e (Reps.keep k r)
  | _, _, .scr h => .scr (h.keep k.frz)
  | _, _, .kt h r => .kt h (Reps.keep k r)
  | _, _, .exc h e c => .exc (k.frz _ _ _ h) e c
theorem Reps.keep {K : PySem.W.Frag} {M M' : Addr → Prop} {H H' : Hp} (k : Keep M M' H H') : ∀ {vs : List V} {xs : List PV}, Reps K M H vs xs → Reps K M' H' vs xs
  | _, _, .nil => .nil
  | _, _, .cons r t => .cons (Rep.keep k r) (Reps.keep k t)
end
mutual
theorem Rep.flat {K : PySem.W.Frag} {M M' : Addr → Prop} {H : Hp} : ∀ {v : V} {x : PV}, flat x = true → Rep K M H v x → Rep K M' H v x
  | _, _, _, .non => .non
  | _, _, _, .bl b => .bl b
  | _, _, _, .int i => .int i
  | _, _, _, .str x => .str x
  | _, _, f, .tup h r => .tup h (Reps.flat (by unfold PP.flat at f; exact f) r)
  | _, _, f, .lst m h r => by unfold PP.flat at f; cases f
  | _, _, f, .dK m h e r => by unfold PP.flat at f; cases f
  | _, _, f, .dT m h e r => by unfold PP.flat at f; cases f
  | _, _, _, .scr h => .scr h
  | _, _, f, .kt h r => .kt h (Reps.flat (by unfold PP.flat at f; exact f) r)
  | _, _, _, .exc h e c => .exc h e c
theorem Reps.flat {K : PySem.W.Frag} {M M' : Addr → Prop} {H : Hp} : ∀ {vs : List V} {xs : List PV}, flats xs = true → Reps K M H vs xs → Reps K M' H vs xs
  | _, _, _, .nil => .nil
  | _, _, f, .cons r t => by
    unfold PP.flats at f
    rw [Bool.and_eq_true] at f
    exact .cons (Rep.flat f.1 r) (Reps.flat f.2 t)
end
theorem Keep.same {M M' : Addr → Prop} {H H' : Hp} (s : Same H H') (m : ∀ a, M a → M' a) : Keep M M' H H' :=
  ⟨fun a _ h e => ⟨m a h, s _ _ e⟩, fun a _ h e => ⟨m a h, s _ _ e⟩, fun a _ h e => ⟨m a h, s _ _ e⟩, fun _ _ e => s _ _ e, fun _ _ _ e => s _ _ e⟩
theorem Rep.same {K : PySem.W.Frag} {M M' : Addr → Prop} {H H' : Hp} {v : V} {x : PV} (r : Rep K M H v x) (s : Same H H') (m : ∀ a, M a → M' a) : Rep K M' H' v x := r.keep (.same s m)
theorem Reps.same {K : PySem.W.Frag} {M M' : Addr → Prop} {H H' : Hp} {v : List V} {x : List PV} (r : Reps K M H v x) (s : Same H H') (m : ∀ a, M a → M' a) : Reps K M' H' v x := r.keep (.same s m)
def mutO : HO → Bool
  | .lst _ => true
  | .dK _ => true
  | .dT _ => true
  | _ => false
theorem Keep.upd {M M' : Addr → Prop} {H : Hp} {a : Addr} {o o' : HO} (h : H a = some o') (mu : mutO o' = true) (m : ∀ b, M b → b ≠ a ∧ M' b) : Keep M M' H (upd H a o) :=
  ⟨fun b _ hb e => ⟨(m b hb).2, by rw [upd_ne (m b hb).1]; exact e⟩, fun b _ hb e => ⟨(m b hb).2, by rw [upd_ne (m b hb).1]; exact e⟩, fun b _ hb e => ⟨(m b hb).2, by rw [upd_ne (m b hb).1]; exact e⟩,
    fun b _ e => by rw [upd_ne (fun z => by rw [z, h] at e; cases e; cases mu)]; exact e,
    fun b _ _ e => by rw [upd_ne (fun z => by rw [z, h] at e; cases e; cases mu)]; exact e⟩
theorem Reps.length {K : PySem.W.Frag} {M : Addr → Prop} {H : Hp} : ∀ {vs : List V} {xs : List PV}, Reps K M H vs xs → vs.length = xs.length
  | _, _, .nil => rfl
  | _, _, .cons _ t => congrArg (· + 1) t.length
theorem Reps.get {K : PySem.W.Frag} {M : Addr → Prop} {H : Hp} : ∀ {vs : List V} {xs : List PV} {i : Nat} {v : V}, Reps K M H vs xs → vs[i]? = some v → ∃ x, xs[i]? = some x ∧ Rep K M H v x
  | _, _, _, _, .nil, e => by simp at e
  | _, _, 0, _, .cons r _, e => by simp at e; subst e; exact ⟨_, rfl, r⟩
  | _, _, i + 1, v, .cons _ t, e => by
    rw [List.getElem?_cons_succ] at e
    obtain ⟨x, h1, h2⟩ := t.get e
    exact ⟨x, by rw [List.getElem?_cons_succ]; exact h1, h2⟩
theorem Reps.at {K : PySem.W.Frag} {M : Addr → Prop} {H : Hp} : ∀ {vs : List V} {xs : List PV} {i : Nat} {x : PV}, Reps K M H vs xs → xs[i]? = some x → ∃ v, vs[i]? = some v ∧ Rep K M H v x
  | _, _, _, _, .nil, e => by simp at e
  | _, _, 0, _, .cons r _, e => by simp at e; subst e; exact ⟨_, rfl, r⟩
  | _, _, i + 1, v, .cons _ t, e => by
    rw [List.getElem?_cons_succ] at e
    obtain ⟨x, h1, h2⟩ := t.at e
    exact ⟨x, by rw [List.getElem?_cons_succ]; exact h1, h2⟩
theorem Reps.append {K : PySem.W.Frag} {M : Addr → Prop} {H : Hp} : ∀ {vs : List V} {xs : List PV} {us : List V} {ys : List PV}, Reps K M H vs xs → Reps K M H us ys → Reps K M H (vs ++ us) (xs ++ ys)
  | _, _, _, _, .nil, s => s
  | _, _, _, _, .cons r t, s => .cons r (t.append s)
theorem Reps.take {K : PySem.W.Frag} {M : Addr → Prop} {H : Hp} : ∀ (n : Nat) {vs : List V} {xs : List PV}, Reps K M H vs xs → Reps K M H (vs.take n) (xs.take n)
  | 0, _, _, _ => by simp; exact .nil
  | _ + 1, _, _, .nil => .nil
  | n + 1, _, _, .cons r t => .cons r (Reps.take n t)
theorem Reps.drop {K : PySem.W.Frag} {M : Addr → Prop} {H : Hp} : ∀ (n : Nat) {vs : List V} {xs : List PV}, Reps K M H vs xs → Reps K M H (vs.drop n) (xs.drop n)
  | 0, _, _, r => r
  | _ + 1, _, _, .nil => .nil
  | n + 1, _, _, .cons _ t => Reps.drop n t
abbrev intz (ns : List Int) : List PV := ns.map PV.int
theorem Reps.intz {K : PySem.W.Frag} {M : Addr → Prop} {H : Hp} : ∀ (ns : List Int), Reps K M H (ns.map V.int) (intz ns)
  | [] => .nil
  | n :: r => .cons (.int n) (Reps.intz r)
theorem Reps.ofInts {K : PySem.W.Frag} {M : Addr → Prop} {H : Hp} : ∀ {ns : List Int} {us : List V}, Reps K M H us (PP.intz ns) → us = ns.map V.int
  | [], _, .nil => rfl
  | n :: r, _, .cons q t => by
    cases q
    rw [Reps.ofInts t]; rfl
theorem flats_ints : ∀ (ns : List Int), flats (intz ns) = true
  | [] => rfl
  | n :: r => by show (flat (.int n) && flats (intz r)) = true; rw [flats_ints r]; rfl
inductive Tg | rd | sh | nw | fr
inductive Slot | sh (g : Bool) (x : PV) | own (x : PV)
def Slot.val : Slot → PV
  | .sh _ x => x
  | .own x => x
def Slot.tag : Slot → Tg
  | .sh true _ => .nw
  | .sh false _ => .sh
  | .own _ => .rd
abbrev PEnv := List (Option Slot)
def Ms (H0 : Hp) (W : Addr → Prop) : Bool → Addr → Prop
  | false, a => ¬ W a
  | true, a => ¬ W a ∧ H0 a = none
def Mg (H0 : Hp) (W : Addr → Prop) (Hs : Hp) : Tg → Addr → Prop
  | .rd, _ => True
  | .sh, a => ¬ W a
  | .nw, a => ¬ W a ∧ H0 a = none
  | .fr, a => Hs a = none
def OwnR (K : PySem.W.Frag) (M : Addr → Prop) (H : Hp) (a : Addr) : PV → Prop
  | .lst xs => ∃ us, H a = some (.lst us) ∧ Reps K M H us xs
  | .dK ps => ∃ kvs, H a = some (.dK kvs) ∧ kvs.map (·.1) = ps.map (·.1) ∧ Reps K M H (kvs.map (·.2)) (ps.map (·.2))
  | .dT ps => ∃ kvs, H a = some (.dT kvs) ∧ kvs.map (·.1) = ps.map (·.1) ∧ Reps K M H (kvs.map (·.2)) (ps.map (·.2))
  | _ => False
def SlotR (K : PySem.W.Frag) (H0 : Hp) (W : Addr → Prop) (H : Hp) (v : V) : Slot → Prop
  | .sh g x => Rep K (Ms H0 W g) H v x
  | .own x => ∃ a, v = .ref a ∧ W a ∧ OwnR K (Ms H0 W true) H a x
structure PX (K : PySem.W.Frag) (H0 : Hp) (W : Addr → Prop) (σ : St) (ρ : PEnv) (H : Hp) : Prop where
  len : ρ.length = σ.length
  same : Same H0 H
  wm : ∀ a, W a → H0 a = none ∧ ∃ o, H a = some o ∧ mutO o = true
  sl : ∀ (i : Nat) (m : Slot), ρ[i]? = some (some m) → ∃ v, σ[i]? = some (some v) ∧ SlotR K H0 W H v m
  dis : ∀ (i j : Nat) (x y : PV) (a : Addr), ρ[i]? = some (some (.own x)) → ρ[j]? = some (some (.own y)) → σ[i]? = some (some (.ref a)) → σ[j]? = some (some (.ref a)) → i = j
theorem OwnR.keep {K : PySem.W.Frag} {M M' : Addr → Prop} {H H' : Hp} {a : Addr} (k : Keep M M' H H') (ha : ∀ o, H a = some o → H' a = some o) : ∀ {x : PV}, OwnR K M H a x → OwnR K M' H' a x
  | .lst _, ⟨us, e, r⟩ => ⟨us, ha _ e, r.keep k⟩
  | .dK _, ⟨us, e, q, r⟩ => ⟨us, ha _ e, q, r.keep k⟩
  | .dT _, ⟨us, e, q, r⟩ => ⟨us, ha _ e, q, r.keep k⟩
theorem OwnR.at {K : PySem.W.Frag} {M : Addr → Prop} {H : Hp} {a : Addr} : ∀ {x : PV}, OwnR K M H a x → ∃ o, H a = some o ∧ mutO o = true
  | .lst _, ⟨us, e, r⟩ => ⟨_, e, rfl⟩
  | .dK _, ⟨us, e, q, r⟩ => ⟨_, e, rfl⟩
  | .dT _, ⟨us, e, q, r⟩ => ⟨_, e, rfl⟩
theorem OwnR.rep {K : PySem.W.Frag} {M M' : Addr → Prop} {H : Hp} {a : Addr} (m : ∀ b, M b → M' b) (ha : M' a) : ∀ {x : PV}, OwnR K M H a x → Rep K M' H (.ref a) x
  | .lst _, ⟨us, e, r⟩ => .lst ha e (r.same (Same.refl _) m)
  | .dK _, ⟨us, e, q, r⟩ => .dK ha e q (r.same (Same.refl _) m)
  | .dT _, ⟨us, e, q, r⟩ => .dT ha e q (r.same (Same.refl _) m)
section
variable {K : PySem.W.Frag} {H0 : Hp} {W W' : Addr → Prop} {σ : St} {ρ : PEnv} {H H' : Hp}
theorem PX.mono (p : PX K H0 W σ ρ H) (s : Same H H') : PX K H0 W σ ρ H' := by
  refine ⟨p.len, p.same.trans s, fun a h => ⟨(p.wm a h).1, let ⟨o, e, m⟩ := (p.wm a h).2; ⟨o, s _ _ e, m⟩⟩, fun i m h => ?_, p.dis⟩
  obtain ⟨v, e, r⟩ := p.sl i m h
  refine ⟨v, e, ?_⟩
  cases m with
  | sh g x => exact Rep.same r s fun _ z => z
  | own x =>
    obtain ⟨a, e1, e2, r⟩ := r
    exact ⟨a, e1, e2, r.keep (.same s fun _ z => z) fun _ z => s _ _ z⟩
theorem PX.new (p : PX K H0 W σ ρ H) {a : Addr} (h : H a = none) : ¬ W a ∧ H0 a = none :=
  ⟨fun z => (by obtain ⟨_, o, e, _⟩ := p.wm a z; rw [h] at e; cases e), p.same.free h⟩
theorem Mg.back {g : Tg} {H1 : Hp} (s : Same H H1) {a : Addr} (h : Mg H0 W H1 g a) : Mg H0 W H g a := by
  cases g with
  | fr => exact s.free h
  | rd => exact h
  | sh => exact h
  | nw => exact h
end
end PP
namespace PP
open PySem L2
abbrev PK := PV → Tg → Prop
abbrev PTE := PEnv → PK → Prop
abbrev PTT := PEnv → (Bool → Prop) → Prop
abbrev PTA := PEnv → (List (PV × Tg) → Prop) → Prop
inductive RepTs (K : PySem.W.Frag) (H0 : Hp) (W : Addr → Prop) (Hs H : Hp) : List V → List (PV × Tg) → Prop
  | nil : RepTs K H0 W Hs H [] []
  | cons {v : V} {x : PV} {g : Tg} {vs : List V} {xs : List (PV × Tg)} : Rep K (Mg H0 W Hs g) H v x → RepTs K H0 W Hs H vs xs → RepTs K H0 W Hs H (v :: vs) ((x, g) :: xs)
def Gives (K : PySem.W.Frag) (H0 : Hp) (W : Addr → Prop) (H : Hp) (Q : PK) (Q' : VK) : Prop := ∀ v H' x g, Same H H' → Rep K (Mg H0 W H g) H' v x → Q x g → Q' v H'
def LE (X : Cx) (t : PTE) : TE := fun σ H Q' => ∃ (W : Addr → Prop) (ρ : PEnv) (Q : PK), PX X.K X.H₀ W σ ρ H ∧ t ρ Q ∧ Gives X.K X.H₀ W H Q Q'
def LT (X : Cx) (t : PTT) : TT := fun σ H Q' => ∃ (W : Addr → Prop) (ρ : PEnv) (Q : Bool → Prop), PX X.K X.H₀ W σ ρ H ∧ t ρ Q ∧ ∀ b H', Same H H' → Q b → Q' b H'
def LA (X : Cx) (t : PTA) : TA := fun σ H Q' => ∃ (W : Addr → Prop) (ρ : PEnv) (Q : List (PV × Tg) → Prop), PX X.K X.H₀ W σ ρ H ∧ t ρ Q ∧ ∀ vs H' xs, Same H H' → RepTs X.K X.H₀ W H H' vs xs → Q xs → Q' vs H'
theorem RepTs.same {K : PySem.W.Frag} {H0 : Hp} {W : Addr → Prop} {Hs Hs' H H' : Hp} (s : Same H H') (b : Same Hs' Hs) : ∀ {vs : List V} {xs : List (PV × Tg)}, RepTs K H0 W Hs H vs xs → RepTs K H0 W Hs' H' vs xs
  | _, _, .nil => .nil
  | _, _, .cons r t => .cons (r.same s fun _ z => Mg.back b z) (t.same s b)
theorem RepTs.any {K : PySem.W.Frag} {H0 : Hp} {W : Addr → Prop} {Hs H : Hp} : ∀ {vs : List V} {xs : List (PV × Tg)}, RepTs K H0 W Hs H vs xs → Reps K (fun _ => True) H vs (xs.map (·.1))
  | _, _, .nil => .nil
  | _, _, .cons r t => .cons (r.same (Same.refl _) fun _ _ => trivial) t.any
def Nw : Tg → PV → Prop
  | .fr, _ => True
  | .nw, _ => True
  | _, x => flat x = true
section
variable {K : PySem.W.Frag} {H0 Hs H : Hp} {W : Addr → Prop} {σ : St} {ρ : PEnv}
theorem Nw.rep {g : Tg} {x : PV} {v : V} (px : PX K H0 W σ ρ Hs) (n : Nw g x) (r : Rep K (Mg H0 W Hs g) H v x) : Rep K (Ms H0 W true) H v x := by
  cases g with
  | fr => exact r.same (Same.refl _) fun a z => px.new z
  | nw => exact r.same (Same.refl _) fun a z => z
  | sh => exact r.flat n
  | rd => exact r.flat n
theorem slot_rep {v : V} {m : Slot} (r : SlotR K H0 W H v m) : Rep K (Mg H0 W Hs m.tag) H v m.val := by
  cases m with
  | sh g x =>
    cases g with
    | true => exact Rep.same r (Same.refl _) fun _ z => z
    | false => exact Rep.same r (Same.refl _) fun _ z => z
  | own x =>
    obtain ⟨a, rfl, _, r⟩ := r
    exact r.rep (fun _ _ => trivial) trivial
end
section
variable {X : Cx} {σ : St} {H : Hp} {Q' : VK} {ta tb : PTE}
def qVar (i : Nat) : PTE := fun ρ Q => ∃ m, ρ[i]? = some (some m) ∧ Q m.val m.tag
def qC (x : PV) : PTE := fun _ Q => Q x .fr
theorem le_var {i : Nat} (h : LE X (qVar i) σ H Q') : tVar i σ H Q' := by
  obtain ⟨W, ρ, Q, px, ⟨m, e, q⟩, k⟩ := h
  obtain ⟨v, ev, r⟩ := px.sl i m e
  exact ⟨v, ev, k v H _ _ (Same.refl _) (slot_rep r) q⟩
theorem le_c {x : PV} {v : V} (hr : ∀ M, Rep X.K M H v x) (h : LE X (qC x) σ H Q') : tC v σ H Q' := by
  obtain ⟨W, ρ, Q, px, q, k⟩ := h
  exact k v H _ _ (Same.refl _) (hr _) q
def Cov2 (X : Cx) (R : PV → Tg → PV → Tg → PK → Prop) (r : R2) : Prop := ∀ (W : Addr → Prop) (Hs H : Hp) (u v : V) (x y : PV) (g g' : Tg) (Q : PK) (Q' : VK), Same Hs H →
  (∀ a, Hs a = none → ¬ W a ∧ X.H₀ a = none) → Rep X.K (Mg X.H₀ W Hs g) H u x → Rep X.K (Mg X.H₀ W Hs g') H v y → R x g y g' Q → (∀ w H' z gz, Same H H' → Rep X.K (Mg X.H₀ W Hs gz) H' w z → Q z gz → Q' w H') → r u v H Q'
def q2 (R : PV → Tg → PV → Tg → PK → Prop) (ta tb : PTE) : PTE := fun ρ Q => ta ρ fun x g => tb ρ fun y g' => R x g y g' Q
theorem le_2 {R : PV → Tg → PV → Tg → PK → Prop} {r : R2} (c : Cov2 X R r) (h : LE X (q2 R ta tb) σ H Q') : tOp r (LE X ta) (LE X tb) σ H Q' := by
  obtain ⟨W, ρ, Q, px, q, k⟩ := h
  refine ⟨W, ρ, _, px, q, fun u H1 x g s1 r1 q1 => ⟨W, ρ, _, px.mono s1, q1, fun v H2 y g' s2 r2 q2 => ?_⟩⟩
  exact c W H H2 u v x y g g' Q Q' (s1.trans s2) (fun a z => px.new z) (r1.same s2 fun _ z => z) (r2.same (Same.refl _) fun _ z => Mg.back s1 z) q2 fun w H' z gz s3 r3 q3 => k w H' z gz ((s1.trans s2).trans s3) r3 q3
def RI (C : Int → Int → Prop) (f : Int → Int → PV) : PV → Tg → PV → Tg → PK → Prop := fun x _ y _ Q => ∃ i j, x = .int i ∧ y = .int j ∧ C i j ∧ Q (f i j) .fr
def RI0 (f : Int → Int → PV) : PV → Tg → PV → Tg → PK → Prop := fun x _ y _ Q => ∃ i j, x = .int i ∧ y = .int j ∧ Q (f i j) .fr
theorem cov_rI {C : Int → Int → Prop} {f : Int → Int → Int} : Cov2 X (RI C fun i j => .int (f i j)) (rI C fun i j => .int (f i j)) := by
  rintro W Hs H u v x y g g' Q Q' s n r1 r2 ⟨i, j, rfl, rfl, c, q⟩ k
  cases r1; cases r2
  exact ⟨i, j, rfl, rfl, c, k _ _ _ _ (Same.refl _) (.int _) q⟩
theorem cov_rI0 {f : Int → Int → Int} : Cov2 X (RI0 fun i j => .int (f i j)) (rI0 fun i j => .int (f i j)) := by
  rintro W Hs H u v x y g g' Q Q' s n r1 r2 ⟨i, j, rfl, rfl, q⟩ k
  cases r1; cases r2
  exact ⟨i, j, rfl, rfl, k _ _ _ _ (Same.refl _) (.int _) q⟩
theorem cov_rIB {f : Int → Int → Bool} : Cov2 X (RI0 fun i j => .bl (f i j)) (rI0 fun i j => .bl (f i j)) := by
  rintro W Hs H u v x y g g' Q Q' s n r1 r2 ⟨i, j, rfl, rfl, q⟩ k
  cases r1; cases r2
  exact ⟨i, j, rfl, rfl, k _ _ _ _ (Same.refl _) (.bl _) q⟩
def REqI (neg : Bool) : PV → Tg → PV → Tg → PK → Prop := fun x _ y _ Q => (∃ i j, x = .int i ∧ y = .int j ∧ Q (.bl (if neg = true then !decide (i = j) else decide (i = j))) .fr) ∨ (∃ i j, x = .bl i ∧ y = .bl j ∧ Q (.bl (if neg = true then !decide (i = j) else decide (i = j))) .fr)
theorem dec_vi (i j : Int) : decide (V.int i = V.int j) = decide (i = j) := by
  rw [Bool.eq_iff_iff, decide_eq_true_eq, decide_eq_true_eq]; exact ⟨fun z => V.int.inj z, fun z => congrArg V.int z⟩
theorem dec_vb (i j : Bool) : decide (V.bl i = V.bl j) = decide (i = j) := by
  rw [Bool.eq_iff_iff, decide_eq_true_eq, decide_eq_true_eq]; exact ⟨fun z => V.bl.inj z, fun z => congrArg V.bl z⟩
theorem cov_eq : Cov2 X (REqI false) rEq := by
  rintro W Hs H u v x y g g' Q Q' s n r1 r2 (⟨i, j, rfl, rfl, q⟩ | ⟨i, j, rfl, rfl, q⟩) k
  · cases r1; cases r2
    exact ⟨rfl, by rw [dec_vi]; exact k _ _ _ _ (Same.refl _) (.bl _) q⟩
  · cases r1; cases r2
    exact ⟨rfl, by rw [dec_vb]; exact k _ _ _ _ (Same.refl _) (.bl _) q⟩
theorem cov_ne : Cov2 X (REqI true) rNe := by
  rintro W Hs H u v x y g g' Q Q' s n r1 r2 (⟨i, j, rfl, rfl, q⟩ | ⟨i, j, rfl, rfl, q⟩) k
  · cases r1; cases r2
    exact ⟨rfl, by rw [dec_vi]; exact k _ _ _ _ (Same.refl _) (.bl _) q⟩
  · cases r1; cases r2
    exact ⟨rfl, by rw [dec_vb]; exact k _ _ _ _ (Same.refl _) (.bl _) q⟩
def qTest (t : PTE) : PTT := fun ρ Q => t ρ fun x _ => ∃ b, x = .bl b ∧ Q b
theorem lt_test {t : PTE} {Q' : Bool → Hp → Prop} (h : LT X (qTest t) σ H Q') : LE X t σ H fun x H' => ∃ k, x = .bl k ∧ Q' k H' := by
  obtain ⟨W, ρ, Q, px, q, k⟩ := h
  refine ⟨W, ρ, _, px, q, ?_⟩
  rintro v H1 x g s r ⟨b, rfl, q⟩
  cases r
  exact ⟨b, rfl, k _ _ s q⟩
def qAnd (t u : PTT) : PTT := fun ρ Q => t ρ fun c => if c = true then u ρ Q else Q false
def qOr (t u : PTT) : PTT := fun ρ Q => t ρ fun c => if c = true then Q true else u ρ Q
def qNot (t : PTT) : PTT := fun ρ Q => t ρ fun c => Q (!c)
variable {t u : PTT} {Qb : Bool → Hp → Prop}
theorem lt_and (h : LT X (qAnd t u) σ H Qb) : tAnd (LT X t) (LT X u) σ H Qb := by
  obtain ⟨W, ρ, Q, px, q, k⟩ := h
  refine ⟨W, ρ, _, px, q, fun b H1 s1 q1 => ?_⟩
  cases b with
  | true => exact iteT ⟨W, ρ, Q, px.mono s1, by simpa using q1, fun b H2 s2 q2 => k _ _ (s1.trans s2) q2⟩
  | false => exact iteF (k _ _ s1 (by simpa using q1))
theorem lt_or (h : LT X (qOr t u) σ H Qb) : tOr (LT X t) (LT X u) σ H Qb := by
  obtain ⟨W, ρ, Q, px, q, k⟩ := h
  refine ⟨W, ρ, _, px, q, fun b H1 s1 q1 => ?_⟩
  cases b with
  | false => exact iteF ⟨W, ρ, Q, px.mono s1, by simpa using q1, fun b H2 s2 q2 => k _ _ (s1.trans s2) q2⟩
  | true => exact iteT (k _ _ s1 (by simpa using q1))
theorem lt_not (h : LT X (qNot t) σ H Qb) : tNot (LT X t) σ H Qb := by
  obtain ⟨W, ρ, Q, px, q, k⟩ := h
  exact ⟨W, ρ, _, px, q, fun b H1 s1 q1 => k _ _ s1 q1⟩
def qAndV (ta tb : PTE) : PTE := fun ρ Q => ta ρ fun x _ => ∃ c, x = .bl c ∧ if c = true then tb ρ Q else Q (.bl false) .fr
def qNotV (ta : PTE) : PTE := fun ρ Q => ta ρ fun x _ => ∃ c, x = .bl c ∧ Q (.bl (!c)) .fr
theorem Gives.back {K : PySem.W.Frag} {H0 : Hp} {W : Addr → Prop} {H H1 : Hp} {Q : PK} (k : Gives K H0 W H Q Q') (s : Same H H1) : Gives K H0 W H1 Q Q' := fun v H' x g s' r q => k v H' x g (s.trans s') (r.same (Same.refl _) fun _ z => Mg.back s z) q
theorem le_and (h : LE X (qAndV ta tb) σ H Q') : tAndV (LE X ta) (LE X tb) σ H Q' := by
  obtain ⟨W, ρ, Q, px, q, k⟩ := h
  refine ⟨W, ρ, _, px, q, ?_⟩
  rintro v H1 x g s1 r ⟨c, rfl, q⟩
  cases r
  refine ⟨c, rfl, ?_⟩
  cases c with
  | true => exact iteT ⟨W, ρ, Q, px.mono s1, by simpa using q, k.back s1⟩
  | false => exact iteF (k _ _ _ _ s1 (.bl _) (by simpa using q))
theorem le_not (h : LE X (qNotV ta) σ H Q') : tNotV (LE X ta) σ H Q' := by
  obtain ⟨W, ρ, Q, px, q, k⟩ := h
  refine ⟨W, ρ, _, px, q, ?_⟩
  rintro v H1 x g s1 r ⟨c, rfl, q⟩
  cases r
  exact ⟨c, rfl, k _ _ _ _ s1 (.bl _) q⟩
def qNil : PTA := fun _ Q => Q []
def qCons (te : PTE) (tr : PTA) : PTA := fun ρ Q => te ρ fun x g => tr ρ fun xs => Q ((x, g) :: xs)
variable {Qa : List V → Hp → Prop} {tr : PTA}
theorem la_nil (h : LA X qNil σ H Qa) : tNil σ H Qa := by
  obtain ⟨W, ρ, Q, px, q, k⟩ := h
  exact k _ _ _ (Same.refl _) .nil q
theorem la_cons (h : LA X (qCons ta tr) σ H Qa) : tCons (LE X ta) (LA X tr) σ H Qa := by
  obtain ⟨W, ρ, Q, px, q, k⟩ := h
  refine ⟨W, ρ, _, px, q, fun v H1 x g s1 r1 q1 => ⟨W, ρ, _, px.mono s1, q1, fun vs H2 xs s2 r2 q2 => ?_⟩⟩
  exact k _ _ _ (s1.trans s2) (.cons (r1.same s2 fun _ z => z) (r2.same (Same.refl _) s1)) q2
def qTupF (t : PTA) : PTE := fun ρ Q => t ρ fun xs => xs.length ≤ 1000 ∧ flats (xs.map (·.1)) = true ∧ Q (.tup (xs.map (·.1))) .fr
def qLst (t : PTA) : PTE := fun ρ Q => t ρ fun xs => xs.length ≤ 1000 ∧ flats (xs.map (·.1)) = true ∧ Q (.lst (xs.map (·.1))) .fr
theorem RepTs.length {K : PySem.W.Frag} {H0 : Hp} {W : Addr → Prop} {Hs H : Hp} : ∀ {vs : List V} {xs : List (PV × Tg)}, RepTs K H0 W Hs H vs xs → vs.length = xs.length
  | _, _, .nil => rfl
  | _, _, .cons _ t => congrArg (· + 1) t.length
theorem le1000 {n : Nat} (h : n ≤ 1000) : n ≤ sizeLine := Nat.le_of_lt (small1000 h)
theorem le_tupF (h : LE X (qTupF tr) σ H Q') : tTup (LA X tr) σ H Q' := by
  obtain ⟨W, ρ, Q, px, q, k⟩ := h
  refine ⟨W, ρ, _, px, q, ?_⟩
  rintro vs H1 xs s1 r ⟨hl, n, q⟩
  refine ⟨by rw [r.length]; exact le1000 hl, fun p hp => k _ _ _ .fr (s1.trans (same_new hp _)) (.tup upd_same ?_) q⟩
  exact (r.any.flat n).same (same_new hp _) fun _ z => z
theorem le_lst (h : LE X (qLst tr) σ H Q') : tLst (LA X tr) σ H Q' := by
  obtain ⟨W, ρ, Q, px, q, k⟩ := h
  refine ⟨W, ρ, _, px, q, ?_⟩
  rintro vs H1 xs s1 r ⟨hl, n, q⟩
  refine ⟨by rw [r.length]; exact le1000 hl, fun p hp => k _ _ _ .fr (s1.trans (same_new hp _)) (.lst (s1.free hp) upd_same ?_) q⟩
  exact (r.any.flat n).same (same_new hp _) fun _ z => z
def CovC (X : Cx) (R : List PV → (PV → Prop) → Prop) (r : List V → Hp → VK → Prop) : Prop := ∀ (H : Hp) (vs : List V) (xs : List PV) (Q : PV → Prop) (Q' : VK), Reps X.K (fun _ => True) H vs xs → R xs Q →
  (∀ w H' z, Same H H' → Rep X.K (fun a => H a = none) H' w z → Q z → Q' w H') → r vs H Q'
def qCall (R : List PV → (PV → Prop) → Prop) (t : PTA) : PTE := fun ρ Q => t ρ fun xs => R (xs.map (·.1)) fun z => Q z .fr
theorem le_call {R : List PV → (PV → Prop) → Prop} {r : List V → Hp → VK → Prop} (c : CovC X R r) (h : LE X (qCall R tr) σ H Q') : tCB r (LA X tr) σ H Q' := by
  obtain ⟨W, ρ, Q, px, q, k⟩ := h
  refine ⟨W, ρ, _, px, q, fun vs H1 xs s1 r1 q1 => c H1 vs _ _ Q' r1.any q1 fun w H' z s2 r2 q2 => k w H' z .fr (s1.trans s2) (r2.same (Same.refl _) fun _ z => s1.free z) q2⟩
end
end PP
namespace PP
open PySem L2
structure PEnds where
  nx : PEnv → Prop
  rt : PV → Prop
  bk : PEnv → Prop := fun _ => False
  ct : PEnv → Prop := fun _ => False
abbrev PTS := PEnds → PEnv → Prop
def Ev (W : Addr → Prop) (H : Hp) (W' : Addr → Prop) (H' : Hp) : Prop := ∀ b o, H b = some o → ¬ W b → H' b = some o ∧ ¬ W' b
theorem Ev.trans {W W1 W2 : Addr → Prop} {H H1 H2 : Hp} (a : Ev W H W1 H1) (b : Ev W1 H1 W2 H2) : Ev W H W2 H2 := fun c o h n => let ⟨h1, n1⟩ := a c o h n; b c o h1 n1
theorem Ev.same {W : Addr → Prop} {H H' : Hp} (s : Same H H') : Ev W H W H' := fun c o h n => ⟨s _ _ h, n⟩
theorem Ev.refl (W : Addr → Prop) (H : Hp) : Ev W H W H := Ev.same (Same.refl _)
structure EOk (X : Cx) (W : Addr → Prop) (H : Hp) (D' : PEnds) (D : Ends) : Prop where
  nx : ∀ W' σ' H' ρ', Ev W H W' H' → PX X.K X.H₀ W' σ' ρ' H' → D'.nx ρ' → D.nx σ' H'
  rt : ∀ v H' x, Same X.H₀ H' → Rep X.K (fun a => X.H₀ a = none) H' v x → D'.rt x → D.rt v H'
  bk : ∀ W' σ' H' ρ', Ev W H W' H' → PX X.K X.H₀ W' σ' ρ' H' → D'.bk ρ' → D.bk σ' H'
  ct : ∀ W' σ' H' ρ', Ev W H W' H' → PX X.K X.H₀ W' σ' ρ' H' → D'.ct ρ' → D.ct σ' H'
theorem EOk.step {X : Cx} {W W1 : Addr → Prop} {H H1 : Hp} {D' : PEnds} {D : Ends} (k : EOk X W H D' D) (e : Ev W H W1 H1) : EOk X W1 H1 D' D :=
  ⟨fun W' σ' H' ρ' e' => k.nx W' σ' H' ρ' (e.trans e'), k.rt, fun W' σ' H' ρ' e' => k.bk W' σ' H' ρ' (e.trans e'), fun W' σ' H' ρ' e' => k.ct W' σ' H' ρ' (e.trans e')⟩
def LS (X : Cx) (t : PTS) : TS := fun D σ H => ∃ (W : Addr → Prop) (ρ : PEnv) (D' : PEnds), PX X.K X.H₀ W σ ρ H ∧ t D' ρ ∧ EOk X W H D' D
theorem get_set {α : Type} {l : List α} {i j : Nat} {a b : α} (h : (l.set i a)[j]? = some b) : (j = i ∧ i < l.length ∧ b = a) ∨ (j ≠ i ∧ l[j]? = some b) := by
  by_cases e : j = i
  · subst e
    have hl : j < (l.set j a).length := (List.getElem?_eq_some_iff.mp h).1
    rw [List.length_set] at hl
    rw [List.getElem?_set_self hl] at h
    exact .inl ⟨rfl, hl, (Option.some.inj h).symm⟩
  · rw [List.getElem?_set_ne (Ne.symm e)] at h
    exact .inr ⟨e, h⟩
section
variable {K : PySem.W.Frag} {H0 : Hp} {W W' : Addr → Prop} {σ : St} {ρ : PEnv} {H H' Hs : Hp}
theorem PX.setSh {i : Nat} {v : V} {g : Bool} {x : PV} (p : PX K H0 W σ ρ H) (r : Rep K (Ms H0 W g) H v x) : PX K H0 W (σ.set i (some v)) (ρ.set i (some (.sh g x))) H := by
  refine ⟨by rw [List.length_set, List.length_set]; exact p.len, p.same, p.wm, fun j m h => ?_, fun j k y z a h1 h2 h3 h4 => ?_⟩
  · rcases get_set h with ⟨rfl, hl, e⟩ | ⟨hne, h⟩
    · cases e
      rw [p.len] at hl
      exact ⟨v, List.getElem?_set_self hl, r⟩
    · obtain ⟨u, e, q⟩ := p.sl j m h
      exact ⟨u, by rw [List.getElem?_set_ne (Ne.symm hne)]; exact e, q⟩
  · rcases get_set h1 with ⟨_, _, e⟩ | ⟨n1, h1⟩
    · cases e
    · rcases get_set h2 with ⟨_, _, e⟩ | ⟨n2, h2⟩
      · cases e
      · rw [List.getElem?_set_ne (Ne.symm n1)] at h3
        rw [List.getElem?_set_ne (Ne.symm n2)] at h4
        exact p.dis j k y z a h1 h2 h3 h4
theorem PX.setNone {i : Nat} {o : Option V} (p : PX K H0 W σ ρ H) : PX K H0 W (σ.set i o) (ρ.set i none) H := by
  refine ⟨by rw [List.length_set, List.length_set]; exact p.len, p.same, p.wm, fun j m h => ?_, fun j k y z a h1 h2 h3 h4 => ?_⟩
  · rcases get_set h with ⟨rfl, hl, e⟩ | ⟨hne, h⟩
    · cases e
    · obtain ⟨u, e, q⟩ := p.sl j m h
      exact ⟨u, by rw [List.getElem?_set_ne (Ne.symm hne)]; exact e, q⟩
  · rcases get_set h1 with ⟨_, _, e⟩ | ⟨n1, h1⟩
    · cases e
    · rcases get_set h2 with ⟨_, _, e⟩ | ⟨n2, h2⟩
      · cases e
      · rw [List.getElem?_set_ne (Ne.symm n1)] at h3
        rw [List.getElem?_set_ne (Ne.symm n2)] at h4
        exact p.dis j k y z a h1 h2 h3 h4
def orA (W : Addr → Prop) (a : Addr) : Addr → Prop := fun b => W b ∨ b = a
theorem ms_or {g : Bool} {a b : Addr} (n : b ≠ a) (h : Ms H0 W g b) : Ms H0 (orA W a) g b := by
  cases g with
  | true => exact ⟨fun z => z.elim h.1 n, h.2⟩
  | false => exact fun z => z.elim h n
theorem PX.setOwn {i : Nat} {a : Addr} {x : PV} (p : PX K H0 W σ ρ Hs) (s : Same Hs H) (ha : Hs a = none) (r : OwnR K (Ms H0 (orA W a) true) H a x) : PX K H0 (orA W a) (σ.set i (some (.ref a))) (ρ.set i (some (.own x))) H := by
  have old : ∀ b o, Hs b = some o → b ≠ a := fun b o e z => by rw [z, ha] at e; cases e
  have kp : ∀ g, Keep (Ms H0 W g) (Ms H0 (orA W a) g) Hs H := fun g => ⟨fun b _ m e => ⟨ms_or (old _ _ e) m, s _ _ e⟩, fun b _ m e => ⟨ms_or (old _ _ e) m, s _ _ e⟩, fun b _ m e => ⟨ms_or (old _ _ e) m, s _ _ e⟩, fun _ _ e => s _ _ e, fun _ _ _ e => s _ _ e⟩
  have wa : ¬ W a := (p.new ha).1
  refine ⟨by rw [List.length_set, List.length_set]; exact p.len, p.same.trans s, fun b z => ?_, fun j m h => ?_, fun j k y z b h1 h2 h3 h4 => ?_⟩
  · rcases z with z | rfl
    · obtain ⟨h1, o, h2, h3⟩ := p.wm b z
      exact ⟨h1, o, s _ _ h2, h3⟩
    · exact ⟨(p.new ha).2, r.at⟩
  · rcases get_set h with ⟨rfl, hl, e⟩ | ⟨hne, h⟩
    · cases e
      rw [p.len] at hl
      exact ⟨_, List.getElem?_set_self hl, a, rfl, .inr rfl, r⟩
    · obtain ⟨u, e, q⟩ := p.sl j m h
      refine ⟨u, by rw [List.getElem?_set_ne (Ne.symm hne)]; exact e, ?_⟩
      cases m with
      | sh g y => exact Rep.keep (kp g) q
      | own y =>
        obtain ⟨b, e1, e2, q⟩ := q
        exact ⟨b, e1, .inl e2, q.keep (kp true) fun o z => s _ _ z⟩
  · have ne : ∀ {j : Nat} {y : PV}, ρ[j]? = some (some (.own y)) → σ[j]? ≠ some (some (.ref a)) := fun {j y} h1 h2 => by
      obtain ⟨u, e, c, e1, e2, _⟩ := p.sl j _ h1
      rw [h2] at e
      cases e
      cases e1
      exact wa e2
    rcases get_set h1 with ⟨e1, l1, _⟩ | ⟨n1, h1⟩
    · rcases get_set h2 with ⟨e2, _, _⟩ | ⟨n2, h2⟩
      · rw [e1, e2]
      · rw [e1, List.getElem?_set_self (by rw [← p.len]; exact l1)] at h3
        rw [List.getElem?_set_ne (Ne.symm n2)] at h4
        cases h3
        exact absurd h4 (ne h2)
    · rw [List.getElem?_set_ne (Ne.symm n1)] at h3
      rcases get_set h2 with ⟨e2, l2, _⟩ | ⟨n2, h2⟩
      · rw [e2, List.getElem?_set_self (by rw [← p.len]; exact l2)] at h4
        cases h4
        exact absurd h3 (ne h1)
      · rw [List.getElem?_set_ne (Ne.symm n2)] at h4
        exact p.dis j k y z b h1 h2 h3 h4
theorem Ev.own {a : Addr} (s : Same Hs H) (ha : Hs a = none) : Ev W Hs (orA W a) H := fun b o e n => ⟨s _ _ e, fun z => z.elim n fun z => by rw [z, ha] at e; cases e⟩
theorem ms_ne {g : Bool} {a b : Addr} (wa : W a) (h : Ms H0 W g b) : b ≠ a := by
  cases g with
  | true => exact fun z => h.1 (by rw [z]; exact wa)
  | false => exact fun z => h (by rw [z]; exact wa)
theorem PX.updOwn {i : Nat} {a : Addr} {x y : PV} {o : HO} (p : PX K H0 W σ ρ H) (hi : ρ[i]? = some (some (.own x))) (ha : σ[i]? = some (some (.ref a))) (wa : W a) (mu : mutO o = true) (r : OwnR K (Ms H0 W true) (upd H a o) a y) :
    PX K H0 W σ (ρ.set i (some (.own y))) (upd H a o) := by
  obtain ⟨w0, o', e', mu'⟩ := p.wm a wa
  have kp : ∀ g, Keep (Ms H0 W g) (Ms H0 W g) H (upd H a o) := fun g => .upd e' mu' fun b m => ⟨ms_ne wa m, m⟩
  refine ⟨by rw [List.length_set]; exact p.len, fun b u e => by rw [upd_ne (fun z => by rw [z, w0] at e; cases e)]; exact p.same _ _ e, fun b z => ?_, fun j m h => ?_, fun j k y' z b h1 h2 h3 h4 => ?_⟩
  · by_cases e : b = a
    · subst e; exact ⟨w0, o, upd_same, mu⟩
    · obtain ⟨h1, o2, h2, h3⟩ := p.wm b z
      exact ⟨h1, o2, by rw [upd_ne e]; exact h2, h3⟩
  · rcases get_set h with ⟨rfl, hl, e⟩ | ⟨hne, h⟩
    · cases e
      exact ⟨_, ha, a, rfl, wa, r⟩
    · obtain ⟨u, e, q⟩ := p.sl j m h
      refine ⟨u, e, ?_⟩
      cases m with
      | sh g y => exact Rep.keep (kp g) q
      | own y =>
        obtain ⟨b, e1, e2, q⟩ := q
        have hb : b ≠ a := fun z => by
          subst e1
          rw [z] at e
          exact hne (p.dis j i _ _ a h hi e ha)
        exact ⟨b, e1, e2, q.keep (kp true) fun o z => by rw [upd_ne hb]; exact z⟩
  · have g1 : ∃ y, ρ[j]? = some (some (.own y)) := by
      rcases get_set h1 with ⟨e, _, _⟩ | ⟨_, h⟩
      · exact ⟨x, by rw [e]; exact hi⟩
      · exact ⟨_, h⟩
    have g2 : ∃ y, ρ[k]? = some (some (.own y)) := by
      rcases get_set h2 with ⟨e, _, _⟩ | ⟨_, h⟩
      · exact ⟨x, by rw [e]; exact hi⟩
      · exact ⟨_, h⟩
    obtain ⟨y1, g1⟩ := g1
    obtain ⟨y2, g2⟩ := g2
    exact p.dis j k y1 y2 b g1 g2 h3 h4
theorem Ev.upd {a : Addr} {o : HO} (wa : W a) : Ev W H W (upd H a o) := fun b u e n => ⟨by rw [upd_ne (fun z => n (by rw [z]; exact wa))]; exact e, n⟩
end
section
variable {X : Cx} {σ : St} {H : Hp} {D : Ends} {te : PTE} {t u : PTS}
def qNext : PTS := fun D ρ => D.nx ρ
def qSeq (t u : PTS) : PTS := fun D ρ => t { D with nx := u D } ρ
theorem ls_next (h : LS X qNext D σ H) : tNext D σ H := by
  obtain ⟨W, ρ, D', px, q, k⟩ := h
  exact k.nx W σ H ρ (Ev.refl _ _) px q
theorem ls_seq (h : LS X (qSeq t u) D σ H) : tSeq (LS X t) (LS X u) D σ H := by
  obtain ⟨W, ρ, D', px, q, k⟩ := h
  exact ⟨W, ρ, _, px, q, fun W' σ' H' ρ' e px' q' => ⟨W', ρ', D', px', q', k.step e⟩, k.rt, k.bk, k.ct⟩
def stG : Tg → PV → Bool
  | .fr, _ => true
  | .nw, _ => true
  | _, x => flat x
def Sto : Tg → PV → Prop
  | .rd, x => flat x = true
  | _, _ => True
theorem sto_rep {K : PySem.W.Frag} {H0 Hs H : Hp} {W : Addr → Prop} {σ : St} {ρ : PEnv} {g : Tg} {x : PV} {v : V} (px : PX K H0 W σ ρ Hs) (n : Sto g x) (r : Rep K (Mg H0 W Hs g) H v x) : Rep K (Ms H0 W (stG g x)) H v x := by
  cases g with
  | fr => exact Nw.rep (g := .fr) px trivial r
  | nw => exact Nw.rep (g := .nw) px trivial r
  | sh =>
    show Rep K (Ms H0 W (flat x)) H v x
    cases e : flat x with
    | true => exact r.flat e
    | false => exact r.same (Same.refl _) fun _ z => z
  | rd => exact r.flat n
def qSet (i : Nat) (te : PTE) : PTS := fun D ρ => te ρ fun x g => Sto g x ∧ D.nx (ρ.set i (some (.sh (stG g x) x)))
theorem ls_set {i : Nat} (h : LS X (qSet i te) D σ H) : tAsg (LE X te) (gName i) D σ H := by
  obtain ⟨W, ρ, D', px, q, k⟩ := h
  refine ⟨W, ρ, _, px, q, ?_⟩
  rintro v H1 x g s r ⟨n, q⟩
  exact k.nx W _ H1 _ (Ev.same s) ((px.mono s).setSh (sto_rep px n r)) q
def ownable : PV → Bool
  | .lst xs => flats xs
  | .dK ps => flats (ps.map (·.2))
  | .dT ps => flats (ps.map (·.2))
  | _ => false
theorem own_rep {K : PySem.W.Frag} {M : Addr → Prop} {H : Hp} {v : V} {x : PV} (r : Rep K M H v x) (o : ownable x = true) : ∃ a, v = .ref a ∧ M a ∧ ∀ M', OwnR K M' H a x := by
  cases r with
  | lst m e r => exact ⟨_, rfl, m, fun _ => ⟨_, e, r.flat o⟩⟩
  | dK m e q r => exact ⟨_, rfl, m, fun _ => ⟨_, e, q, r.flat o⟩⟩
  | dT m e q r => exact ⟨_, rfl, m, fun _ => ⟨_, e, q, r.flat o⟩⟩
  | _ => cases o
def qOwn (i : Nat) (te : PTE) : PTS := fun D ρ => te ρ fun x g => g = .fr ∧ ownable x = true ∧ D.nx (ρ.set i (some (.own x)))
theorem ls_own {i : Nat} (h : LS X (qOwn i te) D σ H) : tAsg (LE X te) (gName i) D σ H := by
  obtain ⟨W, ρ, D', px, q, k⟩ := h
  refine ⟨W, ρ, _, px, q, ?_⟩
  rintro v H1 x g s r ⟨rfl, o, q⟩
  obtain ⟨a, rfl, m, w⟩ := own_rep r o
  exact k.nx _ _ H1 _ (Ev.own s m) (px.setOwn s m (w _)) q
def qRet (te : PTE) : PTS := fun D ρ => te ρ fun x g => Nw g x ∧ D.rt x
theorem ls_ret (h : LS X (qRet te) D σ H) : tRet (LE X te) D σ H := by
  obtain ⟨W, ρ, D', px, q, k⟩ := h
  refine ⟨W, ρ, _, px, q, ?_⟩
  rintro v H1 x g s r ⟨n, q⟩
  exact k.rt v H1 x (px.same.trans s) ((Nw.rep px n r).same (Same.refl _) fun _ z => z.2) q
def Slot.nw : Slot → Prop
  | .own _ => True
  | .sh true _ => True
  | .sh false x => flat x = true
def qIf (c : PTT) (t u : PTS) : PTS := fun D ρ => c ρ fun b => if b = true then t D ρ else u D ρ
theorem ls_if {c : PTT} (h : LS X (qIf c t u) D σ H) : tIfS (LT X c) (LS X t) (LS X u) D σ H := by
  obtain ⟨W, ρ, D', px, q, k⟩ := h
  refine ⟨W, ρ, _, px, q, fun b H1 s q1 => ?_⟩
  cases b with
  | true => exact iteT ⟨W, ρ, D', px.mono s, by simpa using q1, k.step (Ev.same s)⟩
  | false => exact iteF ⟨W, ρ, D', px.mono s, by simpa using q1, k.step (Ev.same s)⟩
end
end PP
namespace PP
open PySem L2
theorem lim {n : Nat} (h : n ≤ 16000000) : n ≤ sizeLine := Nat.le_of_lt (bigEnough h)
theorem Rep.sqT {K : PySem.W.Frag} {M : Addr → Prop} {H : Hp} {v : V} {xs : List PV} (r : Rep K M H v (.tup xs)) : ∃ a us, v = .ref a ∧ H a = some (.tup us) ∧ Reps K M H us xs := by
  cases r with
  | tup e r => exact ⟨_, _, rfl, e, r⟩
theorem Rep.sqL {K : PySem.W.Frag} {M : Addr → Prop} {H : Hp} {v : V} {xs : List PV} (r : Rep K M H v (.lst xs)) : ∃ a us, v = .ref a ∧ M a ∧ H a = some (.lst us) ∧ Reps K M H us xs := by
  cases r with
  | lst m e r => exact ⟨_, _, rfl, m, e, r⟩
theorem Scr.sqL {K : PySem.W.Frag} {H : Hp} {a : Addr} {ns : List Int} (h : Scr K H a ns) : SqL K H a (ns.map V.int) := h.elim (fun z => .inl (.inr z)) .inr
def seqOf : PV → Option (List PV)
  | .tup xs => some xs
  | .lst xs => some xs
  | .scr ns => some (intz ns)
  | .kt xs => some xs
  | _ => none
theorem Rep.seq {K : PySem.W.Frag} {M : Addr → Prop} {H : Hp} {v : V} {x : PV} {xs : List PV} (r : Rep K M H v x) (e : seqOf x = some xs) : ∃ a us, v = .ref a ∧ (SqL K H a us ∨ SqT K H a us) ∧ Reps K M H us xs := by
  cases r with
  | tup h r => cases e; exact ⟨_, _, rfl, .inr (SqT.of h), r⟩
  | lst m h r => cases e; exact ⟨_, _, rfl, .inl (SqL.of h), r⟩
  | scr h => cases e; exact ⟨_, _, rfl, .inl h.sqL, Reps.intz _⟩
  | kt h r => cases e; exact ⟨_, _, rfl, .inr (.inr h), r⟩
  | _ => cases e
section
variable {X : Cx} {σ : St} {H : Hp} {D : Ends} {te ti to : PTE} {t u : PTS} {Q' : VK}
theorem _root_.PP.PX.updL {K : PySem.W.Frag} {H0 : Hp} {W : Addr → Prop} {σ : St} {ρ : PEnv} {H : Hp} {i : Nat} {a : Addr} {x : PV} {us : List V} {ys : List PV} (p : PX K H0 W σ ρ H) (hi : ρ[i]? = some (some (.own x))) (ha : σ[i]? = some (some (.ref a))) (wa : W a) (r : Reps K (Ms H0 W true) (upd H a (.lst us)) us ys) :
    PX K H0 W σ (ρ.set i (some (.own (.lst ys)))) (upd H a (.lst us)) := p.updOwn hi ha wa rfl (y := .lst ys) ⟨us, upd_same, r⟩
def qApp (i : Nat) (te : PTE) : PTS := fun D ρ => ∃ xs, ρ[i]? = some (some (.own (.lst xs))) ∧ te ρ fun x g => Nw g x ∧ xs.length < 16000000 ∧ D.nx (ρ.set i (some (.own (.lst (xs ++ [x])))))
theorem ls_app {i : Nat} (h : LS X (qApp i te) D σ H) : tDrop (tBM X.K "list" rAppend (tVar i) (tCons (LE X te) tNil)) D σ H := by
  obtain ⟨W, ρ, D', px, ⟨xs, hi, q⟩, k⟩ := h
  obtain ⟨v, ev, a, rfl, wa, us, ea, r⟩ := px.sl i _ hi
  refine ⟨_, ev, tyL (SqL.of ea), W, ρ, _, px, q, ?_⟩
  rintro w H1 x g s rx ⟨n, hl, q⟩
  have ea1 := s _ _ ea
  refine ⟨a, us, w, rfl, rfl, ea1, bigEnough (by rw [r.length]; omega), ?_⟩
  refine k.nx W σ _ _ ((Ev.same s).trans (Ev.upd wa)) ((px.mono s).updL hi ev wa ?_) q
  exact ((r.same s fun _ z => z).append (.cons (Nw.rep px n rx) .nil)).keep (.upd ea1 rfl fun b m => ⟨ms_ne wa m, m⟩)
end
end PP
namespace PP
open PySem L2
theorem Reps.atI {K : PySem.W.Frag} {M : Addr → Prop} {H : Hp} {us : List V} {xs : List PV} {i : Int} {z : PV} (r : Reps K M H us xs) (h : L2.atI xs i = some z) : ∃ v, L2.atI us i = some v ∧ Rep K M H v z := by
  unfold L2.atI at h ⊢
  rw [r.length]
  cases e : ixN xs.length i with
  | none => rw [e] at h; cases h
  | some j => rw [e] at h; exact r.at h
section
variable {X : Cx} {σ : St} {H : Hp} {Q' : VK} {ta tb te : PTE} {tr : PTA}
def RIx : PV → Tg → PV → Tg → PK → Prop := fun x g y _ Q => ∃ xs i z, seqOf x = some xs ∧ y = .int i ∧ L2.atI xs i = some z ∧ Q z g
theorem cov_ix : Cov2 X RIx (rIx X.K) := by
  rintro W Hs H u v x y g g' Q Q' s n r1 r2 ⟨xs, i, z, e, rfl, hz, q⟩ k
  cases r2
  obtain ⟨a, us, rfl, hs, r⟩ := r1.seq e
  obtain ⟨v, hv, rv⟩ := r.atI hz
  rcases hs with hs | hs
  · exact .inl ⟨a, us, i, v, rfl, rfl, hs, hv, k v H z g (Same.refl _) rv q⟩
  · exact .inr (.inl ⟨a, us, i, v, rfl, rfl, hs, hv, k v H z g (Same.refl _) rv q⟩)
def lenOf : PV → Option Nat
  | .tup xs => some xs.length
  | .lst xs => some xs.length
  | .scr ns => some ns.length
  | .dK ps => some ps.length
  | .kt xs => some xs.length
  | _ => none
def RLen : List PV → (PV → Prop) → Prop := fun xs Q => ∃ x n, xs = [x] ∧ lenOf x = some n ∧ Q (.int n)
theorem Reps.one {K : PySem.W.Frag} {M : Addr → Prop} {H : Hp} {vs : List V} {x : PV} (r : Reps K M H vs [x]) : ∃ v, vs = [v] ∧ Rep K M H v x := by
  cases r with
  | cons r t => cases t; exact ⟨_, rfl, r⟩
theorem cov_len : CovC X RLen (fun xs H Q => (∃ p ys, xs = [.ref p] ∧ (SqL X.K H p ys ∨ SqT X.K H p ys) ∧ Q (.int ys.length) H) ∨ ∃ a kvs, xs = [V.ref a] ∧ H a = some (.dK kvs) ∧ Q (.int kvs.length) H) := by
  rintro H vs xs Q Q' r ⟨x, n, rfl, e, q⟩ k
  obtain ⟨v, rfl, r1⟩ := r.one
  have fin : ∀ {m : Nat}, m = n → Q' (.int m) H := fun {m} z => by rw [z]; exact k _ _ _ (Same.refl _) (.int _) q
  cases r1 with
  | tup h r2 => cases e; exact .inl ⟨_, _, rfl, .inr (SqT.of h), fin r2.length⟩
  | lst m h r2 => cases e; exact .inl ⟨_, _, rfl, .inl (SqL.of h), fin r2.length⟩
  | scr h => cases e; exact .inl ⟨_, _, rfl, .inl h.sqL, fin (by rw [List.length_map])⟩
  | kt h r2 => cases e; exact .inl ⟨_, _, rfl, .inr (.inr h), fin r2.length⟩
  | dK m h e' r =>
    cases e
    refine .inr ⟨_, _, rfl, h, fin ?_⟩
    have := congrArg List.length e'
    rw [List.length_map, List.length_map] at this
    exact this
  | _ => cases e
def seqT : PV → Option (List PV)
  | .kt _ => none
  | x => seqOf x
def RTup : List PV → (PV → Prop) → Prop := fun xs Q => ∃ x ys, xs = [x] ∧ seqT x = some ys ∧ flats ys = true ∧ Q (.tup ys)
def RLst : List PV → (PV → Prop) → Prop := fun xs Q => ∃ x ys, xs = [x] ∧ seqOf x = some ys ∧ flats ys = true ∧ Q (.lst ys)
theorem cov_tup : CovC X (fun xs Q => RTup xs Q ∧ ∀ ns, xs ≠ [.scr ns]) (fun xs H Q => ∃ p ys, xs = [.ref p] ∧ ((SqL X.K H p ys ∧ ∀ l, H l = none → Q (.ref l) (upd H l (.tup ys))) ∨ (SqT X.K H p ys ∧ Q (.ref p) H))) := by
  rintro H vs xs Q Q' r ⟨⟨x, ys, rfl, e, f, q⟩, nsc⟩ k
  obtain ⟨v, rfl, r1⟩ := r.one
  cases r1 with
  | tup h r2 => cases e; exact ⟨_, _, rfl, .inr ⟨SqT.of h, k _ _ _ (Same.refl _) (.tup h (r2.flat f)) q⟩⟩
  | lst m h r2 => cases e; exact ⟨_, _, rfl, .inl ⟨SqL.of h, fun l hl => k _ _ _ (same_new hl _) (.tup upd_same ((r2.flat f).same (same_new hl _) fun _ z => z)) q⟩⟩
  | scr h => exact absurd rfl (nsc _)
  | _ => cases e
theorem cov_lst : CovC X RLst (fun xs H Q => ∃ p ys, xs = [.ref p] ∧ (SqL X.K H p ys ∨ SqT X.K H p ys) ∧ ∀ l, H l = none → Q (.ref l) (upd H l (.lst ys))) := by
  rintro H vs xs Q Q' r ⟨x, ys, rfl, e, f, q⟩ k
  obtain ⟨v, rfl, r1⟩ := r.one
  obtain ⟨a, us, rfl, hs, r2⟩ := r1.seq e
  exact ⟨_, _, rfl, hs, fun l hl => k _ _ _ (same_new hl _) (.lst hl upd_same ((r2.flat f).same (same_new hl _) fun _ z => z)) q⟩
def RAll : List PV → (PV → Prop) → Prop := fun xs Q => ∃ bs : List Bool, xs = [.lst (bs.map PV.bl)] ∧ Q (.bl (bs.all id))
theorem Reps.ofBls {K : PySem.W.Frag} {M : Addr → Prop} {H : Hp} : ∀ {ns : List Bool} {us : List V}, Reps K M H us (ns.map PV.bl) → us = ns.map V.bl
  | [], _, .nil => rfl
  | n :: r, _, .cons q t => by
    cases q
    rw [Reps.ofBls t]; rfl
theorem cov_all : CovC X RAll (fun xs H Q => ∃ (a : Addr) (bs : List Bool), xs = [.ref a] ∧ SqL X.K H a (bs.map V.bl) ∧ Q (.bl (bs.all id)) H) := by
  rintro H vs xs Q Q' r ⟨bs, rfl, q⟩ k
  obtain ⟨v, rfl, r1⟩ := r.one
  obtain ⟨a, us, rfl, _, h, r2⟩ := r1.sqL
  obtain rfl := r2.ofBls
  exact ⟨a, bs, rfl, SqL.of h, k _ _ _ (Same.refl _) (.bl _) q⟩
abbrev PSp := List PV → (PV → Prop) → Prop
def spP (K : PySem.W.Frag) (p : PSp) : Sp := fun vs H Q _ => ∃ xs Qp, Reps K (fun _ => True) H vs xs ∧ p xs Qp ∧ ∀ v H' x, Same H H' → Rep K (fun a => H a = none) H' v x → Qp x → Q v H'
theorem le_fn {p : PSp} {E : XK} (h : LE X (qCall p tr) σ H Q') : tCall (spP X.K p) [] E (LA X tr) σ H Q' := by
  obtain ⟨W, ρ, Q, px, q, k⟩ := h
  refine ⟨W, ρ, _, px, q, fun vs H1 xs s1 r1 q1 => ⟨_, _, by rw [List.append_nil]; exact r1.any, q1, fun v H' x s2 r2 q2 => k v H' x .fr (s1.trans s2) (r2.same (Same.refl _) fun _ z => s1.free z) q2⟩⟩
end
structure IterOk (K : PySem.W.Frag) (H0 : Hp) (W : Addr → Prop) (g : Bool) (H1 : Hp) (J : It) (xs : List PV) : Prop where
  go : ∀ W' H' i, Ev W H1 W' H' → i < xs.length → J.go i H'
  yld : ∀ W' H' i v H2, Ev W H1 W' H' → J.yld i H' v H2 → i < xs.length → Same H' H2 ∧ ∃ x, xs[i]? = some x ∧ Rep K (Ms H0 W' g) H2 v x
  stop : ∀ W' H', Ev W H1 W' H' → J.stop xs.length H'
abbrev PTI := PEnv → (List PV → Bool → Prop) → Prop
def LI (X : Cx) (t : PTI) : TI := fun σ H R => ∃ (W : Addr → Prop) (ρ : PEnv) (Q : List PV → Bool → Prop), PX X.K X.H₀ W σ ρ H ∧ t ρ Q ∧ ∀ J H1 xs g, Same H H1 → IterOk X.K X.H₀ W g H1 J xs → Q xs g → R J H1
theorem Ev.keep {H0 : Hp} {W W' : Addr → Prop} {H H' : Hp} {g : Bool} (e : Ev W H W' H') (tw : ∀ a, W a → ∃ o, H a = some o ∧ mutO o = true) : Keep (Ms H0 W g) (Ms H0 W' g) H H' := by
  have m : ∀ {a : Addr} {o : HO}, Ms H0 W g a → H a = some o → Ms H0 W' g a ∧ H' a = some o := fun {a o} z h => by
    cases g with
    | true =>
      obtain ⟨h1, h2⟩ := e a _ h z.1
      exact ⟨⟨h2, z.2⟩, h1⟩
    | false =>
      obtain ⟨h1, h2⟩ := e a _ h z
      exact ⟨h2, h1⟩
  refine ⟨fun a _ z h => m z h, fun a _ z h => m z h, fun a _ z h => m z h, fun a _ h => (e a _ h fun z => ?_).1, fun a _ _ h => (e a _ h fun z => ?_).1⟩
  · obtain ⟨o, h', mu⟩ := tw a z; rw [h] at h'; cases h'; cases mu
  · obtain ⟨o, h', mu⟩ := tw a z; rw [h] at h'; cases h'; cases mu
section
variable {X : Cx} {σ : St} {H : Hp} {te : PTE} {tr : PTA} {R : It → Hp → Prop}
def iSeq (K : PySem.W.Frag) (tl : TE) : TI := fun σ H R => tl σ H fun x H1 => ∃ a, x = .ref a ∧ ((∃ xs, SqL K H1 a xs ∧ R (Itl K a) H1) ∨ (∃ xs, SqT K H1 a xs ∧ R (Itt K a) H1))
def itG : Tg → List PV → Bool
  | .fr, _ => true
  | .nw, _ => true
  | _, xs => flats xs
def qSeqI (te : PTE) : PTI := fun ρ Q => te ρ fun x g => ∃ xs, seqOf x = some xs ∧ (g = .rd → flat x = true) ∧ Q xs (itG g xs)
theorem iter_lst {K : PySem.W.Frag} {H0 : Hp} {W : Addr → Prop} {g : Bool} {H1 : Hp} {a : Addr} {us : List V} {xs : List PV} (tw : ∀ a, W a → ∃ o, H1 a = some o ∧ mutO o = true) (ha : ∀ W' H', Ev W H1 W' H' → SqL K H' a us) (r : Reps K (Ms H0 W g) H1 us xs) : IterOk K H0 W g H1 (Itl K a) xs := by
  have lr := r.length
  refine ⟨fun W' H' i e hi => ⟨us, us[i]'(by omega), ha W' H' e, by simp⟩, fun W' H' i v H2 e y hi => ?_, fun W' H' e => ⟨us, ha W' H' e, by omega⟩⟩
  obtain ⟨rfl, y⟩ := y
  obtain ⟨x, hx, rx⟩ := r.get (y us (ha W' _ e))
  exact ⟨Same.refl _, x, hx, rx.keep (e.keep tw)⟩
theorem iter_tup {K : PySem.W.Frag} {H0 : Hp} {W : Addr → Prop} {g : Bool} {H1 : Hp} {a : Addr} {us : List V} {xs : List PV} (tw : ∀ a, W a → ∃ o, H1 a = some o ∧ mutO o = true) (ha : ∀ W' H', Ev W H1 W' H' → SqT K H' a us) (r : Reps K (Ms H0 W g) H1 us xs) : IterOk K H0 W g H1 (Itt K a) xs := by
  have lr := r.length
  refine ⟨fun W' H' i e hi => ⟨us, us[i]'(by omega), ha W' H' e, by simp⟩, fun W' H' i v H2 e y hi => ?_, fun W' H' e => ⟨us, ha W' H' e, by omega⟩⟩
  obtain ⟨rfl, y⟩ := y
  obtain ⟨x, hx, rx⟩ := r.get (y us (ha W' _ e))
  exact ⟨Same.refl _, x, hx, rx.keep (e.keep tw)⟩
theorem itg_reps {K : PySem.W.Frag} {H0 Hs H : Hp} {W : Addr → Prop} {σ : St} {ρ : PEnv} {g : Tg} {us : List V} {xs : List PV} (px : PX K H0 W σ ρ Hs) (hg : g = .rd → flats xs = true) (r : Reps K (Mg H0 W Hs g) H us xs) : Reps K (Ms H0 W (itG g xs)) H us xs := by
  cases g with
  | fr => exact r.same (Same.refl _) fun _ z => px.new z
  | nw => exact r.same (Same.refl _) fun _ z => z
  | sh =>
    show Reps K (Ms H0 W (flats xs)) H us xs
    cases e : flats xs with
    | true => exact r.flat e
    | false => exact r.same (Same.refl _) fun _ z => z
  | rd => exact r.flat (hg rfl)
theorem li_seq (h : LI X (qSeqI te) σ H R) : iSeq X.K (LE X te) σ H R := by
  obtain ⟨W, ρ, Q, px, q, k⟩ := h
  refine ⟨W, ρ, _, px, q, ?_⟩
  rintro v H1 x g s r ⟨xs, e, hg, q⟩
  have px1 := px.mono s
  have tw : ∀ a, W a → ∃ o, H1 a = some o ∧ mutO o = true := fun a z => (px1.wm a z).2
  cases r with
  | tup h r =>
    cases e
    refine ⟨_, rfl, .inr ⟨_, SqT.of h, k _ _ _ _ s (iter_tup tw (fun W' H' e => SqT.of (e _ _ h fun z => ?_).1) (itg_reps px (fun z => by have := hg z; unfold flat at this; exact this) r)) q⟩⟩
    obtain ⟨o, h', mu⟩ := tw _ z; rw [h] at h'; cases h'; cases mu
  | @lst a us xs' m h r =>
    cases e
    have wa : ¬ W a := by
      cases g with
      | fr => exact (px.new m).1
      | nw => exact m.1
      | sh => exact m
      | rd => have := hg rfl; unfold flat at this; cases this
    exact ⟨_, rfl, .inl ⟨_, SqL.of h, k _ _ _ _ s (iter_lst tw (fun W' H' e => SqL.of (e _ _ h wa).1) (itg_reps px (fun z => by have := hg z; unfold flat at this; cases this) r)) q⟩⟩
  | scr h =>
    cases e
    refine ⟨_, rfl, .inl ⟨_, h.sqL, k _ _ _ _ s (iter_lst tw (fun W' H' e => (Scr.keep (fun a o u hz => (e _ _ hz fun z => ?_).1) h).sqL) (itg_reps (g := g) px (fun z => flats_ints _) (Reps.intz _))) q⟩⟩
    obtain ⟨o, h', mu⟩ := tw _ z; rw [hz] at h'; cases h'; cases mu
  | kt h r =>
    cases e
    exact ⟨_, rfl, .inr ⟨_, .inr h, k _ _ _ _ s (iter_tup tw (fun W' H' e => .inr h) (itg_reps px (fun z => by have := hg z; unfold flat at this; exact this) r)) q⟩⟩
  | _ => cases e
def rngP (lo : Int) (n : Nat) : List PV := (List.range n).map fun (i : Nat) => PV.int (lo + (i : Int))
theorem rngP_length (lo : Int) (n : Nat) : (rngP lo n).length = n := by unfold rngP; rw [List.length_map, List.length_range]
theorem rngP_get {lo : Int} {n i : Nat} (h : i < n) : (rngP lo n)[i]? = some (.int (lo + i)) := by unfold rngP; rw [List.getElem?_map, List.getElem?_range h]; rfl
def qRng1 (te : PTE) : PTI := fun ρ Q => te ρ fun x _ => ∃ j : Int, x = .int j ∧ -1000000 ≤ j ∧ j ≤ 1000000 ∧ Q (rngP 0 j.toNat) true
theorem iter_rng {K : PySem.W.Frag} {H0 : Hp} {W : Addr → Prop} {H1 : Hp} (lo : Int) (n : Nat) : IterOk K H0 W true H1 (Itr lo n) (rngP lo n) := by
  refine ⟨fun W' H' i e hi => by rw [rngP_length] at hi; exact hi, fun W' H' i v H2 e y hi => ?_, fun W' H' e => by show n ≤ (rngP lo n).length; rw [rngP_length]; exact Nat.le_refl _⟩
  rw [rngP_length] at hi
  obtain ⟨rfl, rfl⟩ := y
  exact ⟨Same.refl _, _, rngP_get hi, .int _⟩
theorem li_rng1 (h : LI X (qRng1 te) σ H R) : iRng1 (tCons (LE X te) tNil) σ H R := by
  obtain ⟨W, ρ, Q, px, q, k⟩ := h
  refine ⟨W, ρ, _, px, q, ?_⟩
  rintro v H1 x g s r ⟨j, rfl, h1, h2, q⟩
  cases r
  exact ⟨j, rfl, by omega, by omega, k _ _ _ _ s (iter_rng 0 j.toNat) q⟩
end
abbrev PTG := PV → Bool → PEnv → (PEnv → Prop) → Prop
def TgOk (K : PySem.W.Frag) (own : Nat → Prop) (p : PTG) (t : TG) : Prop := ∀ (H0 : Hp) (W : Addr → Prop) (σ : St) (ρ : PEnv) (H : Hp) (v : V) (x : PV) (g : Bool) (Q : PEnv → Prop) (Q' : St → Hp → Prop),
  PX K H0 W σ ρ H → Rep K (Ms H0 W g) H v x → p x g ρ Q → (∀ σ' ρ', PX K H0 W σ' ρ' H → (∀ i, ¬ own i → σ'[i]? = σ[i]?) → σ'.length = σ.length → Q ρ' → Q' σ' H) → t v σ H Q'
def pName (i : Nat) : PTG := fun x g ρ Q => Q (ρ.set i (some (.sh (g || flat x) x)))
theorem or_rep {K : PySem.W.Frag} {H0 H : Hp} {W : Addr → Prop} {v : V} {x : PV} {g : Bool} (r : Rep K (Ms H0 W g) H v x) : Rep K (Ms H0 W (g || flat x)) H v x := by
  cases g with
  | true => exact r
  | false =>
    show Rep K (Ms H0 W (flat x)) H v x
    cases e : flat x with
    | true => exact r.flat e
    | false => exact r
theorem tg_name (K : PySem.W.Frag) (i : Nat) : TgOk K (· = i) (pName i) (gName i) := by
  intro H0 W σ ρ H v x g Q Q' px r q k
  exact k _ _ (px.setSh (or_rep r)) (fun j hj => by rw [List.getElem?_set_ne (Ne.symm hj)]) (List.length_set ..) q
section
variable {X : Cx} {σ : St} {H : Hp} {D : Ends}
def qFor (ti : PTI) (p : PTG) (tb : PTS) : PTS := fun D ρ => ti ρ fun xs g => ∃ I : Nat → PEnv → Prop, I 0 ρ ∧ (∀ i x ρ', xs[i]? = some x → I i ρ' → p x g ρ' fun ρ2 => tb { D with nx := I (i + 1), ct := I (i + 1), bk := D.nx } ρ2) ∧ ∀ ρ', I xs.length ρ' → D.nx ρ'
theorem ls_for {ti : PTI} {p : PTG} {g : TG} {tb : PTS} {own : Nat → Prop} (hg : TgOk X.K own p g) (h : LS X (qFor ti p tb) D σ H) : tFor (LI X ti) g (LS X tb) D σ H := by
  obtain ⟨W, ρ, D', px, q, k⟩ := h
  refine ⟨W, ρ, _, px, q, ?_⟩
  rintro J H1 xs gb s it ⟨I, i0, turn, fin⟩
  refine ⟨fun i m σ2 H2 => m = xs.length - i ∧ i ≤ xs.length ∧ ∃ W2 ρ2, PX X.K X.H₀ W2 σ2 ρ2 H2 ∧ Ev W H1 W2 H2 ∧ I i ρ2, ⟨xs.length, by omega, Nat.zero_le _, W, ρ, px.mono s, Ev.refl _ _, i0⟩, ?_⟩
  rintro i m σ2 H2 ⟨rfl, hi, W2, ρ2, px2, e2, i2⟩
  have e0 : Ev W H W2 H2 := (Ev.same s).trans e2
  by_cases hlt : i < xs.length
  · refine .inr ⟨it.go W2 H2 i e2 hlt, fun σ3 H3 => ∃ W3 ρ3, PX X.K X.H₀ W3 σ3 ρ3 H3 ∧ Ev W H1 W3 H3 ∧ I (i + 1) ρ3, fun σ3 H3 ⟨W3, ρ3, a, b, c⟩ => ⟨xs.length - (i + 1), by omega, rfl, hlt, W3, ρ3, a, b, c⟩, fun v H3 y => ?_⟩
    obtain ⟨s3, x, hx, rx⟩ := it.yld W2 H2 i v H3 e2 y hlt
    refine hg X.H₀ W2 σ2 ρ2 H3 v x gb _ _ (px2.mono s3) rx (turn i x ρ2 hx i2) fun σ4 ρ4 px4 _ _ q4 => ?_
    have e3 : Ev W H1 W2 H3 := e2.trans (Ev.same s3)
    have e3' : Ev W H W2 H3 := e0.trans (Ev.same s3)
    exact ⟨W2, ρ4, _, px4, q4, fun W' σ' H' ρ' e p q => ⟨W', ρ', p, e3.trans e, q⟩, k.rt, fun W' σ' H' ρ' e p q => k.nx W' σ' H' ρ' (e3'.trans e) p q, fun W' σ' H' ρ' e p q => ⟨W', ρ', p, e3.trans e, q⟩⟩
  · have e : i = xs.length := by omega
    subst e
    exact .inl ⟨it.stop W2 H2 e2, k.nx W2 σ2 H2 ρ2 e0 px2 (fin ρ2 i2)⟩
end
end PP
namespace PP
open PySem L2
def blockρ (fr : List (Option Nat)) (ρ : PEnv) : PEnv := fr.map fun o => o.bind fun j => (ρ[j]?).join.map fun m => Slot.sh false m.val
def isA (D : Addr) : Addr → Prop := fun a => a = D
theorem px_block {K : PySem.W.Frag} {H0 : Hp} {W : Addr → Prop} {σ : St} {ρ : PEnv} {H1 H' : Hp} {D : Addr} {acc : List V} {fr : List (Option Nat)} (px : PX K H0 W σ ρ H1) (hD : H1 D = none) (s : Same H1 H') (ha : H' D = some (.lst acc)) :
    PX K H1 (isA D) (blockSt fr σ) (blockρ fr ρ) H' := by
  have old : ∀ {a : Addr} {o : HO}, H1 a = some o → a ≠ D := fun {a o} e z => by rw [z, hD] at e; cases e
  refine ⟨by unfold blockSt blockρ; rw [List.length_map, List.length_map], s, fun a z => by cases z; exact ⟨hD, _, ha, rfl⟩, fun i m h => ?_, fun i j x y a h1 => ?_⟩
  · unfold blockρ at h
    rw [List.getElem?_map] at h
    cases ef : fr[i]? with
    | none => rw [ef] at h; cases h
    | some o =>
      rw [ef] at h
      cases o with
      | none => cases h
      | some j =>
        have h : some ((ρ[j]?).join.map fun m => Slot.sh false m.val) = some (some m) := h
        cases er : ρ[j]? with
        | none => rw [er] at h; cases h
        | some o =>
          rw [er] at h
          cases o with
          | none => cases h
          | some m0 =>
            cases h
            obtain ⟨v, ev, r⟩ := px.sl j m0 er
            refine ⟨v, ?_, ?_⟩
            · unfold blockSt
              rw [List.getElem?_map, ef]
              show some ((σ[j]?).join) = _
              rw [ev]; rfl
            · have r' : Rep K (fun _ => True) H1 v m0.val := (slot_rep (Hs := H1) r).same (Same.refl _) fun _ _ => trivial
              exact r'.keep ⟨fun a _ _ e => ⟨old e, s _ _ e⟩, fun a _ _ e => ⟨old e, s _ _ e⟩, fun a _ _ e => ⟨old e, s _ _ e⟩, fun _ _ e => s _ _ e, fun _ _ _ e => s _ _ e⟩
  · unfold blockρ at h1
    rw [List.getElem?_map] at h1
    cases ef : fr[i]? with
    | none => rw [ef] at h1; cases h1
    | some o =>
      rw [ef] at h1
      cases o with
      | none => cases h1
      | some j =>
        have h1 : some ((ρ[j]?).join.map fun m => Slot.sh false m.val) = some (some (Slot.own x)) := h1
        cases er : ρ[j]? with
        | none => rw [er] at h1; cases h1
        | some o =>
          rw [er] at h1
          cases o with
          | none => cases h1
          | some m0 => cases h1
section
variable {X : Cx} {σ : St} {H : Hp} {Q' : VK}
abbrev _root_.L2.Cx.frm (X : Cx) (H1 : Hp) : Cx := { X with H₀ := H1 }
def qComp (ti : PTI) (fr : List (Option Nat)) (p : PTG) (tc : PTT) (te : PTE) : PTE := fun ρ Q => ti ρ fun xs g => xs.length ≤ 16000000 ∧ ∃ I : Nat → List PV → Prop, I 0 [] ∧
  (∀ i x acc, xs[i]? = some x → I i acc → p x false (blockρ fr ρ) fun ρ2 => tc ρ2 fun b => if b = true then te ρ2 fun y gy => Nw gy y ∧ I (i + 1) (acc ++ [y]) else I (i + 1) acc) ∧ ∀ acc, I xs.length acc → Q (.lst acc) .fr
theorem le_comp {ti : PTI} {fr : List (Option Nat)} {p : PTG} {g : TG} {tc : PTT} {te : PTE} {own : Nat → Prop} (hg : TgOk X.K own p g) (ho : ∀ i, own i → fr[i]? = some none) (h : LE X (qComp ti fr p tc te) σ H Q') :
    tCompH (LI X ti) fr (fun _ => g) (fun H1 => LT (X.frm H1) tc) (fun H1 => LE (X.frm H1) te) σ H Q' := by
  obtain ⟨W, ρ, Q, px, q, k⟩ := h
  refine ⟨W, ρ, _, px, q, ?_⟩
  rintro J H1 xs gb s it ⟨hl, I, i0, turn, fin⟩ D hD
  have px1 := px.mono s
  refine ⟨fun i m acc H' => m = xs.length - i ∧ i ≤ xs.length ∧ Same H1 H' ∧ H' D = some (.lst acc) ∧ ∃ ys, Reps X.K (Ms H1 (isA D) true) H' acc ys ∧ ys.length ≤ i ∧ I i ys, ⟨xs.length, by omega, Nat.zero_le _, same_new hD _, upd_same, [], .nil, Nat.le_refl _, i0⟩, ?_⟩
  rintro i m acc H' ⟨rfl, hi, sm, ha, ys, ry, hy, iy⟩
  refine ⟨ha, ?_⟩
  have ev : Ev W H1 (orA W D) H' := Ev.own sm hD
  by_cases hlt : i < xs.length
  · refine .inr ⟨it.go _ H' i ev hlt, fun v H2 y => ?_⟩
    obtain ⟨s2, x, hx, rx⟩ := it.yld _ H' i v H2 ev y hlt
    have ha2 := s2 _ _ ha
    have pxb : PX X.K H1 (isA D) (blockSt fr σ) (blockρ fr ρ) H2 := px_block px1 hD (sm.trans s2) ha2
    have rx' : Rep X.K (Ms H1 (isA D) false) H2 v x := rx.same (Same.refl _) fun a z => by
      cases gb with
      | true => exact fun e => z.1 (.inr e)
      | false => exact fun e => z (.inr e)
    refine hg H1 (isA D) _ _ H2 v x false _ _ pxb rx' (turn i x ys hx iy) fun σ2 ρ2 px2 hown hlen q2 => ⟨⟨hlen.symm, fun j w e => ?_⟩, ?_⟩
    · by_cases oj : own j
      · have := ho j oj
        unfold blockSt at e
        rw [List.getElem?_map, this] at e
        cases e
      · rw [hown j oj]; exact e
    · refine ⟨isA D, ρ2, _, px2, q2, fun b H4 s4 q4 => ?_⟩
      have ha4 := s4 _ _ ha2
      have sm4 := (sm.trans s2).trans s4
      cases b with
      | false =>
        refine iteF ⟨xs.length - (i + 1), by omega, rfl, hlt, sm4, ha4, ys, ry.same (s2.trans s4) fun _ z => z, by omega, by simpa using q4⟩
      | true =>
        refine iteT ⟨isA D, ρ2, _, px2.mono s4, by simpa using q4, ?_⟩
        rintro w H5 y gy s5 ryy ⟨nw, q5⟩
        have ha5 := s5 _ _ ha4
        have lr := ry.length
        refine ⟨ha5, bigEnough (by omega), xs.length - (i + 1), by omega, rfl, hlt, fun b o e => ?_, upd_same, ys ++ [y], ?_, by rw [List.length_append, List.length_singleton]; omega, q5⟩
        · rw [upd_ne (fun z => by rw [z, hD] at e; cases e)]
          exact s5 _ _ (sm4 _ _ e)
        · exact ((ry.same ((s2.trans s4).trans s5) fun _ z => z).append (.cons (Nw.rep (px2.mono s4) nw ryy) .nil)).keep (.upd ha5 rfl fun b m => ⟨m.1, m⟩)
  · have e : i = xs.length := by omega
    subst e
    refine .inl ⟨it.stop _ H' ev, k _ H' _ .fr (s.trans sm) (.lst (s.free hD) ha (ry.same (Same.refl _) fun _ z => s.free z.2)) (fin ys iy)⟩
def qYes : PTT := fun _ Q => Q true
theorem lt_yes {Qb : Bool → Hp → Prop} (h : LT X qYes σ H Qb) : tYes σ H Qb := by
  obtain ⟨W, ρ, Q, px, q, k⟩ := h
  exact k _ _ (Same.refl _) q
end
section
variable {κ : Type} [DecidableEq κ]
variable {K : PySem.W.Frag} {M : Addr → Prop} {H : Hp}
end
section
variable {X : Cx} {σ : St} {H : Hp} {D : Ends} {tk td te : PTE} {Q' : VK}
end
end PP
namespace PP
open PySem L2
def eqP : Nat → PV → PV → Bool
  | _, .non, .non => true
  | _, .bl a, .bl b => a == b
  | _, .int a, .int b => a == b
  | _, .str a, .str b => a == b
  | n + 1, .tup xs, .tup ys => (xs.zip ys).all (fun p => eqP n p.1 p.2) && xs.length == ys.length
  | n + 1, .lst xs, .lst ys => (xs.zip ys).all (fun p => eqP n p.1 p.2) && xs.length == ys.length
  | n + 1, .kt xs, .kt ys => (xs.zip ys).all (fun p => eqP n p.1 p.2) && xs.length == ys.length
  | _, _, _ => false
def okE : Nat → PV → PV → Bool
  | _, .non, .non => true
  | _, .bl _, .bl _ => true
  | _, .int _, .int _ => true
  | _, .str _, .str _ => true
  | _, .non, .int _ => true
  | _, .int _, .non => true
  | n + 1, .tup xs, .tup ys => (xs.zip ys).all (fun p => okE n p.1 p.2)
  | n + 1, .lst xs, .lst ys => (xs.zip ys).all (fun p => okE n p.1 p.2)
  | n + 1, .kt xs, .kt ys => (xs.zip ys).all (fun p => okE n p.1 p.2)
  | _ + 1, .non, .tup _ => true
  | _ + 1, .tup _, .non => true
  | _, _, _ => false
theorem eqP_int (n : Nat) (a b : Int) : eqP n (.int a) (.int b) = (a == b) := by cases n <;> rfl
theorem all_ints (n : Nat) : ∀ (a b : List Int), ((((intz a).zip (intz b)).all fun p => eqP n p.1 p.2) && (intz a).length == (intz b).length) = decide (a = b)
  | [], [] => rfl
  | [], _ :: _ => by simp
  | _ :: _, [] => by simp
  | x :: a, y :: b => by
    have ih := all_ints n a b
    simp only [List.map_cons, List.zip_cons_cons, List.all_cons, List.length_cons, eqP_int] at ih ⊢
    by_cases e : x = y
    · subst e
      have : ((intz a).length + 1 == (intz b).length + 1) = ((intz a).length == (intz b).length) := by simp
      rw [this, beq_self_eq_true, Bool.true_and, ih]
      simp
    · have : (x == y) = false := beq_eq_false_iff_ne.mpr e
      rw [this, Bool.false_and, Bool.false_and]
      simp [e]
theorem eqP_lstI (n : Nat) (a b : List Int) : eqP (n + 1) (.lst (intz a)) (.lst (intz b)) = decide (a = b) := all_ints n a b
theorem ok_ints (n : Nat) : ∀ (a b : List Int), (((intz a).zip (intz b)).all fun p => okE n p.1 p.2) = true
  | [], _ => by simp
  | _ :: _, [] => by simp
  | x :: a, y :: b => by
    simp only [List.map_cons, List.zip_cons_cons, List.all_cons, ok_ints n a b, Bool.and_true]
    cases n <;> rfl
theorem okE_lstI (n : Nat) (a b : List Int) : okE (n + 1) (.lst (intz a)) (.lst (intz b)) = true := ok_ints n a b
def qNeg (ta : PTE) : PTE := fun ρ Q => ta ρ fun x _ => ∃ i, x = .int i ∧ Q (.int (-i)) .fr
def tyP : PV → Option String
  | .non => some "NoneType"
  | .bl _ => some "bool"
  | .int _ => some "int"
  | .str _ => some "str"
  | .tup _ => some "tuple"
  | .kt _ => some "tuple"
  | .lst _ => some "list"
  | _ => none
def qIsI (K : PySem.W.Frag) (n : String) (te : PTE) : PTE := fun ρ Q => te ρ fun x _ => ∃ T b, tyP x = some T ∧ PySem.W.kitOne K (.type T) (.type n) = some b ∧ Q (.bl b) .fr
def REqS (n : Nat) (neg : Bool) : PV → Tg → PV → Tg → PK → Prop := fun x _ y _ Q => ((∃ xs ys, x = .tup xs ∧ y = .tup ys) ∨ (∃ xs ys, x = .lst xs ∧ y = .lst ys)) ∧ okE (n + 1) x y = true ∧ Q (.bl (if neg = true then !eqP (n + 1) x y else eqP (n + 1) x y)) .fr
abbrev PTO := PEnv → (Option Int → Prop) → Prop
def cutP (xs : List PV) (lo hi : Option Int) : List PV := (xs.drop (HT.sIx xs.length 0 lo)).take (HT.sIx xs.length xs.length hi - HT.sIx xs.length 0 lo)
def reSeq : PV → List PV → PV
  | .tup _, ys => .tup ys
  | .kt _, ys => .tup ys
  | _, ys => .lst ys
def qOn : PTO := fun _ Q => Q none
def qOs (te : PTE) : PTO := fun ρ Q => te ρ fun x _ => ∃ i, x = .int i ∧ Q (some i)
def qSl (te : PTE) (tl th : PTO) : PTE := fun ρ Q => te ρ fun x _ => tl ρ fun lo => th ρ fun hi => ∃ xs, seqT x = some xs ∧ flats xs = true ∧ Q (reSeq x (cutP xs lo hi)) .fr
def startP (N : List Str) (xs : List PV) : PEnv := xs.map (fun x => some (.sh (flat x) x)) ++ List.replicate (N.length - xs.length) none
abbrev qAdd (ta tb : PTE) : PTE := q2 (RI0 fun i j => .int (i + j)) ta tb
abbrev qSub (ta tb : PTE) : PTE := q2 (RI0 fun i j => .int (i - j)) ta tb
abbrev qDiv (ta tb : PTE) : PTE := q2 (RI CDiv fun i j => .int (i / j)) ta tb
abbrev qMod (ta tb : PTE) : PTE := q2 (RI (fun _ j => 0 < j) fun i j => .int (i % j)) ta tb
abbrev qPow (ta tb : PTE) : PTE := q2 (RI CPow fun i j => .int (i ^ j.toNat)) ta tb
abbrev qLt (ta tb : PTE) : PTE := q2 (RI0 fun i j => .bl (decide (i < j))) ta tb
abbrev qGt (ta tb : PTE) : PTE := q2 (RI0 fun i j => .bl (decide (j < i))) ta tb
abbrev qGe (ta tb : PTE) : PTE := q2 (RI0 fun i j => .bl (decide (j ≤ i))) ta tb
abbrev qEq (ta tb : PTE) : PTE := q2 (REqI false) ta tb
abbrev qNe (ta tb : PTE) : PTE := q2 (REqI true) ta tb
abbrev qIx (ta tb : PTE) : PTE := q2 RIx ta tb
def RTuple : List PV → (PV → Prop) → Prop := fun xs Q => RTup xs Q ∧ ∀ ns, xs ≠ [.scr ns]
end PP
namespace PP
open PySem L2
def QE (X : Cx) (e : Expr) (t : PTE) : Prop := PE X e (LE X t)
def QT (X : Cx) (e : Expr) (t : PTT) : Prop := PT X e (LT X t)
def QW (X : Cx) (e : Expr) (t : PTT) : Prop := PW X e (LT X t)
def QA (X : Cx) (es : List Expr) (t : PTA) : Prop := PA X es (LA X t)
def QS (X : Cx) (st : Stmt) (t : PTS) : Prop := PS X st (LS X t)
def QSs (X : Cx) (st : List Stmt) (t : PTS) : Prop := PSs X st (LS X t)
def QI (X : Cx) (tg iter : Expr) (t : PTI) : Prop := PI X tg iter (LI X t)
section
variable {X : Cx}
theorem peI {e : Expr} {t t' : TE} (h : PE X e t) (m : ∀ σ H Q, t' σ H Q → t σ H Q) : PE X e t' := fun pins s σ H Q I q => h pins s σ H Q I (m σ H Q q)
theorem ptI {e : Expr} {t t' : TT} (h : PT X e t) (m : ∀ σ H Q, t' σ H Q → t σ H Q) : PT X e t' := fun pins s σ H Q I q => h pins s σ H Q I (m σ H Q q)
theorem pwI {e : Expr} {t t' : TT} (h : PW X e t) (m : ∀ σ H Q, t' σ H Q → t σ H Q) : PW X e t' := fun wh pins s σ H Q I q => h wh pins s σ H Q I (m σ H Q q)
theorem paI {e : List Expr} {t t' : TA} (h : PA X e t) (m : ∀ σ H Q, t' σ H Q → t σ H Q) : PA X e t' := fun pos pins s σ H Q I q => h pos pins s σ H Q I (m σ H Q q)
theorem psI {e : Stmt} {t t' : TS} (h : PS X e t) (m : ∀ D σ H, t' D σ H → t D σ H) : PS X e t' := fun pins s σ H D I q => h pins s σ H D I (m D σ H q)
theorem pssI {e : List Stmt} {t t' : TS} (h : PSs X e t) (m : ∀ D σ H, t' D σ H → t D σ H) : PSs X e t' := fun pins s σ H D I q => h pins s σ H D I (m D σ H q)
theorem piI {tg e : Expr} {t t' : TI} (h : PI X tg e t) (m : ∀ σ H R, t' σ H R → t σ H R) : PI X tg e t' := fun pins s σ H R I q => h pins s σ H R I (m σ H R q)
variable {a b c e o : Expr} {es rest : List Expr} {ta tb te to tk : PTE} {tr : PTA} {tA tB' tc : PTT} {pos p2 px : Pos} {st : Stmt} {sts : List Stmt} {t u : PTS}
theorem qv (i : Nat) {x : Str} {pos : Pos} (hN : X.N[i]? = some x := by rfl) (hv : Vis X.env.scope x := by first | exact Or.inl rfl | exact Or.inr (Or.inl rfl) | exact Or.inr (Or.inr rfl)) (hd : (x == ("__debug__" : Str)) = false := by decide)
    (hcd : (x == ("__classdict__" : Str)) = false := by decide) : QE X (.Name x pos) (qVar i) := peI (pe_var hN hv hd hcd) fun _ _ _ => le_var
theorem q_int {i j} : QE X (.Constant (.int i) j pos) (qC (.int i)) := peI pe_int fun _ _ _ => le_c fun _ => .int i
theorem q_bl {i j} : QE X (.Constant (.bool i) j pos) (qC (.bl i)) := peI pe_bl fun _ _ _ => le_c fun _ => .bl i
theorem q_non {j} : QE X (.Constant .none j pos) (qC .non) := peI pe_non fun _ _ _ => le_c fun _ => .non
theorem q_str {i j} : QE X (.Constant (.str i) j pos) (qC (.str i)) := peI pe_str fun _ _ _ => le_c fun _ => .str i
theorem q_op {op : Operator} {R : PV → Tg → PV → Tg → PK → Prop} {r : R2} (ho : OpR X (binaryOp op) r) (cv : Cov2 X R r) (ha : QE X a ta) (hb : QE X b tb) : QE X (.BinOp a op b pos) (q2 R ta tb) := peI (pe_op ho ha hb) fun _ _ _ => le_2 cv
theorem q_add (ha : QE X a ta) (hb : QE X b tb) : QE X (.BinOp a .Add b pos) (q2 (RI0 fun i j => .int (i + j)) ta tb) := q_op op_add cov_rI0 ha hb
theorem q_sub (ha : QE X a ta) (hb : QE X b tb) : QE X (.BinOp a .Sub b pos) (q2 (RI0 fun i j => .int (i - j)) ta tb) := q_op op_sub cov_rI0 ha hb
theorem q_div (ha : QE X a ta) (hb : QE X b tb) : QE X (.BinOp a .FloorDiv b pos) (q2 (RI CDiv fun i j => .int (i / j)) ta tb) := q_op op_fdiv cov_rI ha hb
theorem q_mod (ha : QE X a ta) (hb : QE X b tb) : QE X (.BinOp a .Mod b pos) (q2 (RI (fun _ j => 0 < j) fun i j => .int (i % j)) ta tb) := q_op op_mod cov_rI ha hb
theorem q_pow (ha : QE X a ta) (hb : QE X b tb) : QE X (.BinOp a .Pow b pos) (q2 (RI CPow fun i j => .int (i ^ j.toNat)) ta tb) := q_op op_pow cov_rI ha hb
theorem q_cmp {op : CmpOp} {R : PV → Tg → PV → Tg → PK → Prop} {r : R2} (ho : OpR X (compareOp op) r) (cv : Cov2 X R r) (ha : QE X a ta) (hb : QE X b tb) (hm : behindInMarks op b = false) : QE X (.Compare a [op] [b] pos) (q2 R ta tb) := peI (pe_cmpR ho ha hb hm) fun _ _ _ => le_2 cv
theorem t_cmp {op : CmpOp} {R : PV → Tg → PV → Tg → PK → Prop} {r : R2} (ho : OpR X (compareOp op) r) (cv : Cov2 X R r) (ha : QE X a ta) (hb : QE X b tb) (hm : behindInMarks op b = false) : QT X (.Compare a [op] [b] pos) (qTest (q2 R ta tb)) := ptI (pt_cmpR ho ha hb hm) fun _ _ _ h => le_2 cv (lt_test h)
theorem q_lt (ha : QE X a ta) (hb : QE X b tb) : QE X (.Compare a [.Lt] [b] pos) (q2 (RI0 fun i j => .bl (decide (i < j))) ta tb) := q_cmp op_lt cov_rIB ha hb (nomark _)
theorem q_ge (ha : QE X a ta) (hb : QE X b tb) : QE X (.Compare a [.GtE] [b] pos) (q2 (RI0 fun i j => .bl (decide (j ≤ i))) ta tb) := q_cmp op_ge cov_rIB ha hb (nomark _)
theorem t_lt (ha : QE X a ta) (hb : QE X b tb) : QT X (.Compare a [.Lt] [b] pos) (qTest (q2 (RI0 fun i j => .bl (decide (i < j))) ta tb)) := t_cmp op_lt cov_rIB ha hb (nomark _)
theorem t_gt (ha : QE X a ta) (hb : QE X b tb) : QT X (.Compare a [.Gt] [b] pos) (qTest (q2 (RI0 fun i j => .bl (decide (j < i))) ta tb)) := t_cmp op_gt cov_rIB ha hb (nomark _)
theorem t_eq (ha : QE X a ta) (hb : QE X b tb) : QT X (.Compare a [.Eq] [b] pos) (qTest (q2 (REqI false) ta tb)) := t_cmp op_eq cov_eq ha hb (nomark _)
theorem t_ne (ha : QE X a ta) (hb : QE X b tb) : QT X (.Compare a [.NotEq] [b] pos) (qTest (q2 (REqI true) ta tb)) := t_cmp op_ne cov_ne ha hb (nomark _)
theorem t_val (h : QE X e te) (he : ∀ whole, isTrue e X.env whole = (do let v ← whole; standAt e.pos; holding [v] (truthy v)) := by intro _; rfl) : QT X e (qTest te) := ptI (pt_val h he) fun _ _ _ h => lt_test h
theorem w_and1 (ha : QT X a tA) : QW X (.BoolOp .And [a] pos) tA := pw_and1 ha
theorem w_or1 (ha : QT X a tA) : QW X (.BoolOp .Or [a] pos) tA := pw_or1 ha
theorem w_and (ha : QT X a tA) (hb : QW X (.BoolOp .And (b :: rest) pos) tB') : QW X (.BoolOp .And (a :: b :: rest) pos) (qAnd tA tB') := pwI (pw_and ha hb) fun _ _ _ => lt_and
theorem w_or (ha : QT X a tA) (hb : QW X (.BoolOp .Or (b :: rest) pos) tB') : QW X (.BoolOp .Or (a :: b :: rest) pos) (qOr tA tB') := pwI (pw_or ha hb) fun _ _ _ => lt_or
theorem t_w (h : QW X e tA) : QT X e tA := PW.pt h
theorem t_not (ha : QT X a tA) : QT X (.UnaryOp .Not a pos) (qNot tA) := ptI (pt_not ha) fun _ _ _ => lt_not
theorem q_one {op} (h : QE X a ta) : QE X (.BoolOp op [a] pos) ta := pe_one h
theorem q_and (ha : QE X a ta) (hb : QE X (.BoolOp .And (b :: rest) pos) tb) : QE X (.BoolOp .And (a :: b :: rest) pos) (qAndV ta tb) := peI (pe_and ha hb) fun _ _ _ => le_and
theorem q_not (ha : QE X a ta) : QE X (.UnaryOp .Not a pos) (qNotV ta) := peI (pe_not ha) fun _ _ _ => le_not
theorem a_nil : QA X [] qNil := paI pa_nil fun _ _ _ => la_nil
theorem a_cons (ha : QE X e te) (hr : QA X es tr) (hs : starEach (e :: es) X.env = (false, eval e X.env) :: starEach es X.env := by rfl) : QA X (e :: es) (qCons te tr) := paI (pa_cons ha hr hs) fun _ _ _ => la_cons
theorem q_tup {x1} (h : QA X es tr) : QE X (.Tuple es x1 pos) (qTupF tr) := peI (pe_tup h) fun _ _ _ => le_tupF
theorem q_lst (h : QA X es tr) : QE X (.List es pos) (qLst tr) := peI (pe_lst h) fun _ _ _ => le_lst
theorem q_ix (ha : QE X a ta) (hb : QE X b tb) (hs : PlainIx b := by exact fun _ _ => rfl) : QE X (.Subscript a b pos) (q2 RIx ta tb) := peI (pe_ix ix_seq ha hb hs) fun _ _ _ => le_2 cov_ix
theorem q_blt {x : Str} {id : String} {R : List PV → (PV → Prop) → Prop} {r : List V → Hp → VK → Prop} (hc : CallR X (.builtin id) r) (cv : CovC X R r) (hg : Gl X x) (hm : X.mg x = none) (hv : bootBuiltins x = some (.builtin id)) (ha : QA X (e :: es) tr) (hn : x ≠ "__name__" := by decide) (hdb : (x == ("__debug__" : Str)) = false := by decide)
    (he : starEach (e :: es) X.env = (false, eval e X.env) :: starEach es X.env := by rfl) (hpl : (backTo pos (starEach es X.env)).any (·.1) = false := by rfl) : QE X (.Call (.Name x p2) (e :: es) [] pos) (qCall R tr) := peI (pe_callB hc hg hm hv ha hn hdb he hpl) fun _ _ _ => le_call cv
theorem q_blt_ty {x : Str} {T : String} {R : List PV → (PV → Prop) → Prop} {r : List V → Hp → VK → Prop} (hc : CallR X (.type T) r) (cv : CovC X R r) (hg : Gl X x) (hm : X.mg x = none) (hv : bootBuiltins x = some (.type T)) (ha : QA X (e :: es) tr) (hn : x ≠ "__name__" := by decide) (hdb : (x == ("__debug__" : Str)) = false := by decide)
    (he : starEach (e :: es) X.env = (false, eval e X.env) :: starEach es X.env := by rfl) (hpl : (backTo pos (starEach es X.env)).any (·.1) = false := by rfl) : QE X (.Call (.Name x p2) (e :: es) [] pos) (qCall R tr) := peI (pe_callTy hc hg hm hv ha hn hdb he hpl) fun _ _ _ => le_call cv
theorem s_nil : QSs X [] qNext := pssI pss_nil fun _ _ _ => ls_next
theorem s_cons (h1 : QS X st t) (h2 : QSs X sts u) : QSs X (st :: sts) (qSeq t u) := pssI (pss_cons h1 h2) fun _ _ _ => ls_seq
theorem s_one (h1 : QS X st t) : QSs X [st] t := pss_one h1
theorem s_set {i : Nat} {x : Str} (hN : X.N.Nodup) (he : QE X e te) (hi : X.N[i]? = some x := by rfl) (hx : Loc X.env.scope x := by first | exact Or.inl rfl | exact Or.inr rfl) (hs : swapsWith e (some (.Name x p2)) pos.line X.env = pure false := by rfl) (hf : X.fn x = true ∨ X.env.scope.names.lookup x = some .local := by first | exact .inl rfl | exact .inr rfl) :
    QS X (.Assign [.Name x p2] e pos) (qSet i te) := psI (ps_set hN hi hx he hs hf) fun _ _ _ => ls_set
theorem s_own {i : Nat} {x : Str} (hN : X.N.Nodup) (he : QE X e te) (hi : X.N[i]? = some x := by rfl) (hx : Loc X.env.scope x := by first | exact Or.inl rfl | exact Or.inr rfl) (hs : swapsWith e (some (.Name x p2)) pos.line X.env = pure false := by rfl) (hf : X.fn x = true ∨ X.env.scope.names.lookup x = some .local := by first | exact .inl rfl | exact .inr rfl) :
    QS X (.Assign [.Name x p2] e pos) (qOwn i te) := psI (ps_set hN hi hx he hs hf) fun _ _ _ => ls_own
theorem s_ret (he : QE X e te) : QS X (.Return (some e) pos) (qRet te) := psI (ps_ret he) fun _ _ _ => ls_ret
theorem s_if {sa sb : List Stmt} (hc : QT X c tc) (ha : QSs X sa t) (hb : QSs X sb u) : QS X (.If c sa sb pos) (qIf tc t u) := psI (ps_if hc ha hb) fun _ _ _ => ls_if
theorem s_app (i : Nat) {x : Str} {apos cpos xpos : Pos} (he : QE X e te) (hN : X.N[i]? = some x := by rfl) (hv : Vis X.env.scope x := by first | exact Or.inl rfl | exact Or.inr (Or.inl rfl) | exact Or.inr (Or.inr rfl)) (hd : (x == ("__debug__" : Str)) = false := by decide) (hcd : (x == ("__classdict__" : Str)) = false := by decide)
    (hbase : attributeBase (.Name x xpos) "append" X.env (eval (.Name x xpos) X.env) = eval (.Name x xpos) X.env := by rfl)
    (hfew : ((backTo cpos (starEach [e] X.env)).all (fun x => !x.1) && (backToKw cpos (keywordEach [] X.env)).all (fun x => x.1.isSome) && decide (([e] : List Expr).length + ([] : List Keyword).length + (if ([] : List Keyword).isEmpty then 0 else 1) < 30)) = true := by rfl)
    (hline : (apos.endLine == cpos.line) = true := by rfl) (hs : starEach [e] X.env = (false, eval e X.env) :: starEach [] X.env := by rfl) (hplain : (backTo cpos (starEach [] X.env)).any (·.1) = false := by rfl)
    (hsw : swapsWith (.Call (.Attribute (.Name x xpos) "append" apos) [e] [] cpos) none pos.line X.env = pure false := by rfl) :
    QS X (.Expr (.Call (.Attribute (.Name x xpos) "append" apos) [e] [] cpos) pos) (qApp i te) :=
  psI (ps_expr (pe_bm PySem.F.plainAttrs_list PySem.F.slot_list_append PySem.F.type_list_append mt_append (pe_var hN hv hd hcd) (pa_cons he pa_nil hs) hbase hfew hline hs hplain) hsw) fun _ _ _ => ls_app
theorem pi_seq {tg l : Expr} {tl : TE} (hl : PE X l tl) : PI X tg l (iSeq X.K tl) := by
  intro pins s σ H R I h
  refine thn (hl pins s σ H _ I h) fun v s1 ⟨x, H1, I1, r1, q1⟩ => ?_
  obtain ⟨a, e, q⟩ := q1
  subst e
  cases r1
  rcases q with ⟨xs, hq, q⟩ | ⟨xs, hq, q⟩
  · obtain ⟨its, rv, p, hz⟩ := I1.list hq
    refine wpAny_pyIter_list p.isList ?_
    refine ⟨s1.heap.objs.size, [s1.heap.objs.size], _, _, H1, rfl, I1.kept (t' := s1.toks) fun b o e => Heap.get?_push_of_some _ e, turn_list a _, ⟨_, Heap.get?_push_size _ rfl, rfl, rfl⟩, fun b hb => ?_, q⟩
    have e : b = s1.heap.objs.size := by simpa using hb
    subst e
    exact I1.fpOk (Nat.le_refl _) (I1.hok.fresh (Nat.le_refl _))
  · obtain ⟨its, rv, p, hz⟩ := I1.tuple hq
    refine wpAny_pyIter_tuple (show s1.heap.IsTuple a its.toArray from p) ?_
    refine ⟨s1.heap.objs.size, [s1.heap.objs.size], _, _, H1, rfl, I1.kept (t' := s1.toks) fun b o e => Heap.get?_push_of_some _ e, turn_tuple a _, ⟨_, Heap.get?_push_size _ rfl, rfl, rfl⟩, fun b hb => ?_, q⟩
    have e : b = s1.heap.objs.size := by simpa using hb
    subst e
    exact I1.fpOk (Nat.le_refl _) (I1.hok.fresh (Nat.le_refl _))
theorem i_seq {tg l : Expr} (hl : QE X l te) : QI X tg l (qSeqI te) := piI (pi_seq hl) fun _ _ _ => li_seq
theorem i_rng1 {tg : Expr} (hg : Gl X "range") (hm : X.mg "range" = none) (ha : QE X a ta) (hs : starEach [a] X.env = [(false, eval a X.env)] := by rfl) : QI X tg (.Call (.Name "range" p2) [a] [] pos) (qRng1 ta) := piI (pi_range1 hg hm (pa_cons ha pa_nil hs) hs) fun _ _ _ => li_rng1
theorem s_for {tg : Expr} {body : List Stmt} {ti : PTI} {p : PTG} {g : TG} {own : Nat → Prop} (hp : PassesOwn (model X.prog X.w) X.A X.env X.xe) (hc : X.calm = true) (hi : QI X tg e ti) (hg : PG X tg g) (ht : TgOk X.K own p g) (hb : QSs X body t)
    (hs : ∀ x, foldedSetIterable e X.env x = pure x := by intro _; rfl) : QS X (.For tg e body [] pos) (qFor ti p t) := psI (ps_for hp hc hi hg hb hs) fun _ _ _ => ls_for ht
end
end PP
namespace PP
open PySem L2
section
variable {X : Cx} {pins : List (Addr × Obj)} {σ : St} {H : Hp} {s : Shared} {K : PySem.W.Frag} {M M' : Addr → Prop}
theorem KtAt.inj {a : Addr} {us ws : List V} (h : KtAt K a us) (h' : KtAt K a ws) : us = ws := by
  obtain ⟨o, its, n, e1, _, e2, _, v⟩ := h
  obtain ⟨o', its', n', e1', _, e2', _, v'⟩ := h'
  rw [e1] at e1'; cases e1'
  rw [e2] at e2'; cases e2'
  exact v.inj v'
theorem Reps.self_of {n : Nat} (ih : ∀ {v : V} {x y : PV}, Rep K M H v x → Rep K M' H v y → okE n x y = true → eqP n x y = true) : ∀ {vs : List V} {xs ys : List PV}, Reps K M H vs xs → Reps K M' H vs ys → ((xs.zip ys).all fun p => okE n p.1 p.2) = true → (((xs.zip ys).all fun p => eqP n p.1 p.2) && xs.length == ys.length) = true
  | _, _, _, .nil, .nil, _ => rfl
  | _, _, _, .cons r t, .cons r' t', o => by
    simp only [List.zip_cons_cons, List.all_cons, Bool.and_eq_true] at o
    have h1 := ih r r' o.1
    have h2 := Reps.self_of ih t t' o.2
    simp only [List.zip_cons_cons, List.all_cons, h1, Bool.true_and, List.length_cons] at h2 ⊢
    rw [← h2]
    congr 1
    simp
theorem Rep.self : ∀ (n : Nat) {v : V} {x y : PV}, Rep K M H v x → Rep K M' H v y → okE n x y = true → eqP n x y = true := by
  intro n
  induction n with
  | zero =>
    intro v x y r r' o
    cases r with
    | non => cases r'; rfl
    | bl b => cases r'; exact beq_self_eq_true b
    | int i => cases r'; exact beq_self_eq_true i
    | str z => cases r'; exact beq_self_eq_true z
    | _ => cases o
  | succ n ih =>
    intro v x y r r' o
    cases r with
    | non => cases r'; rfl
    | bl b => cases r'; exact beq_self_eq_true b
    | int i => cases r'; exact beq_self_eq_true i
    | str z => cases r'; exact beq_self_eq_true z
    | tup h rr =>
      cases r' with
      | tup h' rr' => rw [h] at h'; cases h'; exact Reps.self_of ih rr rr' o
      | _ => cases o
    | lst _ h rr =>
      cases r' with
      | lst _ h' rr' => rw [h] at h'; cases h'; exact Reps.self_of ih rr rr' o
      | _ => cases o
    | kt h rr =>
      cases r' with
      | kt h' rr' => cases KtAt.inj h h'; exact Reps.self_of ih rr rr' o
      | _ => cases o
    | _ => cases o
theorem Reps.self (n : Nat) {vs : List V} {xs ys : List PV} (r : Reps K M H vs xs) (r' : Reps K M' H vs ys) (o : ((xs.zip ys).all fun p => okE n p.1 p.2) = true) : (((xs.zip ys).all fun p => eqP n p.1 p.2) && xs.length == ys.length) = true := Reps.self_of (Rep.self n) r r' o
theorem all_range (n : Nat) (xs ys : List PV) : (List.range (min xs.length ys.length)).all (fun j => eqP n (xs.getD j .non) (ys.getD j .non)) = (xs.zip ys).all fun p => eqP n p.1 p.2 := by
  rw [Bool.eq_iff_iff]
  simp only [List.all_eq_true, List.mem_range]
  constructor
  · intro h p hp
    obtain ⟨j, hj, e⟩ := List.getElem_of_mem hp
    have hj' : j < min xs.length ys.length := by simpa using hj
    have := h j hj'
    rw [List.getElem_zip] at e
    subst e
    have h1 : j < xs.length := by omega
    have h2 : j < ys.length := by omega
    simpa [List.getD_eq_getElem?_getD, h1, h2] using this
  · intro h j hj
    have h1 : j < xs.length := by omega
    have h2 : j < ys.length := by omega
    have hz : j < (xs.zip ys).length := by simp; omega
    have := h _ (List.getElem_mem hz)
    rw [List.getElem_zip] at this
    simpa [List.getD_eq_getElem?_getD, h1, h2] using this
theorem eqAt_rep (I : Inv X pins σ H s) : ∀ (n : Nat) {A : Around} {v w : V} {x y : PV} {a b : Value}, A.units + n < cLine → Rep X.K M H v x → Rep X.K M' H w y → RelV v a → RelV w b → okE n x y = true → SeqAt.EqAt A s a b (eqP n x y) := by
  intro n
  induction n with
  | zero =>
    intro A v w x y a b hu rx ry ra rb o
    cases rx with
    | non =>
      cases ra
      cases ry with
      | non => cases rb; exact SeqAt.EqAt.same _
      | int i => obtain ⟨t', rfl⟩ := rb; exact SeqAt.EqAt.none_int _ _
      | _ => cases o
    | bl i =>
      cases ra
      cases ry with
      | bl j => cases rb; exact SeqAt.EqAt.bool_bool _ _
      | _ => cases o
    | int i =>
      obtain ⟨t, rfl⟩ := ra
      cases ry with
      | int j => obtain ⟨t', rfl⟩ := rb; exact SeqAt.EqAt.int_int _ _ _ _
      | non => cases rb; exact SeqAt.EqAt.int_none _ _
      | _ => cases o
    | str i =>
      obtain ⟨t, rfl⟩ := ra
      cases ry with
      | str j => obtain ⟨t', rfl⟩ := rb; exact SeqAt.EqAt.str_str _ _ _ _
      | _ => cases o
    | _ => cases o
  | succ n ih =>
    intro A v w x y a b hu rx ry ra rb o
    have items : ∀ {us ws : List V} {xs ys : List PV} {its its2 : List Value}, Reps X.K M H us xs → Reps X.K M' H ws ys → Vals us its → Vals ws its2 → ((xs.zip ys).all fun p => okE n p.1 p.2) = true →
        ∀ j (h1 : j < its.toArray.size) (h2 : j < its2.toArray.size), SeqAt.EqAt A.in1 s its.toArray[j] its2.toArray[j] (eqP n (xs.getD j .non) (ys.getD j .non)) := fun {us ws xs ys its its2} r1 r2 v1 v2 ok j h1 h2 => by
      have l1 := v1.length
      have l2 := v2.length
      have m1 := r1.length
      have m2 := r2.length
      have k1 : j < its.length := by simpa using h1
      have k2 : j < its2.length := by simpa using h2
      have j1 : j < us.length := by omega
      have j2 : j < ws.length := by omega
      have i1 : j < xs.length := by omega
      have i2 : j < ys.length := by omega
      obtain ⟨u, hu', ru⟩ := v1.get (List.getElem?_eq_getElem j1)
      obtain ⟨u2, hu2', ru2⟩ := v2.get (List.getElem?_eq_getElem j2)
      obtain ⟨x, hx, rx⟩ := r1.get (List.getElem?_eq_getElem j1)
      obtain ⟨y, hy, ry⟩ := r2.get (List.getElem?_eq_getElem j2)
      have e1 : its.toArray[j] = u := by
        rw [List.getElem?_eq_getElem k1] at hu'
        simpa using hu'
      have e2 : its2.toArray[j] = u2 := by
        rw [List.getElem?_eq_getElem k2] at hu2'
        simpa using hu2'
      have ok' : okE n x y = true := by
        rw [List.all_eq_true] at ok
        have hz : j < (xs.zip ys).length := by simp; omega
        have := ok _ (List.getElem_mem hz)
        rw [List.getElem_zip] at this
        rw [List.getElem?_eq_getElem i1] at hx
        rw [List.getElem?_eq_getElem i2] at hy
        cases hx; cases hy
        exact this
      rw [e1, e2]
      have g1 : xs.getD j .non = x := by rw [List.getD_eq_getElem?_getD, hx]; rfl
      have g2 : ys.getD j .non = y := by rw [List.getD_eq_getElem?_getD, hy]; rfl
      rw [g1, g2]
      exact ih (by show A.units + 1 + n < cLine; omega) rx ry ru ru2 ok'
    have huA : A.units < cLine := by omega
    cases rx with
    | @kt p us xs h1 r1 =>
      obtain ⟨its, v1, p1, _⟩ := I.tuple (.inr h1)
      cases (show a = Value.ref p from ra)
      cases ry with
      | @kt p2 ws ys h2 r2 =>
        obtain ⟨its2, v2, p2', _⟩ := I.tuple (.inr h2)
        cases (show b = Value.ref p2 from rb)
        by_cases e : p = p2
        · subst e
          have := Rep.self (K := X.K) (M := M) (M' := M') (n + 1) (.kt h1 r1) (.kt h2 r2) o
          rw [this]
          exact SeqAt.EqAt.same _
        · have := SeqAt.RcAt.tuples p1 p2' huA (items r1 r2 v1 v2 o)
          refine .of_refs e ?_
          have l1 := v1.length
          have l2 := v2.length
          have m1 := r1.length
          have m2 := r2.length
          rw [List.size_toArray, List.size_toArray, ← l1, ← l2, m1, m2, all_range] at this
          exact this
      | _ => cases o
    | @tup p us xs h1 r1 =>
      obtain ⟨its, v1, p1, _⟩ := I.tuple (SqT.of (K := X.K) h1)
      cases (show a = Value.ref p from ra)
      cases ry with
      | @tup p2 ws ys h2 r2 =>
        obtain ⟨its2, v2, p2', _⟩ := I.tuple (SqT.of (K := X.K) h2)
        cases (show b = Value.ref p2 from rb)
        by_cases e : p = p2
        · subst e
          have := Rep.self (K := X.K) (M := M) (M' := M') (n + 1) (.tup h1 r1) (.tup h2 r2) o
          rw [this]
          exact SeqAt.EqAt.same _
        · have := SeqAt.RcAt.tuples p1 p2' huA (items r1 r2 v1 v2 o)
          refine .of_refs e ?_
          have l1 := v1.length
          have l2 := v2.length
          have m1 := r1.length
          have m2 := r2.length
          rw [List.size_toArray, List.size_toArray, ← l1, ← l2, m1, m2, all_range] at this
          exact this
      | non => cases rb; exact SeqAt.EqAt.tuple_none p1 huA
      | _ => cases o
    | @lst p us xs _ h1 r1 =>
      obtain ⟨its, v1, p1, _⟩ := I.list (SqL.of (K := X.K) h1)
      cases (show a = Value.ref p from ra)
      cases ry with
      | @lst p2 ws ys _ h2 r2 =>
        obtain ⟨its2, v2, p2', _⟩ := I.list (SqL.of (K := X.K) h2)
        cases (show b = Value.ref p2 from rb)
        have l1 := v1.length
        have l2 := v2.length
        have m1 := r1.length
        have m2 := r2.length
        by_cases e : p = p2
        · subst e
          rw [h1] at h2; cases h2
          have := Reps.self n r1 r2 o
          show SeqAt.EqAt A s _ _ ((xs.zip ys).all (fun p => eqP n p.1 p.2) && xs.length == ys.length)
          rw [this]
          exact SeqAt.EqAt.same _
        · refine .of_refs e ?_
          by_cases hl : xs.length = ys.length
          · have := SeqAt.RcAt.lists p1.isList p2'.isList (by rw [List.size_toArray, List.size_toArray]; omega) huA (items r1 r2 v1 v2 o)
            have hm : min xs.length ys.length = its.length := by omega
            rw [List.size_toArray, ← hm, all_range] at this
            show SeqAt.RcAt A s _ _ ((xs.zip ys).all (fun p => eqP n p.1 p.2) && xs.length == ys.length)
            rw [show (xs.length == ys.length) = true by simpa using hl, Bool.and_true]
            exact this
          · have := SeqAt.RcAt.lists_lengths (A := A) p1.isList p2'.isList (by rw [List.size_toArray, List.size_toArray]; simp; omega) huA
            show SeqAt.RcAt A s _ _ ((xs.zip ys).all (fun p => eqP n p.1 p.2) && xs.length == ys.length)
            rw [show (xs.length == ys.length) = false by simpa using hl, Bool.and_false]
            exact this
      | _ => cases o
    | non =>
      cases ra
      cases ry with
      | non => cases rb; exact SeqAt.EqAt.same _
      | int i => obtain ⟨t', rfl⟩ := rb; exact SeqAt.EqAt.none_int _ _
      | @tup p2 ws ys h2 r2 =>
        obtain ⟨its2, v2, p2', _⟩ := I.tuple (SqT.of (K := X.K) h2)
        cases (show b = Value.ref p2 from rb)
        exact SeqAt.EqAt.none_tuple p2' huA
      | _ => cases o
    | bl i =>
      cases ra
      cases ry with
      | bl j => cases rb; exact SeqAt.EqAt.bool_bool _ _
      | _ => cases o
    | int i =>
      obtain ⟨t, rfl⟩ := ra
      cases ry with
      | int j => obtain ⟨t', rfl⟩ := rb; exact SeqAt.EqAt.int_int _ _ _ _
      | non => cases rb; exact SeqAt.EqAt.int_none _ _
      | _ => cases o
    | str i =>
      obtain ⟨t, rfl⟩ := ra
      cases ry with
      | str j => obtain ⟨t', rfl⟩ := rb; exact SeqAt.EqAt.str_str _ _ _ _
      | _ => cases o
    | _ => cases o
end
end PP
namespace PP
open PySem L2
structure Bt (mg : Str → Option Value) : Prop where
  len : mg "len" = none
  range : mg "range" = none
  tuple : mg "tuple" = none
  list : mg "list" = none
  sorted : mg "sorted" = none
  all : mg "all" = none
  any : mg "any" = none
  zip : mg "zip" = none
  min : mg "min" = none
  max : mg "max" = none
  sum : mg "sum" = none
  isinst : mg "isinstance" = none
  int : mg "int" = none
  bool : mg "bool" = none
  enum : mg "enumerate" = none
section
variable {X : Cx} {a b c e o : Expr} {es rest : List Expr} {ta tb te to tk : PTE} {tr : PTA} {tA tB' tc : PTT} {pos p2 px : Pos} {st : Stmt} {sts : List Stmt} {t u : PTS}
theorem q_len (B : Bt X.mg) (ha : QA X [e] tr) (hg : Gl X "len" := by rfl) (he : starEach [e] X.env = (false, eval e X.env) :: starEach [] X.env := by rfl) (hpl : (backTo pos (starEach [] X.env)).any (·.1) = false := by rfl) : QE X (.Call (.Name "len" p2) [e] [] pos) (qCall RLen tr) :=
  q_blt (call_len_seq.or call_lenD) cov_len hg B.len PySem.boot_len ha (he := he) (hpl := hpl)
theorem q_tuple (B : Bt X.mg) (ha : QA X [e] tr) (hg : Gl X "tuple" := by rfl) (he : starEach [e] X.env = (false, eval e X.env) :: starEach [] X.env := by rfl) (hpl : (backTo pos (starEach [] X.env)).any (·.1) = false := by rfl) : QE X (.Call (.Name "tuple" p2) [e] [] pos) (qCall RTuple tr) :=
  q_blt_ty call_tuple_of cov_tup hg B.tuple PyProof.Rows.boot_tuple ha (he := he) (hpl := hpl)
theorem q_list (B : Bt X.mg) (ha : QA X [e] tr) (hg : Gl X "list" := by rfl) (he : starEach [e] X.env = (false, eval e X.env) :: starEach [] X.env := by rfl) (hpl : (backTo pos (starEach [] X.env)).any (·.1) = false := by rfl) : QE X (.Call (.Name "list" p2) [e] [] pos) (qCall RLst tr) :=
  q_blt_ty call_list_of cov_lst hg B.list PyProof.Rows.boot_list ha (he := he) (hpl := hpl)
theorem q_all (B : Bt X.mg) (hc : X.calm = true) (ha : QA X [e] tr) (hg : Gl X "all" := by rfl) (he : starEach [e] X.env = (false, eval e X.env) :: starEach [] X.env := by rfl) (hpl : (backTo pos (starEach [] X.env)).any (·.1) = false := by rfl) : QE X (.Call (.Name "all" p2) [e] [] pos) (qCall RAll tr) :=
  q_blt (call_allB hc) cov_all hg B.all PyProof.Rows.boot_all ha (he := he) (hpl := hpl)
theorem q_neg (ha : QE X a ta) : QE X (.UnaryOp .USub a pos) (qNeg ta) := peI (pe_un un_neg ha) fun σ H Q' h => by
  obtain ⟨W, ρ, Q, px, q, k⟩ := h
  refine ⟨W, ρ, _, px, q, ?_⟩
  rintro v H1 x g s r ⟨i, rfl, q⟩
  cases r
  exact ⟨i, rfl, k _ _ _ .fr s (.int _) q⟩
theorem Rep.kt_ {K : PySem.W.Frag} {M : Addr → Prop} {H : Hp} {v : V} {xs : List PV} (r : Rep K M H v (.kt xs)) : ∃ a us, v = .ref a ∧ KtAt K a us ∧ Reps K M H us xs := by
  cases r with
  | kt h r => exact ⟨_, _, rfl, h, r⟩
def TyOf2 (K : PySem.W.Frag) (H : Hp) (x : V) (t : Value) : Prop := TyOf K H x t ∨ ∃ a us, x = .ref a ∧ SqT K H a us ∧ t = .type "tuple"
theorem call_isinst2 : CallR X (.builtin "isinstance") (fun xs H Q => ∃ x t n b, xs = [x, .ty n] ∧ TyOf2 X.K H x t ∧ PySem.W.kitOne X.K t (.type n) = some b ∧ Q (.bl b) H) := by
  intro pins s σ H xs us Q I r h
  obtain ⟨x, t, n, b, rfl, ty, e, q⟩ := h
  rcases ty with ty | ⟨a, ws, rfl, hs, rfl⟩
  · exact call_isinst pins s σ H _ us Q I r ⟨x, t, n, b, rfl, ty, e, q⟩
  obtain ⟨u, u', rfl, ru, ru'⟩ := vals2 r
  cases ru'
  cases (show u = Value.ref a from ru)
  obtain ⟨its, _, ⟨o, h1, h2, _⟩, _⟩ := I.tuple hs
  exact PySem.W.kia_one PySem.W.kitx_tuple I.kIn ⟨o, h1, h2⟩ e (fun z => nomatch z) fun tk => ⟨.bl b, H, I.tok tk, rfl, q⟩
theorem tyP_of {K : PySem.W.Frag} {M : Addr → Prop} {H : Hp} {v : V} {x : PV} {T : String} (r : Rep K M H v x) (e : tyP x = some T) : TyOf2 K H v (.type T) := by
  cases r with
  | non => cases e; exact .inl .non
  | bl b => cases e; exact .inl (.bl b)
  | int i => cases e; exact .inl (.int i)
  | str i => cases e; exact .inl (.str i)
  | tup h _ => cases e; exact .inl (.tup h)
  | lst _ h _ => cases e; exact .inl (.lst h)
  | kt h _ => cases e; exact .inr ⟨_, _, rfl, .inr h, rfl⟩
  | _ => cases e
theorem q_isI {x : Str} {n : String} (B : Bt X.mg) (hn : bootBuiltins x = some (.type n)) (hm : X.mg x = none) (ha : QE X a ta) (hg : Gl X "isinstance" := by rfl) (hgx : Gl X x := by rfl) (hx : x ≠ "__name__" := by decide) (hdx : (x == ("__debug__" : Str)) = false := by decide)
    (he : starEach [a, .Name x px] X.env = (false, eval a X.env) :: starEach [.Name x px] X.env := by rfl) (he2 : starEach [.Name x px] X.env = (false, eval (.Name x px) X.env) :: starEach [] X.env := by rfl) (hpl : (backTo pos (starEach [.Name x px] X.env)).any (·.1) = false := by rfl) : QE X (.Call (.Name "isinstance" p2) [a, .Name x px] [] pos) (qIsI X.K n ta) :=
  peI (pe_callB call_isinst2 hg B.isinst PyProof.Rows.boot_isinstance (pa_cons ha (pa_cons (pe_bltn (v := .ty n) hgx hm hn rfl hx hdx) pa_nil he2) he) (he := he) (hpl := hpl)) fun σ H Q' h => by
    obtain ⟨W, ρ, Q, px, q, k⟩ := h
    refine ⟨W, ρ, _, px, q, ?_⟩
    rintro v H1 x g s r ⟨T, b, e, kt, q⟩
    exact ⟨v, _, n, b, rfl, tyP_of r e, kt, k _ _ _ .fr s (.bl _) q⟩
theorem q_isinst_int (B : Bt X.mg) (ha : QE X a ta) (hg : Gl X "isinstance" := by rfl) (hgx : Gl X "int" := by rfl)
    (he : starEach [a, .Name "int" px] X.env = (false, eval a X.env) :: starEach [.Name "int" px] X.env := by rfl) (he2 : starEach [.Name "int" px] X.env = (false, eval (.Name "int" px) X.env) :: starEach [] X.env := by rfl) (hpl : (backTo pos (starEach [.Name "int" px] X.env)).any (·.1) = false := by rfl) : QE X (.Call (.Name "isinstance" p2) [a, .Name "int" px] [] pos) (qIsI X.K "int" ta) := q_isI B PyProof.Rows.boot_int B.int ha (hg := hg) (hgx := hgx) (he := he) (he2 := he2) (hpl := hpl)
theorem q_isinst_bool (B : Bt X.mg) (ha : QE X a ta) (hg : Gl X "isinstance" := by rfl) (hgx : Gl X "bool" := by rfl)
    (he : starEach [a, .Name "bool" px] X.env = (false, eval a X.env) :: starEach [.Name "bool" px] X.env := by rfl) (he2 : starEach [.Name "bool" px] X.env = (false, eval (.Name "bool" px) X.env) :: starEach [] X.env := by rfl) (hpl : (backTo pos (starEach [.Name "bool" px] X.env)).any (·.1) = false := by rfl) : QE X (.Call (.Name "isinstance" p2) [a, .Name "bool" px] [] pos) (qIsI X.K "bool" ta) := q_isI B PyProof.Rows.boot_bool B.bool ha (hg := hg) (hgx := hgx) (he := he) (he2 := he2) (hpl := hpl)
theorem q_isinst_tuple (B : Bt X.mg) (ha : QE X a ta) (hg : Gl X "isinstance" := by rfl) (hgx : Gl X "tuple" := by rfl)
    (he : starEach [a, .Name "tuple" px] X.env = (false, eval a X.env) :: starEach [.Name "tuple" px] X.env := by rfl) (he2 : starEach [.Name "tuple" px] X.env = (false, eval (.Name "tuple" px) X.env) :: starEach [] X.env := by rfl) (hpl : (backTo pos (starEach [.Name "tuple" px] X.env)).any (·.1) = false := by rfl) : QE X (.Call (.Name "isinstance" p2) [a, .Name "tuple" px] [] pos) (qIsI X.K "tuple" ta) := q_isI B PyProof.Rows.boot_tuple B.tuple ha (hg := hg) (hgx := hgx) (he := he) (he2 := he2) (hpl := hpl)
def rEqS (K : PySem.W.Frag) (n : Nat) (neg : Bool) : R2 := fun v w H Q => ∃ x y, Rep K (fun _ => True) H v x ∧ Rep K (fun _ => True) H w y ∧ ((∃ xs ys, x = .tup xs ∧ y = .tup ys) ∨ (∃ xs ys, x = .lst xs ∧ y = .lst ys) ∨ (∃ xs ys, x = .kt xs ∧ y = .kt ys)) ∧ okE (n + 1) x y = true ∧ Q (.bl (if neg = true then !eqP (n + 1) x y else eqP (n + 1) x y)) H
theorem eq_items {pins : List (Addr × Obj)} {σ : St} {H : Hp} {s : Shared} {M M' : Addr → Prop} (I : Inv X pins σ H s) {n : Nat} {A : Around} (hu : A.units + (n + 1) < cLine) {us ws : List V} {xs ys : List PV} {its its2 : List Value} (r1 : Reps X.K M H us xs) (r2 : Reps X.K M' H ws ys) (v1 : Vals us its) (v2 : Vals ws its2)
    (ok : ((xs.zip ys).all fun p => okE n p.1 p.2) = true) : ∀ j (h1 : j < its.toArray.size) (h2 : j < its2.toArray.size), SeqAt.EqAt A.in1 s its.toArray[j] its2.toArray[j] (eqP n (xs.getD j .non) (ys.getD j .non)) := by
  intro j h1 h2
  have l1 := v1.length
  have l2 := v2.length
  have m1 := r1.length
  have m2 := r2.length
  have k1 : j < its.length := by simpa using h1
  have k2 : j < its2.length := by simpa using h2
  have j1 : j < us.length := by omega
  have j2 : j < ws.length := by omega
  have i1 : j < xs.length := by omega
  have i2 : j < ys.length := by omega
  obtain ⟨u, hu', ru⟩ := v1.get (List.getElem?_eq_getElem j1)
  obtain ⟨u2, hu2', ru2⟩ := v2.get (List.getElem?_eq_getElem j2)
  obtain ⟨x, hx, rx⟩ := r1.get (List.getElem?_eq_getElem j1)
  obtain ⟨y, hy, ry⟩ := r2.get (List.getElem?_eq_getElem j2)
  have e1 : its.toArray[j] = u := by
    rw [List.getElem?_eq_getElem k1] at hu'
    simpa using hu'
  have e2 : its2.toArray[j] = u2 := by
    rw [List.getElem?_eq_getElem k2] at hu2'
    simpa using hu2'
  have ok' : okE n x y = true := by
    rw [List.all_eq_true] at ok
    have hz : j < (xs.zip ys).length := by simp; omega
    have := ok _ (List.getElem_mem hz)
    rw [List.getElem_zip] at this
    rw [List.getElem?_eq_getElem i1] at hx
    rw [List.getElem?_eq_getElem i2] at hy
    cases hx; cases hy
    exact this
  rw [e1, e2]
  have g1 : xs.getD j .non = x := by rw [List.getD_eq_getElem?_getD, hx]; rfl
  have g2 : ys.getD j .non = y := by rw [List.getD_eq_getElem?_getD, hy]; rfl
  rw [g1, g2]
  exact eqAt_rep I n (by show A.units + 1 + n < cLine; omega) rx ry ru ru2 ok'
theorem op_eqS (n : Nat) (hu : X.A.units + (n + 1) < cLine) : OpR X (compareOp .Eq) (rEqS X.K n false) := by
  intro pins s σ H v w a b Q I ra rb h
  obtain ⟨x, y, rx, ry, kd, o, q⟩ := h
  have hu0 : X.A.units < cLine := by omega
  rcases kd with ⟨xs, ys, rfl, rfl⟩ | ⟨xs, ys, rfl, rfl⟩ | ⟨xs, ys, rfl, rfl⟩
  · obtain ⟨p, us, rfl, h1, r1⟩ := rx.sqT
    obtain ⟨p2, ws, rfl, h2, r2⟩ := ry.sqT
    cases ra; cases rb
    obtain ⟨its, v1, p1, _⟩ := I.tuple (SqT.of (K := X.K) h1)
    obtain ⟨its2, v2, p2', _⟩ := I.tuple (SqT.of (K := X.K) h2)
    have l1 := v1.length
    have l2 := v2.length
    have m1 := r1.length
    have m2 := r2.length
    have := SeqAt.RcAt.tuples p1 p2' hu0 (eq_items I hu r1 r2 v1 v2 o)
    rw [List.size_toArray, List.size_toArray, ← l1, ← l2, m1, m2, all_range] at this
    exact this _ _ _ _ ⟨.bl _, H, I, rfl, q⟩
  · obtain ⟨p, us, rfl, _, h1, r1⟩ := rx.sqL
    obtain ⟨p2, ws, rfl, _, h2, r2⟩ := ry.sqL
    cases ra; cases rb
    obtain ⟨its, v1, p1, _⟩ := I.list (SqL.of (K := X.K) h1)
    obtain ⟨its2, v2, p2', _⟩ := I.list (SqL.of (K := X.K) h2)
    have l1 := v1.length
    have l2 := v2.length
    have m1 := r1.length
    have m2 := r2.length
    have q : Q (.bl ((xs.zip ys).all (fun p => eqP n p.1 p.2) && xs.length == ys.length)) H := q
    by_cases hl : xs.length = ys.length
    · have := SeqAt.RcAt.lists p1.isList p2'.isList (by rw [List.size_toArray, List.size_toArray]; omega) hu0 (eq_items I hu r1 r2 v1 v2 o)
      have hm : min xs.length ys.length = its.length := by omega
      rw [List.size_toArray, ← hm, all_range] at this
      rw [show (xs.length == ys.length) = true by simpa using hl, Bool.and_true] at q
      exact this _ _ _ _ ⟨.bl _, H, I, rfl, q⟩
    · have := SeqAt.RcAt.lists_lengths (A := X.A) p1.isList p2'.isList (by rw [List.size_toArray, List.size_toArray]; simp; omega) hu0
      rw [show (xs.length == ys.length) = false by simpa using hl, Bool.and_false] at q
      exact this _ _ _ _ ⟨.bl _, H, I, rfl, q⟩
  · obtain ⟨p, us, rfl, h1, r1⟩ := rx.kt_
    obtain ⟨p2, ws, rfl, h2, r2⟩ := ry.kt_
    cases ra; cases rb
    obtain ⟨its, v1, p1, _⟩ := I.tuple (.inr h1)
    obtain ⟨its2, v2, p2', _⟩ := I.tuple (.inr h2)
    have l1 := v1.length
    have l2 := v2.length
    have m1 := r1.length
    have m2 := r2.length
    have := SeqAt.RcAt.tuples p1 p2' hu0 (eq_items I hu r1 r2 v1 v2 o)
    rw [List.size_toArray, List.size_toArray, ← l1, ← l2, m1, m2, all_range] at this
    exact this _ _ _ _ ⟨.bl _, H, I, rfl, q⟩
theorem op_neS (n : Nat) (hu : X.A.units + (n + 1) < cLine) : OpR X (compareOp .NotEq) (rEqS X.K n true) := by
  intro pins s σ H v w a b Q I ra rb h
  obtain ⟨x, y, rx, ry, kd, o, q⟩ := h
  have hu0 : X.A.units < cLine := by omega
  rcases kd with ⟨xs, ys, rfl, rfl⟩ | ⟨xs, ys, rfl, rfl⟩ | ⟨xs, ys, rfl, rfl⟩
  · obtain ⟨p, us, rfl, h1, r1⟩ := rx.sqT
    obtain ⟨p2, ws, rfl, h2, r2⟩ := ry.sqT
    cases ra; cases rb
    obtain ⟨its, v1, p1, _⟩ := I.tuple (SqT.of (K := X.K) h1)
    obtain ⟨its2, v2, p2', _⟩ := I.tuple (SqT.of (K := X.K) h2)
    have l1 := v1.length
    have l2 := v2.length
    have m1 := r1.length
    have m2 := r2.length
    have := SeqAt.RcNeAt.tuples p1 p2' hu0 (eq_items I hu r1 r2 v1 v2 o)
    rw [List.size_toArray, List.size_toArray, ← l1, ← l2, m1, m2, all_range] at this
    exact this _ _ _ _ ⟨.bl _, H, I, rfl, q⟩
  · obtain ⟨p, us, rfl, _, h1, r1⟩ := rx.sqL
    obtain ⟨p2, ws, rfl, _, h2, r2⟩ := ry.sqL
    cases ra; cases rb
    obtain ⟨its, v1, p1, _⟩ := I.list (SqL.of (K := X.K) h1)
    obtain ⟨its2, v2, p2', _⟩ := I.list (SqL.of (K := X.K) h2)
    have l1 := v1.length
    have l2 := v2.length
    have m1 := r1.length
    have m2 := r2.length
    have q : Q (.bl (!((xs.zip ys).all (fun p => eqP n p.1 p.2) && xs.length == ys.length))) H := q
    by_cases hl : xs.length = ys.length
    · have := SeqAt.RcNeAt.lists p1.isList p2'.isList (by rw [List.size_toArray, List.size_toArray]; omega) hu0 (eq_items I hu r1 r2 v1 v2 o)
      have hm : min xs.length ys.length = its.length := by omega
      rw [List.size_toArray, ← hm, all_range] at this
      rw [show (xs.length == ys.length) = true by simpa using hl, Bool.and_true] at q
      exact this _ _ _ _ ⟨.bl _, H, I, rfl, q⟩
    · have := SeqAt.RcNeAt.lists_lengths (A := X.A) p1.isList p2'.isList (by rw [List.size_toArray, List.size_toArray]; simp; omega) hu0
      rw [show (xs.length == ys.length) = false by simpa using hl, Bool.and_false] at q
      exact this _ _ _ _ ⟨.bl _, H, I, rfl, q⟩
  · obtain ⟨p, us, rfl, h1, r1⟩ := rx.kt_
    obtain ⟨p2, ws, rfl, h2, r2⟩ := ry.kt_
    cases ra; cases rb
    obtain ⟨its, v1, p1, _⟩ := I.tuple (.inr h1)
    obtain ⟨its2, v2, p2', _⟩ := I.tuple (.inr h2)
    have l1 := v1.length
    have l2 := v2.length
    have m1 := r1.length
    have m2 := r2.length
    have := SeqAt.RcNeAt.tuples p1 p2' hu0 (eq_items I hu r1 r2 v1 v2 o)
    rw [List.size_toArray, List.size_toArray, ← l1, ← l2, m1, m2, all_range] at this
    exact this _ _ _ _ ⟨.bl _, H, I, rfl, q⟩
theorem cov_eqS {n : Nat} {neg : Bool} : Cov2 X (REqS n neg) (rEqS X.K n neg) := by
  rintro W Hs H u v x y g g' Q Q' s n r1 r2 ⟨kd, o, q⟩ k
  exact ⟨x, y, r1.same (Same.refl _) fun _ _ => trivial, r2.same (Same.refl _) fun _ _ => trivial, kd.elim .inl fun z => .inr (.inl z), o, k _ _ _ .fr (Same.refl _) (.bl _) q⟩
theorem t_neP (hu : X.A.units + 3 < cLine) (ha : QE X a ta) (hb : QE X b tb) : QT X (.Compare a [.NotEq] [b] pos) (qTest (q2 (REqS 2 true) ta tb)) := t_cmp (op_neS 2 hu) cov_eqS ha hb (nomark _)
end
end PP
namespace PP
open PySem L2 PyProof.Rows
def LO (X : Cx) (t : PTO) : TO := fun σ H Q' => ∃ (W : Addr → Prop) (ρ : PEnv) (Q : Option Int → Prop), PX X.K X.H₀ W σ ρ H ∧ t ρ Q ∧ ∀ o H', Same H H' → Q o → Q' o H'
def QO (X : Cx) (e : Option Expr) (t : PTO) : Prop := PO X e (LO X t)
theorem Reps.cut {K : PySem.W.Frag} {M : Addr → Prop} {H : Hp} {us : List V} {xs : List PV} (r : Reps K M H us xs) (lo hi : Option Int) : Reps K M H (cutV us lo hi) (cutP xs lo hi) := by
  unfold cutV cutP
  rw [r.length]
  exact (r.drop _).take _
section
variable {X : Cx} {a b c e o : Expr} {es rest : List Expr} {ta tb te to tk : PTE} {tr : PTA} {tA tB' tc : PTT} {pos p2 px : Pos} {st : Stmt} {sts : List Stmt} {t u : PTS}
theorem o_none : QO X none qOn := fun pins s σ H Q I h => po_none pins s σ H Q I (by
  obtain ⟨W, ρ, Q1, px, q, k⟩ := h
  exact k _ _ (Same.refl _) q)
theorem o_some (h : QE X e te) : QO X (some e) (qOs te) := fun pins s σ H Q I hq => po_some h pins s σ H Q I (by
  obtain ⟨W, ρ, Q1, px, q, k⟩ := hq
  refine ⟨W, ρ, _, px, q, ?_⟩
  rintro v H1 x g s r ⟨i, rfl, q⟩
  cases r
  exact ⟨i, rfl, k _ _ s q⟩)
theorem q_slice {lo hi : Option Expr} {tl th : PTO} {sp : Pos} (he : QE X e te) (hl : QO X lo tl) (hh : QO X hi th) : QE X (.Subscript e (.Slice lo hi none sp) pos) (qSl te tl th) := peI (pe_slice (sl_list.or sl_tupA) he hl hh) fun σ H Q' h => by
  obtain ⟨W, ρ, Q, px, q, k⟩ := h
  refine ⟨W, ρ, _, px, q, fun v H1 x g s1 r1 q1 => ⟨W, ρ, _, px.mono s1, q1, fun lo H2 s2 q2 => ⟨W, ρ, _, px.mono (s1.trans s2), q2, ?_⟩⟩⟩
  rintro hi H3 s3 ⟨xs, e, f, q3⟩
  have S := (s1.trans s2).trans s3
  have r3 := r1.same (M' := Mg X.H₀ W H g) (s2.trans s3) fun _ z => z
  cases r3 with
  | tup h r =>
    cases e
    refine .inr ⟨_, _, rfl, SqT.of h, fun p hp => k _ _ _ .fr (S.trans (same_new hp _)) (.tup upd_same (((r.flat f).cut lo hi).same (same_new hp _) fun _ z => z)) q3, fun ec => k _ _ _ .fr S (.tup h ?_) q3⟩
    have := (r.flat (M' := Mg X.H₀ W H .fr) f).cut lo hi
    rw [ec] at this
    exact this
  | lst m h r =>
    cases e
    exact .inl ⟨_, _, rfl, SqL.of h, fun p hp => k _ _ _ .fr (S.trans (same_new hp _)) (.lst (S.free hp) upd_same (((r.flat f).cut lo hi).same (same_new hp _) fun _ z => z)) q3⟩
  | scr h =>
    cases e
    exact .inl ⟨_, _, rfl, h.sqL, fun p hp => k _ _ _ .fr (S.trans (same_new hp _)) (.lst (S.free hp) upd_same (((Reps.intz _).cut lo hi).same (same_new hp _) fun _ z => z)) q3⟩
  | _ => cases e
structure Df (P : Program) (w : World) (K : PySem.W.Frag) (mg : Str → Option Value) (base : Heap) (k : Nat) (x : Str) (ps : List Str) (p : PSp) : Prop where
  ex : ∃ f fd, FnOk P w K mg base CX0 k f fd ps (spP K p) ∧ Binds K fd ps [] ∧ PySem.W.keepIn K (.ref f) = true ∧ mg x = some (.ref f)
theorem q_call {k j : Nat} {x : Str} {ps : List Str} {p : PSp} (d : Df X.prog X.w X.K X.mg X.base k x ps p) (hr : Room j X.A) (ha : QA X (e :: es) tr) (hkj : k ≤ j := by decide) (hg : Gl X x := by rfl) (hdb : (x == ("__debug__" : Str)) = false := by decide)
    (he : starEach (e :: es) X.env = (false, eval e X.env) :: starEach es X.env := by rfl) (hpl : (backTo pos (starEach es X.env)).any (·.1) = false := by rfl) : QE X (.Call (.Name x p2) (e :: es) [] pos) (qCall p tr) := by
  obtain ⟨f, fd, F, b, kp, m⟩ := d.ex
  exact peI (pe_call F (hr.mono hkj) hg m kp b .nil pass0 ha hdb he hpl) fun _ _ _ => le_fn
theorem startP_px {K : PySem.W.Frag} {H : Hp} {N : List Str} {vs : List V} {xs : List PV} (r : Reps K (fun _ => True) H vs xs) : PX K H (fun _ => False) (L2.start N vs) (startP N xs) H := by
  have lr := r.length
  have own : ∀ {i : Nat} {m : Slot}, (startP N xs)[i]? = some (some m) → ∃ x, xs[i]? = some x ∧ m = .sh (flat x) x := fun {i m} h => by
    unfold startP at h
    by_cases hi : i < xs.length
    · rw [List.getElem?_append_left (by simpa using hi), List.getElem?_map] at h
      rw [List.getElem?_eq_getElem hi] at h ⊢
      cases h
      exact ⟨_, rfl, rfl⟩
    · rw [List.getElem?_append_right (by simpa using hi), List.getElem?_replicate] at h
      split at h <;> cases h
  refine ⟨by unfold L2.start startP; simp [lr], Same.refl _, fun a z => z.elim, fun i m h => ?_, fun i j x y a h1 => ?_⟩
  · obtain ⟨x, hx, rfl⟩ := own h
    obtain ⟨v, hv, rx⟩ := r.at hx
    refine ⟨v, ?_, or_rep (g := false) (rx.same (Same.refl _) fun _ _ z => z)⟩
    have hi : i < vs.length := (List.getElem?_eq_some_iff.mp hv).1
    unfold L2.start
    rw [List.getElem?_append_left (by simpa using hi), List.getElem?_map, hv]; rfl
  · obtain ⟨x, _, e⟩ := own h1
    cases e
theorem Df.of {P : Program} {w : World} {K : PySem.W.Frag} {mg : Str → Option Value} {base : Heap} {k : Nat} {x : Str} {ps N : List Str} {p : PSp} {st : Stmt} {f : Addr} {fd : FuncData} (F : Fun K x x st f fd) (m : mg x = some (.ref f)) (S : FnScope N ps (defScope st))
    (hb : ∀ (kV doc pm : Value) (an : Option Addr) (cdv ct : Value) (us : List Value), us.length = ps.length → bindArgs (PySem.W.fnOf x x (defArgs st) (defBody st) (defScope st) .none kV doc pm an cdv ct) ⟨us, []⟩ = pure (ps.zip us))
    (len : ∀ xs Q, p xs Q → xs.length = ps.length)
    (body : ∀ (cdv : Value) (A : Around) (outer : List Env) (s : Shared) (H : Hp) (E : XK), Room k (A.deeper (envOfC x (defScope st) s.heap.objs.size f cdv)) →
      ∃ t, QSs (cxOf CX0 P w K mg base N x (defScope st) f cdv A outer s H E).nox (defBody st) t ∧ ∀ xs Q, p xs Q → t { nx := fun _ => Q .non, rt := Q } (startP N xs)) : Df P w K mg base (k + 1) x ps p := by
  refine ⟨f, fd, F.ok S (fun vs H Q E h => ?_) (fun cdv A outer s H vs Q E hr h => ?_), F.binds hb, F.kp, m⟩
  · obtain ⟨xs, Qp, r, q, _⟩ := h
    rw [r.length]; exact len xs Qp q
  · obtain ⟨xs, Qp, r, q, k⟩ := h
    obtain ⟨t, ht, hq⟩ := body cdv A outer s H E hr
    refine ⟨_, ht, fun _ => False, startP N xs, _, startP_px r, hq xs Qp q, ?_, ?_, ?_, ?_⟩
    · exact fun W' σ' H' ρ' e px q => k _ _ _ px.same .non q
    · exact fun v H' x s r q => k _ _ _ s r q
    · exact fun W' σ' H' ρ' e px q => q
    · exact fun W' σ' H' ρ' e px q => q
theorem s_for1 (i : Nat) {x : Str} {tp : Pos} {body : List Stmt} {ti : PTI} (hN : X.N.Nodup) (hi : QI X (.Name x tp) e ti) (hb : QSs X body t) (hx : X.N[i]? = some x := by rfl) (hl : Loc X.env.scope x := by first | exact Or.inl rfl | exact Or.inr rfl) (hf : X.fn x = true ∨ X.env.scope.names.lookup x = some .local := by first | exact .inl rfl | exact .inr rfl)
    (hp : PassesOwn (model X.prog X.w) X.A X.env X.xe := by exact PassesOwn.never) (hc : X.calm = true := by rfl) (hs : ∀ x, foldedSetIterable e X.env x = pure x := by intro _; rfl) : QS X (.For (.Name x tp) e body [] pos) (qFor ti (pName i) t) :=
  s_for hp hc hi (pg_name hN hx hl hf) (tg_name _ i) hb hs
abbrev nxx : Value → Shared → Prop := fun _ _ => False
section
variable {scope : Scope} {N : List Str} {fr : List (Option Nat)} {x y : Str} {tp xp yp : Pos} {kt : Nat} {iter elt : Expr} {ti : PTI}
theorem blk1 {ifs : List Expr} {tcs : PTT} (he : ∀ (s : Shared) (H : Hp) (C : Addr) (fp : List Addr), QE (cxC X scope N s H C fp nxx) elt te) (hi : ∀ (s : Shared) (H : Hp) (C : Addr) (fp : List Addr), PTs (cxC X scope N s H C fp nxx) ifs (LT (cxC X scope N s H C fp nxx) tcs))
    (hN : N.Nodup) (h0 : N[0]? = some x) (hl : ∀ (s : Shared) (H : Hp) (C : Addr) (fp : List Addr), (cxC X scope N s H C fp nxx).env.scope.names.lookup x = some .local) (s : Shared) (H : Hp) :
    BlkAt X scope N (.Name x tp) ifs elt s H (gName 0) (LT (X.frm H) tcs) (LE (X.frm H) te) :=
  ⟨fun C fp => pg_name (X := cxC X scope N s H C fp nxx) hN h0 (.inl (hl s H C fp)) (.inr (hl s H C fp)), fun C fp => hi s H C fp, fun C fp => he s H C fp⟩
theorem ptsI {Y : Cx} : PTs Y [] (LT Y qYes) := fun pins s σ H Q I h => pts_nil pins s σ H Q I (lt_yes h)
theorem q_comp1 (hi : QI X (.Name x tp) iter ti) (he : ∀ (s : Shared) (H : Hp) (C : Addr) (fp : List Addr), QE (cxC X scope N s H C fp nxx) elt te)
    (hc : X.calm = true := by rfl) (S : CoScope X scope N fr := by exact CoScope.of rfl rfl) (hN : N.Nodup := by decide +kernel) (h0 : N[0]? = some x := by rfl) (hl : ∀ (s : Shared) (H : Hp) (C : Addr) (fp : List Addr), (cxC X scope N s H C fp nxx).env.scope.names.lookup x = some .local := by intro _ _ _ _; rfl) (hf : fr[0]? = some none := by rfl)
    (hs : ∀ x, foldedSetIterable iter X.env x = pure x := by intro _; rfl) : QE X (.ListComp elt [⟨.Name x tp, iter, [], 0⟩] scope pos) (qComp ti fr (pName 0) qYes te) :=
  peI (pe_compH (gh := fun _ => gName 0) (tch := fun H => LT (X.frm H) qYes) (teh := fun H => LE (X.frm H) te) hc S hi (blk1 he (fun _ _ _ _ => ptsI) hN h0 hl) hs) fun _ _ _ => le_comp (tg_name _ 0) (fun i e => by subst e; exact hf)
theorem s_setC1i {c : Expr} {tcs : PTT} {i : Nat} {z : Str} {zp : Pos} (nd : X.N.Nodup) (hi : QI X (.Name x tp) iter ti) (ht : ∀ (s : Shared) (H : Hp) (C : Addr) (fp : List Addr), QT (cxC X scope N s H C fp nxx) c tcs) (he : ∀ (s : Shared) (H : Hp) (C : Addr) (fp : List Addr), QE (cxC X scope N s H C fp nxx) elt te)
    (hz : X.N[i]? = some z := by rfl) (hzl : X.env.scope.names.lookup z = some .local := by rfl) (hsw : swapsWith (.ListComp elt [⟨.Name x tp, iter, [c], 0⟩] scope p2) (some (.Name z zp)) pos.line X.env = pure true := by rfl)
    (hc : X.calm = true := by rfl) (S : CoScope X scope N fr := by exact CoScope.of rfl rfl) (hN : N.Nodup := by decide +kernel) (h0 : N[0]? = some x := by rfl) (hl : ∀ (s : Shared) (H : Hp) (C : Addr) (fp : List Addr), (cxC X scope N s H C fp nxx).env.scope.names.lookup x = some .local := by intro _ _ _ _; rfl) (hf : fr[0]? = some none := by rfl)
    (hs : ∀ x, foldedSetIterable iter X.env x = pure x := by intro _; rfl) : QS X (.Assign [.Name z zp] (.ListComp elt [⟨.Name x tp, iter, [c], 0⟩] scope p2) pos) (qSet i (qComp ti fr (pName 0) tcs te)) :=
  psI (ps_setCH (gh := fun _ => gName 0) (tch := fun H => LT (X.frm H) tcs) (teh := fun H => LE (X.frm H) te) hc S hi (blk1 he (fun s H C fp => pts_one (ht s H C fp)) hN h0 hl) nd hz hzl hsw hs) fun D σ H h => le_comp (tg_name _ 0) (fun i e => by subst e; exact hf) (ls_set h)
end
end
end PP
namespace L2
open PySem PySem.Spec PyProof.Rows
theorem ObjOk.at {P : Program} {w : World} {H : Hp} {h : Heap} {a : Addr} {o : HO} (x : ObjOk P w H h a o) : ∃ ob, h.get? a = some ob := by
  cases o with
  | lst xs => obtain ⟨_, _, _, _, e⟩ := x; exact ⟨_, e⟩
  | tup xs => obtain ⟨_, _, _, _, e, _⟩ := x; exact ⟨_, e⟩
  | dK kvs => obtain ⟨_, _, _, _, _, _, _, e, _⟩ := x; exact ⟨_, e⟩
  | dT kvs => obtain ⟨_, _, _, _, _, _, _, e, _⟩ := x; exact ⟨_, e⟩
  | set S n => obtain ⟨_, _, _, _, e, _⟩ := x; exact ⟨_, e⟩
  | ins C dx fs => obtain ⟨_, _, _, e, _⟩ := x; exact ⟨_, e⟩
  | own y => exact x
  | xd fs => obtain ⟨_, ⟨_, _, _, e, _⟩, _⟩ := x; exact ⟨_, e⟩
  | rng lo hi => obtain ⟨_, _, _, e⟩ := x; exact ⟨_, e⟩
  | frz ob u => obtain ⟨e, _⟩ := x; exact ⟨_, e⟩
  | tbl ps => exact ⟨_, x⟩
  | met f y => exact ⟨_, x⟩
  | ext φ => exact x.2.1
structure Fly (P : Program) (w : World) (outer : List Env) (H : Hp) (s : Shared) (H' : Hp) (B : Heap) (a C : Addr) (s' : Shared) : Prop where
  os : s'.os = s.os
  bare : AllBare s'.gens
  un : Un (frs outer) [] H H' s.heap s'.heap
  hok : HOk P w H' s'.heap
  fly : ∃ a0, Heap.FlyingW B outer a (.ref C) a0 s'.heap
  b0 : ∀ b o, s.heap.get? b = some o → b ∉ frs outer → ∃ o', B.get? b = some o'
  b1 : ∀ b o, s.heap.get? b = some o → H b = none → b ∉ frs outer → B.get? b = some o
  b2 : ∀ b u o, H' b = some u → s'.heap.get? b = some o → B.get? b = some o
def CXE (P : Program) (w : World) : CXT := fun outer H s E e s' => ∃ (H' : Hp) (B : Heap) (a C : Addr), e = .ref a ∧ Fly P w outer H s H' B a C s' ∧ E (.ref C) none H'
section
variable {P : Program} {w : World} {outer : List Env} {H H' : Hp} {s s' : Shared} {B h2 : Heap} {a C : Addr}
theorem Fly.fresh (f : Fly P w outer H s H' B a C s') : H' a = none := by
  cases q : H' a with
  | none => rfl
  | some u =>
    obtain ⟨ob, e⟩ := (f.hok a u q).at
    have z := f.b2 a u ob q e
    obtain ⟨_, _, n, _⟩ := f.fly
    rw [n] at z; cases z
theorem Fly.hok2 (f : Fly P w outer H s H' B a C s') (k : B.StaysIn h2) : HOk P w H' h2 := fun b u e =>
  (f.hok b u e).stay (fun c v hc q => by
    rcases hc with z | z
    · subst z; exact k _ _ (f.b2 _ _ _ e q)
    · exact k _ _ (f.b2 _ _ _ z q)) (fun _ q => q) fun _ _ q => q
end
section
variable {P : Program} {w : World} {K : PySem.W.Frag} {mg : Str → Option Value} {base : Heap} {N : List Str} {qual : Str} {scope : Scope} {f : Addr} {cd : Value} {A : Around} {outer : List Env} {s₀ : Shared} {H₀ : Hp} {E₀ E₁ : XK}
theorem offStk {pins : List (Addr × Obj)} {σ : St} {H : Hp} {s : Shared} (I : Inv (cxOf (CXE P w) P w K mg base N qual scope f cd A outer s₀ H₀ E₀) pins σ H s) {b : Addr} {o : Obj} (e : s₀.heap.get? b = some o) (n : b ∉ frs outer) :
    b ∉ frs (envOfC qual scope s₀.heap.objs.size f cd :: outer) := fun z => by
  rcases List.mem_cons.mp (I.stkSub b z) with y | y
  · have l := Heap.lt_size e
    have y : b = s₀.heap.objs.size := y
    exact absurd l (by rw [y]; exact Nat.lt_irrefl _)
  · exact n y
theorem passes_x (hE : ∀ c d H', E₁ c d H' → E₀ c d H') : Passes (CXE P w) (cxOf (CXE P w) P w K mg base N qual scope f cd A outer s₀ H₀ E₀) E₁ := by
  intro pins σ H s e s' I hx
  obtain ⟨H', B, a, C, e1, fl, q⟩ := hx
  subst e1
  have I' := I.call' fl.os fl.un fl.hok fl.bare (ch := []) (fun b z => absurd z (by simp))
  obtain ⟨a0, fly⟩ := fl.fly
  refine wpAny_leaves_onW I.ok.frames rfl fly fun h' fly' up => ?_
  have slot : ∀ b o, s₀.heap.get? b = some o → b ∈ frs outer → ∃ sl, h'.get? b = some { o with slots := sl } := fun b o e hb => by
    obtain ⟨sl, e1⟩ := I'.base.slot b o e (I.ok.frf b hb) hb (fun z => nomatch z)
    obtain ⟨_, o2, e2, nf⟩ := I.ok.funs.mem hb
    rw [show (cxOf (CXE P w) P w K mg base N qual scope f cd A outer s₀ H₀ E₀).s₀ = s₀ from rfl, e] at e2
    cases e2
    obtain ⟨sl', e3⟩ := up b _ e1 nf
    exact ⟨sl', e3⟩
  have old : ∀ b o, s₀.heap.get? b = some o → H₀ b = none → b ∉ frs outer → B.get? b = some o := fun b o e n hb =>
    fl.b1 b o (I.base.keep b o e n hb (fun z => nomatch z)) (I.base.free b o e n (fun z => nomatch z)) (offStk I e hb)
  have old0 : ∀ b o, s₀.heap.get? b = some o → b ∉ frs outer → ∃ o', B.get? b = some o' := fun b o e hb => by
    obtain ⟨o1, e1⟩ := I.base.there b o e (fun z => nomatch z)
    exact fl.b0 b o1 e1 (offStk I e hb)
  refine ⟨H', B, a, C, rfl, ⟨I'.os, I'.bare, ⟨fun b o e n hb _ => fly'.1 _ _ (old b o e n hb), fun b o e n hb _ => slot b o e hb, fun b o e n hx => I'.base.free b o e n hx, fun b o e _ => ?_, I'.base.tups, I'.base.frzs, I'.base.tbls⟩, fl.hok2 fly'.1, ⟨a0, fly'⟩, old0, old, fun b u o e h => ?_⟩, hE _ _ _ q⟩
  · by_cases hb : b ∈ frs outer
    · obtain ⟨sl, e1⟩ := slot b o e hb
      exact ⟨_, e1⟩
    · obtain ⟨o', e1⟩ := old0 b o e hb
      exact ⟨o', fly'.1 _ _ e1⟩
  · obtain ⟨ob, e1⟩ := (fl.hok b u e).at
    have e2 := fl.b2 b u ob e e1
    have e3 := fly'.1 _ _ e2
    have h : h'.get? b = some o := h
    rw [h] at e3; cases e3; exact e2
theorem raised_x {pins : List (Addr × Obj)} {σ : St} {H : Hp} {s : Shared} {h' : Heap} {e C : Addr} {args : List Value} (I : Inv (cxOf (CXE P w) P w K mg base N qual scope f cd A outer s₀ H₀ E₀) pins σ H s) (mx : Heap.MadeExcOf s.heap h' e (.ref C) args) (q : E₀ (.ref C) none H) :
    (cxOf (CXE P w) P w K mg base N qual scope f cd A outer s₀ H₀ E₀).xe (.ref e) { s with heap := h' } := by
  have tr : ∀ b u, H b = some u → b ∉ frs (envOfC qual scope s₀.heap.objs.size f cd :: outer) := fun b u z n => by
    rw [I.stkFree b n] at z; cases z
  have inB : ∀ b o, s.heap.get? b = some o → b ∉ frs (envOfC qual scope s₀.heap.objs.size f cd :: outer) → (PySem.W.hideAll s.heap (frs (envOfC qual scope s₀.heap.objs.size f cd :: outer))).get? b = some o := fun b o z n => PySem.W.hideAll_get _ z n
  refine wpAny_leaves_madeW (base := PySem.W.hideAll s.heap (frs (envOfC qual scope s₀.heap.objs.size f cd :: outer))) I.ok.frames rfl (fun b o z => PySem.W.of_hideAll _ z) (PySem.W.funFrames_hide I.stack fun env he b hb => List.mem_filterMap.mpr ⟨env, he, hb⟩) mx fun h'' t fly _ _ up => ?_
  have slot : ∀ b o, s₀.heap.get? b = some o → b ∈ frs outer → ∃ sl, h''.get? b = some { o with slots := sl } := fun b o e hb => by
    obtain ⟨sl, e1⟩ := I.base.slot b o e (I.ok.frf b hb) hb (fun z => nomatch z)
    obtain ⟨_, o2, e2, nf⟩ := I.ok.funs.mem hb
    rw [show (cxOf (CXE P w) P w K mg base N qual scope f cd A outer s₀ H₀ E₀).s₀ = s₀ from rfl, e] at e2
    cases e2
    obtain ⟨sl', e3⟩ := up b _ (mx.keeps _ _ e1) nf
    exact ⟨sl', e3⟩
  have old : ∀ b o, s₀.heap.get? b = some o → H₀ b = none → b ∉ frs outer → (PySem.W.hideAll s.heap (frs (envOfC qual scope s₀.heap.objs.size f cd :: outer))).get? b = some o := fun b o e n hb =>
    inB b o (I.base.keep b o e n hb (fun z => nomatch z)) (offStk I e hb)
  have old0 : ∀ b o, s₀.heap.get? b = some o → b ∉ frs outer → ∃ o', (PySem.W.hideAll s.heap (frs (envOfC qual scope s₀.heap.objs.size f cd :: outer))).get? b = some o' := fun b o e hb => by
    obtain ⟨o1, e1⟩ := I.base.there b o e (fun z => nomatch z)
    exact ⟨o1, inB b o1 e1 (offStk I e hb)⟩
  refine ⟨H, _, e, C, rfl, ⟨I.os, I.bare, ⟨fun b o e n hb _ => fly.1 _ _ (old b o e n hb), fun b o e n hb _ => slot b o e hb, fun b o e n hx => I.base.free b o e n hx, fun b o e _ => ?_, I.base.tups, I.base.frzs, I.base.tbls⟩, fun b u z => ?_, ⟨_, fly⟩, old0, old, fun b u o z h => ?_⟩, q⟩
  · by_cases hb : b ∈ frs outer
    · obtain ⟨sl, e1⟩ := slot b o e hb
      exact ⟨_, e1⟩
    · obtain ⟨o', e1⟩ := old0 b o e hb
      exact ⟨o', fly.1 _ _ e1⟩
  · refine (I.hok b u z).stay (fun c v hc y => ?_) (fun _ y => y) fun _ _ y => y
    rcases hc with z' | z'
    · subst z'; exact fly.1 _ _ (inB _ _ y (tr _ _ z))
    · exact fly.1 _ _ (inB _ _ y (tr _ _ z'))
  · obtain ⟨ob, e1⟩ := (I.hok b u z).at
    have e2 := inB b ob e1 (tr b u z)
    have e3 := fly.1 _ _ e2
    have h : h''.get? b = some o := h
    rw [h] at e3; cases e3; exact e2
end
structure XOk (X : Cx) (E : XK) : Prop where
  pass : Passes (CXE X.prog X.w) X E
  made : ∀ (pins : List (Addr × Obj)) (σ : St) (H : Hp) (s : Shared) (h' : Heap) (e C : Addr) (args : List Value), Inv X pins σ H s → Heap.MadeExcOf s.heap h' e (.ref C) args → E (.ref C) none H → X.xe (.ref e) { s with heap := h' }
  own : PassesOwn (model X.prog X.w) X.A X.env X.xe
theorem xok_of {P : Program} {w : World} {K : PySem.W.Frag} {mg : Str → Option Value} {base : Heap} {N : List Str} {qual : Str} {scope : Scope} {f : Addr} {cd : Value} {A : Around} {outer : List Env} {s₀ : Shared} {H₀ : Hp} {E₀ E₁ : XK} (hE : ∀ c d H', E₁ c d H' → E₀ c d H') :
    XOk (cxOf (CXE P w) P w K mg base N qual scope f cd A outer s₀ H₀ E₀) E₁ :=
  ⟨passes_x hE, fun _ _ _ _ _ _ _ _ I mx q => raised_x I mx (hE _ _ _ q), PassesOwn.leaving⟩
def tRaise (E : XK) (C : Addr) (t : TA) : TS := fun _ σ H => t σ H fun vs H1 => vs.length ≤ sizeLine ∧ E (.ref C) none H1
theorem ps_raise {X : Cx} {E : XK} {x : Str} {C : Addr} {bm : List Value} {B newId initId : String} {np cpos pos : Pos} {e : Expr} {es : List Expr} {t : TA} (hX : XOk X E) (hc : X.calm = true) (O : OwnCls x C bm newId X.mg X.base) (FB : ExcBaseFacts B newId initId bm) (ha : PA X (e :: es) t) (hg : Gl X x)
    (hd : (x == ("__debug__" : Str)) = false := by decide) (he : starEach (e :: es) X.env = (false, eval e X.env) :: starEach es X.env := by rfl) (hpl : (backTo cpos (starEach es X.env)).any (·.1) = false := by rfl) :
    PS X (.Raise (some (.Call (.Name x np) (e :: es) [] cpos)) none pos) (tRaise E C t) := by
  intro pins s σ H D I h
  obtain ⟨tl, Na, nm, qn, bs, hx, sn, sub, ab, col, dd, k0, k1, k2, k3, k5, mN, hC, hN, hni, T⟩ := O.obj
  refine wpAny_Raise_call_subT (nm := nm) (q := qn) (N := Na) (bs := bs) (bm := tl) (hdct := hx) (sn := sn) (sub := sub) (ab := ab) (col := col) (dd := dd) (k0 := k0) (k1 := k1) (k2 := k2) (k3 := k3) (k5 := k5) FB (C := C) (mN := mN) (T.hasType FB.hasBase) (I.ok.hd hc) (by rw [he]; show (false || (backTo cpos (starEach es X.env)).any (·.1)) = false; rw [hpl]; rfl) hni (ld_glob I hg O.bound ⟨rfl, ?_⟩ hd)
  have h1 := ha cpos pins s σ H _ I h
  rw [he] at h1 ⊢
  refine Calls.evalArgs_plain (wpAny_mono h1 (fun us s2 h2 => ?_) fun _ _ y => y)
  obtain ⟨vs, H2, I2, r, hl, q⟩ := h2
  have r : Vals vs us := r
  exact ⟨rfl, by show us.length ≤ sizeLine; rw [← r.length]; exact hl, I2.bk _ _ hC, hN.keeps I2.bk, T.keeps I2.bk, fun h' e' mx => hX.made pins σ H2 s2 h' e' C _ I2 mx q⟩
theorem Fun.okX {P : Program} {w : World} {K : PySem.W.Frag} {mg : Str → Option Value} {base : Heap} {x qual : Str} {st : Stmt} {f : Addr} {fd : FuncData} {N ps : List Str} {k : Nat} {sp : Sp} (F : Fun K x qual st f fd) (S : FnScope N ps (defScope st)) (len : ∀ vs H Q E, sp vs H Q E → vs.length = ps.length)
    (hbody : ∀ (cdv : Value) (A : Around) (outer : List Env) (s : Shared) (H : Hp) (vs : List V) (Q : VK) (E : XK), Room k (A.deeper (envOfC qual (defScope st) s.heap.objs.size f cdv)) → sp vs H Q E →
      ∃ t, PSs (cxOf (CXE P w) P w K mg base N qual (defScope st) f cdv A outer s H E) (defBody st) t ∧ t { nx := fun _ H' => Q .non H', rt := Q } (start N vs) H) : FnOk P w K mg base (CXE P w) (k + 1) f fd ps sp := by
  obtain ⟨oc, od, kV, doc, pm, an, cdv, ct, osl, rfl, lk, hcd⟩ := F.ex
  exact fn_of lk hcd S len fun A outer s H vs Q E hr hsp => hbody cdv A outer s H vs Q E hr hsp
end L2
namespace L2
open PySem PySem.Spec PyProof.Rows
section
variable {X : Cx} {pins : List (Addr × Obj)} {σ : St} {H H1 H' : Hp} {s s1 s' : Shared} {B h2 : Heap} {a C : Addr}
theorem landed {oe : Obj} (I : Inv X pins σ H1 s1) (fl : Fly X.prog X.w X.stack H1 s1 H' B a C s') (st : B.StaysIn h2) (up : s'.heap.UpToSlots h2) (he : h2.get? a = some oe) :
    Inv X pins σ (upd H' a (.frz oe (.own a))) { s' with heap := h2 } := by
  obtain ⟨a0, fly⟩ := fl.fly
  have na : B.get? a = none := fly.2.1
  have nf : a ∉ frs X.stack := fun z => by
    obtain ⟨_, o, e, d⟩ := fly.2.2.1.mem z
    obtain ⟨o2, vs, e2, _, d2, _⟩ := fly.first
    rw [e] at e2; cases e2
    exact d vs d2
  have nb : ∀ b o, s1.heap.get? b = some o → b ≠ a := fun b o e z => by
    subst z
    obtain ⟨o', e'⟩ := fl.b0 _ o e nf
    rw [na] at e'; cases e'
  have nt : ∀ b u, H' b = some u → b ≠ a := fun b u e z => by
    subst z; rw [fl.fresh] at e; cases e
  have off : ∀ b, b ≠ X.env.locals → b ∉ X.fs → b ∉ frs X.stack := fun b n1 n2 z => (List.mem_cons.mp (I.stkSub b z)).elim n1 n2
  have slot : ∀ b o, s1.heap.get? b = some o → b ∈ frs X.stack → ∃ sl, h2.get? b = some { o with slots := sl } := fun b o e hb => by
    obtain ⟨sl, e1⟩ := fl.un.any e (I.stkFree b hb) (fun z => nomatch z)
    obtain ⟨_, o2, e2, d⟩ := I.stack.mem hb
    rw [e] at e2; cases e2
    obtain ⟨sl', e3⟩ := up b _ e1 d
    exact ⟨sl', e3⟩
  have ns : ∀ m, s1.heap.Ns X.env.locals m → h2.Ns X.env.locals m := fun m hm => by
    obtain ⟨o, es, ep, e, r⟩ := hm
    obtain ⟨sl, e1⟩ := fl.un.any e I.free (fun z => nomatch z)
    exact up.ns ⟨_, es, ep, e1, r⟩
  have hok : HOk X.prog X.w (upd H' a (.frz oe (.own a))) h2 := fun b u e => by
    by_cases hb : b = a
    · subst hb; rw [upd_same] at e; cases e; exact ⟨he, _, he⟩
    · rw [upd_ne hb] at e
      exact (fl.hok2 st b u e).stay (fun _ _ _ q => q) (fun c q => by rw [upd_ne (nt c _ q)]; exact q) fun c xs q => by rw [upd_ne (nt c _ q)]; exact q
  have bare := fl.bare
  have un := fl.un
  have b0 := fl.b0
  have b1 := fl.b1
  have os := fl.os
  clear fl fly up
  obtain ⟨hh, g, d, t, os'⟩ := s'
  obtain rfl : os' = s1.os := os
  show Inv X pins σ _ { s1 with heap := h2, gens := g, drawn := d, toks := t }
  refine I.step (h' := h2) (g' := g) (d' := d) (t' := t) (ch := []) (fun _ z => nomatch z) (fun b o n1 n2 _ e n => st _ _ (b1 b o e n (off b n1 n2))) (fun b o n1 hb _ e n => ?_) (fun b o _ e n => by rw [upd_ne (nb b o e)]; exact un.free b o e n (fun z => nomatch z)) (fun b o _ e => ?_)
    (fun b xs q => by rw [upd_ne (nt b _ (un.tups b xs q))]; exact un.tups b xs q) (fun b o u q => by rw [upd_ne (nt b _ (un.frzs b o u q))]; exact un.frzs b o u q) (fun b ps q => by
      obtain ⟨more, q'⟩ := un.tbls b ps q
      exact ⟨more, by rw [upd_ne (nt b _ q')]; exact q'⟩) ns hok bare
  · by_cases hs : b ∈ frs X.stack
    · exact slot b o e hs
    · exact ⟨o.slots, st _ _ (b1 b o e n hs)⟩
  · by_cases hb : b ∈ frs X.stack
    · obtain ⟨sl, e1⟩ := slot b o e hb
      exact ⟨_, e1⟩
    · obtain ⟨o', e1⟩ := b0 b o e hb
      exact ⟨o', st _ _ e1⟩
abbrev Cx.suite (X : Cx) (a : Addr) : Cx := { X with A := X.A.mark (some (.ref a)), calm := false, xe := fun _ _ => False }
theorem Cx.Ok.suite {X : Cx} (ok : X.Ok) (a : Addr) : (X.suite a).Ok :=
  ⟨ok.mod, ok.kind, ok.glob, ok.blt, ok.above, ok.inj, ok.has, ok.cab, fun z => Bool.noConfusion z, ok.frames, ok.stk, ok.exf, ok.bs, ok.bsz, ok.noex, ok.exfs, ok.funs, ok.frf⟩
theorem Inv.suite (I : Inv X pins σ H s) (a : Addr) : Inv (X.suite a) pins σ H s := ⟨I.ok.suite a, I.os, I.bare, I.base, I.loc, I.cell, I.free, I.freeC, I.pin, I.hok, I.len⟩
theorem Inv.unsuite (I : Inv (X.suite a) pins σ H s) (ok : X.Ok) : Inv X pins σ H s := ⟨ok, I.os, I.bare, I.base, I.loc, I.cell, I.free, I.freeC, I.pin, I.hok, I.len⟩
theorem gone {M : Model} {A : Around} {E : Value → Shared → Prop} {i : Nat} {x : Str} {pos : Pos} {Q : Unit → Shared → Prop} (I : Inv X pins σ H s) (hN : X.N.Nodup) (hi : X.N[i]? = some x) (hk : X.env.scope.names.lookup x = some .local)
    (h : ∀ s', Inv X pins (σ.set i none) H s' → Q () s') : wpAny M A (do bindName X.env x .none; unbindBehindTheSuite X.env x pos) Q E s := by
  obtain ⟨m, hn, hl⟩ := id I.loc
  obtain ⟨oL, _, _, hoL, _⟩ := id hn
  have ab : ∀ b o, X.s₀.heap.get? b = some o → b ≠ X.env.locals := fun b o e => Nat.ne_of_lt (Nat.lt_of_lt_of_le (Heap.lt_size e) I.ok.above)
  refine wpAny_nameGoes_keeps hk hn (by rw [I.ok.kind]; rfl) fun h' v hn' hs => ?_
  refine h _ ⟨I.ok, I.os, I.bare, ⟨fun b o e n hb hx => (hs.2 b (ab b o e)).trans (I.base.keep b o e n hb hx), fun b o e n hb hx => ?_, I.base.free, fun b o e hx => ?_, I.base.tups, I.base.frzs, I.base.tbls⟩, ⟨_, hn', fun j y v' e1 e2 e3 => ?_⟩, fun y c e => ?_, I.free, I.freeC, fun p hp => ?_, fun b u e => ?_, by simpa using I.len⟩
  · obtain ⟨sl, e1⟩ := I.base.slot b o e n hb hx
    exact ⟨sl, (hs.2 b (ab b o e)).trans e1⟩
  · obtain ⟨o', e1⟩ := I.base.there b o e hx
    exact ⟨o', (hs.2 b (ab b o e)).trans e1⟩
  · by_cases hj : j = i
    · subst hj
      have hjl : j < σ.length := by rw [I.len]; exact (List.getElem?_eq_some_iff.mp hi).1
      rw [List.getElem?_set_self hjl] at e2
      cases e2
    · rw [List.getElem?_set_ne (Ne.symm hj)] at e2
      obtain ⟨u', r', q⟩ := hl j y v' e1 e2 e3
      refine ⟨u', r', ?_⟩
      rcases q with ⟨k, e⟩ | ⟨k, c, e, z⟩
      · have ny : y ≠ x := fun z => hj (nodup_ix hN e1 (z ▸ hi))
        exact .inl ⟨k, by simp [ny, e]⟩
      · exact .inr ⟨k, c, e, z.sameBut hs (I.cne y c e)⟩
  · obtain ⟨w', z⟩ := I.cell y c e
    exact ⟨w', z.sameBut hs (I.cne y c e)⟩
  · obtain ⟨e, n, ne, nf, d⟩ := I.pin p hp
    exact ⟨(hs.2 p.1 ne).trans e, n, ne, nf, d⟩
  · refine (I.hok b u e).stay (fun c v hc q => (hs.2 c fun z => ?_).trans q) (fun _ q => q) fun _ _ q => q
    subst z
    rcases hc with z | z
    · subst z; rw [I.free] at e; cases e
    · rw [I.free] at z; cases z
theorem excM {M : Model} {A : Around} {E : Value → Shared → Prop} {K : PySem.W.Frag} {e C D : Addr} {oe : Obj} {Q : Bool → Shared → Prop} (k : K.In s.heap) (he : s.heap.get? e = some oe) (hc : oe.cls = .ref C) (h1 : (PySem.W.clsIn K D).isSome = true) (h2 : PySem.W.typeIn K (.ref D) = some (.type "type"))
    (h3 : PySem.W.subIn K (.ref D) (.type "BaseException") = some true) (h4 : PySem.W.subIn K (.ref C) (.ref D) = some true) (hq : Q true s) : wpAny M A (excMatches (.ref e) (.ref D)) Q E s := by
  obtain ⟨h, g, d, t, os⟩ := s
  have k : K.In h := k
  have he : h.get? e = some oe := he
  have l1 : PySem.W.Looks M h (isType (.ref D)) true := by
    unfold PySem.W.clsIn at h1
    split at h1
    · rename_i c' d' cd' sl' ho
      intro A' Q' E' s' kk q
      unfold isType loadHead
      exact wpAny_bind (wpAny_loadPart (kk _ _ (k _ _ ho)) (wpAny_pure q))
    · cases h1
  have l2 : PySem.W.Looks M h (typeOf (.ref D)) (.type "type") := PySem.W.looks_typeIn k h2
  have l3 : PySem.W.Looks M h (isSubtype (.ref D) (.type "BaseException")) true := PySem.W.looks_subIn k h3
  have l4 : PySem.W.Looks M h (isSubtype (.ref C) (.ref D)) true := PySem.W.looks_subIn k h4
  have l5 : PySem.W.Looks M h (typeOf (.ref e)) (.ref C) := hc ▸ (PySem.W.Looks.ld he).andThen .now
  have l6 : PySem.W.Looks M h (isInstance (.ref D) (.type "tuple")) false := l2.andThen (PySem.W.Looks.of_pure tc_notTuple)
  have l7 : PySem.W.Looks M h (isExcClass (.ref D)) true := by
    unfold isExcClass
    exact l1.andThen (by simpa using l3)
  have f := tc_notTuple
  unfold excMatches
  repeat (first | exact hq | (with_reducible refine l2.at ?_) | (with_reducible refine l7.at ?_) | (with_reducible refine l1.at ?_) | (with_reducible refine l3.at ?_) | (with_reducible refine l5.at ?_) | (with_reducible refine l4.at ?_) | wp_step)
end
end L2
namespace L2
open PySem PySem.Spec PyProof.Rows
def ends0 (D : Ends) (i : Nat) : Ends := { nx := fun σ H => D.nx (σ.set i none) H, rt := D.rt, bk := fun σ H => D.bk (σ.set i none) H, ct := fun σ H => D.ct (σ.set i none) H }
section
variable {X : Cx} {pins : List (Addr × Obj)} {σ : St} {H H1 H' : Hp} {s s1 s' : Shared} {B : Heap} {a C Ch : Addr} {i : Nat} {x n : Str} {np pos hpos : Pos} {b₀ : Stmt} {suite : List Stmt} {ts : TS} {D : Ends} {rest : List ExceptHandler}
structure Catch (K : PySem.W.Frag) (Ch : Addr) : Prop where
  c1 : (PySem.W.clsIn K Ch).isSome = true
  c2 : PySem.W.typeIn K (.ref Ch) = some (.type "type")
  c3 : PySem.W.subIn K (.ref Ch) (.type "BaseException") = some true
theorem caught (I : Inv X pins σ H1 s1) (fl : Fly X.prog X.w X.stack H1 s1 H' B a C s') (hstk : X.stack = X.env :: X.outer ∧ X.env.frame = some X.env.locals) (hg : Gl X x) (hm : X.mg x = some (.ref Ch)) (ct : Catch X.K Ch) (sub : PySem.W.subIn X.K (.ref C) (.ref Ch) = some true)
    (hN : X.N.Nodup) (hi : X.N[i]? = some n) (hl : X.env.scope.names.lookup n = some .local) (hs : PSs (X.suite a) (b₀ :: suite) ts) (q : ∀ oe : Obj, oe.cls = .ref C → ts (ends0 D i) (σ.set i (some (.ref a))) (upd H' a (.frz oe (.own a)))) (hd : (x == ("__debug__" : Str)) = false) :
    wpAny (model X.prog X.w) X.A (noteFrame (.ref a) X.env) (fun _ s₂ => wpAny (model X.prog X.w) X.A (setFlight (.ref a) none) (fun _ s₃ => wpAny (model X.prog X.w) X.A (handleBy (.ref a) X.env (.ExceptHandler (some (.Name x np)) (some n) (b₀ :: suite) hpos :: rest)) (SP X pins D) X.xe s₃) X.xe s₂) X.xe s' := by
  obtain ⟨a0, fly⟩ := fl.fly
  rw [hstk.1] at fly
  refine wpAny_looks_onW (outer := X.outer) (L := X.env.locals) (by rw [I.ok.frames, hstk.1]) hstk.2 fly fun h4 held up4 => wpAny_landsW held fun h5 fly5 up5 => ?_
  obtain ⟨o5, v5, e5, c5, _⟩ := fly5.first
  have I5 := landed I fl fly5.1 (up4.trans up5) e5
  refine wpAny_handleBy_cons (codeAny_handlers_test (ld_glob (I5.suite a) hg hm ?_ hd)) (by intro z; cases z)
  refine excM I5.kIn e5 c5 ct.c1 ct.c2 ct.c3 sub ?_
  show codeAny (model X.prog X.w) (X.A.mark (some (.ref a))) (.handlers (.ref a) [.ExceptHandler none (some n) (b₀ :: suite) hpos] X.env) _ _
  refine codeAny_handlers_suite_as (lands_againW fly5 fun h6 fly6 up6 => ?_)
  obtain ⟨o6, v6, e6, c6, _⟩ := fly6.first
  have I6 := landed I fl fly6.1 ((up4.trans up5).trans up6) e6
  refine store_ok I6 hN hi (.inl hl) (v := .ref a) rfl (fun s7 I7 => ?_) (.inr hl)
  refine wpAny_mono (hs pins s7 _ _ (ends0 D i) (I7.suite a) (q o6 c6)) (fun f s8 h8 => ?_) fun _ _ z => z.elim
  show wpAny (model X.prog X.w) X.A (do bindName X.env n .none; unbindBehindTheSuite X.env n hpos) (fun _ s9 => SP X pins D f s9) X.xe s8
  cases f with
  | next => obtain ⟨σ', H', J, q⟩ := h8; exact gone (J.unsuite I.ok) hN hi hl fun s9 J9 => ⟨_, _, J9, q⟩
  | brk => obtain ⟨σ', H', J, q⟩ := h8; exact gone (J.unsuite I.ok) hN hi hl fun s9 J9 => ⟨_, _, J9, q⟩
  | cont => obtain ⟨σ', H', J, q⟩ := h8; exact gone (J.unsuite I.ok) hN hi hl fun s9 J9 => ⟨_, _, J9, q⟩
  | ret u => obtain ⟨v, σ', H', J, r, q⟩ := h8; exact gone (J.unsuite I.ok) hN hi hl fun s9 J9 => ⟨v, _, _, J9, r, q⟩
end
abbrev TB := Ends → XK → St → Hp → Prop
def XB (X : Cx) (pins : List (Addr × Obj)) (σ : St) (Ex : XK) : Value → Shared → Prop := fun e s' => ∃ H1 s1, Inv X pins σ H1 s1 ∧ CXE X.prog X.w X.stack H1 s1 Ex e s'
def PB (X : Cx) (sts : List Stmt) (t : TB) : Prop :=
  ∀ (pins : List (Addr × Obj)) (s : Shared) (σ : St) (H : Hp) (D : Ends) (Ex : XK), Inv X pins σ H s → t D Ex σ H → wpAny (model X.prog X.w) X.A (execs sts X.env) (SP X pins D) (XB X pins σ Ex) s
def tBCall (sp : Sp) (t : TA) : TB := fun D Ex σ H => t σ H fun vs H1 => sp vs H1 (fun _ H2 => D.nx σ H2) Ex
section
variable {X : Cx} {k : Nat} {f Ch : Addr} {fd : FuncData} {ps : List Str} {sp : Sp} {x n : Str} {p cp pos np hpos : Pos} {e c : Expr} {es : List Expr} {t : TA} {tb ub : TB} {tc : TT} {sa sb body : List Stmt} {i : Nat} {b₀ : Stmt} {suite : List Stmt} {ts : TS}
theorem pb_call (F : FnOk X.prog X.w X.K X.mg X.base (CXE X.prog X.w) k f fd ps sp) (hr : Room k X.A) (hg : Gl X x) (hm : X.mg x = some (.ref f)) (hk : PySem.W.keepIn X.K (.ref f) = true) (hb : Binds X.K fd ps []) (ha : ∀ E, PA (X.wish E) (e :: es) t)
    (hdb : (x == ("__debug__" : Str)) = false := by decide) (he : starEach (e :: es) X.env = (false, eval e X.env) :: starEach es X.env := by rfl) (hpl : (backTo cp (starEach es X.env)).any (·.1) = false := by rfl) (hsw : swapsWith (.Call (.Name x p) (e :: es) [] cp) none pos.line X.env = pure false := by rfl) :
    PB X [.Expr (.Call (.Name x p) (e :: es) [] cp) pos] (tBCall sp t) := by
  intro pins s σ H D Ex I h
  refine wpAny_execs_cons (wpAny_Expr_any ?_ I.quiet hsw)
  refine wpAny_Call_Name_kw (ld_glob I hg hm ?_ hdb)
  refine PySem.W.callWith_K (h₀ := X.base) I.ok.mod.kin hk (thn (ha (XB X pins σ Ex) cp pins s σ H _ (I.wish _) h) fun us s1 h1 => ⟨?_, ?_⟩) he hpl
  · obtain ⟨_, _, I1, _⟩ := h1
    exact I1.kIn
  · obtain ⟨vs, H1, I1, r, q⟩ := h1
    have I1 := I1.unwish
    have hl : us.length = ps.length := by rw [← r.length]; exact F.len _ _ _ _ q
    have bd := hb s1 us I1.kIn (by rw [List.append_nil]; exact hl)
    rw [List.append_nil] at bd
    refine wpAny_call (codeAny_mono (F.run X.A X.stack s1 H1 ⟨us, []⟩ us vs _ Ex hr I1.env0 bd r q) fun rs s' hq => ?_)
    cases rs with
    | error ev => exact ⟨H1, s1, I1, hq⟩
    | ok fl =>
      cases fl with
      | ret u =>
        obtain ⟨v, H2, I2, _, q2⟩ := I1.after hq
        exact wpAny_execs_nil ⟨σ, H2, I2, q2⟩
      | next => exact False.elim hq
      | brk => exact False.elim hq
      | cont => exact False.elim hq
def tTry (K : PySem.W.Frag) (Ch : Addr) (i : Nat) (tb : TB) (ts : TS) : TS := fun D σ H =>
  tb D (fun c _ H' => ∀ (a C : Addr) (oe : Obj), c = .ref C → H' a = none → oe.cls = .ref C → PySem.W.subIn K (.ref C) (.ref Ch) = some true ∧ ts (ends0 D i) (σ.set i (some (.ref a))) (upd H' a (.frz oe (.own a)))) σ H
theorem ps_try (hstk : X.stack = X.env :: X.outer ∧ X.env.frame = some X.env.locals) (hb : PB X body tb) (hg : Gl X x) (hm : X.mg x = some (.ref Ch)) (ct : Catch X.K Ch) (hN : X.N.Nodup) (hi : X.N[i]? = some n) (hl : X.env.scope.names.lookup n = some .local) (hs : ∀ a, PSs (X.suite a) (b₀ :: suite) ts)
    (hd : (x == ("__debug__" : Str)) = false := by decide) : PS X (.Try body [.ExceptHandler (some (.Name x np)) (some n) (b₀ :: suite) hpos] [] [] pos) (tTry X.K Ch i tb ts) := by
  intro pins s σ H D I h
  refine wpAny_Try_except (wpAny_mono (hb pins s σ H D _ I h) (fun fl s1 q => ?_) (fun ev s1 q => ?_))
  · cases fl with
    | next => exact wpAny_execs_nil q
    | _ => exact q
  · obtain ⟨H1, s2, I1, H', B, a, C, e1, fl, q⟩ := q
    subst e1
    obtain ⟨a0, fly⟩ := fl.fly
    obtain ⟨o5, _, _, c5, _⟩ := fly.first
    exact caught I1 fl hstk hg hm ct (q a C o5 rfl fl.fresh c5).1 hN hi hl (hs a) (fun oe hc => (q a C oe rfl fl.fresh hc).2) hd
end
end L2
namespace L2
open PySem PySem.Spec PyProof.Rows PySem.Calls Builtin Builtin.ObjectAttr Builtin.Getset_descriptor
structure ExcK (K : PySem.W.Frag) (D : Addr) : Prop where
  cls : (PySem.W.clsIn K D).isSome = true
  ga : PySem.W.findIn K (.ref D) "__getattribute__" = some (some (.builtin "BaseException.__getattribute__"))
  gt : PySem.W.findIn K (.ref D) "__getattr__" = some none
  fc : PySem.W.findIn K (.ref D) "__class__" = some (some (.builtin "object.__class__"))
  fg : PySem.W.specialIn K (.builtin "object.__class__") "__get__" = some (some (.builtin "getset_descriptor.__get__"))
  ft : PySem.W.takesIn K (.builtin "object.__class__") = some true
  ob : PySem.W.mroIn K D (.type "object") = some true
  be : PySem.W.mroIn K D (.type "BaseException") = some true
def InstX (h : Heap) (x D : Addr) : Prop := ∃ ox : Obj, h.get? x = some ox ∧ ox.cls = .ref D
theorem InstX.type {h : Heap} {x D : Addr} {M : Model} (I : InstX h x D) : PySem.W.Looks M h (typeOf (.ref x)) (.ref D) := by
  obtain ⟨ox, e, c⟩ := I
  exact c ▸ (PySem.W.Looks.ld e).andThen .now
section
variable {prog : Program} {w : World} {A : Around} {E : Value → Shared → Prop} {K : PySem.W.Frag} {x D : Addr} {h : Heap} {g : Array GenState} {d : Drawn} {t : Nat} {os : OsState}
theorem xa_find {M : Model} (F : ExcK K D) (k : K.In h) : PySem.W.Looks M h (find (.ref x) (.ref D) "__class__") (.bind (.builtin "getset_descriptor.__get__") (.builtin "object.__class__")) := by
  have L1 := PySem.W.looks_findIn (M := M) k F.fc
  have L2 := PySem.W.looks_specialIn (M := M) k F.fg
  have L3 := PySem.W.looks_takesIn (M := M) k F.ft
  unfold find
  refine L1.andThen (PySem.W.Looks.andThen (a := some (Value.builtin "getset_descriptor.__get__")) L2 ?_)
  refine PySem.W.Looks.andThen (a := some (Value.builtin "getset_descriptor.__get__", Value.builtin "object.__class__")) ?_ (PySem.W.Looks.tag .now)
  unfold dataDescriptor?
  exact L3.andThen .now
theorem xa_get {tp : Value} {R : Result → Shared → Prop} (F : ExcK K D) (k : K.In h) (I : InstX h x D) (hq : R (.ok (.ret (.ref D))) ⟨h, g, d, t, os⟩) : codeAny (model prog w) A (.call (.builtin "getset_descriptor.__get__") ⟨[.builtin "object.__class__", .ref x, tp], []⟩) R ⟨h, g, d, t, os⟩ := by
  have L0 := I.type (M := model prog w)
  have L1 := PySem.W.looks_mroIn (M := model prog w) k F.ob
  refine codeAny_call_builtin PySem.W.KF.slot_gs.plain PySem.W.KF.entry_gs (PySem.W.KF.slot_gs.check _ _ _ _ _ _ _ _ PySem.W.KF.type_class (PySem.W.KF.args_gs _ _ _) ?_)
  unfold Builtin.«getset_descriptor.__get__» descrGet; rw [PySem.W.dga_obj]
  refine wpAny_bind (wpAny_pure ?_); unfold descrGetter descrCheckInstance descrNameAndClass isInstance
  simp only [PySem.W.KF.owner_class]
  repeat lk
  refine ⟨Code.quiet_builtin _ (by decide +kernel), codeAny_builtin PySem.W.KF.entry_class ?_⟩; unfold Builtin.«object.__class__» shownTypeOf
  repeat lk
  exact hq
theorem xa_check {M : Model} {nameV : Value} {Q : Unit → Shared → Prop} (F : ExcK K D) (k : K.In h) (I : InstX h x D) (hq : Q () ⟨h, g, d, t, os⟩) : wpAny M A (checkBuiltinCall "BaseException.__getattribute__" ⟨[.ref x, nameV], []⟩) Q E ⟨h, g, d, t, os⟩ := by
  have kd : builtinKind "BaseException.__getattribute__" = some .slot := by decide +kernel
  have sp : splitId "BaseException.__getattribute__" = some ("BaseException", "__getattribute__") := by decide +kernel
  have L : PySem.W.Looks M h (isInstance (.ref x) (.type "BaseException")) true := (I.type (M := M)).andThen (PySem.W.looks_mroIn k F.be)
  have ha := PySem.F.args_bexc_ga (.ref x) nameV
  simp only [checkBuiltinCall, kd, sp]
  refine wpAny_bind (L.at ?_)
  repeat (any_goals (first | assumption | wp_step))
theorem xa_entry {tk : Tok} {Q : Fin → Shared → Prop} (F : ExcK K D) (k : K.In h) (I : InstX h x D) (hq : Q (.done (.ret (.ref D))) ⟨h, g, d, t, os⟩) : wpAny (model prog w) A (Builtin.«object.__getattribute__» ⟨[.ref x, .str "__class__" tk], []⟩) Q E ⟨h, g, d, t, os⟩ := by
  have L0 := I.type (M := model prog w)
  have L1 := xa_find (M := model prog w) F k (x := x)
  refine wpAny_bind (wpAny_pure (wpAny_bind (wpAny_pure (wpAny_bind (L0.at (wpAny_bind (L1.at ?_)))))))
  show wpAny _ _ (holding [_] (call _ _) >>= ret) _ _ _
  exact wpAny_bind (wpAny_holding (wpAny_call (xa_get F k I (wpAny_pure hq))))
theorem xa_call {tk : Tok} {R : Result → Shared → Prop} (F : ExcK K D) (k : K.In h) (I : InstX h x D) (hq : R (.ok (.ret (.ref D))) ⟨h, g, d, t, os⟩) : codeAny (model prog w) A (.call (.builtin "BaseException.__getattribute__") ⟨[.ref x, .str "__class__" tk], []⟩) R ⟨h, g, d, t, os⟩ :=
  codeAny_call_builtin PySem.F.excAttr_ValueError.ga.plain PySem.F.entry_bexc_ga (xa_check F k I (xa_entry F k I hq))
theorem xa_class {Q : Option Value → Shared → Prop} (F : ExcK K D) (k : K.In h) (I : InstX h x D) (hq : Q (some (.ref D)) ⟨h, g, d, t + 1, os⟩) : wpAny (model prog w) A (getAttr? (.ref x) "__class__") Q E ⟨h, g, d, t, os⟩ := by
  have L0 := I.type (M := model prog w)
  have L1 := PySem.W.looks_findIn (M := model prog w) k F.ga
  have L2 := PySem.W.looks_findIn (M := model prog w) k F.gt
  have f3 := PySem.F.excAttr_ValueError.ga.bind (.ref x)
  unfold getAttr? getAttrBy? getAttrBy
  refine wpAny_bind (wpAny_mkText (wpAny_bind (wpAny_attempt (wpAny_holding (wpAny_bind (L0.at (wpAny_bind (L1.at ?_))))))))
  have nx : (onTheHeap (Value.ref D) && Value.builtin "BaseException.__getattribute__" == Value.builtin "object.__getattribute__") = false := by
    rw [show (Value.builtin "BaseException.__getattribute__" == Value.builtin "object.__getattribute__") = false by decide +kernel, Bool.and_false]
  dsimp only
  rw [if_neg (by rw [nx]; decide)]
  unfold getAttrByItsOwn hookBefore
  repeat (any_goals (first | assumption | (with_reducible refine L2.at ?_) | wp_step))
  exact xa_call F k I (PySem.W.handed_on rfl (wpAny_pure hq))
end
theorem kitx_exc {K : PySem.W.Frag} {x D : Addr} (F : ExcK K D) : PySem.W.KitX K (.ref x) (.ref D) (fun h => InstX h x D) where
  ty := fun _ _ _ I => I.type
  it := fun M h k _ => by
    have z := F.cls
    unfold PySem.W.clsIn at z
    split at z
    · rename_i c' d' cd' sl' ho
      intro A' Q' E' s' kk q
      unfold isType loadHead
      exact wpAny_bind (wpAny_loadPart (kk _ _ (k _ _ ho)) (wpAny_pure q))
    · cases z
  ne := fun h tp dd its n sl k htp => by
    have z := F.cls
    refine Bool.eq_false_iff.mpr fun q => ?_
    obtain rfl : D = tp := Value.ref.inj (beq_iff_eq.mp q)
    unfold PySem.W.clsIn at z
    split at z
    · rename_i ho
      have y := (k _ _ ho).symm.trans htp
      cases y
    · cases z
  ca := fun {_ _ _ _ _ s} k I q => by
    obtain ⟨h, g, d, t, os⟩ := s
    exact xa_class F k I q
end L2
namespace Core
open PySem L2 PP
def risesB (ns : List Int) : Bool := ((ns.zip (ns.drop 1)).map fun p => decide (p.1 < p.2)).all id
theorem take_map_succ {α β : Type} {l : List α} {f : α → β} {i : Nat} {x : α} (h : l[i]? = some x) : (l.take (i + 1)).map f = (l.take i).map f ++ [f x] := by
  rw [List.take_add_one, h]; simp
theorem up_pair : ∀ {ns : List Int}, risesB ns = true → ns.Pairwise (· < ·)
  | [], _ => .nil
  | [x], _ => List.pairwise_singleton _ _
  | x :: y :: r, h => by
    have e : risesB (x :: y :: r) = (decide (x < y) && risesB (y :: r)) := rfl
    rw [e, Bool.and_eq_true] at h
    have ih := up_pair h.2
    refine List.pairwise_cons.mpr ⟨fun z hz => ?_, ih⟩
    rcases List.mem_cons.mp hz with rfl | hz
    · exact of_decide_eq_true h.1
    · exact Int.lt_trans (of_decide_eq_true h.1) (List.rel_of_pairwise_cons ih hz)
theorem pair_up : ∀ {ns : List Int}, ns.Pairwise (· < ·) → risesB ns = true
  | [], _ => rfl
  | [x], _ => rfl
  | x :: y :: r, h => by
    have e : risesB (x :: y :: r) = (decide (x < y) && risesB (y :: r)) := rfl
    have h' := List.pairwise_cons.mp h
    rw [e, pair_up h'.2, Bool.and_true]
    exact decide_eq_true (h'.1 y List.mem_cons_self)
def kin (ws : List Int) (ls : List (Int × Int)) (S : List Int) (h : Int) : Bool := !decide (h ∈ S) && decide (ws.getD h.toNat 0 ≤ (((nbrs ls h).filter fun x => decide (x ∈ S)).length : Int))
def nextOf (ws : List Int) (ls : List (Int × Int)) (S : List Int) : List Int := ((List.range ws.length).map fun (i : Nat) => (i : Int)).filter (kin ws ls S)
def stp (ws : List Int) (ls : List (Int × Int)) (S : List Int) : Nat → List Int
  | 0 => S
  | k + 1 => stp ws ls S k ++ nextOf ws ls (stp ws ls S k)
def cold (ws : List Int) (S : List Int) : Nat := (((List.range ws.length).map fun (i : Nat) => (i : Int)).filter fun x => !decide (x ∈ S)).length
theorem cut_two {α : Type} (p q : α → Bool) (h : ∀ x, q x = true → p x = false) : ∀ L : List α, (L.filter fun x => !p x && !q x).length + (L.filter q).length = (L.filter fun x => !p x).length
  | [] => rfl
  | x :: r => by
    have ih := cut_two p q h r
    cases e1 : p x with
    | true =>
      have e2 : q x = false := by
        cases e : q x with
        | false => rfl
        | true => have := h x e; rw [e1] at this; cases this
      simp only [List.filter_cons, e1, e2, Bool.not_true, Bool.false_and, Bool.false_eq_true, if_false]
      exact ih
    | false =>
      cases e2 : q x with
      | true =>
        simp only [List.filter_cons, e1, e2, Bool.not_true, Bool.not_false, Bool.and_false, Bool.false_eq_true, if_false, if_true, List.length_cons]
        omega
      | false =>
        simp only [List.filter_cons, e1, e2, Bool.not_false, Bool.and_true, Bool.false_eq_true, if_false, if_true, List.length_cons]
        omega
def after (ws : List Int) (ls : List (Int × Int)) (S : List Int) (m : Nat) : List (List Int) := (List.range m).map fun k => nextOf ws ls (stp ws ls S k)
theorem seeds_cold {ws ns : List Int} (hu : ns.Pairwise (· < ·)) (hin : ∀ x ∈ ns, 0 ≤ x ∧ x < (ws.length : Int)) : ns.length + cold ws ns ≤ ws.length := by
  have nd : ns.Nodup := hu.imp fun h => Int.ne_of_lt h
  have sub : ns ⊆ ((List.range ws.length).map fun (i : Nat) => (i : Int)).filter fun x => decide (x ∈ ns) := fun x hx => by
    refine List.mem_filter.mpr ⟨List.mem_map.mpr ⟨x.toNat, List.mem_range.mpr ?_, ?_⟩, decide_eq_true hx⟩
    · have := hin x hx; omega
    · have := hin x hx; omega
  have h1 := nd.length_le_of_subset sub
  have h2 := cut_two (fun _ => false) (fun x => decide (x ∈ ns)) (fun _ _ => rfl) ((List.range ws.length).map fun (i : Nat) => (i : Int))
  have h3 : (((List.range ws.length).map fun (i : Nat) => (i : Int)).filter fun x => !false && !decide (x ∈ ns)).length = cold ws ns := rfl
  have h4 : (((List.range ws.length).map fun (i : Nat) => (i : Int)).filter fun x => !false).length ≤ ws.length := by
    refine Nat.le_trans (List.length_filter_le _ _) ?_
    rw [List.length_map, List.length_range]; exact Nat.le_refl _
  rw [h3] at h2
  omega
def Ends (ws : List Int) (ls : List (Int × Int)) (ns : List Int) (m : Nat) : Prop := (∀ k < m, nextOf ws ls (stp ws ls ns k) ≠ []) ∧ nextOf ws ls (stp ws ls ns m) = []
end Core
namespace Core
open PySem L2 PP
theorem ints_get {ns : List Int} {i : Nat} {x : PV} (h : (intz ns)[i]? = some x) : ∃ n, x = .int n ∧ ns[i]? = some n := by
  rw [List.getElem?_map] at h
  cases e : ns[i]? with
  | none => rw [e] at h; cases h
  | some n => rw [e] at h; exact ⟨n, (Option.some.inj h).symm, rfl⟩
theorem rngP_at {lo : Int} {n i : Nat} {x : PV} (h : (rngP lo n)[i]? = some x) : x = .int (lo + i) ∧ i < n := by
  have hi : i < n := by
    have := (List.getElem?_eq_some_iff.mp h).1
    rwa [rngP_length] at this
  rw [rngP_get hi] at h
  exact ⟨(Option.some.inj h).symm, hi⟩
def rng (n : Nat) : List Int := (List.range n).map fun (i : Nat) => (i : Int)
theorem rng_len (n : Nat) : (rng n).length = n := by unfold rng; rw [List.length_map, List.length_range]
theorem rng_at {n i : Nat} (h : i < n) : (rng n)[i]? = some (i : Int) := by unfold rng; rw [List.getElem?_map, List.getElem?_range h]; rfl
theorem mem_rng {n : Nat} {x : Int} : x ∈ rng n ↔ 0 ≤ x ∧ x < (n : Int) := by
  unfold rng
  rw [List.mem_map]
  constructor
  · rintro ⟨i, hi, rfl⟩
    have := List.mem_range.mp hi
    omega
  · intro h
    exact ⟨x.toNat, List.mem_range.mpr (by omega), by omega⟩
theorem take_filter_succ' {α : Type} {l : List α} {p : α → Bool} {i : Nat} {x : α} (h : l[i]? = some x) : (l.take (i + 1)).filter p = (l.take i).filter p ++ (if p x = true then [x] else []) := by
  rw [List.take_add_one, h, List.filter_append]
  congr 1
  cases e : p x <;> simp [e]
theorem ints_app (a b : List Int) : intz (a ++ b) = intz a ++ intz b := List.map_append
theorem ints_len (a : List Int) : (intz a).length = a.length := List.length_map _
def webP (ws : List Int) (ls : List (Int × Int)) : PV := .tup [.tup (intz ws), .tup (ls.map fun l => .tup [.int l.1, .int l.2])]
def IsI (x : PV) (ns : List Int) : Prop := x = .tup (intz ns) ∨ x = .lst (intz ns)
theorem IsI.seq {x : PV} {ns : List Int} (h : IsI x ns) : seqOf x = some (intz ns) := by rcases h with rfl | rfl <;> rfl
theorem IsI.seqT {x : PV} {ns : List Int} (h : IsI x ns) : seqT x = some (intz ns) := by rcases h with rfl | rfl <;> rfl
theorem flats_pairs : ∀ (ls : List (Int × Int)), flats (ls.map fun l => PV.tup [.int l.1, .int l.2]) = true
  | [] => rfl
  | l :: r => by
    show (flat (.tup [.int l.1, .int l.2]) && flats (r.map fun l => PV.tup [.int l.1, .int l.2])) = true
    rw [flats_pairs r]; rfl
theorem flat_web (ws : List Int) (ls : List (Int × Int)) : flat (webP ws ls) = true := by
  show flats [.tup (intz ws), .tup (ls.map fun l => PV.tup [.int l.1, .int l.2])] = true
  show (flat (.tup (intz ws)) && (flat (.tup (ls.map fun l => PV.tup [.int l.1, .int l.2])) && true)) = true
  show (flats (intz ws) && (flats (ls.map fun l => PV.tup [.int l.1, .int l.2]) && true)) = true
  rw [flats_ints, flats_pairs]; rfl
theorem flat_tupI (ns : List Int) : flat (.tup (intz ns)) = true := flats_ints ns
def p_hearths_in : PSp := fun xs Q => ∃ ws ls, xs = [webP ws ls] ∧ Q (.int ws.length)
def t_hearths_in : PTS := (qRet (qCall RLen (qCons (qIx (qVar 0) (qC (.int 0))) qNil)))
abbrev Rd1 (t : PTS) (N : List Str) (p : PSp) : Prop := ∀ xs Q, p xs Q → t { nx := fun _ => Q .non, rt := Q } (startP N xs)
theorem rd_hearths_in : Rd1 t_hearths_in ["web"] p_hearths_in := by
  rintro xs Q ⟨ws, ls, rfl, q⟩
  refine ⟨_, rfl, _, _, _, rfl, rfl, rfl, _, _, rfl, rfl, trivial, ?_⟩
  rw [ints_len]; exact q
def p_rises : PSp := fun xs Q => ∃ x ns, xs = [x] ∧ IsI x ns ∧ ns.length ≤ 1000 ∧ Q (.bl (risesB ns))
def inB (n : Nat) (x : Int) : Bool := decide (0 ≤ x) && decide (x < (n : Int))
def p_is_hearth : PSp := fun xs Q => ∃ ws ls n, xs = [webP ws ls, .int n] ∧ Q (.bl (inB ws.length n))
def t_is_hearth : PTS := (qRet (qAndV (qGe (qVar 1) (qC (.int 0))) (qLt (qVar 1) (qCall p_hearths_in (qCons (qVar 0) qNil)))))
theorem rd_is_hearth : Rd1 t_is_hearth ["web", "number"] p_is_hearth := by
  rintro xs Q ⟨ws, ls, n, rfl, q⟩
  refine ⟨_, rfl, _, _, rfl, rfl, _, rfl, ?_⟩
  unfold inB at q
  by_cases h : (0 : Int) ≤ n
  · rw [decide_eq_true h] at q ⊢
    refine iteT ⟨_, rfl, _, rfl, ws, ls, rfl, _, _, rfl, rfl, trivial, ?_⟩
    simpa using q
  · rw [decide_eq_false h] at q ⊢
    exact iteF ⟨trivial, by simpa using q⟩
def isSetB (n : Nat) (ns : List Int) : Bool := risesB ns && (ns.map (inB n)).all id
def p_is_set : PSp := fun xs Q => ∃ ws ls x ns, xs = [webP ws ls, x] ∧ IsI x ns ∧ ns.length ≤ 1000 ∧ Q (.bl (isSetB ws.length ns))
def t_is_set : PTS := (qRet (qAndV (qCall p_rises (qCons (qVar 1) qNil)) (qCall RAll (qCons (qComp (qSeqI (qVar 1)) [none, some 0] (pName 0) qYes (qCall p_is_hearth (qCons (qVar 1) (qCons (qVar 0) qNil)))) qNil))))
theorem seq_tag {x : PV} {ns : List Int} (h : IsI x ns) : (Slot.sh (flat x) x).tag = .rd → flat x = true := by
  cases flat x <;> intro z <;> cases z
theorem rd_is_set : Rd1 t_is_set ["web", "numbers"] p_is_set := by
  rintro xs Q ⟨ws, ls, x, ns, rfl, hx, hl, q⟩
  refine ⟨_, rfl, x, ns, rfl, hx, hl, _, rfl, ?_⟩
  unfold isSetB at q
  cases h : risesB ns with
  | false => rw [h] at q; exact iteF ⟨trivial, q⟩
  | true =>
    rw [h] at q
    refine iteT ⟨_, rfl, _, hx.seq, seq_tag hx, by rw [ints_len]; omega, fun i acc => acc = (((ns.take i).map (inB ws.length)).map PV.bl), rfl, ?_, ?_⟩
    · rintro i y acc hy rfl
      obtain ⟨n, rfl, hn⟩ := ints_get hy
      have tk : ((ns.take (i + 1)).map (inB ws.length)).map PV.bl = ((ns.take i).map (inB ws.length)).map PV.bl ++ [PV.bl (inB ws.length n)] := by rw [take_map_succ hn, List.map_append]; rfl
      exact ⟨_, rfl, _, rfl, ws, ls, n, rfl, trivial, tk.symm⟩
    · rintro acc rfl
      rw [ints_len, List.take_length]
      exact ⟨_, rfl, trivial, by simpa using q⟩
theorem IsI.noscr {x : PV} {ns : List Int} (h : IsI x ns) : ∀ ms, ([x] : List PV) ≠ [.scr ms] := by
  rcases h with rfl | rfl <;> intro ms z <;> cases z
section
variable {κ : Type} [DecidableEq κ]
end
theorem atI_ints {ws : List Int} {h : Int} (h0 : 0 ≤ h) (h1 : h < (ws.length : Int)) : atI (intz ws) h = some (.int (ws.getD h.toNat 0)) := by
  refine atI_int h0 ?_
  have : h.toNat < ws.length := by omega
  rw [List.getElem?_map, List.getD_eq_getElem?_getD, List.getElem?_eq_getElem this]; rfl
end Core
namespace Core
open PySem L2 PP
def tups (rs : List (List Int)) : List PV := rs.map fun r => PV.tup (intz r)
theorem set_ok {n : Nat} {ns : List Int} (h : isSetB n ns = true) : risesB ns = true ∧ ∀ x ∈ ns, 0 ≤ x ∧ x < (n : Int) := by
  unfold isSetB at h
  rw [Bool.and_eq_true, List.all_eq_true] at h
  refine ⟨h.1, fun x hx => ?_⟩
  have := h.2 _ (List.mem_map.mpr ⟨x, hx, rfl⟩)
  unfold inB at this
  simpa using this
theorem set_len {n : Nat} {ns : List Int} (h : isSetB n ns = true) : ns.length ≤ n := by
  obtain ⟨h1, h2⟩ := set_ok h
  have := seeds_cold (ws := List.replicate n (0 : Int)) (up_pair h1) (by rw [List.length_replicate]; exact h2)
  rw [List.length_replicate] at this
  omega
end Core
namespace PP
open PySem L2
end PP
namespace Core
open PySem L2 PP
theorem nw_int (g : Tg) (n : Int) : Nw g (.int n) := by cases g <;> first | exact trivial | rfl
def IsF (x : PV) (ns : List Int) : Prop := x = .scr ns ∨ x = .lst (intz ns)
theorem IsF.seq {x : PV} {ns : List Int} (h : IsF x ns) : seqOf x = some (intz ns) := by rcases h with rfl | rfl <;> rfl
theorem IsF.len {x : PV} {ns : List Int} (h : IsF x ns) : lenOf x = some ns.length := by
  rcases h with rfl | rfl
  · rfl
  · show some (intz ns).length = _
    rw [ints_len]
def p_law_cell_at : PSp := fun xs Q => ∃ x ns k, xs = [x, .int k] ∧ IsF x ns ∧ 0 ≤ k ∧ Q (.int (ns.getD k.toNat 0))
def t_law_cell_at : PTS := (qSeq (qIf (qTest (qLt (qVar 1) (qCall RLen (qCons (qVar 0) qNil)))) (qRet (qIx (qVar 0) (qVar 1))) qNext)
  (qRet (qC (.int 0))))
theorem rd_law_cell_at : Rd1 t_law_cell_at ["script", "k"] p_law_cell_at := by
  rintro xs Q ⟨x, ns, k, rfl, hx, h0, q⟩
  refine ⟨_, rfl, _, rfl, _, _, rfl, hx.len, _, _, rfl, rfl, _, rfl, ?_⟩
  by_cases h : k < (ns.length : Int)
  · rw [decide_eq_true h]
    exact iteT ⟨_, rfl, _, rfl, _, _, _, hx.seq, rfl, atI_ints h0 h, nw_int _ _, q⟩
  · rw [decide_eq_false h]
    rw [List.getD_eq_getElem?_getD, List.getElem?_eq_none (by omega)] at q
    exact iteF ⟨trivial, q⟩
def p_law_whole_number : PSp := fun xs Q => ∃ i, xs = [.int i] ∧ Q (.bl true)
def t_law_whole_number (K : PySem.W.Frag) : PTS := (qRet (qAndV (qIsI K "int" (qVar 0)) (qNotV (qIsI K "bool" (qVar 0)))))
def p_law_row_is : PSp := fun xs Q => ∃ y ns ms, xs = [.tup (intz ns), y] ∧ IsI y ms ∧ ns.length ≤ 1000 ∧ ms.length ≤ 1000 ∧ Q (.bl (decide (ns = ms)))
def t_law_row_is (K : PySem.W.Frag) : PTS := (qSeq (qIf (qOr (qNot (qTest (qIsI K "tuple" (qVar 0)))) (qTest (qNe (qCall RLen (qCons (qVar 0) qNil)) (qCall RLen (qCons (qVar 1) qNil))))) (qRet (qC (.bl false))) qNext)
  (qSeq (qFor (qRng1 (qCall RLen (qCons (qVar 1) qNil))) (pName 2)
    (qIf (qOr (qNot (qTest (qCall p_law_whole_number (qCons (qIx (qVar 0) (qVar 2)) qNil)))) (qTest (qNe (qIx (qVar 0) (qVar 2)) (qIx (qVar 1) (qVar 2))))) (qRet (qC (.bl false))) qNext))
  (qRet (qC (.bl true)))))
theorem IsI.len {x : PV} {ns : List Int} (h : IsI x ns) : lenOf x = some ns.length := by
  rcases h with rfl | rfl <;> (show some (intz ns).length = _; rw [ints_len])
theorem rd_law_row_is {K : PySem.W.Frag} (kt : PySem.W.kitOne K (.type "tuple") (.type "tuple") = some true) : Rd1 (t_law_row_is K) ["found", "due", "k"] p_law_row_is := by
  rintro xs Q ⟨y, ns, ms, rfl, hy, hn, hm, q⟩
  refine ⟨_, rfl, _, _, rfl, kt, _, rfl, iteF ⟨_, rfl, _, _, rfl, rfl, _, rfl, _, _, rfl, hy.len, .inl ⟨_, _, rfl, rfl, _, rfl, ?_⟩⟩⟩
  rw [ints_len]
  by_cases hl : ns.length = ms.length
  · show if (!decide ((ns.length : Int) = (ms.length : Int))) = true then _ else _
    rw [decide_eq_true (by omega)]
    refine iteF ⟨_, rfl, _, _, rfl, hy.len, _, rfl, by omega, by omega, fun i ρ => ∃ z, ρ = [some (.sh true (.tup (intz ns))), some (.sh (flat y) y), z] ∧ ns.take i = ms.take i, ⟨none, ?_, rfl⟩, ?_, ?_⟩
    · show startP _ _ = _
      unfold startP
      show [some (Slot.sh (flat (.tup (intz ns))) (.tup (intz ns))), _, _] = _
      rw [flat_tupI]
    · rintro i z ρ hz ⟨z0, rfl, e⟩
      obtain ⟨rfl, hi⟩ := rngP_at hz
      have i1 : i < ms.length := by simpa using hi
      have i2 : i < ns.length := by omega
      have e0 : (0 : Int) + (i : Int) = (i : Int) := by omega
      have a1 : atI (intz ns) ((0 : Int) + (i : Int)) = some (.int ns[i]) := by rw [e0]; exact atI_nat (by rw [List.getElem?_map, List.getElem?_eq_getElem i2]; rfl)
      have a2 : atI (intz ms) ((0 : Int) + (i : Int)) = some (.int ms[i]) := by rw [e0]; exact atI_nat (by rw [List.getElem?_map, List.getElem?_eq_getElem i1]; rfl)
      refine ⟨_, rfl, _, rfl, _, _, _, rfl, rfl, a1, _, rfl, _, rfl, iteF ⟨_, rfl, _, rfl, _, _, _, rfl, rfl, a1, _, rfl, _, rfl, _, _, _, hy.seq, rfl, a2, .inl ⟨_, _, rfl, rfl, _, rfl, ?_⟩⟩⟩
      by_cases h : ns[i] = ms[i]
      · show if (!decide (ns[i] = ms[i])) = true then _ else _
        rw [decide_eq_true h]
        refine iteF ⟨_, rfl, ?_⟩
        rw [List.take_add_one, List.take_add_one, e, List.getElem?_eq_getElem i1, List.getElem?_eq_getElem i2, h]
      · show if (!decide (ns[i] = ms[i])) = true then _ else _
        rw [decide_eq_false h]
        refine iteT ⟨trivial, ?_⟩
        rw [decide_eq_false (fun z => h (by subst z; rfl))] at q
        exact q
    · rintro ρ ⟨z, rfl, e⟩
      rw [rngP_length] at e
      have : ns = ms := by
        have h1 : ns.take ((ms.length : Int).toNat) = ns := List.take_of_length_le (by omega)
        have h2 : ms.take ((ms.length : Int).toNat) = ms := List.take_of_length_le (by omega)
        rw [h1, h2] at e; exact e
      rw [decide_eq_true this] at q
      exact ⟨trivial, q⟩
  · show if (!decide ((ns.length : Int) = (ms.length : Int))) = true then _ else _
    rw [decide_eq_false (by omega)]
    refine iteT ⟨trivial, ?_⟩
    rw [decide_eq_false (fun z => hl (by rw [z]))] at q
    exact q
theorem rd_law_whole_number {K : PySem.W.Frag} (k1 : PySem.W.kitOne K (.type "int") (.type "int") = some true) (k2 : PySem.W.kitOne K (.type "int") (.type "bool") = some false) : Rd1 (t_law_whole_number K) ["found"] p_law_whole_number := by
  rintro xs Q ⟨i, rfl, q⟩
  exact ⟨_, rfl, _, _, rfl, k1, _, rfl, iteT ⟨_, rfl, _, _, rfl, k2, _, rfl, trivial, q⟩⟩
end Core
namespace PySem
end PySem
namespace PP
open PySem L2 PyProof.Rows
section
variable {X : Cx} {a b e : Expr} {ta tb te : PTE} {tr : PTA} {pos p2 p3 pos2 : Pos}
end
def spRises (K : PySem.W.Frag) : Sp := fun vs H Q _ => ∃ (a : Addr) (ns : List Int), vs = [.ref a] ∧ (SqT K H a (ns.map V.int) ∨ SqL K H a (ns.map V.int)) ∧ ns.length ≤ 1000 ∧ ∀ H', Same H H' → Q (.bl (Core.risesB ns)) H'
section
variable {P : Program} {w : World} {K : PySem.W.Frag} {mg : Str → Option Value} {base : Heap} {f : Addr} {fd : FuncData} {k : Nat}
theorem df_rises (F : FnOk P w K mg base CX0 k f fd ["things"] (spRises K)) (b : Binds K fd ["things"] []) (kp : PySem.W.keepIn K (.ref f) = true) (m : mg "rises" = some (.ref f)) : Df P w K mg base k "rises" ["things"] Core.p_rises := by
  refine ⟨f, fd, F.imp fun vs H Q E h => ?_, b, kp, m⟩
  obtain ⟨xs, Qp, r, ⟨x, ns, rfl, hx, hl, q⟩, k⟩ := h
  obtain ⟨v, rfl, r1⟩ := r.one
  rcases hx with rfl | rfl
  · obtain ⟨a, us, rfl, h, r2⟩ := r1.sqT
    obtain rfl := r2.ofInts
    exact ⟨a, ns, rfl, .inl (SqT.of h), hl, fun H' s => k _ H' _ s (.bl _) q⟩
  · obtain ⟨a, us, rfl, _, h, r2⟩ := r1.sqL
    obtain rfl := r2.ofInts
    exact ⟨a, ns, rfl, .inr (SqL.of h), hl, fun H' s => k _ H' _ s (.bl _) q⟩
end
end PP
namespace Core
open PySem L2 PP
def two (l : Int × Int) : List Int := [l.1, l.2]
end Core
namespace Core
open PySem L2 PP
theorem cut_from (ns : List Int) {k : Int} (h : 0 ≤ k) : cutP (intz ns) (some k) none = intz (ns.drop k.toNat) := by
  unfold cutP
  have e1 : HT.sIx (intz ns).length 0 (some k) = min k.toNat (intz ns).length := by
    have := HT.sIx_nat (intz ns).length 0 k.toNat
    rw [show ((k.toNat : Nat) : Int) = k by omega] at this
    exact this
  have e2 : HT.sIx (intz ns).length (intz ns).length none = (intz ns).length := rfl
  rw [e1, e2, ints_len]
  rw [List.take_of_length_le (by rw [List.length_drop, ints_len]; omega)]
  show _ = List.map PV.int _
  rw [List.map_drop]
  by_cases hk : k.toNat ≤ ns.length
  · rw [Nat.min_eq_left hk]
  · rw [Nat.min_eq_right (by omega), List.drop_of_length_le (by rw [ints_len]; omega), List.drop_of_length_le (by rw [ints_len]; omega)]
end Core
namespace Core
open PySem L2 PP
structure Upto (i : Int) (ms : List Int) : Prop where
  up : ms.Pairwise (· < ·)
  inn : ∀ x ∈ ms, 0 ≤ x ∧ x < i
  len : (ms.length : Int) ≤ i
theorem Upto.set {n : Nat} {ms : List Int} (h : Upto (n : Int) ms) : isSetB n ms = true := by
  unfold isSetB
  rw [pair_up h.up, Bool.true_and, List.all_eq_true]
  intro b hb
  obtain ⟨x, hx, rfl⟩ := List.mem_map.mp hb
  have := h.inn x hx
  unfold inB
  simp [this]
end Core
namespace Core
open PySem L2 PP
def p_law_k10 : PSp := fun xs Q => ∃ ns : List Int, xs = [.scr ns] ∧ ns.length ≤ 63 ∧ Q (.bl true)
structure Kits (K : PySem.W.Frag) : Prop where
  ii : PySem.W.kitOne K (.type "int") (.type "int") = some true
  ib : PySem.W.kitOne K (.type "int") (.type "bool") = some false
  tt : PySem.W.kitOne K (.type "tuple") (.type "tuple") = some true
  ll : PySem.W.kitOne K (.type "list") (.type "list") = some true
  bb : PySem.W.kitOne K (.type "bool") (.type "bool") = some true
theorem kits (K : PySem.W.Frag) : Kits K := by
  have same : ∀ n : String, PySem.W.kitMeta n = true → True := fun _ _ => trivial
  refine ⟨?_, ?_, ?_, ?_, ?_⟩
  · unfold PySem.W.kitOne; rw [if_pos (by decide)]
  · have e : (if PySem.W.kitMeta "bool" = true then (fastBuiltinMro "int").map (·.contains (Value.type "bool")) else none) = some false := by decide +kernel
    unfold PySem.W.kitOne
    rw [if_neg (by decide)]
    exact e
  · unfold PySem.W.kitOne; rw [if_pos (by decide)]
  · unfold PySem.W.kitOne; rw [if_pos (by decide)]
  · unfold PySem.W.kitOne; rw [if_pos (by decide)]
end Core
namespace PP
open PySem L2 PyProof.Rows
theorem fnP_of {P : Program} {w : World} {K : PySem.W.Frag} {mg : Str → Option Value} {base : Heap} {k : Nat} {x : Str} {ps N : List Str} {p : PSp} {st : Stmt} {f : Addr} {fd : FuncData} (F : Fun K x x st f fd) (S : FnScope N ps (defScope st))
    (len : ∀ xs Q, p xs Q → xs.length = ps.length)
    (body : ∀ (cdv : Value) (A : Around) (outer : List Env) (s : Shared) (H : Hp) (E : XK), Room k (A.deeper (envOfC x (defScope st) s.heap.objs.size f cdv)) →
      ∃ t, QSs (cxOf CX0 P w K mg base N x (defScope st) f cdv A outer s H E).nox (defBody st) t ∧ ∀ xs Q, p xs Q → t { nx := fun _ => Q .non, rt := Q } (startP N xs)) : FnOk P w K mg base CX0 (k + 1) f fd ps (spP K p) := by
  refine F.ok S (fun vs H Q E h => ?_) (fun cdv A outer s H vs Q E hr h => ?_)
  · obtain ⟨xs, Qp, r, q, _⟩ := h
    rw [r.length]; exact len xs Qp q
  · obtain ⟨xs, Qp, r, q, k⟩ := h
    obtain ⟨t, ht, hq⟩ := body cdv A outer s H E hr
    refine ⟨_, ht, fun _ => False, startP N xs, _, startP_px r, hq xs Qp q, ?_, ?_, ?_, ?_⟩
    · exact fun W' σ' H' ρ' e px q => k _ _ _ px.same .non q
    · exact fun v H' x s r q => k _ _ _ s r q
    · exact fun W' σ' H' ρ' e px q => q
    · exact fun W' σ' H' ρ' e px q => q
def spLawP (K : PySem.W.Frag) : Sp := fun vs H Q _ => ∃ (a : Addr) (ns : List Int), vs = [.ref a] ∧ Scr K H a ns ∧ ns.length ≤ 63 ∧ ∀ H', Q (.bl true) H'
theorem law_ok {P : Program} {w : World} {K : PySem.W.Frag} {mg : Str → Option Value} {base : Heap} {k : Nat} {f : Addr} {fd : FuncData} (F : FnOk P w K mg base CX0 k f fd ["script"] (spP K Core.p_law_k10)) : FnOk P w K mg base CX0 k f fd ["script"] (spLawP K) :=
  F.imp fun vs H Q E h => by
    obtain ⟨a, ns, rfl, hs, hl, q⟩ := h
    refine ⟨[.scr ns], fun z => z = .bl true, .cons (.scr hs) .nil, ⟨ns, rfl, hl, rfl⟩, ?_⟩
    rintro v H' x _ r rfl
    cases r
    exact q H'
theorem scr_of {K : PySem.W.Frag} {H : Hp} {a : Addr} {ns : List Int} (hO : Only H) (h : SqL K H a (ns.map V.int)) : Scr K H a ns := by
  rcases h with (h | ⟨o, h⟩) | h
  · rcases hO a with e | ⟨o, xs, e⟩ <;> (rw [h] at e; cases e)
  · exact .inl ⟨o, h⟩
  · exact .inr h
section
variable {X : Cx} {e : Expr} {te : PTE} {pos : Pos}
end
end PP
namespace PyProof.Rows
open PySem
section
variable {prog : Program} {w : World} {A : Around} {E : Value → Shared → Prop} {s : Shared}
end
end PyProof.Rows
namespace PP
open PySem L2 PyProof.Rows
section
variable {X : Cx} {a b e : Expr} {ta tb te : PTE} {tr : PTA} {pos p2 : Pos}
def RCat : PV → Tg → PV → Tg → PK → Prop := fun x _ y _ Q => ∃ xs ys, x = .lst xs ∧ y = .lst ys ∧ flats xs = true ∧ flats ys = true ∧ xs.length + ys.length ≤ 16000000 ∧ Q (.lst (xs ++ ys)) .fr
abbrev qCat (ta tb : PTE) : PTE := q2 RCat ta tb
theorem cov_cat : Cov2 X RCat rCat := by
  rintro W Hs H u v x y g g' Q Q' s n r1 r2 ⟨xs, ys, rfl, rfl, f1, f2, hl, q⟩ k
  obtain ⟨a, us, rfl, _, h1, q1⟩ := r1.sqL
  obtain ⟨b, ws, rfl, _, h2, q2⟩ := r2.sqL
  have l1 := q1.length
  have l2 := q2.length
  refine ⟨a, b, us, ws, rfl, rfl, h1, h2, lim (by omega), fun p hp => k _ _ _ .fr (same_new hp _) (.lst (s.free hp) upd_same (((q1.flat f1).append (q2.flat f2)).same (same_new hp _) fun _ z => z)) q⟩
theorem q_cat (ha : QE X a ta) (hb : QE X b tb) : QE X (.BinOp a .Add b pos) (qCat ta tb) := q_op op_cat cov_cat ha hb
end
end PP
namespace L2
open PySem PySem.Spec PyProof.Rows
section
variable {X : Cx}
end
end L2
namespace Zp
open PySem PyProof.Rows
section
variable {prog : Program} {w : World} {A : Around} {E : Value → Shared → Prop} {s : Shared}
end
end Zp
namespace L2
open PySem PySem.Spec PyProof.Rows
section
variable {X : Cx}
end
end L2
namespace Zp
open PySem PyProof.Rows
end Zp
namespace L2
open PySem PySem.Spec PyProof.Rows
section
variable {X : Cx}
end
end L2
namespace PP
open PySem L2 PyProof.Rows
section
variable {X : Cx} {σ : L2.St} {H : Hp} {te : PTE} {R : It → Hp → Prop}
end
end PP
namespace PP
open PySem L2 PyProof.Rows
section
variable {X : Cx} {e : Expr} {te : PTE} {pos p2 : Pos} {scope : Scope} {N : List Str} {fr : List (Option Nat)} {x y : Str} {tp xp yp : Pos} {kt : Nat} {iter elt : Expr} {ti : PTI}
end
end PP
namespace PP
open PySem L2 PyProof.Rows
section
variable {X : Cx} {a b e o f : Expr} {ta tb te td tk tx : PTE} {pos p2 apos cpos : Pos} {σ : L2.St} {H : Hp} {Q' : VK}
end
end PP
namespace PP
open PySem L2 PyProof.Rows
section
variable {X : Cx} {a b : Expr} {ta tb : PTE} {pos : Pos}
end
end PP
namespace Core
open PySem L2 PP
section
variable (ws : List Int) (ls : List (Int × Int)) (os ns : List Int)
end
section
variable {ws : List Int} {ls : List (Int × Int)} {os ns : List Int}
end
end Core
namespace Core
open PySem L2 PP
end Core
namespace Core
open PySem L2 PP
end Core
namespace Core
open PySem L2 PP
end Core
namespace Core
open PySem L2 PP
def outsI (ns S : List Int) : Int := (ns.length : Int) - (((ns.filter fun x => decide (x ∈ S)).length : Nat) : Int)
def stays (ws : List Int) (ls : List (Int × Int)) (S : List Int) (h : Int) : Bool := decide (outsI (nbrs ls h) S < ws.getD h.toNat 0)
def stay (ws : List Int) (ls : List (Int × Int)) (S : List Int) : List Int := S.filter (stays ws ls S)
end Core
namespace Core
open PySem L2 PP
section
variable {ws : List Int} {ls : List (Int × Int)} {S T : List Int}
end
end Core
namespace Core
open PySem L2 PP
end Core
namespace Core
open PySem L2 PP
section
variable {ws : List Int} {ls : List (Int × Int)} {ns : List Int}
end
end Core
namespace Raw
open PySem PySem.W PyProof.Rows
section
variable {prog : Program} {w : World} {A : Around} {E : Value → Shared → Prop} {s : Shared} {T : String} {r d : Addr} {n : Nat} {P : Nat → Value → Prop} {OK : Heap → Prop}
end
end Raw
namespace L2
open PySem PySem.Spec PyProof.Rows
section
variable {X : Cx}
end
end L2
namespace PP
open PySem L2 PyProof.Rows
section
variable {X : Cx} {a b e : Expr} {ta tb te : PTE} {tr : PTA} {pos p2 : Pos}
end
end PP
namespace Core
open PySem L2 PP
end Core
namespace Core
open PySem L2 PP
section
variable {ws : List Int} {ls : List (Int × Int)} {ns : List Int} {m : Nat}
end
end Core
namespace Core
open PySem L2 PP
theorem cut_to {xs : List PV} {w : Int} (h : 0 ≤ w) : cutP xs none (some w) = xs.take w.toNat := by
  unfold cutP
  rw [HT.sIx_none, List.drop_zero, Nat.sub_zero]
  have : HT.sIx xs.length xs.length (some w) = min w.toNat xs.length := by
    show (if w < 0 then (w + (xs.length : Int)).toNat else min w.toNat xs.length) = _
    rw [if_neg (by omega)]
  rw [this, ← List.take_take, List.take_length]
end Core
namespace Core
open PySem L2 PP
section
variable {ws : List Int} {ls : List (Int × Int)} {ns : List Int} {m : Nat}
end
end Core
namespace Core
open PySem L2 PP
end Core
namespace L2
open PySem PySem.Spec PyProof.Rows
section
variable {X : Cx}
end
end L2
namespace Zp
open PySem PyProof.Rows
section
variable {prog : Program} {w : World} {A : Around} {E : Value → Shared → Prop} {s : Shared}
end
end Zp
namespace L2
open PySem PySem.Spec PyProof.Rows
section
variable {X : Cx}
end
section
variable {X : Cx}
end
end L2
namespace PP
open PySem L2 PyProof.Rows
section
variable {X : Cx} {a b e : Expr} {ta tb te : PTE} {tr : PTA} {pos p2 : Pos}
end
section
variable {X : Cx} {σ : L2.St} {H : Hp} {ta tb : PTE} {R : It → Hp → Prop}
end
end PP
namespace PP
open PySem L2 PyProof.Rows
section
variable {X : Cx} {a b e : Expr} {ta tb te : PTE} {pos p2 : Pos}
end
end PP
namespace Core
open PySem L2 PP
end Core
namespace L2
open PySem Core
end L2
namespace PP
open PySem L2 Core
section
variable {P : Program} {w : World} {K : PySem.W.Frag} {mg : Str → Option Value} {base : Heap} {f : Addr} {fd : FuncData} {k : Nat}
end
end PP
namespace Core
open PySem L2 PP
end Core
namespace Core
open PySem L2 PP
end Core
namespace Core
open PySem L2 PP
end Core
namespace Core
open PySem L2 PP
end Core
namespace Core
open PySem L2 PP
end Core
namespace Core
open PySem L2 PP
end Core
namespace Core
open PySem L2 PP
section
variable {ws : List Int} {ls : List (Int × Int)} {ns wts : List Int} {m : Nat}
end
end Core
namespace Core
open PySem L2 PP
end Core
namespace Core
open PySem L2 PP
theorem rng_up (n : Nat) : (rng n).Pairwise (· < ·) := by
  unfold rng
  rw [List.pairwise_map]
  exact (List.pairwise_lt_range (n := n)).imp fun h => by omega
theorem rng_set (n : Nat) (p : Int → Bool) : isSetB n ((rng n).filter p) = true := by
  refine Upto.set ⟨(rng_up n).sublist List.filter_sublist, fun x hx => ?_, ?_⟩
  · have := mem_rng.mp (List.mem_filter.mp hx).1
    exact this
  · have := List.length_filter_le p (rng n)
    rw [rng_len] at this
    omega
end Core
namespace Core
open PySem L2 PP
section
variable {ws : List Int} {ls : List (Int × Int)} {ns wts : List Int} {m : Nat}
def loose (ls : List (Int × Int)) (wts ns : List Int) : List ((Int × Int) × Int) := (ls.zip wts).filter fun z => !(decide (z.1.1 ∈ ns) && decide (z.1.2 ∈ ns))
end
end Core
namespace Core
open PySem L2 PP
end Core
namespace L2
open PySem PySem.Spec PyProof.Rows
section
variable {X : Cx} {pos : Pos}
end
end L2
namespace PP
open PySem L2 PyProof.Rows
section
variable {X : Cx} {a b e : Expr} {ta tb te : PTE} {D : Ends} {σ : L2.St} {H : Hp} {pos p2 : Pos}
end
end PP
namespace Core
open PySem L2 PP
end Core
set_option maxHeartbeats 1000000
namespace Core
open PySem L2 PP
end Core
set_option maxHeartbeats 1000000
namespace PP
open PySem L2 PyProof.Rows
section
variable {X : Cx} {a b e : Expr} {ta tb te : PTE} {pos p2 : Pos}
end
end PP
set_option maxHeartbeats 1000000
namespace Core
open PySem L2 PP
end Core
set_option maxHeartbeats 1000000
namespace Core
open PySem L2 PP
section
variable {ws : List Int} {ls : List (Int × Int)} {ns wts : List Int} {m : Nat}
end
end Core
namespace PP
open PySem L2 PyProof.Rows
abbrev PSpX := (Str → Prop) → PSp
def EX (K : PySem.W.Frag) (H0 : Hp) (Ep : Str → Prop) : XK := fun c d H' => d = none ∧ Same H0 H' ∧ ∃ n C, c = .ref C ∧ PySem.W.nsIn K mainGlobals n = some (some (.ref C)) ∧ Ep n
def spX (K : PySem.W.Frag) (p : PSpX) : Sp := fun vs H Q E => ∃ xs Qp Ep, Reps K (fun _ => True) H vs xs ∧ p Ep xs Qp ∧ (∀ v H' x, Same H H' → Rep K (fun a => H a = none) H' v x → Qp x → Q v H') ∧
  ∀ n C H', Same H H' → PySem.W.nsIn K mainGlobals n = some (some (.ref C)) → Ep n → E (.ref C) none H'
structure DfX (P : Program) (w : World) (K : PySem.W.Frag) (mg : Str → Option Value) (base : Heap) (k : Nat) (x : Str) (ps : List Str) (p : PSpX) : Prop where
  ex : ∃ f fd, FnOk P w K mg base (CXE P w) k f fd ps (spX K p) ∧ Binds K fd ps [] ∧ PySem.W.keepIn K (.ref f) = true ∧ mg x = some (.ref f)
section
variable {X : Cx} {σ : L2.St} {H : Hp} {D : Ends} {tr : PTA} {Q' : VK} {a b c e : Expr} {es : List Expr} {pos p2 cp np hp : Pos} {t : PTS} {te : PTE} {tc : PTT}
def qCallX (Ep : Str → Prop) (p : PSpX) (t : PTA) : PTE := qCall (p Ep) t
theorem le_fnX {p : PSpX} {Ep : Str → Prop} (h : LE X (qCallX Ep p tr) σ H Q') : tCall (spX X.K p) [] (EX X.K X.H₀ Ep) (LA X tr) σ H Q' := by
  obtain ⟨W, ρ, Q, px, q, k⟩ := h
  refine ⟨W, ρ, _, px, q, fun vs H1 xs s1 r1 q1 => ⟨_, _, Ep, by rw [List.append_nil]; exact r1.any, q1, fun v H' x s2 r2 q2 => k v H' x .fr (s1.trans s2) (r2.same (Same.refl _) fun _ z => s1.free z) q2, fun n C H' s2 z1 z2 => ⟨rfl, (px.same.trans s1).trans s2, n, C, rfl, z1, z2⟩⟩⟩
theorem q_callN {k j : Nat} {x : Str} {ps : List Str} {p : PSpX} (d : DfX X.prog X.w X.K X.mg X.base k x ps p) (hr : Room j X.A) (ha : QA X (e :: es) tr) (hkj : k ≤ j := by decide) (hg : Gl X x := by rfl) (hdb : (x == ("__debug__" : Str)) = false := by decide)
    (he : starEach (e :: es) X.env = (false, eval e X.env) :: starEach es X.env := by rfl) (hpl : (backTo pos (starEach es X.env)).any (·.1) = false := by rfl) : QE X (.Call (.Name x p2) (e :: es) [] pos) (qCall (p fun _ => False) tr) := by
  obtain ⟨f, fd, F, b, kp, m⟩ := d.ex
  refine peI (pe_call F (E := EX X.K X.H₀ fun _ => False) (hr.mono hkj) hg m kp b .nil (fun _ _ _ _ _ _ _ h => ?_) ha hdb he hpl) fun _ _ _ h => le_fnX (Ep := fun _ => False) h
  obtain ⟨_, _, _, _, _, _, _, _, _, _, _, _, z⟩ := h
  exact z.elim
def qRaise (Ep : Str → Prop) (n : Str) (t : PTA) : PTS := fun _ ρ => t ρ fun xs => xs.length ≤ 1000 ∧ Ep n
theorem ls_raise {Ep : Str → Prop} {n : Str} {C : Addr} (hn : PySem.W.nsIn X.K mainGlobals n = some (some (.ref C))) (h : LS X (qRaise Ep n tr) D σ H) : tRaise (EX X.K X.H₀ Ep) C (LA X tr) D σ H := by
  obtain ⟨W, ρ, D', px, q, k⟩ := h
  exact ⟨W, ρ, _, px, q, fun vs H1 xs s1 r z => ⟨by rw [r.length]; exact le1000 z.1, rfl, px.same.trans s1, n, C, rfl, hn, z.2⟩⟩
structure Xc (K : PySem.W.Frag) (mg : Str → Option Value) (base : Heap) (n : Str) : Prop where
  ex : ∃ C B newId initId bm, OwnCls n C bm newId mg base ∧ ExcBaseFacts B newId initId bm ∧ PySem.W.nsIn K mainGlobals n = some (some (.ref C))
theorem s_raise {Ep : Str → Prop} {n : Str} (hX : XOk X (EX X.K X.H₀ Ep)) (x : Xc X.K X.mg X.base n) (ha : QA X (e :: es) tr) (hc : X.calm = true := by rfl) (hg : Gl X n := by rfl) (hd : (n == ("__debug__" : Str)) = false := by decide)
    (he : starEach (e :: es) X.env = (false, eval e X.env) :: starEach es X.env := by rfl) (hpl : (backTo cp (starEach es X.env)).any (·.1) = false := by rfl) : QS X (.Raise (some (.Call (.Name n np) (e :: es) [] cp)) none pos) (qRaise Ep n tr) := by
  obtain ⟨C, B, newId, initId, bm, O, FB, hn⟩ := x.ex
  exact psI (ps_raise hX hc O FB ha hg hd he hpl) fun _ _ _ => ls_raise hn
abbrev PTB := PEnds → (Str → Prop) → PEnv → Prop
def LB (X : Cx) (t : PTB) : TB := fun D Ex σ H => ∃ (W : Addr → Prop) (ρ : PEnv) (D' : PEnds) (Ep : Str → Prop), PX X.K X.H₀ W σ ρ H ∧ t D' Ep ρ ∧ EOk X W H D' D ∧ ∀ n C H', Same H H' → PySem.W.nsIn X.K mainGlobals n = some (some (.ref C)) → Ep n → Ex (.ref C) none H'
def QB (X : Cx) (sts : List Stmt) (t : PTB) : Prop := PB X sts (LB X t)
theorem pbI {sts : List Stmt} {t t' : TB} (h : PB X sts t) (m : ∀ D Ex σ H, t' D Ex σ H → t D Ex σ H) : PB X sts t' := fun pins s σ H D Ex I q => h pins s σ H D Ex I (m D Ex σ H q)
def qbCall (p : PSpX) (t : PTA) : PTB := fun D Ep ρ => t ρ fun xs => p Ep (xs.map (·.1)) fun _ => D.nx ρ
theorem b_call {k j : Nat} {x : Str} {ps : List Str} {p : PSpX} (d : DfX X.prog X.w X.K X.mg X.base k x ps p) (hr : Room j X.A) (ha : ∀ E, QA (X.wish E) (e :: es) tr) (hkj : k ≤ j := by decide) (hg : Gl X x := by rfl) (hdb : (x == ("__debug__" : Str)) = false := by decide)
    (he : starEach (e :: es) X.env = (false, eval e X.env) :: starEach es X.env := by rfl) (hpl : (backTo cp (starEach es X.env)).any (·.1) = false := by rfl) (hsw : swapsWith (.Call (.Name x p2) (e :: es) [] cp) none pos.line X.env = pure false := by rfl) : QB X [.Expr (.Call (.Name x p2) (e :: es) [] cp) pos] (qbCall p tr) := by
  obtain ⟨f, fd, F, b, kp, m⟩ := d.ex
  refine pbI (pb_call (t := LA X tr) F (hr.mono hkj) hg m kp b (fun E => ha E) hdb he hpl hsw) fun D Ex σ H h => ?_
  obtain ⟨W, ρ, D', Ep, px, q, k, ke⟩ := h
  exact ⟨W, ρ, _, px, q, fun vs H1 xs s1 r q1 => ⟨_, _, Ep, r.any, q1, fun v H' x s2 r2 q2 => k.nx W σ H' ρ (Ev.same (s1.trans s2)) (px.mono (s1.trans s2)) q2, fun n C H' s2 z1 z2 => ke n C H' (s1.trans s2) z1 z2⟩⟩
def endsP (D : PEnds) (i : Nat) : PEnds := { nx := fun ρ => D.nx (ρ.set i none), rt := D.rt, bk := fun ρ => D.bk (ρ.set i none), ct := fun ρ => D.ct (ρ.set i none) }
def errs : List Str := ["BadWeb", "BadSet", "BadOrder", "BadPrices", "BadBoard", "BadDeed", "NotWood", "NoPaper", "NoSuch", "TooMany", "NoText", "OddRound"]
def isaC (n m : Str) : Option Bool := if errs.contains n then some (n == m || m == "HearthError" || m == "ValueError") else none
def qTry (m : Str) (i : Nat) (tb : PTB) (ts : PTS) : PTS := fun D ρ => tb D (fun n => isaC n m = some true ∧ ts (endsP D i) (ρ.set i (some (.sh true (.exc n))))) ρ
theorem ls_try {m : Str} {Ch : Addr} {i : Nat} {tb : PTB} {ts : PTS} (hs : ∀ n C, isaC n m = some true → PySem.W.nsIn X.K mainGlobals n = some (some (.ref C)) → PySem.W.subIn X.K (.ref C) (.ref Ch) = some true) (h : LS X (qTry m i tb ts) D σ H) : tTry X.K Ch i (LB X tb) (LS X ts) D σ H := by
  obtain ⟨W, ρ, D', px, q, k⟩ := h
  refine ⟨W, ρ, D', _, px, q, k, fun n C H' s z1 z2 a C' oe hc na hcl => ?_⟩
  cases hc
  refine ⟨hs n C z2.1 z1, W, _, endsP D' i, (px.mono (s.trans (same_new na _))).setSh (g := true) (.exc upd_same z1 hcl), z2.2, ?_⟩
  have k' := k.step (Ev.same (W := W) (s.trans (same_new na (.frz oe (.own a)))))
  exact ⟨fun W' σ' H2 ρ' ev px' q' => k'.nx W' _ H2 _ ev px'.setNone q', k'.rt, fun W' σ' H2 ρ' ev px' q' => k'.bk W' _ H2 _ ev px'.setNone q', fun W' σ' H2 ρ' ev px' q' => k'.ct W' _ H2 _ ev px'.setNone q'⟩
structure Cat (K : PySem.W.Frag) (mg : Str → Option Value) (m : Str) : Prop where
  ex : ∃ Ch, mg m = some (.ref Ch) ∧ Catch K Ch ∧ ∀ n C, isaC n m = some true → PySem.W.nsIn K mainGlobals n = some (some (.ref C)) → PySem.W.subIn K (.ref C) (.ref Ch) = some true
theorem s_try (i : Nat) {m n : Str} {b₀ : Stmt} {suite body : List Stmt} {tb : PTB} {ts : PTS} (ct : Cat X.K X.mg m) (hN : X.N.Nodup) (hb : QB X body tb) (hs : ∀ a, QSs (X.suite a) (b₀ :: suite) ts) (hstk : X.stack = X.env :: X.outer ∧ X.env.frame = some X.env.locals := by exact ⟨rfl, rfl⟩) (hi : X.N[i]? = some n := by rfl) (hl : X.env.scope.names.lookup n = some .local := by rfl) (hg : Gl X m := by rfl)
    (hd : (m == ("__debug__" : Str)) = false := by decide) : QS X (.Try body [.ExceptHandler (some (.Name m np)) (some n) (b₀ :: suite) hp] [] [] pos) (qTry m i tb ts) := by
  obtain ⟨Ch, hm, c, sub⟩ := ct.ex
  exact psI (ps_try (ts := LS X ts) hstk hb hg hm c hN hi hl (fun a => pssI (hs a) fun _ _ _ ⟨W, ρ, D', px, q, k⟩ => ⟨W, ρ, D', px, q, ⟨k.nx, k.rt, k.bk, k.ct⟩⟩) hd) fun _ _ _ => ls_try sub
def tyV : V → Value
  | .ref a => .ref a
  | .ty n => .type n
  | _ => .none
def rIsX (K : PySem.W.Frag) : List V → Hp → VK → Prop := fun xs H Q => ∃ v v2 b, xs = [v, v2] ∧ tyV v2 ≠ .none ∧ ((∃ a o C, v = .ref a ∧ H a = some (.frz o (.own a)) ∧ o.cls = .ref C ∧ ExcK K C ∧ PySem.W.kitOne K (.ref C) (tyV v2) = some b) ∨ (v = .non ∧ PySem.W.kitOne K (.type "NoneType") (tyV v2) = some b)) ∧ Q (.bl b) H
theorem call_isX : CallR X (.builtin "isinstance") (rIsX X.K) := by
  intro pins s σ H xs us Q I r h
  obtain ⟨v, v2, b, rfl, hv, hk, q⟩ := h
  obtain ⟨u, u', rfl, ru, ru'⟩ := vals2 r
  obtain rfl : u' = tyV v2 := by
    cases v2 <;> first | exact ru' | exact absurd rfl hv
  rcases hk with ⟨a, o, C, rfl, hH, hc, F, e⟩ | ⟨rfl, e⟩
  · obtain ⟨h1, _⟩ := I.hok a _ hH
    cases (show u = Value.ref a from ru)
    exact PySem.W.kia_one (kitx_exc F) I.kIn ⟨o, h1, hc⟩ e (fun z => nomatch z) fun tk => ⟨.bl b, H, I.tok tk, rfl, q⟩
  · cases (show u = Value.none from ru)
    exact PySem.W.kia_one PySem.W.kitx_none I.kIn trivial e (fun z => nomatch z) fun tk => ⟨.bl b, H, I.tok tk, rfl, q⟩
def isaP (m : Str) : PV → Option Bool
  | .exc n => isaC n m
  | .non => some false
  | _ => none
def qIsX (m : Str) (te : PTE) : PTE := fun ρ Q => te ρ fun x _ => ∃ b, isaP m x = some b ∧ Q (.bl b) .fr
structure IsA (K : PySem.W.Frag) (m : Str) (v2 : V) : Prop where
  nn : tyV v2 ≠ .none
  ex : ∀ n C b, PySem.W.nsIn K mainGlobals n = some (some (.ref C)) → isaC n m = some b → ExcK K C ∧ PySem.W.kitOne K (.ref C) (tyV v2) = some b
  no : PySem.W.kitOne K (.type "NoneType") (tyV v2) = some false
theorem q_isX {x : Str} {v2 : V} {px : Pos} (B : Bt X.mg) (A : IsA X.K x v2) (hx : PE X (.Name x px) (tC v2)) (ha : QE X a te) (hg : Gl X "isinstance" := by rfl)
    (he : starEach [a, .Name x px] X.env = (false, eval a X.env) :: starEach [.Name x px] X.env := by rfl) (he2 : starEach [.Name x px] X.env = (false, eval (.Name x px) X.env) :: starEach [] X.env := by rfl) (hpl : (backTo pos (starEach [.Name x px] X.env)).any (·.1) = false := by rfl) : QE X (.Call (.Name "isinstance" p2) [a, .Name x px] [] pos) (qIsX x te) :=
  peI (pe_callB call_isX hg B.isinst PyProof.Rows.boot_isinstance (pa_cons ha (pa_cons hx pa_nil he2) he) (he := he) (hpl := hpl)) fun σ H Q' h => by
    obtain ⟨W, ρ, Q, px, q, k⟩ := h
    refine ⟨W, ρ, _, px, q, ?_⟩
    rintro v H1 y g s r ⟨b, e, q⟩
    refine ⟨v, v2, b, rfl, A.nn, ?_, k _ _ _ .fr s (.bl _) q⟩
    cases r with
    | exc h z c =>
      obtain ⟨F, kt⟩ := A.ex _ _ _ z e
      exact .inl ⟨_, _, _, rfl, h, c, F, kt⟩
    | non => cases e; exact .inr ⟨rfl, A.no⟩
    | _ => cases e
end
section
variable {X : Cx} {a : Expr} {pos p2 px : Pos} {te : PTE}
structure IsN (K : PySem.W.Frag) (mg : Str → Option Value) (m : Str) : Prop where
  ex : ∃ C, mg m = some (.ref C) ∧ IsA K m (.ref C)
structure IsV (K : PySem.W.Frag) (mg : Str → Option Value) : Prop where
  mg : mg "ValueError" = none
  is : IsA K "ValueError" (.ty "ValueError")
theorem q_isXo {x : Str} (B : Bt X.mg) (A : IsN X.K X.mg x) (ha : QE X a te) (hgx : Gl X x := by rfl) (hdx : (x == ("__debug__" : Str)) = false := by decide) (hg : Gl X "isinstance" := by rfl)
    (he : starEach [a, .Name x px] X.env = (false, eval a X.env) :: starEach [.Name x px] X.env := by rfl) (he2 : starEach [.Name x px] X.env = (false, eval (.Name x px) X.env) :: starEach [] X.env := by rfl) (hpl : (backTo pos (starEach [.Name x px] X.env)).any (·.1) = false := by rfl) : QE X (.Call (.Name "isinstance" p2) [a, .Name x px] [] pos) (qIsX x te) := by
  obtain ⟨C, m, i⟩ := A.ex
  exact q_isX B i (pe_glob hgx m rfl hdx) ha hg he he2 hpl
theorem q_isXv (B : Bt X.mg) (A : IsV X.K X.mg) (ha : QE X a te) (hgx : Gl X "ValueError" := by rfl) (hg : Gl X "isinstance" := by rfl)
    (he : starEach [a, .Name "ValueError" px] X.env = (false, eval a X.env) :: starEach [.Name "ValueError" px] X.env := by rfl) (he2 : starEach [.Name "ValueError" px] X.env = (false, eval (.Name "ValueError" px) X.env) :: starEach [] X.env := by rfl) (hpl : (backTo pos (starEach [.Name "ValueError" px] X.env)).any (·.1) = false := by rfl) : QE X (.Call (.Name "isinstance" p2) [a, .Name "ValueError" px] [] pos) (qIsX "ValueError" te) :=
  q_isX B A.is (pe_bltn (v := .ty "ValueError") hgx A.mg PyProof.Rows.Boot.«ValueError» rfl (by decide) (by decide)) ha hg he he2 hpl
end
structure XcK (K : PySem.W.Frag) (C : Addr) : Prop where
  cls : PySem.W.isClsIn K C = true
  ty : PySem.W.typeIn K (.ref C) = some (.type "type")
  ga : PySem.W.findIn K (.ref C) "__getattribute__" = some (some (.builtin "BaseException.__getattribute__"))
  gt : PySem.W.findIn K (.ref C) "__getattr__" = some none
  fc : PySem.W.findIn K (.ref C) "__class__" = some (some (.builtin "object.__class__"))
  fg : PySem.W.specialIn K (.builtin "object.__class__") "__get__" = some (some (.builtin "getset_descriptor.__get__"))
  ft : PySem.W.takesIn K (.builtin "object.__class__") = some true
  ob : PySem.W.mroIn K C (.type "object") = some true
  be : PySem.W.mroIn K C (.type "BaseException") = some true
theorem XcK.exc {K : PySem.W.Frag} {C : Addr} (h : XcK K C) : ExcK K C := ⟨h.cls, h.ga, h.gt, h.fc, h.fg, h.ft, h.ob, h.be⟩
theorem own_mk {K : PySem.W.Frag} {h₀ : Heap} {mg : Str → Option Value} {x : Str} {C : Addr} {bmB : List Value} {newId : String} (X : K.In h₀) (m : mg x = some (.ref C)) (q : PySem.W.excIn K C bmB newId = true) : OwnCls x C bmB newId mg h₀ := by
  refine ⟨m, ?_⟩
  unfold PySem.W.excIn at q
  split at q
  case h_2 => cases q
  rename_i dd cd sl ho
  split at q
  case h_2 => cases q
  rename_i C' bm k0 k1 k2 k3 n k5 hm hs
  simp only [Bool.and_eq_true, beq_iff_eq, Bool.not_eq_true'] at q
  obtain ⟨⟨⟨⟨⟨rfl, rfl⟩, dl⟩, ht⟩, hok⟩, hni⟩ := q
  obtain ⟨nm, bs, mro, ns, qn, hd, sn, sub, ab, col, del⟩ := cd
  dsimp only at hm dl hok hni
  subst hm dl
  obtain rfl : sl = #[k0, k1, k2, k3, some (.builtin n), k5] := by
    obtain ⟨l⟩ := sl
    exact congrArg Array.mk hs
  exact ⟨bm, ns, nm, qn, bs, hd, sn, sub, ab, col, dd, k0, k1, k2, k3, k5, _, X _ _ ho, .of_isNs (PySem.W.isNs_of_in X hok), PySem.W.nsMap_none_of_in X hok hni, PySem.W.tail_of_in X ht⟩
theorem isaC_in {n m : Str} {b : Bool} (h : isaC n m = some b) : n ∈ errs ∧ b = (n == m || m == "HearthError" || m == "ValueError") := by
  unfold isaC at h
  split at h
  · rename_i z
    exact ⟨by simpa using z, by cases h; rfl⟩
  · cases h
theorem kit_sub {K : PySem.W.Frag} {C D : Addr} {b : Bool} (hd : XcK K D) (ne : (C == D) = false) (s : PySem.W.subIn K (.ref C) (.ref D) = some b) : PySem.W.kitOne K (.ref C) (.ref D) = some b := by
  have ne' : (Value.ref C == Value.ref D) = false := by
    rw [beq_eq_false_iff_ne] at ne ⊢
    exact fun z => ne (Value.ref.inj z)
  have c := hd.cls
  unfold PySem.W.isClsIn at c
  unfold PySem.W.kitOne PySem.W.kitCls
  rw [if_neg (by rw [ne']; decide)]
  dsimp only
  rw [if_pos (by rw [c, hd.ty]; decide)]
  exact s
theorem kit_self {K : PySem.W.Frag} {C : Addr} : PySem.W.kitOne K (.ref C) (.ref C) = some true := by
  unfold PySem.W.kitOne
  rw [if_pos (beq_self_eq_true _)]
theorem kit_ve {K : PySem.W.Frag} {C : Addr} (s : PySem.W.subIn K (.ref C) (.type "ValueError") = some true) : PySem.W.kitOne K (.ref C) (.type "ValueError") = some true := by
  unfold PySem.W.kitOne PySem.W.kitCls
  rw [if_neg (fun z => by cases beq_iff_eq.mp z)]
  dsimp only
  rw [if_pos (by decide +kernel)]
  exact s
theorem kit_no {K : PySem.W.Frag} {D : Addr} (hd : XcK K D) (s : PySem.W.subIn K (.type "NoneType") (.ref D) = some false) : PySem.W.kitOne K (.type "NoneType") (.ref D) = some false := by
  have c := hd.cls
  unfold PySem.W.isClsIn at c
  unfold PySem.W.kitOne PySem.W.kitCls
  rw [if_neg (fun z => by cases beq_iff_eq.mp z)]
  dsimp only
  rw [if_pos (by rw [c, hd.ty]; decide)]
  exact s
theorem kit_nv {K : PySem.W.Frag} : PySem.W.kitOne K (.type "NoneType") (.type "ValueError") = some false := by
  have e : (if PySem.W.kitMeta "ValueError" = true then (fastBuiltinMro "NoneType").map (·.contains (Value.type "ValueError")) else none) = some false := by decide +kernel
  unfold PySem.W.kitOne
  rw [if_neg (by decide)]
  exact e
theorem DfX.of {P : Program} {w : World} {K : PySem.W.Frag} {mg : Str → Option Value} {base : Heap} {k : Nat} {x : Str} {ps N : List Str} {p : PSpX} {st : Stmt} {f : Addr} {fd : FuncData} (F : Fun K x x st f fd) (m : mg x = some (.ref f)) (S : FnScope N ps (defScope st))
    (hb : ∀ (kV doc pm : Value) (an : Option Addr) (cdv ct : Value) (us : List Value), us.length = ps.length → bindArgs (PySem.W.fnOf x x (defArgs st) (defBody st) (defScope st) .none kV doc pm an cdv ct) ⟨us, []⟩ = pure (ps.zip us))
    (t : (Str → Prop) → PTS) (len : ∀ Ep xs Q, p Ep xs Q → xs.length = ps.length) (rd : ∀ Ep xs Q, p Ep xs Q → t Ep { nx := fun _ => Q .non, rt := Q } (startP N xs))
    (body : ∀ (cdv : Value) (A : Around) (outer : List Env) (s : Shared) (H : Hp) (E : XK) (Ep : Str → Prop), Room k (A.deeper (envOfC x (defScope st) s.heap.objs.size f cdv)) → XOk (cxOf (CXE P w) P w K mg base N x (defScope st) f cdv A outer s H E) (EX K H Ep) →
      QSs (cxOf (CXE P w) P w K mg base N x (defScope st) f cdv A outer s H E) (defBody st) (t Ep)) : DfX P w K mg base (k + 1) x ps p := by
  refine ⟨f, fd, F.okX S (fun vs H Q E h => ?_) (fun cdv A outer s H vs Q E hr h => ?_), F.binds hb, F.kp, m⟩
  · obtain ⟨xs, Qp, Ep, r, q, _⟩ := h
    rw [r.length]; exact len Ep xs Qp q
  · obtain ⟨xs, Qp, Ep, r, q, k, ke⟩ := h
    have ht := body cdv A outer s H E Ep hr (xok_of fun c d H' z => ?_)
    · refine ⟨_, ht, fun _ => False, startP N xs, _, startP_px r, rd Ep xs Qp q, ?_, ?_, ?_, ?_⟩
      · exact fun W' σ' H' ρ' e px q => k _ _ _ px.same .non q
      · exact fun v H' x s r q => k _ _ _ s r q
      · exact fun W' σ' H' ρ' e px q => q
      · exact fun W' σ' H' ρ' e px q => q
    · obtain ⟨rfl, s1, n, C, rfl, z1, z2⟩ := z
      exact ke n C H' s1 z1 z2
end PP
namespace Core
open PySem L2 PP
abbrev RdX (t : (Str → Prop) → PTS) (N : List Str) (p : PSpX) : Prop := ∀ Ep xs Q, p Ep xs Q → t Ep { nx := fun _ => Q .non, rt := Q } (startP N xs)
def pX_made_set : PSpX := fun Ep xs Q => ∃ ws ls x ns, xs = [webP ws ls, x] ∧ IsI x ns ∧ ns.length ≤ 1000 ∧ (isSetB ws.length ns = true → Q (.tup (intz ns))) ∧ (isSetB ws.length ns = false → Ep "BadSet")
def tX_made_set (Ep : Str → Prop) : PTS := (qSeq (qIf (qNot (qTest (qCall p_is_set (qCons (qVar 0) (qCons (qVar 1) qNil))))) (qRaise Ep "BadSet" (qCons (qC (.str "a set is of rising hearths of the web")) qNil)) qNext)
  (qRet (qCall RTuple (qCons (qVar 1) qNil))))
theorem rdX_made_set : RdX tX_made_set ["web", "hearths"] pX_made_set := by
  rintro Ep xs Q ⟨ws, ls, x, ns, rfl, hx, hl, q1, q2⟩
  refine ⟨_, rfl, _, rfl, ws, ls, x, ns, rfl, hx, hl, _, rfl, ?_⟩
  cases h : isSetB ws.length ns with
  | true => exact iteF ⟨_, rfl, ⟨_, _, rfl, hx.seqT, flats_ints _, trivial, q1 h⟩, hx.noscr⟩
  | false => exact iteT ⟨by decide, q2 h⟩
def p_law_refused03 : PSp := fun xs Q => ∃ ws ls x ns, xs = [webP ws ls, x] ∧ IsI x ns ∧ ns.length ≤ 1000 ∧ isSetB ws.length ns = false ∧ Q (.bl true)
def t_law_refused03 : PTS := (qSeq (qSet 2 (qC .non))
  (qSeq (qTry "HearthError" 3 (qbCall pX_made_set (qCons (qVar 0) (qCons (qVar 1) qNil))) (qSet 2 (qVar 3)))
  (qRet (qAndV (qIsX "BadSet" (qVar 2)) (qAndV (qIsX "ValueError" (qVar 2)) (qNotV (qIsX "BadWeb" (qVar 2))))))))
theorem rd_law_refused03 : Rd1 t_law_refused03 ["web", "hearths", "caught", "e"] p_law_refused03 := by
  rintro xs Q ⟨ws, ls, x, ns, rfl, hx, hl, hs, q⟩
  refine ⟨trivial, _, rfl, _, rfl, ws, ls, x, ns, rfl, hx, hl, fun h => ?_, fun _ => ⟨by decide, _, rfl, trivial, ?_⟩⟩
  · rw [hs] at h; cases h
  · refine ⟨_, rfl, true, (by decide), true, rfl, iteT ⟨_, rfl, true, (by decide), true, rfl, iteT ⟨_, rfl, false, (by decide), false, rfl, trivial, q⟩⟩⟩
theorem cutTo (ns : List Int) {k : Int} (h : 0 ≤ k) : cutP (intz ns) none (some k) = intz (ns.take k.toNat) := by
  rw [cut_to h]
  exact (List.map_take).symm
theorem not_set {n : Nat} {ys : List Int} (h : isSetB n ys = true → False) : isSetB n ys = false := by
  cases e : isSetB n ys with
  | false => rfl
  | true => exact (h e).elim
theorem bad1 {n k : Nat} {s : List Int} {x : Int} (hx : x ∈ s) : isSetB n (s.take k ++ [x] ++ s.drop k) = false := not_set fun e => by
  have p := up_pair (set_ok e).1
  rw [List.append_assoc, List.pairwise_append] at p
  rw [← List.take_append_drop k s] at hx
  rcases List.mem_append.mp hx with h | h
  · exact absurd (p.2.2 x h x List.mem_cons_self) (Int.lt_irrefl x)
  · exact absurd (List.rel_of_pairwise_cons p.2.1 h) (Int.lt_irrefl x)
theorem bad2 {n a : Nat} {s : List Int} {x y : Int} (hs : isSetB n s = true) (h1 : s[a]? = some x) (h2 : s[a + 1]? = some y) : isSetB n (s.take a ++ [y, x] ++ s.drop (a + 2)) = false := not_set fun e => by
  have p := up_pair (set_ok e).1
  rw [List.append_assoc, List.pairwise_append] at p
  have lt := List.rel_of_pairwise_cons p.2.1 (List.mem_cons_self (a := x))
  have q := up_pair (set_ok hs).1
  obtain ⟨l1, e1⟩ := List.getElem?_eq_some_iff.mp h1
  obtain ⟨l2, e2⟩ := List.getElem?_eq_some_iff.mp h2
  have := List.pairwise_iff_getElem.mp q a (a + 1) l1 l2 (by omega)
  rw [e1, e2] at this
  omega
theorem bad3 {n k : Nat} {s : List Int} {x : Int} (hx : x < 0 ∨ (n : Int) ≤ x) : isSetB n (s.take k ++ [x] ++ s.drop k) = false := not_set fun e => by
  have := (set_ok e).2 x (by simp)
  omega
def p_law_spoiled : PSp := fun xs Q => ∃ (s : List Int) (n : Nat) (c : Int), xs = [.lst (intz s), .int n, .int c] ∧ isSetB n s = true ∧ s.length ≤ 40 ∧ 0 ≤ c ∧ ∀ ys, ys.length ≤ 42 → isSetB n ys = false → Q (.lst (intz ys))
def t_law_spoiled : PTS := (qSeq (qSet 3 (qMod (qDiv (qVar 2) (qC (.int 4))) (qAdd (qCall RLen (qCons (qVar 0) qNil)) (qC (.int 1)))))
  (qSeq (qSet 4 (qMod (qDiv (qVar 2) (qC (.int 1009))) (qPow (qC (.int 10)) (qC (.int 30)))))
  (qSeq (qIf (qAnd (qTest (qEq (qMod (qVar 2) (qC (.int 4))) (qC (.int 0)))) (qTest (qGt (qCall RLen (qCons (qVar 0) qNil)) (qC (.int 0))))) (qRet (qCat (qCat (qSl (qVar 0) qOn (qOs (qVar 3))) (qLst (qCons (qIx (qVar 0) (qMod (qDiv (qVar 2) (qC (.int 211))) (qCall RLen (qCons (qVar 0) qNil)))) qNil))) (qSl (qVar 0) (qOs (qVar 3)) qOn))) qNext)
  (qSeq (qIf (qAnd (qTest (qEq (qMod (qVar 2) (qC (.int 4))) (qC (.int 1)))) (qTest (qGt (qCall RLen (qCons (qVar 0) qNil)) (qC (.int 1))))) (qSeq (qSet 5 (qMod (qVar 3) (qSub (qCall RLen (qCons (qVar 0) qNil)) (qC (.int 1)))))
    (qRet (qCat (qCat (qSl (qVar 0) qOn (qOs (qVar 5))) (qLst (qCons (qIx (qVar 0) (qAdd (qVar 5) (qC (.int 1)))) (qCons (qIx (qVar 0) (qVar 5)) qNil)))) (qSl (qVar 0) (qOs (qAdd (qVar 5) (qC (.int 2)))) qOn)))) qNext)
  (qSeq (qSet 6 (qIx (qLst (qCons (qNeg (qC (.int 1))) (qCons (qVar 1) (qCons (qSub (qNeg (qC (.int 1))) (qVar 4)) (qCons (qAdd (qVar 1) (qVar 4)) qNil))))) (qMod (qDiv (qVar 2) (qC (.int 211))) (qC (.int 4)))))
  (qRet (qCat (qCat (qSl (qVar 0) qOn (qOs (qVar 3))) (qLst (qCons (qVar 6) qNil))) (qSl (qVar 0) (qOs (qVar 3)) qOn))))))))
theorem cat1 {s : List Int} {a : Int} {xs : List Int} {g g' : Tg} {R : PK} (ha : 0 ≤ a) (hl : s.length ≤ 40) (xl : xs.length ≤ 2) (r : R (.lst (intz (s.take a.toNat ++ xs))) .fr) : RCat (.lst (cutP (intz s) none (some a))) g (.lst (intz xs)) g' R := by
  rw [cutTo s ha]
  refine ⟨_, _, rfl, rfl, flats_ints _, flats_ints _, ?_, ?_⟩
  · rw [ints_len, ints_len, List.length_take]; omega
  · rw [← ints_app]; exact r
theorem cat2 {s A : List Int} {b : Int} {g g' : Tg} {Q : PV → Prop} (hb : 0 ≤ b) (hl : s.length ≤ 40) (al : A.length ≤ 42) (q : Q (.lst (intz (A ++ s.drop b.toNat)))) : RCat (.lst (intz A)) g (.lst (cutP (intz s) (some b) none)) g' fun x g => Nw g x ∧ Q x := by
  rw [cut_from s hb]
  refine ⟨_, _, rfl, rfl, flats_ints _, flats_ints _, ?_, trivial, ?_⟩
  · rw [ints_len, ints_len, List.length_drop]; omega
  · rw [← ints_app]; exact q
theorem rd_law_spoiled : Rd1 t_law_spoiled ["some", "many", "cell", "spot", "far", "at", "odd"] p_law_spoiled := by
  rintro xs Q ⟨s, n, c, rfl, hs, hl, c0, q⟩
  have ll : ((intz s).length : Int) = s.length := by rw [ints_len]
  refine ⟨_, rfl, _, _, rfl, rfl, ⟨by decide, by decide⟩, _, rfl, _, _, rfl, rfl, _, _, rfl, rfl, _, _, rfl, rfl, by omega, trivial, ?_⟩
  dsimp only
  rw [ll]
  have k0 : 0 ≤ c / 4 % ((s.length : Int) + 1) := Int.emod_nonneg _ (by omega)
  have k1 : c / 4 % ((s.length : Int) + 1) < (s.length : Int) + 1 := Int.emod_lt_of_pos _ (by omega)
  generalize c / 4 % ((s.length : Int) + 1) = k at k0 k1
  refine ⟨_, rfl, _, _, rfl, rfl, ⟨by decide, by decide⟩, _, _, rfl, rfl, ⟨by decide, by decide, by decide⟩, _, _, rfl, rfl, (by show (0 : Int) < 10 ^ (30 : Int).toNat; decide), trivial, ?_⟩
  dsimp only
  have f0 : 0 ≤ c / 1009 % 10 ^ (30 : Int).toNat := Int.emod_nonneg _ (by decide)
  generalize c / 1009 % 10 ^ (30 : Int).toNat = f at f0
  have tl : ∀ (a : Nat) (xs : List Int), xs.length ≤ 2 → (s.take a ++ xs).length ≤ 42 := fun a xs h => by
    rw [List.length_append, List.length_take]; omega
  have len3 : ∀ (a b : Nat) (xs : List Int), xs.length ≤ 2 → a + xs.length ≤ b + 2 → (s.take a ++ xs ++ s.drop b).length ≤ 42 := fun a b xs h1 h2 => by
    rw [List.length_append, List.length_append, List.length_take, List.length_drop]; omega
  have third : (qSeq (qSet 6 (qIx (qLst (qCons (qNeg (qC (.int 1))) (qCons (qVar 1) (qCons (qSub (qNeg (qC (.int 1))) (qVar 4)) (qCons (qAdd (qVar 1) (qVar 4)) qNil))))) (qMod (qDiv (qVar 2) (qC (.int 211))) (qC (.int 4)))))
      (qRet (qCat (qCat (qSl (qVar 0) qOn (qOs (qVar 3))) (qLst (qCons (qVar 6) qNil))) (qSl (qVar 0) (qOs (qVar 3)) qOn)))) { nx := fun _ => Q .non, rt := Q }
      [some (.sh false (.lst (intz s))), some (.sh true (.int n)), some (.sh true (.int c)), some (.sh true (.int k)), some (.sh true (.int f)), none, none] := by
    have j0 : 0 ≤ c / 211 % 4 := Int.emod_nonneg _ (by decide)
    have j1 : c / 211 % 4 < 4 := Int.emod_lt_of_pos _ (by decide)
    refine ⟨_, rfl, _, rfl, _, rfl, _, rfl, _, _, rfl, rfl, _, rfl, _, rfl, _, _, rfl, rfl, (by show 4 ≤ 1000; decide), rfl, ?_⟩
    refine ⟨_, rfl, _, _, rfl, rfl, ⟨by decide, by decide⟩, _, _, rfl, rfl, (by show (0 : Int) < 4; decide), ?_⟩
    have odd : ∃ x : Int, (x < 0 ∨ (n : Int) ≤ x) ∧ L2.atI [PV.int (-1), PV.int n, PV.int (-1 - f), PV.int (n + f)] (c / 211 % 4) = some (.int x) := by
      generalize c / 211 % 4 = j at j0 j1
      rcases (show j = 0 ∨ j = 1 ∨ j = 2 ∨ j = 3 by omega) with rfl | rfl | rfl | rfl
      · exact ⟨-1, by omega, rfl⟩
      · exact ⟨n, by omega, rfl⟩
      · exact ⟨-1 - f, by omega, rfl⟩
      · exact ⟨n + f, by omega, rfl⟩
    obtain ⟨x, hx, at4⟩ := odd
    refine ⟨_, _, _, rfl, rfl, at4, trivial, ?_⟩
    refine ⟨_, rfl, _, rfl, _, rfl, _, rfl, flats_ints _, _, rfl, (by show 1 ≤ 1000; decide), rfl, ?_⟩
    refine cat1 (xs := [x]) k0 hl (by show 1 ≤ 2; decide) ?_
    refine ⟨_, rfl, _, rfl, _, rfl, _, rfl, flats_ints _, ?_⟩
    exact cat2 k0 hl (tl _ _ (by show 1 ≤ 2; decide)) (q _ (len3 _ _ _ (by show 1 ≤ 2; decide) (by show _ + 1 ≤ _; omega)) (bad3 hx))
  have second : (qSeq (qIf (qAnd (qTest (qEq (qMod (qVar 2) (qC (.int 4))) (qC (.int 1)))) (qTest (qGt (qCall RLen (qCons (qVar 0) qNil)) (qC (.int 1))))) (qSeq (qSet 5 (qMod (qVar 3) (qSub (qCall RLen (qCons (qVar 0) qNil)) (qC (.int 1)))))
      (qRet (qCat (qCat (qSl (qVar 0) qOn (qOs (qVar 5))) (qLst (qCons (qIx (qVar 0) (qAdd (qVar 5) (qC (.int 1)))) (qCons (qIx (qVar 0) (qVar 5)) qNil)))) (qSl (qVar 0) (qOs (qAdd (qVar 5) (qC (.int 2)))) qOn)))) qNext)
      (qSeq (qSet 6 (qIx (qLst (qCons (qNeg (qC (.int 1))) (qCons (qVar 1) (qCons (qSub (qNeg (qC (.int 1))) (qVar 4)) (qCons (qAdd (qVar 1) (qVar 4)) qNil))))) (qMod (qDiv (qVar 2) (qC (.int 211))) (qC (.int 4)))))
      (qRet (qCat (qCat (qSl (qVar 0) qOn (qOs (qVar 3))) (qLst (qCons (qVar 6) qNil))) (qSl (qVar 0) (qOs (qVar 3)) qOn))))) { nx := fun _ => Q .non, rt := Q }
      [some (.sh false (.lst (intz s))), some (.sh true (.int n)), some (.sh true (.int c)), some (.sh true (.int k)), some (.sh true (.int f)), none, none] := by
    refine ⟨_, rfl, _, _, rfl, rfl, (by show (0 : Int) < 4; decide), .inl ⟨_, _, rfl, rfl, _, rfl, ?_⟩⟩
    by_cases h1 : c % 4 = 1
    · rw [show (if false = true then !decide (c % 4 = 1) else decide (c % 4 = 1)) = true by simpa using h1]
      refine iteT ⟨_, rfl, _, _, rfl, rfl, _, _, rfl, rfl, _, rfl, ?_⟩
      by_cases h2 : (1 : Int) < ((intz s).length : Int)
      · rw [decide_eq_true h2]
        rw [ll] at h2
        refine iteT ⟨_, rfl, _, rfl, _, _, rfl, rfl, _, _, rfl, rfl, _, _, rfl, rfl, by rw [ll]; omega, trivial, ?_⟩
        dsimp only
        rw [ll]
        have a0 : 0 ≤ k % ((s.length : Int) - 1) := Int.emod_nonneg _ (by omega)
        have a1 : k % ((s.length : Int) - 1) < (s.length : Int) - 1 := Int.emod_lt_of_pos _ (by omega)
        generalize k % ((s.length : Int) - 1) = a at a0 a1
        obtain ⟨m, rfl⟩ : ∃ m : Nat, a = m := ⟨a.toNat, by omega⟩
        have g1 : s[m]? = some (s[m]'(by omega)) := List.getElem?_eq_getElem (by omega)
        have g2 : s[m + 1]? = some (s[m + 1]'(by omega)) := List.getElem?_eq_getElem (by omega)
        have i1 : L2.atI (intz s) (m : Int) = some (.int (s[m]'(by omega))) := atI_nat (by rw [List.getElem?_map, g1]; rfl)
        have i2 : L2.atI (intz s) ((m : Int) + 1) = some (.int (s[m + 1]'(by omega))) := by
          have := atI_nat (xs := intz s) (j := m + 1) (by rw [List.getElem?_map, g2]; rfl)
          exact this
        refine ⟨_, rfl, _, rfl, _, rfl, _, rfl, flats_ints _, _, rfl, _, rfl, _, _, rfl, rfl, _, _, _, rfl, rfl, i2, _, rfl, _, rfl, _, _, _, rfl, rfl, i1, (by show 2 ≤ 1000; decide), rfl, ?_⟩
        refine cat1 (xs := [_, _]) a0 hl (by show 2 ≤ 2; decide) ?_
        refine ⟨_, rfl, _, rfl, _, _, rfl, rfl, _, rfl, _, rfl, flats_ints _, ?_⟩
        refine cat2 (by omega) hl (tl _ _ (by show 2 ≤ 2; decide)) (q _ (len3 _ _ _ (by show 2 ≤ 2; decide) (by show _ + 2 ≤ _; omega)) ?_)
        have e : ((m : Int) + 2).toNat = m + 2 := by omega
        rw [e, Int.toNat_natCast]
        exact bad2 hs g1 g2
      · rw [decide_eq_false h2]
        exact iteF third
    · rw [show (if false = true then !decide (c % 4 = 1) else decide (c % 4 = 1)) = false by simpa using h1]
      exact iteF (iteF third)
  refine ⟨_, rfl, _, _, rfl, rfl, (by show (0 : Int) < 4; decide), .inl ⟨_, _, rfl, rfl, _, rfl, ?_⟩⟩
  by_cases h1 : c % 4 = 0
  · rw [show (if false = true then !decide (c % 4 = 0) else decide (c % 4 = 0)) = true by simpa using h1]
    refine iteT ⟨_, rfl, _, _, rfl, rfl, _, _, rfl, rfl, _, rfl, ?_⟩
    by_cases h2 : (0 : Int) < ((intz s).length : Int)
    · rw [decide_eq_true h2]
      rw [ll] at h2
      have j0 : 0 ≤ c / 211 % (s.length : Int) := Int.emod_nonneg _ (by omega)
      have j1 : c / 211 % (s.length : Int) < s.length := Int.emod_lt_of_pos _ (by omega)
      have ix : ∃ x, x ∈ s ∧ L2.atI (intz s) (c / 211 % (s.length : Int)) = some (.int x) := by
        generalize c / 211 % (s.length : Int) = j at j0 j1
        obtain ⟨m, rfl⟩ : ∃ m : Nat, j = m := ⟨j.toNat, by omega⟩
        have g1 : s[m]? = some (s[m]'(by omega)) := List.getElem?_eq_getElem (by omega)
        exact ⟨s[m]'(by omega), List.getElem_mem _, atI_nat (by rw [List.getElem?_map, g1]; rfl)⟩
      obtain ⟨x, hx, hi⟩ := ix
      refine iteT ⟨_, rfl, _, rfl, _, rfl, _, rfl, flats_ints _, _, rfl, _, rfl, _, _, rfl, rfl, ⟨by decide, by decide⟩, _, rfl, _, _, rfl, rfl, _, _, rfl, rfl, by rw [ll]; omega, _, _, PV.int x, rfl, rfl, ?_, (by show 1 ≤ 1000; decide), rfl, ?_⟩
      · rw [ll]; exact hi
      refine cat1 (xs := [x]) k0 hl (by show 1 ≤ 2; decide) ?_
      refine ⟨_, rfl, _, rfl, _, rfl, _, rfl, flats_ints _, ?_⟩
      exact cat2 k0 hl (tl _ _ (by show 1 ≤ 2; decide)) (q _ (len3 _ _ _ (by show 1 ≤ 2; decide) (by show _ + 1 ≤ _; omega)) (bad1 hx))
    · rw [decide_eq_false h2]
      exact iteF second
  · rw [show (if false = true then !decide (c % 4 = 0) else decide (c % 4 = 0)) = false by simpa using h1]
    exact iteF (iteF second)
end Core
namespace Core
open PySem L2 PP
def p_law_k03 : PSp := p_law_k10
def t_law_k03 : PTS := (qSeq (qSet 1 (qMod (qCall p_law_cell_at (qCons (qVar 0) (qCons (qC (.int 0)) qNil))) (qC (.int 41))))
  (qSeq (qSet 2 (qTupF (qCons (qCall RTuple (qCons (qComp (qRng1 (qVar 1)) [none, some 0] (pName 0) qYes (qMod (qCall p_law_cell_at (qCons (qVar 1) (qCons (qAdd (qC (.int 2)) (qVar 0)) qNil))) (qC (.int 61)))) qNil)) (qCons (qTupF qNil) qNil))))
  (qSeq (qSet 3 (qComp (qRng1 (qVar 1)) [none, some 0] (pName 0) (qTest (qNe (qMod (qDiv (qCall p_law_cell_at (qCons (qVar 1) (qCons (qAdd (qC (.int 2)) (qVar 0)) qNil))) (qC (.int 61))) (qC (.int 3))) (qC (.int 1)))) (qVar 0)))
  (qSeq (qSet 4 (qMod (qCall p_law_cell_at (qCons (qVar 0) (qCons (qC (.int 1)) qNil))) (qPow (qC (.int 10)) (qC (.int 60)))))
  (qSeq (qIf (qTest (qEq (qMod (qVar 4) (qC (.int 2))) (qC (.int 1)))) (qSeq (qSet 5 (qCall p_law_spoiled (qCons (qVar 3) (qCons (qVar 1) (qCons (qDiv (qVar 4) (qC (.int 2))) qNil)))))
    (qRet (qAndV (qCall p_law_refused03 (qCons (qVar 2) (qCons (qVar 5) qNil))) (qCall p_law_refused03 (qCons (qVar 2) (qCons (qCall RTuple (qCons (qVar 5) qNil)) qNil)))))) qNext)
  (qSeq (qOwn 6 (qCall RLst (qCons (qVar 3) qNil)))
  (qSeq (qSet 7 (qCall (pX_made_set fun _ => False) (qCons (qVar 2) (qCons (qVar 6) qNil))))
  (qSeq (qIf (qTest (q2 (REqS 2 true) (qVar 6) (qVar 3))) (qRet (qC (.bl false))) qNext)
  (qSeq (qApp 6 (qC (.int 0)))
  (qRet (qAndV (qCall p_law_row_is (qCons (qVar 7) (qCons (qVar 3) qNil))) (qCall p_law_row_is (qCons (qCall (pX_made_set fun _ => False) (qCons (qVar 2) (qCons (qCall RTuple (qCons (qVar 3) qNil)) qNil))) (qCons (qVar 3) qNil))))))))))))))
theorem rd_law_k03 : Rd1 t_law_k03 ["script", "many", "web", "some", "cell", "spoiled", "handed", "found"] p_law_k03 := by
  rintro xs Q ⟨ns, rfl, hl, q⟩
  refine ⟨_, rfl, _, ns, 0, rfl, .inl rfl, by decide, _, _, rfl, rfl, (by show (0 : Int) < 41; decide), trivial, ?_⟩
  dsimp only
  have m0 : 0 ≤ ns.getD (0 : Int).toNat 0 % 41 := Int.emod_nonneg _ (by decide)
  have m1 : ns.getD (0 : Int).toNat 0 % 41 < 41 := Int.emod_lt_of_pos _ (by decide)
  generalize ns.getD (0 : Int).toNat 0 % 41 = M at m0 m1
  obtain ⟨m, rfl⟩ : ∃ m : Nat, M = m := ⟨M.toNat, by omega⟩
  have rl : (rngP 0 (m : Int).toNat).length = m := by rw [rngP_length]; omega
  refine ⟨_, rfl, m, rfl, by omega, by omega, by rw [rl]; omega, fun i acc => acc = intz ((List.range i).map fun (j : Nat) => ns.getD (2 + (0 + (j : Int))).toNat 0 % 61), rfl, ?_, ?_⟩
  · rintro i y acc hy rfl
    obtain ⟨rfl, hi⟩ := rngP_at hy
    refine ⟨_, rfl, _, rfl, _, _, rfl, rfl, _, ns, _, rfl, .inl rfl, by omega, _, _, rfl, rfl, (by show (0 : Int) < 61; decide), trivial, ?_⟩
    dsimp only
    rw [List.range_succ, List.map_append, ints_app]; rfl
  rintro acc rfl
  rw [rl]
  generalize hw : (List.range m).map (fun (j : Nat) => ns.getD (2 + (0 + (j : Int))).toNat 0 % 61) = ws
  have wl : ws.length = m := by rw [← hw, List.length_map, List.length_range]
  refine ⟨⟨_, _, rfl, rfl, flats_ints _, by decide, rfl, (by show 2 ≤ 1000; decide), flat_web ws [], trivial, ?_⟩, fun ns z => by cases z⟩
  refine ⟨_, rfl, m, rfl, by omega, by omega, by rw [rl]; omega, fun i acc => acc = intz (((rng m).take i).filter fun x => !decide (ns.getD (2 + x).toNat 0 / 61 % 3 = 1)), rfl, ?_, ?_⟩
  · rintro i y acc hy rfl
    obtain ⟨rfl, hi⟩ := rngP_at hy
    have him : i < m := by omega
    refine ⟨_, rfl, _, rfl, _, _, rfl, rfl, _, ns, _, rfl, .inl rfl, by omega, _, _, rfl, rfl, ⟨by decide, by decide⟩, _, _, rfl, rfl, (by show (0 : Int) < 3; decide), .inl ⟨_, _, rfl, rfl, _, rfl, ?_⟩⟩
    dsimp only
    have e0 : (2 : Int) + (0 + (i : Int)) = 2 + (i : Int) := by omega
    rw [take_filter_succ' (rng_at him), e0]
    show if (!decide (ns.getD (2 + (i : Int)).toNat 0 / 61 % 3 = 1)) = true then _ else _
    by_cases h : ns.getD (2 + (i : Int)).toNat 0 / 61 % 3 = 1
    · rw [decide_eq_true h]
      refine iteF ?_
      simp
    · rw [decide_eq_false h]
      refine iteT ⟨_, rfl, trivial, ?_⟩
      rw [ints_app]
      simp
      rfl
  rintro acc rfl
  rw [rl, show (rng m).take m = rng m from List.take_of_length_le (Nat.le_of_eq (rng_len m))]
  have hS : isSetB m ((rng m).filter fun x => !decide (ns.getD (2 + x).toNat 0 / 61 % 3 = 1)) = true := rng_set m _
  generalize ((rng m).filter fun x => !decide (ns.getD (2 + x).toNat 0 / 61 % 3 = 1)) = S at hS
  have sl : S.length ≤ m := set_len hS
  refine ⟨trivial, ?_⟩
  refine ⟨_, rfl, _, ns, 1, rfl, .inl rfl, by decide, _, _, rfl, rfl, ⟨by decide, by decide, by decide⟩, _, _, rfl, rfl, (by show (0 : Int) < 10 ^ (60 : Int).toNat; decide), trivial, ?_⟩
  dsimp only
  have c0 : 0 ≤ ns.getD (1 : Int).toNat 0 % 10 ^ (60 : Int).toNat := Int.emod_nonneg _ (by decide)
  generalize ns.getD (1 : Int).toNat 0 % 10 ^ (60 : Int).toNat = c at c0
  have bad : ∀ {ys : List Int}, isSetB m ys = false → isSetB ws.length ys = false := fun h => by rw [wl]; exact h
  have hS' : isSetB ws.length S = true := by rw [wl]; exact hS
  refine ⟨_, rfl, _, _, rfl, rfl, (by show (0 : Int) < 2; decide), .inl ⟨_, _, rfl, rfl, _, rfl, ?_⟩⟩
  by_cases h1 : c % 2 = 1
  · rw [show (if false = true then !decide (c % 2 = 1) else decide (c % 2 = 1)) = true by simpa using h1]
    refine iteT ⟨_, rfl, _, rfl, _, rfl, _, _, rfl, rfl, ⟨by decide, by decide⟩, S, m, c / 2, rfl, hS, by omega, by omega, fun ys yl yb => ⟨trivial, ?_⟩⟩
    refine ⟨_, rfl, _, rfl, ws, [], _, ys, rfl, .inr rfl, by omega, bad yb, true, rfl, iteT ⟨_, rfl, _, rfl, ⟨_, _, rfl, rfl, flats_ints _, ws, [], _, ys, rfl, .inl rfl, by omega, bad yb, trivial, q⟩, fun ns z => by cases z⟩⟩
  · rw [show (if false = true then !decide (c % 2 = 1) else decide (c % 2 = 1)) = false by simpa using h1]
    refine iteF ⟨_, rfl, _, _, rfl, rfl, flats_ints _, rfl, flats_ints _, ?_⟩
    refine ⟨_, rfl, _, rfl, ws, [], _, S, rfl, .inr rfl, by omega, fun _ => ⟨trivial, ?_⟩, fun h => by rw [hS'] at h; cases h⟩
    refine ⟨_, rfl, _, rfl, .inr ⟨_, _, rfl, rfl⟩, okE_lstI 2 S S, _, rfl, ?_⟩
    show if (!eqP 3 (.lst (intz S)) (.lst (intz S))) = true then _ else _
    rw [eqP_lstI, decide_eq_true rfl]
    refine iteF ⟨_, rfl, trivial, by rw [ints_len]; omega, ?_⟩
    refine ⟨_, rfl, _, rfl, _, S, S, rfl, .inr rfl, by omega, by omega, _, rfl, ?_⟩
    rw [decide_eq_true rfl]
    refine iteT ⟨_, rfl, _, rfl, ⟨_, _, rfl, rfl, flats_ints _, ws, [], _, S, rfl, .inl rfl, by omega, fun _ => ⟨_, rfl, _, S, S, rfl, .inr rfl, by omega, by omega, trivial, by rw [decide_eq_true rfl]; exact q⟩, fun h => by rw [hS'] at h; cases h⟩, fun ns z => by cases z⟩
end Core
namespace K_k03
open PySem L2 PP Core
def top (i : Nat) : Stmt := PySem.Challenge.pw_kindleweb_k03_sets.main.body.getD i (.Pass ⟨0, 0, 0, 0⟩)
section
variable {P : Program} {w : World} {K : PySem.W.Frag} {mg : Str → Option Value} {base : Heap} {f : Addr} {fd : FuncData}
theorem nd2 : (["ahead", "behind"] : List Str).Nodup := by decide +kernel
abbrev sRises : Stmt := top 5
theorem scR : FnScope ["things"] ["things"] (defScope sRises) := ⟨rfl, rfl, rfl, by decide +kernel, rfl, by decide +kernel, by decide +kernel⟩
theorem pair_at {ns : List Int} {i : Nat} {x y : V} (h1 : (ns.map V.int)[i]? = some x) (h2 : ((ns.map V.int).drop 1)[i]? = some y) : ∃ p q : Int, x = .int p ∧ y = .int q ∧ (ns.zip (ns.drop 1))[i]? = some (p, q) := by
  rw [List.getElem?_map] at h1
  rw [← List.map_drop, List.getElem?_map] at h2
  cases e1 : ns[i]? with
  | none => rw [e1] at h1; cases h1
  | some p =>
    cases e2 : (ns.drop 1)[i]? with
    | none => rw [e2] at h2; cases h2
    | some q =>
      rw [e1] at h1; rw [e2] at h2
      exact ⟨p, q, (Option.some.inj h1).symm, (Option.some.inj h2).symm, List.getElem?_zip_eq_some.mpr ⟨e1, e2⟩⟩
theorem ok_rises (B : Bt mg) (F : Fun K "rises" "rises" sRises f fd) : FnOk P w K mg base CX0 1 f fd ["things"] (spRises K) := by
  refine F.ok scR (fun vs H Q E h => ?_) (fun cdv A outer s H vs Q E hr h => ?_)
  · obtain ⟨a, ns, rfl, _⟩ := h
    rfl
  obtain ⟨a, ns, rfl, hS, hn, q⟩ := h
  have lz : ((ns.map V.int).drop 1).length ≤ sizeLine := Nat.le_of_lt (bigEnough (by rw [List.length_drop, List.length_map]; omega))
  have lz2 : ((ns.map V.int).drop 1).length ≤ (ns.map V.int).length := by rw [List.length_drop]; omega
  have lz3 : (ns.zip (ns.drop 1)).length = ((ns.map V.int).drop 1).length := by rw [List.length_zip, List.length_drop, List.length_drop, List.length_map]; omega
  rcases hS with hS | hS
  · refine ⟨_, pss_one (ps_ret (pe_callB (call_allB rfl) rfl B.all PyProof.Rows.boot_all (pa_cons (pe_comp (N := ["ahead", "behind"]) (fr := [none, none]) rfl (CoScope.of rfl rfl) (pi_zip rfl B.zip (pa_cons (pv 0) (pa_cons (pe_slice sl_tupA (pv 0) (po_some pe_int) po_none) pa_nil)))
      ⟨fun _ _ _ _ => show PG _ _ (gTup K 2 (gCons (gName 0) (gCons (gName 1) gNil))) from pg_tup rfl (pgs_cons (pg_name (i := 0) nd2 rfl (Or.inl rfl) (.inr rfl)) (pgs_cons (pg_name (i := 1) nd2 rfl (Or.inl rfl) (.inr rfl)) pgs_nil)), fun _ _ _ _ => pts_nil, fun _ _ _ _ => pe_cmpR op_lt (pv 0) (pv 1) (nomark _)⟩) pa_nil))), ?_⟩
    refine ⟨_, rfl, _, rfl, 1, rfl, a, _, rfl, hS, fun p hp => ?_, fun e => ?_⟩
    · have s1 := same_new hp (.tup (cutV (ns.map V.int) (some 1) none))
      have hb : SqT K (upd H p (.tup (cutV (ns.map V.int) (some 1) none))) p ((ns.map V.int).drop 1) := SqT.of (by rw [upd_same, cut1])
      refine ⟨a, p, _, _, rfl, s1.tup hS, hb, comp_byR (over_zip (s1.tup hS) hb lz2) (fun i acc _ => acc = ((ns.zip (ns.drop 1)).take i).map fun (p : Int × Int) => V.bl (decide (p.1 < p.2))) lz (fun _ _ => rfl) (fun _ _ _ _ _ h => h) (fun i x acc D H' hi hR c hP => ?_) (fun D acc H' hD sm hDa hlen hP => ?_)⟩
      · obtain ⟨T, x1, y1, rfl, hT, h1, h2⟩ := hR
        obtain ⟨m, k, rfl, rfl, hz⟩ := pair_at h1 h2
        refine ⟨T, _, rfl, SqT.of hT, rfl, _, _, rfl, _, _, rfl, rfl, ((Wk.refl _).set (i := 0) rfl).set (i := 1) rfl, tyes ⟨_, rfl, _, rfl, _, _, rfl, rfl, c.yes (Same.refl _) ?_⟩⟩
        rw [take_map_succ hz, hP]
      · refine ⟨D, (ns.zip (ns.drop 1)).map fun (p : Int × Int) => decide (p.1 < p.2), rfl, SqL.of ?_, q _ (s1.trans sm)⟩
        rw [hDa, hP, ← lz3, List.take_length, List.map_map]; rfl
    · have hb : SqT K H a ((ns.map V.int).drop 1) := by
        have : (ns.map V.int).drop 1 = ns.map V.int := by rw [← cut1]; exact e
        rw [this]; exact hS
      refine ⟨a, a, _, _, rfl, hS, hb, comp_byR (over_zip hS hb lz2) (fun i acc _ => acc = ((ns.zip (ns.drop 1)).take i).map fun (p : Int × Int) => V.bl (decide (p.1 < p.2))) lz (fun _ _ => rfl) (fun _ _ _ _ _ h => h) (fun i x acc D H' hi hR c hP => ?_) (fun D acc H' hD sm hDa hlen hP => ?_)⟩
      · obtain ⟨T, x1, y1, rfl, hT, h1, h2⟩ := hR
        obtain ⟨m, k, rfl, rfl, hz⟩ := pair_at h1 h2
        refine ⟨T, _, rfl, SqT.of hT, rfl, _, _, rfl, _, _, rfl, rfl, ((Wk.refl _).set (i := 0) rfl).set (i := 1) rfl, tyes ⟨_, rfl, _, rfl, _, _, rfl, rfl, c.yes (Same.refl _) ?_⟩⟩
        rw [take_map_succ hz, hP]
      · refine ⟨D, (ns.zip (ns.drop 1)).map fun (p : Int × Int) => decide (p.1 < p.2), rfl, SqL.of ?_, q _ sm⟩
        rw [hDa, hP, ← lz3, List.take_length, List.map_map]; rfl
  · refine ⟨_, pss_one (ps_ret (pe_callB (call_allB rfl) rfl B.all PyProof.Rows.boot_all (pa_cons (pe_comp (N := ["ahead", "behind"]) (fr := [none, none]) rfl (CoScope.of rfl rfl) (pi_zipL rfl B.zip (pa_cons (pv 0) (pa_cons (pe_slice sl_list (pv 0) (po_some pe_int) po_none) pa_nil)))
      ⟨fun _ _ _ _ => show PG _ _ (gTup K 2 (gCons (gName 0) (gCons (gName 1) gNil))) from pg_tup rfl (pgs_cons (pg_name (i := 0) nd2 rfl (Or.inl rfl) (.inr rfl)) (pgs_cons (pg_name (i := 1) nd2 rfl (Or.inl rfl) (.inr rfl)) pgs_nil)), fun _ _ _ _ => pts_nil, fun _ _ _ _ => pe_cmpR op_lt (pv 0) (pv 1) (nomark _)⟩) pa_nil))), ?_⟩
    refine ⟨_, rfl, _, rfl, 1, rfl, a, _, rfl, hS, fun p hp => ?_⟩
    have s1 := same_new hp (.lst (cutV (ns.map V.int) (some 1) none))
    have hb : SqL K (upd H p (.lst (cutV (ns.map V.int) (some 1) none))) p ((ns.map V.int).drop 1) := SqL.of (by rw [upd_same, cut1])
    refine ⟨a, p, _, _, rfl, s1.seq hS, hb, comp_byR (over_zipL (s1.seq hS) hb lz2) (fun i acc _ => acc = ((ns.zip (ns.drop 1)).take i).map fun (p : Int × Int) => V.bl (decide (p.1 < p.2))) lz (fun _ _ => rfl) (fun _ _ _ _ _ h => h) (fun i x acc D H' hi hR c hP => ?_) (fun D acc H' hD sm hDa hlen hP => ?_)⟩
    · obtain ⟨T, x1, y1, rfl, hT, h1, h2⟩ := hR
      obtain ⟨m, k, rfl, rfl, hz⟩ := pair_at h1 h2
      refine ⟨T, _, rfl, SqT.of hT, rfl, _, _, rfl, _, _, rfl, rfl, ((Wk.refl _).set (i := 0) rfl).set (i := 1) rfl, tyes ⟨_, rfl, _, rfl, _, _, rfl, rfl, c.yes (Same.refl _) ?_⟩⟩
      rw [take_map_succ hz, hP]
    · refine ⟨D, (ns.zip (ns.drop 1)).map fun (p : Int × Int) => decide (p.1 < p.2), rfl, SqL.of ?_, q _ (s1.trans sm)⟩
      rw [hDa, hP, ← lz3, List.take_length, List.map_map]; rfl
theorem sc_hearths_in : FnScope ["web"] ["web"] (defScope (top 6)) := ⟨rfl, rfl, rfl, by decide +kernel, rfl, by decide +kernel, by decide +kernel⟩
theorem df_hearths_in (B : Bt mg) (F : Fun K "hearths_in" "hearths_in" (top 6) f fd) (m : mg "hearths_in" = some (.ref f))  : Df P w K mg base 1 "hearths_in" ["web"] p_hearths_in :=
  Df.of F m sc_hearths_in (fun _ _ _ _ _ _ us hl => match us, hl with | [_], _ => rfl) (fun xs Q h => by unfold p_hearths_in at h; repeat (first | (obtain ⟨rfl, _⟩ := h; rfl) | (obtain ⟨_, h⟩ := h))) (fun cdv A outer s H E hr => by
    have nd := sc_hearths_in.nd
    have hu := hu_of hr
    have hu3 : (A.deeper (PyProof.Rows.envOfC "hearths_in" (defScope (top 6)) s.heap.objs.size f cdv)).units + 3 < cLine := by have := hr.units; omega
    exact ⟨(t_hearths_in), (s_one (s_ret (q_len B (a_cons (q_ix (qv 0) q_int) a_nil)))), rd_hearths_in⟩)
theorem sc_law_cell_at : FnScope ["script", "k"] ["script", "k"] (defScope (top 11)) := ⟨rfl, rfl, rfl, by decide +kernel, rfl, by decide +kernel, by decide +kernel⟩
theorem df_law_cell_at (B : Bt mg) (F : Fun K "_law_cell_at" "_law_cell_at" (top 11) f fd) (m : mg "_law_cell_at" = some (.ref f))  : Df P w K mg base 1 "_law_cell_at" ["script", "k"] p_law_cell_at :=
  Df.of F m sc_law_cell_at (fun _ _ _ _ _ _ us hl => match us, hl with | [_, _], _ => rfl) (fun xs Q h => by unfold p_law_cell_at at h; repeat (first | (obtain ⟨rfl, _⟩ := h; rfl) | (obtain ⟨_, h⟩ := h))) (fun cdv A outer s H E hr => by
    have nd := sc_law_cell_at.nd
    have hu := hu_of hr
    have hu3 : (A.deeper (PyProof.Rows.envOfC "_law_cell_at" (defScope (top 11)) s.heap.objs.size f cdv)).units + 3 < cLine := by have := hr.units; omega
    exact ⟨(t_law_cell_at), (s_cons (s_if (t_lt (qv 1) (q_len B (a_cons (qv 0) a_nil))) (s_one (s_ret (q_ix (qv 0) (qv 1)))) s_nil)
      (s_one (s_ret q_int))), rd_law_cell_at⟩)
theorem sc_law_whole_number : FnScope ["found"] ["found"] (defScope (top 12)) := ⟨rfl, rfl, rfl, by decide +kernel, rfl, by decide +kernel, by decide +kernel⟩
theorem df_law_whole_number (B : Bt mg) (F : Fun K "_law_whole_number" "_law_whole_number" (top 12) f fd) (m : mg "_law_whole_number" = some (.ref f))  : Df P w K mg base 1 "_law_whole_number" ["found"] p_law_whole_number :=
  Df.of F m sc_law_whole_number (fun _ _ _ _ _ _ us hl => match us, hl with | [_], _ => rfl) (fun xs Q h => by unfold p_law_whole_number at h; repeat (first | (obtain ⟨rfl, _⟩ := h; rfl) | (obtain ⟨_, h⟩ := h))) (fun cdv A outer s H E hr => by
    have nd := sc_law_whole_number.nd
    have hu := hu_of hr
    have hu3 : (A.deeper (PyProof.Rows.envOfC "_law_whole_number" (defScope (top 12)) s.heap.objs.size f cdv)).units + 3 < cLine := by have := hr.units; omega
    exact ⟨(t_law_whole_number K), (s_one (s_ret (q_and (q_isinst_int B (qv 0)) (q_one (q_not (q_isinst_bool B (qv 0))))))), rd_law_whole_number (kits K).ii (kits K).ib⟩)
theorem sc_law_spoiled : FnScope ["some", "many", "cell", "spot", "far", "at", "odd"] ["some", "many", "cell"] (defScope (top 14)) := ⟨rfl, rfl, rfl, by decide +kernel, rfl, by decide +kernel, by decide +kernel⟩
theorem df_law_spoiled (B : Bt mg) (F : Fun K "_law_spoiled" "_law_spoiled" (top 14) f fd) (m : mg "_law_spoiled" = some (.ref f))  : Df P w K mg base 1 "_law_spoiled" ["some", "many", "cell"] p_law_spoiled :=
  Df.of F m sc_law_spoiled (fun _ _ _ _ _ _ us hl => match us, hl with | [_, _, _], _ => rfl) (fun xs Q h => by unfold p_law_spoiled at h; repeat (first | (obtain ⟨rfl, _⟩ := h; rfl) | (obtain ⟨_, h⟩ := h))) (fun cdv A outer s H E hr => by
    have nd := sc_law_spoiled.nd
    have hu := hu_of hr
    have hu3 : (A.deeper (PyProof.Rows.envOfC "_law_spoiled" (defScope (top 14)) s.heap.objs.size f cdv)).units + 3 < cLine := by have := hr.units; omega
    exact ⟨(t_law_spoiled), (s_cons (s_set (i := 3) nd (q_mod (q_div (qv 2) q_int) (q_add (q_len B (a_cons (qv 0) a_nil)) q_int)))
      (s_cons (s_set (i := 4) nd (q_mod (q_div (qv 2) q_int) (q_pow q_int q_int)))
      (s_cons (s_if (t_w (w_and (t_eq (q_mod (qv 2) q_int) q_int) (w_and1 (t_gt (q_len B (a_cons (qv 0) a_nil)) q_int)))) (s_one (s_ret (q_cat (q_cat (q_slice (qv 0) o_none (o_some (qv 3))) (q_lst (a_cons (q_ix (qv 0) (q_mod (q_div (qv 2) q_int) (q_len B (a_cons (qv 0) a_nil)))) a_nil))) (q_slice (qv 0) (o_some (qv 3)) o_none)))) s_nil)
      (s_cons (s_if (t_w (w_and (t_eq (q_mod (qv 2) q_int) q_int) (w_and1 (t_gt (q_len B (a_cons (qv 0) a_nil)) q_int)))) (s_cons (s_set (i := 5) nd (q_mod (qv 3) (q_sub (q_len B (a_cons (qv 0) a_nil)) q_int)))
        (s_one (s_ret (q_cat (q_cat (q_slice (qv 0) o_none (o_some (qv 5))) (q_lst (a_cons (q_ix (qv 0) (q_add (qv 5) q_int)) (a_cons (q_ix (qv 0) (qv 5)) a_nil)))) (q_slice (qv 0) (o_some (q_add (qv 5) q_int)) o_none))))) s_nil)
      (s_cons (s_set (i := 6) nd (q_ix (q_lst (a_cons (q_neg q_int) (a_cons (qv 1) (a_cons (q_sub (q_neg q_int) (qv 4)) (a_cons (q_add (qv 1) (qv 4)) a_nil))))) (q_mod (q_div (qv 2) q_int) q_int)))
      (s_one (s_ret (q_cat (q_cat (q_slice (qv 0) o_none (o_some (qv 3))) (q_lst (a_cons (qv 6) a_nil))) (q_slice (qv 0) (o_some (qv 3)) o_none))))))))), rd_law_spoiled⟩)
theorem sc_is_hearth : FnScope ["web", "number"] ["web", "number"] (defScope (top 7)) := ⟨rfl, rfl, rfl, by decide +kernel, rfl, by decide +kernel, by decide +kernel⟩
theorem df_is_hearth (B : Bt mg) (F : Fun K "is_hearth" "is_hearth" (top 7) f fd) (m : mg "is_hearth" = some (.ref f)) (d_hearths_in : Df P w K mg base 1 "hearths_in" ["web"] p_hearths_in) : Df P w K mg base 2 "is_hearth" ["web", "number"] p_is_hearth :=
  Df.of F m sc_is_hearth (fun _ _ _ _ _ _ us hl => match us, hl with | [_, _], _ => rfl) (fun xs Q h => by unfold p_is_hearth at h; repeat (first | (obtain ⟨rfl, _⟩ := h; rfl) | (obtain ⟨_, h⟩ := h))) (fun cdv A outer s H E hr => by
    have nd := sc_is_hearth.nd
    have hu := hu_of hr
    have hu3 : (A.deeper (PyProof.Rows.envOfC "is_hearth" (defScope (top 7)) s.heap.objs.size f cdv)).units + 3 < cLine := by have := hr.units; omega
    exact ⟨(t_is_hearth), (s_one (s_ret (q_and (q_ge (qv 1) q_int) (q_one (q_lt (qv 1) (q_call d_hearths_in hr (a_cons (qv 0) a_nil))))))), rd_is_hearth⟩)
theorem sc_law_row_is : FnScope ["found", "due", "k"] ["found", "due"] (defScope (top 13)) := ⟨rfl, rfl, rfl, by decide +kernel, rfl, by decide +kernel, by decide +kernel⟩
theorem df_law_row_is (B : Bt mg) (F : Fun K "_law_row_is" "_law_row_is" (top 13) f fd) (m : mg "_law_row_is" = some (.ref f)) (d__law_whole_number : Df P w K mg base 1 "_law_whole_number" ["found"] p_law_whole_number) : Df P w K mg base 2 "_law_row_is" ["found", "due"] p_law_row_is :=
  Df.of F m sc_law_row_is (fun _ _ _ _ _ _ us hl => match us, hl with | [_, _], _ => rfl) (fun xs Q h => by unfold p_law_row_is at h; repeat (first | (obtain ⟨rfl, _⟩ := h; rfl) | (obtain ⟨_, h⟩ := h))) (fun cdv A outer s H E hr => by
    have nd := sc_law_row_is.nd
    have hu := hu_of hr
    have hu3 : (A.deeper (PyProof.Rows.envOfC "_law_row_is" (defScope (top 13)) s.heap.objs.size f cdv)).units + 3 < cLine := by have := hr.units; omega
    exact ⟨(t_law_row_is K), (s_cons (s_if (t_w (w_or (t_not (t_val (q_isinst_tuple B (qv 0)))) (w_or1 (t_ne (q_len B (a_cons (qv 0) a_nil)) (q_len B (a_cons (qv 1) a_nil)))))) (s_one (s_ret q_bl)) s_nil)
      (s_cons (s_for1 2 nd (i_rng1 rfl B.range (q_len B (a_cons (qv 1) a_nil)))
        (s_one (s_if (t_w (w_or (t_not (t_val (q_call d__law_whole_number hr (a_cons (q_ix (qv 0) (qv 2)) a_nil)))) (w_or1 (t_ne (q_ix (qv 0) (qv 2)) (q_ix (qv 1) (qv 2)))))) (s_one (s_ret q_bl)) s_nil)))
      (s_one (s_ret q_bl)))), rd_law_row_is (kits K).tt⟩)
theorem sc_is_set : FnScope ["web", "numbers"] ["web", "numbers"] (defScope (top 8)) := ⟨rfl, rfl, rfl, by decide +kernel, rfl, by decide +kernel, by decide +kernel⟩
theorem df_is_set (B : Bt mg) (F : Fun K "is_set" "is_set" (top 8) f fd) (m : mg "is_set" = some (.ref f)) (d_rises : Df P w K mg base 1 "rises" ["things"] p_rises) (d_is_hearth : Df P w K mg base 2 "is_hearth" ["web", "number"] p_is_hearth) : Df P w K mg base 3 "is_set" ["web", "numbers"] p_is_set :=
  Df.of F m sc_is_set (fun _ _ _ _ _ _ us hl => match us, hl with | [_, _], _ => rfl) (fun xs Q h => by unfold p_is_set at h; repeat (first | (obtain ⟨rfl, _⟩ := h; rfl) | (obtain ⟨_, h⟩ := h))) (fun cdv A outer s H E hr => by
    have nd := sc_is_set.nd
    have hu := hu_of hr
    have hu3 : (A.deeper (PyProof.Rows.envOfC "is_set" (defScope (top 8)) s.heap.objs.size f cdv)).units + 3 < cLine := by have := hr.units; omega
    exact ⟨(t_is_set), (s_one (s_ret (q_and (q_call d_rises hr (a_cons (qv 1) a_nil)) (q_one (q_all B rfl (a_cons (q_comp1 (N := ["number", "web"]) (fr := [none, some 0]) (i_seq (qv 1)) (fun _ _ _ _ => (q_call d_is_hearth hr (a_cons (qv 1) (a_cons (qv 0) a_nil))))) a_nil)))))), rd_is_set⟩)
theorem sc_made_set : FnScope ["web", "hearths"] ["web", "hearths"] (defScope (top 9)) := ⟨rfl, rfl, rfl, by decide +kernel, rfl, by decide +kernel, by decide +kernel⟩
theorem df_made_set (B : Bt mg) (F : Fun K "made_set" "made_set" (top 9) f fd) (m : mg "made_set" = some (.ref f)) (d_is_set : Df P w K mg base 3 "is_set" ["web", "numbers"] p_is_set) (x_BadSet : Xc K mg base "BadSet") : DfX P w K mg base 4 "made_set" ["web", "hearths"] pX_made_set :=
  DfX.of F m sc_made_set (fun _ _ _ _ _ _ us hl => match us, hl with | [_, _], _ => rfl) tX_made_set (fun Ep xs Q h => by unfold pX_made_set at h; repeat (first | (obtain ⟨rfl, _⟩ := h; rfl) | (obtain ⟨_, h⟩ := h))) rdX_made_set (fun cdv A outer s H E Ep hr hX => by
    have nd := sc_made_set.nd
    have hu := hu_of hr
    have hu3 : (A.deeper (PyProof.Rows.envOfC "made_set" (defScope (top 9)) s.heap.objs.size f cdv)).units + 3 < cLine := by have := hr.units; omega
    exact (s_cons (s_if (t_not (t_val (q_call d_is_set hr (a_cons (qv 0) (a_cons (qv 1) a_nil))))) (s_one (s_raise hX x_BadSet (a_cons q_str a_nil))) s_nil)
      (s_one (s_ret (q_tuple B (a_cons (qv 1) a_nil))))))
theorem sc_law_refused : FnScope ["web", "hearths", "caught", "e"] ["web", "hearths"] (defScope (top 15)) := ⟨rfl, rfl, rfl, by decide +kernel, rfl, by decide +kernel, by decide +kernel⟩
theorem df_law_refused (B : Bt mg) (F : Fun K "_law_refused" "_law_refused" (top 15) f fd) (m : mg "_law_refused" = some (.ref f)) (d_made_set : DfX P w K mg base 4 "made_set" ["web", "hearths"] pX_made_set) (cat_HearthError : Cat K mg "HearthError") (is_BadWeb : IsN K mg "BadWeb") (is_BadSet : IsN K mg "BadSet") (is_ValueError : IsV K mg) : Df P w K mg base 5 "_law_refused" ["web", "hearths"] p_law_refused03 :=
  Df.of F m sc_law_refused (fun _ _ _ _ _ _ us hl => match us, hl with | [_, _], _ => rfl) (fun xs Q h => by unfold p_law_refused03 at h; repeat (first | (obtain ⟨rfl, _⟩ := h; rfl) | (obtain ⟨_, h⟩ := h))) (fun cdv A outer s H E hr => by
    have nd := sc_law_refused.nd
    have hu := hu_of hr
    have hu3 : (A.deeper (PyProof.Rows.envOfC "_law_refused" (defScope (top 15)) s.heap.objs.size f cdv)).units + 3 < cLine := by have := hr.units; omega
    exact ⟨(t_law_refused03), (s_cons (s_set (i := 2) nd q_non)
      (s_cons (s_try 3 cat_HearthError nd (b_call d_made_set hr (fun _ => (a_cons (qv 0) (a_cons (qv 1) a_nil)))) (fun _ => (s_one (s_set (i := 2) nd (qv 3)))))
      (s_one (s_ret (q_and (q_isXo B is_BadSet (qv 2)) (q_and (q_isXv B is_ValueError (qv 2)) (q_one (q_not (q_isXo B is_BadWeb (qv 2)))))))))), rd_law_refused03⟩)
theorem sc_law : FnScope ["script", "many", "web", "some", "cell", "spoiled", "handed", "found"] ["script"] (defScope (top 16)) := ⟨rfl, rfl, rfl, by decide +kernel, rfl, by decide +kernel, by decide +kernel⟩
theorem ok_law (B : Bt mg) (F : Fun K "law" "law" (top 16) f fd) (d_made_set : DfX P w K mg base 4 "made_set" ["web", "hearths"] pX_made_set) (d__law_cell_at : Df P w K mg base 1 "_law_cell_at" ["script", "k"] p_law_cell_at) (d__law_spoiled : Df P w K mg base 1 "_law_spoiled" ["some", "many", "cell"] p_law_spoiled) (d__law_row_is : Df P w K mg base 2 "_law_row_is" ["found", "due"] p_law_row_is) (d__law_refused : Df P w K mg base 5 "_law_refused" ["web", "hearths"] p_law_refused03) : FnOk P w K mg base CX0 6 f fd ["script"] (spP K p_law_k03) :=
  fnP_of F sc_law (fun xs Q h => by unfold p_law_k03 at h; repeat (first | (obtain ⟨rfl, _⟩ := h; rfl) | (obtain ⟨_, h⟩ := h))) (fun cdv A outer s H E hr => by
    have nd := sc_law.nd
    have hu := hu_of hr
    have hu3 : (A.deeper (PyProof.Rows.envOfC "law" (defScope (top 16)) s.heap.objs.size f cdv)).units + 3 < cLine := by have := hr.units; omega
    exact ⟨(t_law_k03), (s_cons (s_set (i := 1) nd (q_mod (q_call d__law_cell_at hr (a_cons (qv 0) (a_cons q_int a_nil))) q_int))
      (s_cons (s_set (i := 2) nd (q_tup (a_cons (q_tuple B (a_cons (q_comp1 (N := ["k", "script"]) (fr := [none, some 0]) (i_rng1 rfl B.range (qv 1)) (fun _ _ _ _ => (q_mod (q_call d__law_cell_at hr (a_cons (qv 1) (a_cons (q_add q_int (qv 0)) a_nil))) q_int))) a_nil)) (a_cons (q_tup a_nil) a_nil))))
      (s_cons (s_setC1i (i := 3) nd (N := ["hearth", "script"]) (fr := [none, some 0]) (i_rng1 rfl B.range (qv 1)) (fun _ _ _ _ => (t_ne (q_mod (q_div (q_call d__law_cell_at hr (a_cons (qv 1) (a_cons (q_add q_int (qv 0)) a_nil))) q_int) q_int) q_int)) (fun _ _ _ _ => (qv 0)))
      (s_cons (s_set (i := 4) nd (q_mod (q_call d__law_cell_at hr (a_cons (qv 0) (a_cons q_int a_nil))) (q_pow q_int q_int)))
      (s_cons (s_if (t_eq (q_mod (qv 4) q_int) q_int) (s_cons (s_set (i := 5) nd (q_call d__law_spoiled hr (a_cons (qv 3) (a_cons (qv 1) (a_cons (q_div (qv 4) q_int) a_nil)))))
        (s_one (s_ret (q_and (q_call d__law_refused hr (a_cons (qv 2) (a_cons (qv 5) a_nil))) (q_one (q_call d__law_refused hr (a_cons (qv 2) (a_cons (q_tuple B (a_cons (qv 5) a_nil)) a_nil)))))))) s_nil)
      (s_cons (s_own (i := 6) nd (q_list B (a_cons (qv 3) a_nil)))
      (s_cons (s_set (i := 7) nd (q_callN d_made_set hr (a_cons (qv 2) (a_cons (qv 6) a_nil))))
      (s_cons (s_if (t_neP hu3 (qv 6) (qv 3)) (s_one (s_ret q_bl)) s_nil)
      (s_cons (s_app 6 q_int)
      (s_one (s_ret (q_and (q_call d__law_row_is hr (a_cons (qv 7) (a_cons (qv 3) a_nil))) (q_one (q_call d__law_row_is hr (a_cons (q_callN d_made_set hr (a_cons (qv 2) (a_cons (q_tuple B (a_cons (qv 3) a_nil)) a_nil))) (a_cons (qv 3) a_nil)))))))))))))))), rd_law_k03⟩)
end
theorem all_mk {l : PySem.W.OpenLaw} {w : World} {K : PySem.W.Frag} {h : Heap} {mg : Str → Option Value} {fa f0 f1 f2 f3 f4 f5 f6 f7 f8 f9 f10 : Addr} (X : K.In h) (G : h.Ns mainGlobals mg) (hfa : mg "law" = some (.ref fa))
    {od0 an0 od1 an1 od2 an2 od3 an3 od4 an4 od5 an5 od6 an6 od7 an7 od8 an8 od9 an9 od10 an10 : Option Addr} {sl0 sl1 sl2 sl3 sl4 sl5 sl6 sl7 sl8 sl9 sl10 : Array (Option Value)} {oc0 kV0 dc0 pm0 cd0 ct0 oc1 kV1 dc1 pm1 cd1 ct1 oc2 kV2 dc2 pm2 cd2 ct2 oc3 kV3 dc3 pm3 cd3 ct3 oc4 kV4 dc4 pm4 cd4 ct4 oc5 kV5 dc5 pm5 cd5 ct5 oc6 kV6 dc6 pm6 cd6 ct6 oc7 kV7 dc7 pm7 cd7 ct7 oc8 kV8 dc8 pm8 cd8 ct8 oc9 kV9 dc9 pm9 cd9 ct9 oc10 kV10 dc10 pm10 cd10 ct10 : Value}
    (a0 : PySem.W.nsIn K mainGlobals "rises" = some (some (.ref f0))) (l0 : K.lookup f0 = some ⟨oc0, od0, .func (PySem.W.fnOf "rises" "rises" (defArgs (top 5)) (defBody (top 5)) (defScope (top 5)) .none kV0 dc0 pm0 an0 cd0 ct0), sl0⟩) (c0 : PySem.W.codeIn K cd0 "rises" = true) (k0 : PySem.W.keepIn K (.ref f0) = true)
    (a1 : PySem.W.nsIn K mainGlobals "hearths_in" = some (some (.ref f1))) (l1 : K.lookup f1 = some ⟨oc1, od1, .func (PySem.W.fnOf "hearths_in" "hearths_in" (defArgs (top 6)) (defBody (top 6)) (defScope (top 6)) .none kV1 dc1 pm1 an1 cd1 ct1), sl1⟩) (c1 : PySem.W.codeIn K cd1 "hearths_in" = true) (k1 : PySem.W.keepIn K (.ref f1) = true)
    (a2 : PySem.W.nsIn K mainGlobals "_law_cell_at" = some (some (.ref f2))) (l2 : K.lookup f2 = some ⟨oc2, od2, .func (PySem.W.fnOf "_law_cell_at" "_law_cell_at" (defArgs (top 11)) (defBody (top 11)) (defScope (top 11)) .none kV2 dc2 pm2 an2 cd2 ct2), sl2⟩) (c2 : PySem.W.codeIn K cd2 "_law_cell_at" = true) (k2 : PySem.W.keepIn K (.ref f2) = true)
    (a3 : PySem.W.nsIn K mainGlobals "_law_whole_number" = some (some (.ref f3))) (l3 : K.lookup f3 = some ⟨oc3, od3, .func (PySem.W.fnOf "_law_whole_number" "_law_whole_number" (defArgs (top 12)) (defBody (top 12)) (defScope (top 12)) .none kV3 dc3 pm3 an3 cd3 ct3), sl3⟩) (c3 : PySem.W.codeIn K cd3 "_law_whole_number" = true) (k3 : PySem.W.keepIn K (.ref f3) = true)
    (a4 : PySem.W.nsIn K mainGlobals "_law_spoiled" = some (some (.ref f4))) (l4 : K.lookup f4 = some ⟨oc4, od4, .func (PySem.W.fnOf "_law_spoiled" "_law_spoiled" (defArgs (top 14)) (defBody (top 14)) (defScope (top 14)) .none kV4 dc4 pm4 an4 cd4 ct4), sl4⟩) (c4 : PySem.W.codeIn K cd4 "_law_spoiled" = true) (k4 : PySem.W.keepIn K (.ref f4) = true)
    (a5 : PySem.W.nsIn K mainGlobals "is_hearth" = some (some (.ref f5))) (l5 : K.lookup f5 = some ⟨oc5, od5, .func (PySem.W.fnOf "is_hearth" "is_hearth" (defArgs (top 7)) (defBody (top 7)) (defScope (top 7)) .none kV5 dc5 pm5 an5 cd5 ct5), sl5⟩) (c5 : PySem.W.codeIn K cd5 "is_hearth" = true) (k5 : PySem.W.keepIn K (.ref f5) = true)
    (a6 : PySem.W.nsIn K mainGlobals "_law_row_is" = some (some (.ref f6))) (l6 : K.lookup f6 = some ⟨oc6, od6, .func (PySem.W.fnOf "_law_row_is" "_law_row_is" (defArgs (top 13)) (defBody (top 13)) (defScope (top 13)) .none kV6 dc6 pm6 an6 cd6 ct6), sl6⟩) (c6 : PySem.W.codeIn K cd6 "_law_row_is" = true) (k6 : PySem.W.keepIn K (.ref f6) = true)
    (a7 : PySem.W.nsIn K mainGlobals "is_set" = some (some (.ref f7))) (l7 : K.lookup f7 = some ⟨oc7, od7, .func (PySem.W.fnOf "is_set" "is_set" (defArgs (top 8)) (defBody (top 8)) (defScope (top 8)) .none kV7 dc7 pm7 an7 cd7 ct7), sl7⟩) (c7 : PySem.W.codeIn K cd7 "is_set" = true) (k7 : PySem.W.keepIn K (.ref f7) = true)
    (a8 : PySem.W.nsIn K mainGlobals "made_set" = some (some (.ref f8))) (l8 : K.lookup f8 = some ⟨oc8, od8, .func (PySem.W.fnOf "made_set" "made_set" (defArgs (top 9)) (defBody (top 9)) (defScope (top 9)) .none kV8 dc8 pm8 an8 cd8 ct8), sl8⟩) (c8 : PySem.W.codeIn K cd8 "made_set" = true) (k8 : PySem.W.keepIn K (.ref f8) = true)
    (a9 : PySem.W.nsIn K mainGlobals "_law_refused" = some (some (.ref f9))) (l9 : K.lookup f9 = some ⟨oc9, od9, .func (PySem.W.fnOf "_law_refused" "_law_refused" (defArgs (top 15)) (defBody (top 15)) (defScope (top 15)) .none kV9 dc9 pm9 an9 cd9 ct9), sl9⟩) (c9 : PySem.W.codeIn K cd9 "_law_refused" = true) (k9 : PySem.W.keepIn K (.ref f9) = true)
    (a10 : PySem.W.nsIn K mainGlobals "law" = some (some (.ref f10))) (l10 : K.lookup f10 = some ⟨oc10, od10, .func (PySem.W.fnOf "law" "law" (defArgs (top 16)) (defBody (top 16)) (defScope (top 16)) .none kV10 dc10 pm10 an10 cd10 ct10), sl10⟩) (c10 : PySem.W.codeIn K cd10 "law" = true) (k10 : PySem.W.keepIn K (.ref f10) = true)
    (z_len : PySem.W.nsIn K mainGlobals "len" = some none)
    (z_range : PySem.W.nsIn K mainGlobals "range" = some none)
    (z_tuple : PySem.W.nsIn K mainGlobals "tuple" = some none)
    (z_list : PySem.W.nsIn K mainGlobals "list" = some none)
    (z_sorted : PySem.W.nsIn K mainGlobals "sorted" = some none)
    (z_all : PySem.W.nsIn K mainGlobals "all" = some none)
    (z_any : PySem.W.nsIn K mainGlobals "any" = some none)
    (z_zip : PySem.W.nsIn K mainGlobals "zip" = some none)
    (z_min : PySem.W.nsIn K mainGlobals "min" = some none)
    (z_max : PySem.W.nsIn K mainGlobals "max" = some none)
    (z_sum : PySem.W.nsIn K mainGlobals "sum" = some none)
    (z_isinstance : PySem.W.nsIn K mainGlobals "isinstance" = some none)
    (z_int : PySem.W.nsIn K mainGlobals "int" = some none)
    (z_bool : PySem.W.nsIn K mainGlobals "bool" = some none)
    (z_enumerate : PySem.W.nsIn K mainGlobals "enumerate" = some none)
    {C_HearthError C_BadWeb C_BadSet : Addr}
    (aX_HearthError : PySem.W.nsIn K mainGlobals "HearthError" = some (some (.ref C_HearthError)))
    (aX_BadWeb : PySem.W.nsIn K mainGlobals "BadWeb" = some (some (.ref C_BadWeb)))
    (aX_BadSet : PySem.W.nsIn K mainGlobals "BadSet" = some (some (.ref C_BadSet)))
    (zX_BadOrder : PySem.W.nsIn K mainGlobals "BadOrder" = some none)
    (zX_BadPrices : PySem.W.nsIn K mainGlobals "BadPrices" = some none)
    (zX_BadBoard : PySem.W.nsIn K mainGlobals "BadBoard" = some none)
    (zX_BadDeed : PySem.W.nsIn K mainGlobals "BadDeed" = some none)
    (zX_NotWood : PySem.W.nsIn K mainGlobals "NotWood" = some none)
    (zX_NoPaper : PySem.W.nsIn K mainGlobals "NoPaper" = some none)
    (zX_NoSuch : PySem.W.nsIn K mainGlobals "NoSuch" = some none)
    (zX_TooMany : PySem.W.nsIn K mainGlobals "TooMany" = some none)
    (zX_NoText : PySem.W.nsIn K mainGlobals "NoText" = some none)
    (zX_OddRound : PySem.W.nsIn K mainGlobals "OddRound" = some none)
    (y_fg : PySem.W.specialIn K (.builtin "object.__class__") "__get__" = some (some (.builtin "getset_descriptor.__get__")))
    (y_ft : PySem.W.takesIn K (.builtin "object.__class__") = some true)
    (z_ValueError : PySem.W.nsIn K mainGlobals "ValueError" = some none)
    (y1_HearthError : PySem.W.isClsIn K C_HearthError = true)
    (y2_HearthError : PySem.W.typeIn K (.ref C_HearthError) = some (.type "type"))
    (y3_HearthError : PySem.W.findIn K (.ref C_HearthError) "__getattribute__" = some (some (.builtin "BaseException.__getattribute__")))
    (y4_HearthError : PySem.W.findIn K (.ref C_HearthError) "__getattr__" = some none)
    (y5_HearthError : PySem.W.findIn K (.ref C_HearthError) "__class__" = some (some (.builtin "object.__class__")))
    (y6_HearthError : PySem.W.mroIn K C_HearthError (.type "object") = some true)
    (y7_HearthError : PySem.W.mroIn K C_HearthError (.type "BaseException") = some true)
    (y1_BadWeb : PySem.W.isClsIn K C_BadWeb = true)
    (y2_BadWeb : PySem.W.typeIn K (.ref C_BadWeb) = some (.type "type"))
    (y3_BadWeb : PySem.W.findIn K (.ref C_BadWeb) "__getattribute__" = some (some (.builtin "BaseException.__getattribute__")))
    (y4_BadWeb : PySem.W.findIn K (.ref C_BadWeb) "__getattr__" = some none)
    (y5_BadWeb : PySem.W.findIn K (.ref C_BadWeb) "__class__" = some (some (.builtin "object.__class__")))
    (y6_BadWeb : PySem.W.mroIn K C_BadWeb (.type "object") = some true)
    (y7_BadWeb : PySem.W.mroIn K C_BadWeb (.type "BaseException") = some true)
    (y1_BadSet : PySem.W.isClsIn K C_BadSet = true)
    (y2_BadSet : PySem.W.typeIn K (.ref C_BadSet) = some (.type "type"))
    (y3_BadSet : PySem.W.findIn K (.ref C_BadSet) "__getattribute__" = some (some (.builtin "BaseException.__getattribute__")))
    (y4_BadSet : PySem.W.findIn K (.ref C_BadSet) "__getattr__" = some none)
    (y5_BadSet : PySem.W.findIn K (.ref C_BadSet) "__class__" = some (some (.builtin "object.__class__")))
    (y6_BadSet : PySem.W.mroIn K C_BadSet (.type "object") = some true)
    (y7_BadSet : PySem.W.mroIn K C_BadSet (.type "BaseException") = some true)
    (sB_HearthError : PySem.W.subIn K (.ref C_HearthError) (.type "BaseException") = some true)
    (s_BadWeb_HearthError : PySem.W.subIn K (.ref C_BadWeb) (.ref C_HearthError) = some true)
    (s_BadSet_HearthError : PySem.W.subIn K (.ref C_BadSet) (.ref C_HearthError) = some true)
    (sN_BadSet : PySem.W.subIn K (.type "NoneType") (.ref C_BadSet) = some false)
    (s_BadWeb_BadSet : PySem.W.subIn K (.ref C_BadWeb) (.ref C_BadSet) = some false)
    (n_BadWeb_BadSet : (C_BadWeb == C_BadSet) = false)
    (sN_BadWeb : PySem.W.subIn K (.type "NoneType") (.ref C_BadWeb) = some false)
    (s_BadSet_BadWeb : PySem.W.subIn K (.ref C_BadSet) (.ref C_BadWeb) = some false)
    (n_BadSet_BadWeb : (C_BadSet == C_BadWeb) = false)
    (sV_BadWeb : PySem.W.subIn K (.ref C_BadWeb) (.type "ValueError") = some true)
    (sV_BadSet : PySem.W.subIn K (.ref C_BadSet) (.type "ValueError") = some true)
    (q_BadSet : PySem.W.excIn K C_BadSet [.type "ValueError", .type "Exception", .type "BaseException", .type "object"] "ValueError.__new__" = true)
    : ∃ fd : FuncData, (∀ (s : Shared) (v : Value), BindsTo s fd ⟨[v], []⟩ [("script", v)]) ∧ ∀ base : Heap, K.In base → base.Ns mainGlobals mg → FnOk l.prog w K mg base CX0 6 fa fd ["script"] (spLawP K) := by
  have e := hfa.symm.trans (PySem.W.mg_of X G a10)
  cases e
  have F0 := fun_mk (st := top 5) l0 c0 k0
  have m0 := PySem.W.mg_of X G a0
  have F1 := fun_mk (st := top 6) l1 c1 k1
  have m1 := PySem.W.mg_of X G a1
  have F2 := fun_mk (st := top 11) l2 c2 k2
  have m2 := PySem.W.mg_of X G a2
  have F3 := fun_mk (st := top 12) l3 c3 k3
  have m3 := PySem.W.mg_of X G a3
  have F4 := fun_mk (st := top 14) l4 c4 k4
  have m4 := PySem.W.mg_of X G a4
  have F5 := fun_mk (st := top 7) l5 c5 k5
  have m5 := PySem.W.mg_of X G a5
  have F6 := fun_mk (st := top 13) l6 c6 k6
  have m6 := PySem.W.mg_of X G a6
  have F7 := fun_mk (st := top 8) l7 c7 k7
  have m7 := PySem.W.mg_of X G a7
  have F8 := fun_mk (st := top 9) l8 c8 k8
  have m8 := PySem.W.mg_of X G a8
  have F9 := fun_mk (st := top 15) l9 c9 k9
  have m9 := PySem.W.mg_of X G a9
  have F10 := fun_mk (st := top 16) l10 c10 k10
  have m10 := PySem.W.mg_of X G a10
  have B : Bt mg := ⟨PySem.W.mg_none_of X G z_len, PySem.W.mg_none_of X G z_range, PySem.W.mg_none_of X G z_tuple, PySem.W.mg_none_of X G z_list, PySem.W.mg_none_of X G z_sorted, PySem.W.mg_none_of X G z_all, PySem.W.mg_none_of X G z_any, PySem.W.mg_none_of X G z_zip, PySem.W.mg_none_of X G z_min, PySem.W.mg_none_of X G z_max, PySem.W.mg_none_of X G z_sum, PySem.W.mg_none_of X G z_isinstance, PySem.W.mg_none_of X G z_int, PySem.W.mg_none_of X G z_bool, PySem.W.mg_none_of X G z_enumerate⟩
  refine ⟨PySem.W.fnOf "law" "law" (defArgs (top 16)) (defBody (top 16)) (defScope (top 16)) .none kV10 dc10 pm10 an10 cd10 ct10, fun s v => .of_eq rfl, fun base KB _ => ?_⟩
  have XK_HearthError : XcK K C_HearthError := ⟨y1_HearthError, y2_HearthError, y3_HearthError, y4_HearthError, y5_HearthError, y_fg, y_ft, y6_HearthError, y7_HearthError⟩
  have XK_BadWeb : XcK K C_BadWeb := ⟨y1_BadWeb, y2_BadWeb, y3_BadWeb, y4_BadWeb, y5_BadWeb, y_fg, y_ft, y6_BadWeb, y7_BadWeb⟩
  have XK_BadSet : XcK K C_BadSet := ⟨y1_BadSet, y2_BadSet, y3_BadSet, y4_BadSet, y5_BadSet, y_fg, y_ft, y6_BadSet, y7_BadSet⟩
  have cat_HearthError : Cat K mg "HearthError" := ⟨C_HearthError, PySem.W.mg_of X G aX_HearthError, ⟨y1_HearthError, y2_HearthError, sB_HearthError⟩, fun n C h2 h1 => by
    obtain ⟨hm, hb⟩ := isaC_in h2
    simp only [errs, List.mem_cons, List.not_mem_nil, or_false] at hm
    rcases hm with rfl | rfl | rfl | rfl | rfl | rfl | rfl | rfl | rfl | rfl | rfl | rfl
    · rw [aX_BadWeb] at h1; cases h1; exact s_BadWeb_HearthError
    · rw [aX_BadSet] at h1; cases h1; exact s_BadSet_HearthError
    · rw [zX_BadOrder] at h1; cases h1
    · rw [zX_BadPrices] at h1; cases h1
    · rw [zX_BadBoard] at h1; cases h1
    · rw [zX_BadDeed] at h1; cases h1
    · rw [zX_NotWood] at h1; cases h1
    · rw [zX_NoPaper] at h1; cases h1
    · rw [zX_NoSuch] at h1; cases h1
    · rw [zX_TooMany] at h1; cases h1
    · rw [zX_NoText] at h1; cases h1
    · rw [zX_OddRound] at h1; cases h1⟩
  have is_BadSet : IsN K mg "BadSet" := ⟨C_BadSet, PySem.W.mg_of X G aX_BadSet, fun z => (by cases z), (fun n C b h1 h2 => by
    obtain ⟨hm, hb⟩ := isaC_in h2
    simp only [errs, List.mem_cons, List.not_mem_nil, or_false] at hm
    rcases hm with rfl | rfl | rfl | rfl | rfl | rfl | rfl | rfl | rfl | rfl | rfl | rfl
    · rw [aX_BadWeb] at h1; cases h1; rw [hb, show (("BadWeb" : Str) == "BadSet" || ("BadSet" : Str) == "HearthError" || ("BadSet" : Str) == "ValueError") = false by decide]; exact ⟨XK_BadWeb.exc, kit_sub XK_BadSet n_BadWeb_BadSet s_BadWeb_BadSet⟩
    · rw [aX_BadSet] at h1; cases h1; rw [hb, show (("BadSet" : Str) == "BadSet" || ("BadSet" : Str) == "HearthError" || ("BadSet" : Str) == "ValueError") = true by decide]; exact ⟨XK_BadSet.exc, kit_self⟩
    · rw [zX_BadOrder] at h1; cases h1
    · rw [zX_BadPrices] at h1; cases h1
    · rw [zX_BadBoard] at h1; cases h1
    · rw [zX_BadDeed] at h1; cases h1
    · rw [zX_NotWood] at h1; cases h1
    · rw [zX_NoPaper] at h1; cases h1
    · rw [zX_NoSuch] at h1; cases h1
    · rw [zX_TooMany] at h1; cases h1
    · rw [zX_NoText] at h1; cases h1
    · rw [zX_OddRound] at h1; cases h1), kit_no XK_BadSet sN_BadSet⟩
  have is_BadWeb : IsN K mg "BadWeb" := ⟨C_BadWeb, PySem.W.mg_of X G aX_BadWeb, fun z => (by cases z), (fun n C b h1 h2 => by
    obtain ⟨hm, hb⟩ := isaC_in h2
    simp only [errs, List.mem_cons, List.not_mem_nil, or_false] at hm
    rcases hm with rfl | rfl | rfl | rfl | rfl | rfl | rfl | rfl | rfl | rfl | rfl | rfl
    · rw [aX_BadWeb] at h1; cases h1; rw [hb, show (("BadWeb" : Str) == "BadWeb" || ("BadWeb" : Str) == "HearthError" || ("BadWeb" : Str) == "ValueError") = true by decide]; exact ⟨XK_BadWeb.exc, kit_self⟩
    · rw [aX_BadSet] at h1; cases h1; rw [hb, show (("BadSet" : Str) == "BadWeb" || ("BadWeb" : Str) == "HearthError" || ("BadWeb" : Str) == "ValueError") = false by decide]; exact ⟨XK_BadSet.exc, kit_sub XK_BadWeb n_BadSet_BadWeb s_BadSet_BadWeb⟩
    · rw [zX_BadOrder] at h1; cases h1
    · rw [zX_BadPrices] at h1; cases h1
    · rw [zX_BadBoard] at h1; cases h1
    · rw [zX_BadDeed] at h1; cases h1
    · rw [zX_NotWood] at h1; cases h1
    · rw [zX_NoPaper] at h1; cases h1
    · rw [zX_NoSuch] at h1; cases h1
    · rw [zX_TooMany] at h1; cases h1
    · rw [zX_NoText] at h1; cases h1
    · rw [zX_OddRound] at h1; cases h1), kit_no XK_BadWeb sN_BadWeb⟩
  have is_ValueError : IsV K mg := ⟨PySem.W.mg_none_of X G z_ValueError, fun z => (by cases z), (fun n C b h1 h2 => by
    obtain ⟨hm, hb⟩ := isaC_in h2
    simp only [errs, List.mem_cons, List.not_mem_nil, or_false] at hm
    rcases hm with rfl | rfl | rfl | rfl | rfl | rfl | rfl | rfl | rfl | rfl | rfl | rfl
    · rw [aX_BadWeb] at h1; cases h1; rw [hb, show (("BadWeb" : Str) == "ValueError" || ("ValueError" : Str) == "HearthError" || ("ValueError" : Str) == "ValueError") = true by decide]; exact ⟨XK_BadWeb.exc, kit_ve sV_BadWeb⟩
    · rw [aX_BadSet] at h1; cases h1; rw [hb, show (("BadSet" : Str) == "ValueError" || ("ValueError" : Str) == "HearthError" || ("ValueError" : Str) == "ValueError") = true by decide]; exact ⟨XK_BadSet.exc, kit_ve sV_BadSet⟩
    · rw [zX_BadOrder] at h1; cases h1
    · rw [zX_BadPrices] at h1; cases h1
    · rw [zX_BadBoard] at h1; cases h1
    · rw [zX_BadDeed] at h1; cases h1
    · rw [zX_NotWood] at h1; cases h1
    · rw [zX_NoPaper] at h1; cases h1
    · rw [zX_NoSuch] at h1; cases h1
    · rw [zX_TooMany] at h1; cases h1
    · rw [zX_NoText] at h1; cases h1
    · rw [zX_OddRound] at h1; cases h1), kit_nv⟩
  have x_BadSet : Xc K mg base "BadSet" := ⟨C_BadSet, _, _, _, _, own_mk KB (PySem.W.mg_of X G aX_BadSet) q_BadSet, PySem.F.excBase_ValueError, aX_BadSet⟩
  have D0 := df_rises (ok_rises (P := l.prog) (w := w) (base := base) B F0) (F0.binds (ps := ["things"]) fun _ _ _ _ _ _ us hl => match us, hl with | [_], _ => rfl) F0.kp m0
  have D1 := df_hearths_in (P := l.prog) (w := w) (base := base) B F1 m1
  have D2 := df_law_cell_at (P := l.prog) (w := w) (base := base) B F2 m2
  have D3 := df_law_whole_number (P := l.prog) (w := w) (base := base) B F3 m3
  have D4 := df_law_spoiled (P := l.prog) (w := w) (base := base) B F4 m4
  have D5 := df_is_hearth (P := l.prog) (w := w) (base := base) B F5 m5 D1
  have D6 := df_law_row_is (P := l.prog) (w := w) (base := base) B F6 m6 D3
  have D7 := df_is_set (P := l.prog) (w := w) (base := base) B F7 m7 D0 D5
  have D8 := df_made_set (P := l.prog) (w := w) (base := base) B F8 m8 D7 x_BadSet
  have D9 := df_law_refused (P := l.prog) (w := w) (base := base) B F9 m9 D8 cat_HearthError is_BadWeb is_BadSet is_ValueError
  exact law_ok (ok_law B F10 D8 D2 D4 D6 D9)
theorem walk {l : PySem.W.OpenLaw} {q : Program} {loose : List Str} {XP : (Str → Option Value) → Heap → Prop} {YP : World → Heap → Prop} {d : DefRec} {K : Params → PySem.W.Frag} (hn : l.most = some 63) (hdf : d.params.defaults = [])
    (hY : ∀ (w : World) (h : Heap), YP w h → (K w.params).In h)
    (F : ∀ (w : World) (mg : Str → Option Value) (fa : Addr) (h : Heap), (K w.params).In h → h.Ns mainGlobals mg → mg d.name = some (.ref fa) →
      ∃ fd : FuncData, (∀ (s : Shared) (u : Value), BindsTo s fd ⟨[u], []⟩ [("script", u)]) ∧ ∀ base : Heap, (K w.params).In base → base.Ns mainGlobals mg → FnOk l.prog w (K w.params) mg base CX0 6 fa fd ["script"] (spLawP (K w.params))) :
    PySem.W.WalkO q loose XP YP l.row.toRowW d [] (fun f vs => PySem.call f vs) :=
  L2.walk_of (n := 63) (k := 6) (x := "script") (CX := fun _ => CX0) (sp := fun w => spLawP (K w.params)) hn (by decide) hdf ⟨rfl, by decide, by decide⟩ hY F (fun _ _ a ns hl hO hS => ⟨a, ns, rfl, scr_of hO hS, hl, fun _ => rfl⟩) fun _ _ _ _ _ z => z
end K_k03
open PySem PySem.W PyProof.Rows
set_option maxRecDepth 100000 in
set_option maxHeartbeats 0 in
theorem PySem.Challenge.cw_kindleweb_k03_sets_holds : PySem.Challenge.rw_kindleweb_k03_sets.Holds := by
  w_on; o_law; k_head; (case hw => w_witness2)
  k_fill
  refine K_k03.walk (l := PySem.Challenge.rw_kindleweb_k03_sets) rfl rfl (fun w h Y => PySem.W.kIn_of Y) ?F
  case F =>
    intro w mg fa h KX G hmg
    refine' K_k03.all_mk KX G hmg ?a0 ?l0 ?c0 ?k0 ?a1 ?l1 ?c1 ?k1 ?a2 ?l2 ?c2 ?k2 ?a3 ?l3 ?c3 ?k3 ?a4 ?l4 ?c4 ?k4 ?a5 ?l5 ?c5 ?k5 ?a6 ?l6 ?c6 ?k6 ?a7 ?l7 ?c7 ?k7 ?a8 ?l8 ?c8 ?k8 ?a9 ?l9 ?c9 ?k9 ?a10 ?l10 ?c10 ?k10 ?z_len ?z_range ?z_tuple ?z_list ?z_sorted ?z_all ?z_any ?z_zip ?z_min ?z_max ?z_sum ?z_isinstance ?z_int ?z_bool ?z_enumerate ?aX_HearthError ?aX_BadWeb ?aX_BadSet ?zX_BadOrder ?zX_BadPrices ?zX_BadBoard ?zX_BadDeed ?zX_NotWood ?zX_NoPaper ?zX_NoSuch ?zX_TooMany ?zX_NoText ?zX_OddRound ?y_fg ?y_ft ?z_ValueError ?y1_HearthError ?y2_HearthError ?y3_HearthError ?y4_HearthError ?y5_HearthError ?y6_HearthError ?y7_HearthError ?y1_BadWeb ?y2_BadWeb ?y3_BadWeb ?y4_BadWeb ?y5_BadWeb ?y6_BadWeb ?y7_BadWeb ?y1_BadSet ?y2_BadSet ?y3_BadSet ?y4_BadSet ?y5_BadSet ?y6_BadSet ?y7_BadSet ?sB_HearthError ?s_BadWeb_HearthError ?s_BadSet_HearthError ?sN_BadSet ?s_BadWeb_BadSet ?n_BadWeb_BadSet ?sN_BadWeb ?s_BadSet_BadWeb ?n_BadSet_BadWeb ?sV_BadWeb ?sV_BadSet ?q_BadSet
    (case a0 => k_is)
    (case l0 => k_is)
    (case c0 => k_is)
    (case k0 => k_is)
    (case a1 => k_is)
    (case l1 => k_is)
    (case c1 => k_is)
    (case k1 => k_is)
    (case a2 => k_is)
    (case l2 => k_is)
    (case c2 => k_is)
    (case k2 => k_is)
    (case a3 => k_is)
    (case l3 => k_is)
    (case c3 => k_is)
    (case k3 => k_is)
    (case a4 => k_is)
    (case l4 => k_is)
    (case c4 => k_is)
    (case k4 => k_is)
    (case a5 => k_is)
    (case l5 => k_is)
    (case c5 => k_is)
    (case k5 => k_is)
    (case a6 => k_is)
    (case l6 => k_is)
    (case c6 => k_is)
    (case k6 => k_is)
    (case a7 => k_is)
    (case l7 => k_is)
    (case c7 => k_is)
    (case k7 => k_is)
    (case a8 => k_is)
    (case l8 => k_is)
    (case c8 => k_is)
    (case k8 => k_is)
    (case a9 => k_is)
    (case l9 => k_is)
    (case c9 => k_is)
    (case k9 => k_is)
    (case a10 => k_is)
    (case l10 => k_is)
    (case c10 => k_is)
    (case k10 => k_is)
    (case z_len => k_is)
    (case z_range => k_is)
    (case z_tuple => k_is)
    (case z_list => k_is)
    (case z_sorted => k_is)
    (case z_all => k_is)
    (case z_any => k_is)
    (case z_zip => k_is)
    (case z_min => k_is)
    (case z_max => k_is)
    (case z_sum => k_is)
    (case z_isinstance => k_is)
    (case z_int => k_is)
    (case z_bool => k_is)
    (case z_enumerate => k_is)
    (case aX_HearthError => k_is)
    (case aX_BadWeb => k_is)
    (case aX_BadSet => k_is)
    (case zX_BadOrder => k_is)
    (case zX_BadPrices => k_is)
    (case zX_BadBoard => k_is)
    (case zX_BadDeed => k_is)
    (case zX_NotWood => k_is)
    (case zX_NoPaper => k_is)
    (case zX_NoSuch => k_is)
    (case zX_TooMany => k_is)
    (case zX_NoText => k_is)
    (case zX_OddRound => k_is)
    (case y_fg => k_is)
    (case y_ft => k_is)
    (case z_ValueError => k_is)
    (case y1_HearthError => k_is)
    (case y2_HearthError => k_is)
    (case y3_HearthError => k_is)
    (case y4_HearthError => k_is)
    (case y5_HearthError => k_is)
    (case y6_HearthError => k_is)
    (case y7_HearthError => k_is)
    (case y1_BadWeb => k_is)
    (case y2_BadWeb => k_is)
    (case y3_BadWeb => k_is)
    (case y4_BadWeb => k_is)
    (case y5_BadWeb => k_is)
    (case y6_BadWeb => k_is)
    (case y7_BadWeb => k_is)
    (case y1_BadSet => k_is)
    (case y2_BadSet => k_is)
    (case y3_BadSet => k_is)
    (case y4_BadSet => k_is)
    (case y5_BadSet => k_is)
    (case y6_BadSet => k_is)
    (case y7_BadSet => k_is)
    (case sB_HearthError => k_is)
    (case s_BadWeb_HearthError => k_is)
    (case s_BadSet_HearthError => k_is)
    (case sN_BadSet => k_is)
    (case s_BadWeb_BadSet => k_is)
    (case n_BadWeb_BadSet => decide)
    (case sN_BadWeb => k_is)
    (case s_BadSet_BadWeb => k_is)
    (case n_BadSet_BadWeb => decide)
    (case sV_BadWeb => k_is)
    (case sV_BadSet => k_is)
    (case q_BadSet => k_exc)
