import PyProof.Rows.All
import Wide.All
import OpenK.AllK
import Wide.FinOn
import Lean
import PyProof.EqAt
import PyProof.EqKinds
import PyProof.TupleCall
import KE.KLam
import PyProof.ZipIter
import PyProof.WalksEnum
import PyProof.WalkInts
import PyProof.SeqI3
import PyProof.Rows.SeqMore
import PyProof.Rows.SortWalk
import PyProof.Draws
import PyProof.EnumMake
import PyProof.Rows.SortRuns
import PyProof.Rows.SortRunsK
import PyProof.DictIter
import KE.KSortTup
import PyProof.Rows.SeqMore2
import PyProof.Rows.RuleIs
import PyProof.Rows.SetFrom
import PyProof.WalksMore
import PyProof.MinMaxWalk
import OpenK.KMore
import PySem.Challenge.RW_tiefold_k60_beside_and_wholly_tied
-- CHANGE: your row's module here, as the last of these rows
set_option genSizeOfSpec false
set_option Elab.async false
set_option linter.all false
set_option maxRecDepth 100000
namespace L2
open PySem PySem.Spec PyProof.Rows
noncomputable abbrev Key := Sum Int Str
noncomputable def ZeN : Key → Value → Bool
 | .inl k, v => Value.isInt k v
 | .inr x, v => Value.isStrOf x v
noncomputable def keyH (w : World) : Key → Int
 | .inl k => hashInt k
 | .inr x => hashStr w x
theorem Zbh : ∀ {k : Key} {v : Value}, ZeN k v = true → (∃ i t, k = Sum.inl i ∧ v = Value.int i t) ∨ (∃ x t, k = Sum.inr x ∧ v = Value.str x t)
 | .inl i, v, h => by
  obtain ⟨t, e⟩ := Value.isInt_shape (k := i) (v := v) h
  exact .inl ⟨i, t, rfl, e⟩
 | .inr x, v, h => by
  obtain ⟨t, e⟩ := Value.isStrOf_shape (x := x) (v := v) h
  exact .inr ⟨x, t, rfl, e⟩
theorem Zj4 (i : Int) (t : Tok) : ZeN (.inl i) (.int i t) = true := by simp [ZeN, Value.isInt]
theorem Zj3 (x : Str) (t : Tok) : ZeN (.inr x) (.str x t) = true := by simp [ZeN, Value.isStrOf]
theorem Zng (a b : Int) : decide ((Sum.inl a : Key) = Sum.inl b) = (a == b) := by
 by_cases e : a = b
 ·subst e; simp
 ·have h : ¬ (Sum.inl a : Key) = Sum.inl b := fun q => e (Sum.inl.inj q)
  rw [decide_eq_false h]
  exact (beq_eq_false_iff_ne.mpr e).symm
theorem Znd (a b : Str) : decide ((Sum.inr a : Key) = Sum.inr b) = decide (a = b) := by
 by_cases e : a = b
 ·subst e; simp
 ·have h : ¬ (Sum.inr a : Key) = Sum.inr b := fun q => e (Sum.inr.inj q)
  rw [decide_eq_false h, decide_eq_false e]
theorem Znf (a : Int) (b : Str) : decide ((Sum.inl a : Key) = Sum.inr b) = false := decide_eq_false (fun q => nomatch q)
theorem Zne (a : Str) (b : Int) : decide ((Sum.inr a : Key) = Sum.inl b) = false := decide_eq_false (fun q => nomatch q)
noncomputable def Zbd (prog : Program) (w : World) : PySem.KeyKind prog w Key where
 is := ZeN
 hash := keyH w
 inj := fun v a b ha hb => by
  rcases Zbh ha with ⟨i, t, rfl, rfl⟩ | ⟨x, t, rfl, rfl⟩
  ·rcases Zbh hb with ⟨j, u, rfl, e⟩ | ⟨y, u, rfl, e⟩
   ·injection e with e1 _; rw [e1]
   ·exact nomatch e
  ·rcases Zbh hb with ⟨j, u, rfl, e⟩ | ⟨y, u, rfl, e⟩
   ·exact nomatch e
   ·injection e with e1 _; rw [e1]
 byValue := fun k v h => by
  rcases Zbh h with ⟨i, t, rfl, rfl⟩ | ⟨x, t, rfl, rfl⟩ <;> rfl
 pyHash := fun hv h => by
  rcases Zbh hv with ⟨i, t, rfl, rfl⟩ | ⟨x, t, rfl, rfl⟩
  ·exact wpAny_pyHash_int h
  ·exact wpAny_pyHash_str h
 eqBool := fun hu hv h => by
  rcases Zbh hu with ⟨i, t, rfl, rfl⟩ | ⟨x, t, rfl, rfl⟩
  ·rcases Zbh hv with ⟨j, u, rfl, rfl⟩ | ⟨y, u, rfl, rfl⟩
   ·rw [Zng] at h; exact wpAny_eqBool_int h
   ·rw [Znf] at h; exact SeqAt.EqAt.int_str i t y u _ _ _ _ h
  ·rcases Zbh hv with ⟨j, u, rfl, rfl⟩ | ⟨y, u, rfl, rfl⟩
   ·rw [Zne] at h; exact SeqAt.EqAt.str_int x t j u _ _ _ _ h
   ·rw [Znd] at h; exact wpAny_eqBool_str h
 «strs» := fun k x t v h => by
  rcases Zbh h with ⟨i, u, rfl, e⟩ | ⟨y, u, rfl, e⟩
  ·exact nomatch e
  ·injection e with e1 _
   subst e1
   cases v <;> rfl
theorem ZhP (prog : Program) (w : World) (i : Int) (t : Tok) : (Zbd prog w).is (.inl i) (.int i t) = true := Zj4 i t
theorem ZhO (prog : Program) (w : World) (x : Str) (t : Tok) : (Zbd prog w).is (.inr x) (.str x t) = true := Zj3 x t
end L2
namespace L2
open PySem PySem.Spec PyProof.Rows
inductive V where
 | non | bl (b : Bool) | int (i : Int) | str (x : Str) | byt (b : Array UInt8) | flt (b : UInt64) | ref (a : Addr) | ty (n : String)
 deriving DecidableEq
noncomputable def RelV : V → Value → Prop
 | .non, u => u = Value.none
 | .bl b, u => u = Value.bool b
 | .int i, u => ∃ t, u = Value.int i t
 | .str x, u => ∃ t, u = Value.str x t
 | .byt b, u => ∃ t, u = Value.bytes b t
 | .flt b, u => ∃ t, u = Value.float b t
 | .ref a, u => u = Value.ref a
 | .ty n, u => u = Value.type n
noncomputable abbrev Vals : List V → List Value → Prop := Paired RelV
theorem Vals.length {xs : List V} {us : List Value} (r : Vals xs us) : xs.length = us.length := Paired.length r
theorem Vals.get : ∀ {xs : List V} {us : List Value} {i : Nat} {x : V}, Vals xs us → xs[i]? = some x → ∃ u, us[i]? = some u ∧ RelV x u
 | _, _, _, _, .nil, e => by simp at e
 | _, _, 0, _, .cons r _, e => by simp at e; subst e; exact ⟨_, rfl, r⟩
 | _, _, i + 1, x, .cons _ t, e => by
  obtain ⟨u, h1, h2⟩ := Vals.get (i := i) (x := x) t (by simpa using e)
  exact ⟨u, by simpa using h1, h2⟩
theorem Vals.set {x : V} {u : Value} (r : RelV x u) : ∀ {xs : List V} {us : List Value} (i : Nat), Vals xs us → Vals (xs.set i x) (us.set i u)
 | _, _, _, .nil => .nil
 | _, _, 0, .cons _ t => .cons r t
 | _, _, i + 1, .cons q t => .cons q (Vals.set r i t)
theorem Vals.append : ∀ {xs ys : List V} {us ws : List Value}, Vals xs us → Vals ys ws → Vals (xs ++ ys) (us ++ ws)
 | _, _, _, _, .nil, s => s
 | _, _, _, _, .cons r t, s => .cons r (Vals.append t s)
noncomputable def RelO : Option V → Option Value → Prop
 | some v, some u => RelV v u
 | none, none => True
 | _, _ => False
noncomputable def KV {κ : Type} : List (κ × V) → List (κ × Value) → Prop := Paired fun (p : κ × V) (q : κ × Value) => p.1 = q.1 ∧ RelV p.2 q.2
noncomputable def kV : Key → V
 | .inl i => .int i
 | .inr x => .str x
inductive HO where
 | lst (xs : List V)
 | tup (xs : List V)
 | dK (kvs : List (Key × V)) | dT (kvs : List (List Key × V))
 | set (S : Int → Bool) (n : Nat)
 | ins (C dx : Addr) (fs : List (Str × V))
 | own (x : Addr)
 | xd (fs : List (Str × V))
 | met (f x : Addr)
 | rng (lo hi : Int)
 | frz (o : Obj) (u : HO)
 | tbl (ps : Array Value)
 | ext (φ : Heap → Prop)
noncomputable abbrev Hp := Addr → Option HO
noncomputable def upd (H : Hp) (a : Addr) (o : HO) : Hp := fun b => if b = a then some o else H b
theorem Zap {H : Hp} {a : Addr} {o : HO} : upd H a o a = some o := by unfold upd; rw [if_pos rfl]
theorem Zaj {H : Hp} {a b : Addr} {o : HO} (h : b ≠ a) : upd H a o b = H b := by unfold upd; rw [if_neg h]
theorem ZhZ {H : Hp} {a : Addr} {o u : HO} : upd (upd H a o) a u = upd H a u := by
 funext b; unfold upd; split <;> rfl
theorem Zlz {H : Hp} {a b : Addr} {o u : HO} (h : H a = some o) (h' : H b = some u) (d : o ≠ u) : a ≠ b := by
 intro e; subst e; rw [h] at h'; exact d (Option.some.inj h')
theorem Zam {H : Hp} {a b : Addr} {o : HO} (h : H a = some o) (h' : H b = none) : a ≠ b := by
 intro e; subst e; rw [h] at h'; cases h'
section
variable (P : Program) (w : World)
noncomputable def ZaM (H : Hp) (h : Heap) (a : Addr) : HO → Prop
 | .lst xs => xs.length ≤ sizeLine ∧ ∃ (its : List Value) (n : Nat), Vals xs its ∧ h.get? a = some { cls := .type "list", data := .seq its.toArray n }
 | .tup xs => xs.length ≤ sizeLine ∧ ∃ its : List Value, Vals xs its ∧ IsTup h a its.toArray
 | .dK kvs => kvs.length ≤ sizeLine ∧ (a == sysModules) = false ∧ ∃ vs, KV kvs vs ∧ h.DictOf (Zbd P w) a vs
 | .dT kvs => kvs.length ≤ sizeLine ∧ (a == sysModules) = false ∧ ∃ xs : List (List Key × Addr × Value),
   Paired (fun (p : List Key × V) (q : List Key × Addr × Value) => p.1 = q.1 ∧ H q.2.1 = some (.tup (p.1.map kV)) ∧ RelV p.2 q.2.2) kvs xs ∧
   ∃ o es ep, h.get? a = some o ∧ o.ExactDict ∧ o.data = .dict es ep ∧ es.toList = xs.map (entryOfKey (tupleKind (Zbd P w))) ∧ (xs.map (·.1)).Nodup
 | .set S n => h.SetOf (intKind P w) a S n
 | .ins C dx fs => H dx = some (.own a) ∧ fs.length ≤ 1000 ∧ dx ≠ a ∧ h.get? a = some (PySem.W.instObj C dx) ∧
   ∃ mA, h.Ns1 dx mA ∧ (∀ f, RelO (fs.lookup f) (mA f)) ∧ PySem.Within mA (fs.map (·.1))
 | .own _ => ∃ o, h.get? a = some o
 | .xd fs => ∃ mA, h.Ns1 a mA ∧ ∀ f, RelO (fs.lookup f) (mA f)
 | .rng lo hi => ∃ t u v, h.get? a = some { cls := .type "range", data := .fields #[.int lo t, .int hi u, .int 1 v] }
 | .frz o u => h.get? a = some o ∧ ZaM H h a u
 | .tbl ps => h.get? a = some { cls := .none, data := .fields ps }
 | .met f x => h.get? a = some (PySem.W.methodObj (.ref f) (.ref x))
 | .ext φ => φ h ∧ (∃ o, h.get? a = some o) ∧ ∀ h1 h2 : Heap, φ h1 → (∀ o, h1.get? a = some o → h2.get? a = some o) → φ h2
noncomputable def HOk (H : Hp) (h : Heap) : Prop := ∀ a o, H a = some o → ZaM P w H h a o
end
section
variable {P : Program} {w : World} {H H' : Hp} {h h' : Heap} {a : Addr} {o : HO}
theorem ZaM.lt (x : ZaM P w H h a o) : a < h.objs.size := by
 cases o with
 | lst xs => obtain ⟨_, _, _, _, e⟩ := x; exact Heap.lt_size e
 | tup xs => obtain ⟨_, _, _, p⟩ := x; exact p.lt
 | dK kvs => obtain ⟨_, _, _, _, o, _, _, e, _⟩ := x; exact Heap.lt_size e
 | dT kvs => obtain ⟨_, _, _, _, o, _, _, e, _⟩ := x; exact Heap.lt_size e
 | set S n => obtain ⟨o, _, _, _, e, _⟩ := x; exact Heap.lt_size e
 | ins C dx fs => obtain ⟨_, _, _, e, _⟩ := x; exact Heap.lt_size e
 | own y => obtain ⟨_, e⟩ := x; exact Heap.lt_size e
 | xd fs => obtain ⟨_, ⟨_, _, _, e, _⟩, _⟩ := x; exact Heap.lt_size e
 | rng lo hi => obtain ⟨_, _, _, e⟩ := x; exact Heap.lt_size e
 | frz ob u => obtain ⟨e, _⟩ := x; exact Heap.lt_size e
 | tbl ps => exact Heap.lt_size (show h.get? a = some _ from x)
 | met f y => exact Heap.lt_size (show h.get? a = some _ from x)
 | ext φ => obtain ⟨_, ⟨_, e⟩, _⟩ := x; exact Heap.lt_size e
theorem Paired.mapP {α β : Type} {F G : α → β → Prop} : ∀ {l₁ : List α} {l₂ : List β}, Paired F l₁ l₂ → (∀ a b, F a b → G a b) → Paired G l₁ l₂
 | _, _, .nil, _ => .nil
 | _, _, .cons r t, f => .cons (f _ _ r) (Paired.mapP t f)
theorem ZaM.stay (x : ZaM P w H h a o) (k : ∀ b u, (b = a ∨ H b = some (.own a)) → h.get? b = some u → h'.get? b = some u)
  (ho : ∀ b, H b = some (.own a) → H' b = some (.own a)) (ht : ∀ b xs, H b = some (.tup xs) → H' b = some (.tup xs)) : ZaM P w H' h' a o := by
 induction o with
 | lst xs => obtain ⟨z, its, n, r, e⟩ := x; exact ⟨z, its, n, r, k _ _ (.inl rfl) e⟩
 | tup xs => obtain ⟨z, its, r, ob, e, c⟩ := x; exact ⟨z, its, r, ob, k _ _ (.inl rfl) e, c⟩
 | dK kvs => obtain ⟨z, y, vs, r, ob, es, ep, e, c⟩ := x; exact ⟨z, y, vs, r, ob, es, ep, k _ _ (.inl rfl) e, c⟩
 | dT kvs =>
  obtain ⟨z, y, xs, r, ob, es, ep, e, c⟩ := x
  exact ⟨z, y, xs, Paired.mapP r fun p q z => ⟨z.1, ht _ _ z.2.1, z.2.2⟩, ob, es, ep, k _ _ (.inl rfl) e, c⟩
 | set S n => obtain ⟨ob, es, ep, t, e, c⟩ := x; exact ⟨ob, es, ep, t, k _ _ (.inl rfl) e, c⟩
 | ins C dx fs =>
  obtain ⟨d, z, ne, e, mA, ⟨od, es, ep, e2, c⟩, r⟩ := x
  exact ⟨ho _ d, z, ne, k _ _ (.inl rfl) e, mA, ⟨od, es, ep, k _ _ (.inr d) e2, c⟩, r⟩
 | own y => obtain ⟨ob, e⟩ := x; exact ⟨ob, k _ _ (.inl rfl) e⟩
 | xd fs => obtain ⟨mA, ⟨od, es, ep, e, c⟩, r⟩ := x; exact ⟨mA, ⟨od, es, ep, k _ _ (.inl rfl) e, c⟩, r⟩
 | rng lo hi => obtain ⟨t, u, v, e⟩ := x; exact ⟨t, u, v, k _ _ (.inl rfl) e⟩
 | frz ob u ih => obtain ⟨e, q⟩ := x; exact ⟨k _ _ (.inl rfl) e, ih q⟩
 | tbl ps =>
  have e : h.get? a = some { cls := .none, data := .fields ps } := x
  show h'.get? a = some { cls := .none, data := .fields ps }
  exact k a _ (.inl rfl) e
 | met f y =>
  have e : h.get? a = some (PySem.W.methodObj (.ref f) (.ref y)) := x
  show h'.get? a = some (PySem.W.methodObj (.ref f) (.ref y))
  exact k a _ (.inl rfl) e
 | ext φ => obtain ⟨p, ⟨o, e⟩, st⟩ := x; exact ⟨st _ _ p fun o q => k _ _ (.inl rfl) q, ⟨o, k _ _ (.inl rfl) e⟩, st⟩
theorem HOk.lt (x : HOk P w H h) (e : H a = some o) : a < h.objs.size := (x a o e).lt
theorem HOk.fresh (x : HOk P w H h) (e : h.objs.size ≤ a) : H a = none := by
 cases q : H a with
 | none => rfl
 | some u => exact absurd (Nat.lt_of_lt_of_le (x.lt q) e) (Nat.lt_irrefl _)
theorem HOk.kept (x : HOk P w H h) (k : ∀ b u, h.get? b = some u → h'.get? b = some u) : HOk P w H h' := fun a o e =>
 (x a o e).stay (fun b u _ q => k b u q) (fun _ q => q) fun _ _ q => q
theorem HOk.laid (x : HOk P w H h) (k : ∀ b u, h.get? b = some u → h'.get? b = some u) (hp : h.objs.size ≤ a) (new : ZaM P w (upd H a o) h' a o) : HOk P w (upd H a o) h' := fun b u e => by
 have hn := x.fresh hp
 by_cases hb : b = a
 ·subst hb; rw [Zap] at e; cases e; exact new
 ·rw [Zaj hb] at e
  exact (x b u e).stay (fun c v _ q => k c v q) (fun c q => by rw [Zaj (Zam q hn)]; exact q) fun c xs q => by rw [Zaj (Zam q hn)]; exact q
end
noncomputable def Rd (H : Hp) (a : Addr) (u : HO) : Prop := H a = some u ∨ ∃ o, H a = some (.frz o u)
theorem Rd.ok {P : Program} {w : World} {H : Hp} {h : Heap} {a : Addr} {u : HO} (r : Rd H a u) (x : HOk P w H h) : ZaM P w H h a u := by
 rcases r with r | ⟨o, r⟩
 ·exact x a u r
 ·obtain ⟨_, q⟩ := x a _ r
  exact q
noncomputable def Mut : Option HO → Prop
 | some (.lst _) => True
 | some (.dK _) => True
 | some (.dT _) => True
 | some (.set _ _) => True
 | some (.ins _ _ _) => True
 | some (.ext _) => True
 | _ => False
section
variable {P : Program} {w : World} {H : Hp} {h h' : Heap} {x e : Addr} {o' : HO}
theorem HOk.write (ok : HOk P w H h) (mu : Mut (H x)) (he : e = x ∨ H e = some (.own x)) (k : ∀ b u, b ≠ e → h.get? b = some u → h'.get? b = some u) (heo : ∃ u, h'.get? e = some u)
  (new : ZaM P w (upd H x o') h' x o') : HOk P w (upd H x o') h' := fun b u q => by
 have nown : ∀ c y, H c = some (.own y) → c ≠ x := fun c y r z => by subst z; rw [r] at mu; exact mu
 have ntup : ∀ c xs, H c = some (.tup xs) → c ≠ x := fun c xs r z => by subst z; rw [r] at mu; exact mu
 by_cases hb : b = x
 ·subst hb; rw [Zap] at q; cases q; exact new
 ·rw [Zaj hb] at q
  by_cases hbe : b = e
  ·have q' : H b = some (.own x) := by
    rcases he with z | z
    ·exact absurd (hbe.trans z) hb
    ·rw [hbe]; exact z
   rw [q] at q'; cases q'
   obtain ⟨v, hv⟩ := heo
   exact ⟨v, by rw [hbe]; exact hv⟩
  ·refine (ok b u q).stay (fun c v hc r => k c v ?_ r) (fun c r => by rw [Zaj (nown c b r)]; exact r) fun c xs r => by rw [Zaj (ntup c xs r)]; exact r
   rcases hc with rfl | hc
   ·exact hbe
   ·rintro rfl
    rcases he with z | z
    ·exact nown c b hc z
    ·rw [hc] at z; cases z; exact hb rfl
end
structure Un (fs ex : List Addr) (H H' : Hp) (h h' : Heap) : Prop where
 keep : ∀ b o, h.get? b = some o → H b = none → b ∉ fs → b ∉ ex → h'.get? b = some o
 slot : ∀ b o, h.get? b = some o → H b = none → b ∈ fs → b ∉ ex → ∃ sl, h'.get? b = some { o with slots := sl }
 free : ∀ b o, h.get? b = some o → H b = none → b ∉ ex → H' b = none
 there : ∀ b o, h.get? b = some o → b ∉ ex → ∃ o', h'.get? b = some o'
 tups : ∀ b xs, H b = some (.tup xs) → H' b = some (.tup xs)
 frzs : ∀ b o u, H b = some (.frz o u) → H' b = some (.frz o u)
 tbls : ∀ b ps, H b = some (.tbl ps) → ∃ more, H' b = some (.tbl (ps ++ more))
section
variable {fs fs' ex ex' : List Addr} {H H1 H2 : Hp} {h h1 h2 h' : Heap} {a x e : Addr} {o : HO}
theorem Un.any (u : Un fs ex H H1 h h1) {b : Addr} {ob : Obj} (q : h.get? b = some ob) (n : H b = none) (hx : b ∉ ex) : ∃ sl, h1.get? b = some { ob with slots := sl } := by
 by_cases hb : b ∈ fs
 ·exact u.slot b ob q n hb hx
 ·exact ⟨ob.slots, u.keep b ob q n hb hx⟩
theorem Un.kept (k : ∀ b u, h.get? b = some u → h'.get? b = some u) : Un fs ex H H h h' :=
 ⟨fun b ob q _ _ _ => k b ob q, fun b ob q _ _ _ => ⟨ob.slots, k b ob q⟩, fun _ _ _ n _ => n, fun b ob q _ => ⟨ob, k b ob q⟩, fun _ _ q => q, fun _ _ _ q => q, fun _ ps q => ⟨#[], by rw [q]; simp⟩⟩
theorem Un.refl : Un fs ex H H h h := Un.kept fun _ _ q => q
theorem Un.laid (k : ∀ b u, h.get? b = some u → h'.get? b = some u) (hp : h.objs.size ≤ a) (hn : H a = none) : Un fs ex H (upd H a o) h h' where
 keep := fun b u q _ _ _ => k b u q
 slot := fun b u q _ _ _ => ⟨u.slots, k b u q⟩
 free := fun b u q n _ => by rw [Zaj (Nat.ne_of_lt (Nat.lt_of_lt_of_le (Heap.lt_size q) hp))]; exact n
 there := fun b u q _ => ⟨u, k b u q⟩
 tups := fun b xs q => by rw [Zaj (Zam q hn)]; exact q
 frzs := fun b u xs q => by rw [Zaj (Zam q hn)]; exact q
 tbls := fun b ps q => ⟨#[], by rw [Zaj (Zam q hn), q]; simp⟩
theorem Un.write (mu : Mut (H x)) (he : e = x ∨ H e = some (.own x)) (k : ∀ b u, b ≠ e → h.get? b = some u → h'.get? b = some u) (heo : ∃ u, h'.get? e = some u) : Un fs ex H (upd H x o) h h' := by
 have hx : ∀ b, H b = none → b ≠ x := fun b n z => by subst z; rw [n] at mu; exact mu
 have hb : ∀ b, H b = none → b ≠ e := fun b n z => by
  subst z
  rcases he with r | r
  ·exact hx b n r
  ·rw [n] at r; cases r
 have hm : ∀ b u, H b = some u → ¬ Mut (some u) → b ≠ x := fun b u q nm z => by subst z; rw [q] at mu; exact nm mu
 refine ⟨fun b u q n _ _ => k b u (hb b n) q, fun b u q n _ _ => ⟨u.slots, k b u (hb b n) q⟩, fun b u q n _ => by rw [Zaj (hx b n)]; exact n, fun b u q _ => ?_,
  fun b xs q => by rw [Zaj (hm b _ q fun z => z)]; exact q, fun b u xs q => by rw [Zaj (hm b _ q fun z => z)]; exact q, fun b ps q => ⟨#[], by rw [Zaj (hm b _ q fun z => z), q]; simp⟩⟩
 by_cases hbe : b = e
 ·subst hbe; exact heo
 ·exact ⟨u, k b u hbe q⟩
end
noncomputable def trk (h : Heap) (H : Hp) : List Addr := (List.range h.objs.size).filter fun a => (H a).isSome
noncomputable def hidT (h : Heap) (H : Hp) : Heap := PySem.W.hideAll h (trk h H)
theorem Zka (h : Heap) (H : Hp) : (hidT h H).objs.size = h.objs.size := PySem.W.hideAll_size _ _
theorem Zk6 {h : Heap} {H : Hp} {b : Addr} {o : Obj} (e : h.get? b = some o) (n : H b = none) : (hidT h H).get? b = some o :=
 PySem.W.hideAll_get _ e fun hm => by
  have q : (H b).isSome = true := (List.mem_filter.mp hm).2
  rw [n] at q; simp at q
theorem Zmc {h : Heap} {H : Hp} {b : Addr} {o : Obj} (e : (hidT h H).get? b = some o) : h.get? b = some o ∧ H b = none := by
 have e' : h.get? b = some o := PySem.W.of_hideAll (trk h H) e
 refine ⟨e', ?_⟩
 cases q : H b with
 | none => rfl
 | some x =>
  have hm : b ∈ trk h H := List.mem_filter.mpr ⟨List.mem_range.mpr (Heap.lt_size e'), by simp [q]⟩
  have z : (hidT h H).get? b = none := PySem.W.hideAll_none (trk h H) hm
  rw [z] at e; cases e
end L2
namespace L2
open PySem PySem.Spec PyProof.Rows
structure Mod (K : PySem.W.Frag) (mg : Str → Option Value) (base : Heap) : Prop where
 kin : K.In base
 glob : base.Ns mainGlobals mg
 blt : ∃ mb, base.Ns builtinsNs mb ∧ ∀ x : Str, x ≠ "__name__" → mb x = bootBuiltins x
 nolimit : base.NoLimit
structure Cx where
 prog : Program
 w : World
 K : PySem.W.Frag
 mg : Str → Option Value
 base : Heap
 A : Around
 N : List Str
 s₀ : Shared
 H₀ : Hp
 env : Env
 outer : List Env
 stack : List Env
 ex : List Addr
 fn : Str → Bool
 calm : Bool
 pn : List (Addr × Obj)
 xe : Value → Shared → Prop
noncomputable def frs (l : List Env) : List Addr := l.filterMap (·.frame)
noncomputable abbrev Cx.fs (X : Cx) : List Addr := frs X.outer
noncomputable def Vis (sc : Scope) (x : Str) : Prop := sc.names.lookup x = some .local ∨ sc.names.lookup x = some .cell ∨ sc.names.lookup x = some .free
noncomputable def Loc (sc : Scope) (x : Str) : Prop := sc.names.lookup x = some .local ∨ sc.names.lookup x = some .cell
noncomputable def Look (env : Env) (h : Heap) (m : Str → Option Value) (x : Str) (u : Value) : Prop :=
 (env.kindOf x = some .local ∧ m x = some u) ∨ ((env.kindOf x = some .cell ∨ env.kindOf x = some .free) ∧ ∃ c, env.cells.lookup x = some c ∧ h.IsCell c (some u))
structure Cx.Ok (X : Cx) : Prop where
 mod : Mod X.K X.mg X.base
 kind : X.env.scope.kind = .function
 glob : X.env.globals = mainGlobals
 blt : X.env.builtins = builtinsNs
 above : X.s₀.heap.objs.size ≤ X.env.locals
 inj : ∀ x y c, X.env.cells.lookup x = some c → X.env.cells.lookup y = some c → x = y
 has : ∀ x, (X.env.kindOf x = some .cell ∨ X.env.kindOf x = some .free) → ∃ c, X.env.cells.lookup x = some c
 cab : ∀ x c, X.fn x = true → X.env.cells.lookup x = some c → X.s₀.heap.objs.size ≤ c
 hd : X.calm = true → X.A.handled = none
 frames : X.A.frames = some X.stack
 stk : X.stack = X.outer ∨ (X.stack = X.env :: X.outer ∧ X.env.frame = some X.env.locals)
 exf : ∀ b ∈ X.ex, b ≠ X.env.locals ∧ ∀ x c, X.env.cells.lookup x = some c → c ≠ b
 bs : ∀ b o, X.base.get? b = some o → X.s₀.heap.get? b = some o ∧ X.H₀ b = none
 bsz : X.base.objs.size ≤ X.s₀.heap.objs.size
 noex : ∀ b o, X.base.get? b = some o → b ∉ X.ex
 exfs : ∀ b ∈ X.ex, b ∉ X.fs
 funs : X.s₀.heap.FunFrames X.base X.outer
 frf : ∀ b ∈ X.fs, X.H₀ b = none
structure Inv (X : Cx) (pins : List (Addr × Obj)) (σ : List (Option V)) (H : Hp) (s : Shared) : Prop where
 ok : X.Ok
 os : s.os = X.s₀.os
 bare : AllBare s.gens
 base : Un X.fs X.ex X.H₀ H X.s₀.heap s.heap
 loc : ∃ m, s.heap.Ns X.env.locals m ∧ ∀ (i : Nat) (x : Str) (v : V), X.N[i]? = some x → σ[i]? = some (some v) → Vis X.env.scope x → ∃ u, RelV v u ∧ Look X.env s.heap m x u
 cell : ∀ x c, X.env.cells.lookup x = some c → ∃ v, s.heap.IsCell c v
 free : H X.env.locals = none
 freeC : ∀ x c, X.env.cells.lookup x = some c → H c = none
 pin : ∀ p ∈ X.pn ++ pins, s.heap.get? p.1 = some p.2 ∧ H p.1 = none ∧ p.1 ≠ X.env.locals ∧ p.1 ∉ X.fs ∧ ∀ v, p.2.data ≠ .cell v
 hok : HOk X.prog X.w H s.heap
 len : σ.length = X.N.length
section
variable {X : Cx} {pins : List (Addr × Obj)} {σ : List (Option V)} {H H' : Hp} {s : Shared} {h' : Heap}
theorem Cx.Ok.nofr (ok : X.Ok) {b : Addr} {o : Obj} (e : X.base.get? b = some o) : b ∉ X.fs := fun hb => by
 have := (ok.funs.mem hb).1
 rw [e] at this; cases this
theorem Inv.bs (I : Inv X pins σ H s) : ∀ b o, X.base.get? b = some o → s.heap.get? b = some o ∧ H b = none := fun b o e =>
 ⟨I.base.keep b o (I.ok.bs b o e).1 (I.ok.bs b o e).2 (I.ok.nofr e) (I.ok.noex b o e), I.base.free b o (I.ok.bs b o e).1 (I.ok.bs b o e).2 (I.ok.noex b o e)⟩
theorem Inv.bk (I : Inv X pins σ H s) : ∀ b o, X.base.get? b = some o → s.heap.get? b = some o := fun b o e => (I.bs b o e).1
theorem Inv.mod (I : Inv X pins σ H s) : Mod X.K X.mg X.base := I.ok.mod
theorem Inv.kIn (I : Inv X pins σ H s) : X.K.In s.heap := I.ok.mod.kin.keeps I.bk
theorem Inv.lt (I : Inv X pins σ H s) : X.env.locals < s.heap.objs.size := let ⟨_, hn, _⟩ := I.loc; hn.lt
theorem Inv.sz (I : Inv X pins σ H s) : X.s₀.heap.objs.size ≤ s.heap.objs.size := Nat.le_trans I.ok.above (Nat.le_of_lt I.lt)
theorem Inv.nofs (I : Inv X pins σ H s) {a : Addr} (h : s.heap.objs.size ≤ a) : a ∉ X.fs := fun hb => by
 obtain ⟨_, o, ho, _⟩ := I.ok.funs.mem hb
 exact absurd (Nat.lt_of_lt_of_le (Heap.lt_size ho) (Nat.le_trans I.sz h)) (Nat.lt_irrefl _)
theorem Inv.cne (I : Inv X pins σ H s) : ∀ x c, X.env.cells.lookup x = some c → c ≠ X.env.locals := fun x c e z => by
 obtain ⟨v, o, ho, hd⟩ := I.cell x c e
 obtain ⟨m, ⟨o', es, ep, ho', hd', _⟩, _⟩ := I.loc
 rw [z, ho'] at ho; cases ho; rw [hd'] at hd; cases hd
theorem Inv.funs (I : Inv X pins σ H s) : s.heap.FunFrames X.base X.outer := by
 have all : ∀ (l : List Env), (∀ b ∈ frs l, b ∈ X.fs) → X.s₀.heap.FunFrames X.base l → s.heap.FunFrames X.base l := by
  intro l
  induction l with
  | nil => intro _ _; trivial
  | cons env r ih =>
   intro hs hl
   obtain ⟨hk, ⟨L, o, hf, hn, ho, hd⟩, hr⟩ := hl
   have hL : L ∈ X.fs := hs L (by unfold frs; rw [List.filterMap_cons, hf]; exact List.mem_cons_self)
   obtain ⟨sl, e⟩ := I.base.slot L o ho (I.ok.frf L hL) hL fun z => I.ok.exfs L z hL
   exact ⟨hk, ⟨L, _, hf, hn, e, hd⟩, ih (fun b hb => hs b (by unfold frs; rw [List.filterMap_cons, hf]; exact List.mem_cons_of_mem _ hb)) hr⟩
 exact all X.outer (fun _ hb => hb) I.ok.funs
theorem Inv.stack (I : Inv X pins σ H s) : s.heap.FunFrames X.base X.stack := by
 rcases I.ok.stk with e | ⟨e, hf⟩
 ·rw [e]; exact I.funs
 ·rw [e]
  obtain ⟨m, hn, _⟩ := I.loc
  refine .cons (by rw [I.ok.kind]; decide) hf hn ?_ I.funs
  exact Heap.get?_none_of_le (Nat.le_trans I.ok.bsz I.ok.above)
theorem Inv.stkSub (I : Inv X pins σ H s) : ∀ b ∈ frs X.stack, b ∈ X.env.locals :: X.fs := fun b hb => by
 rcases I.ok.stk with e | ⟨e, hf⟩
 ·rw [e] at hb; exact List.mem_cons_of_mem _ hb
 ·rw [e] at hb
  unfold frs at hb
  rw [List.filterMap_cons, hf] at hb
  exact hb
theorem Inv.stkFree (I : Inv X pins σ H s) : ∀ b ∈ frs X.stack, H b = none := fun b hb => by
 rcases List.mem_cons.mp (I.stkSub b hb) with e | hb
 ·rw [e]; exact I.free
 ·obtain ⟨_, o, ho, _⟩ := I.ok.funs.mem hb
  exact I.base.free b o ho (I.ok.frf b hb) fun z => I.ok.exfs b z hb
theorem Inv.step {g' : Array GenState} {t' : Nat} {d' : Drawn} {ch : List Addr} (I : Inv X pins σ H s)
  (hch : ∀ b ∈ ch, (b ∈ X.ex ∨ X.s₀.heap.objs.size ≤ b) ∧ b ≠ X.env.locals ∧ (∀ x c, X.env.cells.lookup x = some c → c ≠ b) ∧ ∀ p ∈ X.pn ++ pins, p.1 ≠ b)
  (keep : ∀ b o, b ≠ X.env.locals → b ∉ X.fs → b ∉ ch → s.heap.get? b = some o → H b = none → h'.get? b = some o)
  (slot : ∀ b o, b ≠ X.env.locals → b ∈ X.fs → b ∉ ch → s.heap.get? b = some o → H b = none → ∃ sl, h'.get? b = some { o with slots := sl }) (free : ∀ b o, b ∉ ch → s.heap.get? b = some o → H b = none → H' b = none)
  (there : ∀ b o, b ∉ ch → s.heap.get? b = some o → ∃ o', h'.get? b = some o')
  (tups : ∀ b xs, H b = some (.tup xs) → H' b = some (.tup xs)) (frzs : ∀ b o u, H b = some (.frz o u) → H' b = some (.frz o u)) (tbls : ∀ b ps, H b = some (.tbl ps) → ∃ more, H' b = some (.tbl (ps ++ more)))
  (ns : ∀ m, s.heap.Ns X.env.locals m → h'.Ns X.env.locals m) (hok : HOk X.prog X.w H' h') (hg : AllBare g') :
  Inv X pins σ H' { s with heap := h', gens := g', drawn := d', toks := t' } := by
 have neL : ∀ b o, X.s₀.heap.get? b = some o → b ≠ X.env.locals := fun b o e => Nat.ne_of_lt (Nat.lt_of_lt_of_le (Heap.lt_size e) I.ok.above)
 have neC : ∀ b o, X.s₀.heap.get? b = some o → b ∉ X.ex → b ∉ ch := fun b o e hx hb => by
  rcases (hch b hb).1 with z | z
  ·exact hx z
  ·exact absurd (Nat.lt_of_lt_of_le (Heap.lt_size e) z) (Nat.lt_irrefl _)
 have cellK : ∀ x c, X.env.cells.lookup x = some c → ∀ v, s.heap.IsCell c v → h'.IsCell c v := fun x c e v ⟨o, ho, hd⟩ => by
  have nch : c ∉ ch := fun z => (hch c z).2.2.1 x c e rfl
  by_cases hc : c ∈ X.fs
  ·obtain ⟨sl, q⟩ := slot c o (I.cne x c e) hc nch ho (I.freeC x c e)
   exact ⟨_, q, hd⟩
  ·exact ⟨o, keep c o (I.cne x c e) hc nch ho (I.freeC x c e), hd⟩
 refine ⟨I.ok, I.os, hg, ⟨fun b o e n hb hx => ?_, fun b o e n hb hx => ?_, fun b o e n hx => ?_, fun b o e hx => ?_, fun b xs e => tups b xs (I.base.tups b xs e), fun b o xs e => frzs b o xs (I.base.frzs b o xs e), fun b ps e => ?_⟩, ?_, fun x c e => ?_, ?_, fun x c e => ?_, fun p hp => ?_, hok, I.len⟩
 ·exact keep b o (neL b o e) hb (neC b o e hx) (I.base.keep b o e n hb hx) (I.base.free b o e n hx)
 ·obtain ⟨sl, e1⟩ := I.base.slot b o e n hb hx
  obtain ⟨sl', e2⟩ := slot b _ (neL b o e) hb (neC b o e hx) e1 (I.base.free b o e n hx)
  exact ⟨sl', e2⟩
 ·obtain ⟨o', e1⟩ := I.base.there b o e hx
  exact free b o' (neC b o e hx) e1 (I.base.free b o e n hx)
 ·obtain ⟨o', e1⟩ := I.base.there b o e hx
  exact there b o' (neC b o e hx) e1
 ·obtain ⟨m1, e1⟩ := I.base.tbls b ps e
  obtain ⟨m2, e2⟩ := tbls b _ e1
  exact ⟨m1 ++ m2, by rw [e2, Array.append_assoc]⟩
 ·obtain ⟨m, hn, hl⟩ := I.loc
  refine ⟨m, ns m hn, fun i x v e1 e2 e3 => ?_⟩
  obtain ⟨u, r, l⟩ := hl i x v e1 e2 e3
  refine ⟨u, r, ?_⟩
  rcases l with l | ⟨k, c, e, z⟩
  ·exact .inl l
  ·exact .inr ⟨k, c, e, cellK x c e _ z⟩
 ·obtain ⟨v, z⟩ := I.cell x c e
  exact ⟨v, cellK x c e v z⟩
 ·obtain ⟨m, ⟨o, _, _, ho, _⟩, _⟩ := I.loc
  exact free _ o (fun z => (hch _ z).2.1 rfl) ho I.free
 ·obtain ⟨v, o, ho, hd⟩ := I.cell x c e
  exact free c o (fun z => (hch c z).2.2.1 x c e rfl) ho (I.freeC x c e)
 ·obtain ⟨e, n, ne, nf, d⟩ := I.pin p hp
  have nch : p.1 ∉ ch := fun z => (hch p.1 z).2.2.2 p hp rfl
  exact ⟨keep p.1 p.2 ne nf nch e n, free p.1 p.2 nch e n, ne, nf, d⟩
theorem Inv.un {t' : Nat} (I : Inv X pins σ H s) (u : Un X.fs [] H H' s.heap h') (hok : HOk X.prog X.w H' h') : Inv X pins σ H' { s with heap := h', toks := t' } := by
 obtain ⟨m, ⟨o, es, ep, ho, r⟩, _⟩ := id I.loc
 obtain ⟨sl, hL⟩ := u.any ho I.free (by simp)
 exact I.step (g' := s.gens) (d' := s.drawn) (ch := []) (fun _ z => nomatch z) (fun b o _ hb _ e n => u.keep b o e n hb (by simp)) (fun b o _ hb _ e n => u.slot b o e n hb (by simp)) (fun b o _ e n => u.free b o e n (by simp)) (fun b o _ e => u.there b o e (by simp)) u.tups u.frzs u.tbls (fun m' hm => by
  obtain ⟨o', es', ep', ho', r'⟩ := hm
  rw [ho] at ho'; cases ho'
  exact ⟨_, es', ep', hL, r'⟩) hok I.bare
theorem Inv.call {g' : Array GenState} {t' : Nat} {d' : Drawn} {ch : List Addr} (I : Inv X pins σ H s) (u : Un (frs X.stack) ch H H' s.heap h') (hok : HOk X.prog X.w H' h') (hg : AllBare g')
  (hch : ∀ b ∈ ch, (b ∈ X.ex ∨ X.s₀.heap.objs.size ≤ b) ∧ b ≠ X.env.locals ∧ (∀ x c, X.env.cells.lookup x = some c → c ≠ b) ∧ ∀ p ∈ X.pn ++ pins, p.1 ≠ b) :
  Inv X pins σ H' { s with heap := h', gens := g', drawn := d', toks := t' } := by
 obtain ⟨m, ⟨o, es, ep, ho, r⟩, _⟩ := id I.loc
 obtain ⟨sl, hL⟩ := u.any ho I.free fun z => (hch _ z).2.1 rfl
 exact I.step (ch := ch) hch (fun b o hL hb hc e n => u.keep b o e n (fun z => (List.mem_cons.mp (I.stkSub b z)).elim hL hb) hc) (fun b o _ _ hc e n => u.any e n hc) (fun b o hc e n => u.free b o e n hc) (fun b o hc e => u.there b o e hc) u.tups u.frzs u.tbls (fun m' hm => by
  obtain ⟨o', es', ep', ho', r'⟩ := hm
  rw [ho] at ho'; cases ho'
  exact ⟨_, es', ep', hL, r'⟩) hok hg
theorem Inv.turned {t' : Nat} {it : Addr} (I : Inv X pins σ H s) (k : ∀ b o, b ≠ it → s.heap.get? b = some o → h'.get? b = some o) (hn : H it = none) (hL : it ≠ X.env.locals)
  (h1 : it ∈ X.ex ∨ X.s₀.heap.objs.size ≤ it) (h2 : ∀ x c, X.env.cells.lookup x = some c → c ≠ it) (h3 : ∀ p ∈ X.pn ++ pins, p.1 ≠ it) : Inv X pins σ H { s with heap := h', toks := t' } := by
 have nit : ∀ b u, H b = some u → b ≠ it := fun b u e z => by rw [z, hn] at e; cases e
 refine I.step (g' := s.gens) (d' := s.drawn) (ch := [it]) (fun b hb => ?_) (fun b o _ _ hc e _ => k b o (fun z => hc (by simp [z])) e) (fun b o _ _ hc e _ => ⟨o.slots, k b o (fun z => hc (by simp [z])) e⟩) (fun _ _ _ _ n => n)
  (fun b o hc e => ⟨o, k b o (fun z => hc (by simp [z])) e⟩) (fun _ _ e => e) (fun _ _ _ e => e) (fun b ps e => ⟨#[], by rw [e]; simp⟩) (fun m hm => ?_) (fun b u e => ?_) I.bare
 ·have e : b = it := by simpa using hb
  subst e
  exact ⟨h1, hL, h2, h3⟩
 ·obtain ⟨o, es, ep, ho, r⟩ := hm
  exact ⟨o, es, ep, k _ o (Ne.symm hL) ho, r⟩
 ·refine (I.hok b u e).stay (fun c v hc q => k c v ?_ q) (fun _ q => q) fun _ _ q => q
  rcases hc with z | z
  ·rw [z]; exact nit b u e
  ·exact nit c _ z
theorem Inv.tok (I : Inv X pins σ H s) (t : Nat) : Inv X pins σ H { s with toks := t } := I.un (h' := s.heap) (t' := t) Un.refl I.hok
theorem Inv.kept {t' : Nat} (I : Inv X pins σ H s) (k : ∀ b u, s.heap.get? b = some u → h'.get? b = some u) : Inv X pins σ H { s with heap := h', toks := t' } := I.un (Un.kept k) (I.hok.kept k)
theorem Inv.laid {a : Addr} {o : HO} {t' : Nat} (I : Inv X pins σ H s) (k : ∀ b u, s.heap.get? b = some u → h'.get? b = some u) (hp : s.heap.objs.size ≤ a) (new : ZaM X.prog X.w (upd H a o) h' a o) :
  Inv X pins σ (upd H a o) { s with heap := h', toks := t' } := I.un (Un.laid k hp (I.hok.fresh hp)) (I.hok.laid k hp new)
theorem Inv.write {x e : Addr} {o : HO} {t' : Nat} (I : Inv X pins σ H s) (mu : Mut (H x)) (he : e = x ∨ H e = some (.own x)) (k : ∀ b u, b ≠ e → s.heap.get? b = some u → h'.get? b = some u) (heo : ∃ u, h'.get? e = some u)
  (new : ZaM X.prog X.w (upd H x o) h' x o) : Inv X pins σ (upd H x o) { s with heap := h', toks := t' } := I.un (Un.write mu he k heo) (I.hok.write mu he k heo new)
theorem Inv.pins_of {pins' : List (Addr × Obj)} (I : Inv X pins σ H s) (h : ∀ p ∈ pins', s.heap.get? p.1 = some p.2 ∧ H p.1 = none ∧ p.1 ≠ X.env.locals ∧ p.1 ∉ X.fs ∧ ∀ v, p.2.data ≠ .cell v) : Inv X pins' σ H s :=
 ⟨I.ok, I.os, I.bare, I.base, I.loc, I.cell, I.free, I.freeC, fun p hp => (List.mem_append.mp hp).elim (fun z => I.pin p (List.mem_append_left _ z)) (h p), I.hok, I.len⟩
theorem Zhc {N : List Str} (hN : N.Nodup) {i j : Nat} {x : Str} (a : N[i]? = some x) (b : N[j]? = some x) : i = j := by
 obtain ⟨h1, e1⟩ := List.getElem?_eq_some_iff.mp a
 obtain ⟨h2, e2⟩ := List.getElem?_eq_some_iff.mp b
 exact (List.getElem_inj hN).mp (e1.trans e2.symm)
theorem Zeb {M : Model} {A : Around} {E : Value → Shared → Prop} {i : Nat} {x : Str} {v : V} {u : Value} {Q : Unit → Shared → Prop} (I : Inv X pins σ H s) (hN : X.N.Nodup) (hi : X.N[i]? = some x) (hx : Loc X.env.scope x) (r : RelV v u)
  (h : ∀ s', Inv X pins (σ.set i (some v)) H s' → (∃ a, Heap.SameBut a s.heap s'.heap ∧ (a = X.env.locals ∨ X.env.cells.lookup x = some a)) → Q () s') (hf : X.fn x = true ∨ X.env.scope.names.lookup x = some .local := by first | exact .inl rfl | exact .inr rfl | assumption) : wpAny M A (storeName X.env x u) Q E s := by
 obtain ⟨m, hn, hl⟩ := id I.loc
 have hcls : (X.env.scope.kind == .class || (X.env.scope.kind == .module && X.env.locals != X.env.globals)) = false := by rw [I.ok.kind]; rfl
 have hiσ : i < σ.length := by rw [I.len]; exact (List.getElem?_eq_some_iff.mp hi).1
 have cne := I.cne
 have tracked : ∀ {a : Addr} {h' : Heap}, (∃ o, s.heap.get? a = some o ∧ H a = none) → Heap.SameBut a s.heap h' → HOk X.prog X.w H h' := fun {a h'} ha hs b ob e => by
  obtain ⟨_, _, hfree⟩ := ha
  refine (I.hok b ob e).stay (fun c w' hc q => (hs.2 c ?_).trans q) (fun _ q => q) fun _ _ q => q
  rintro rfl
  rcases hc with rfl | hc
  ·rw [hfree] at e; cases e
  ·rw [hfree] at hc; cases hc
 rcases hx with hk | hk
 ·refine wpAny_storeName_local hk hn (fun h' hn' hs => ?_) hcls
  obtain ⟨oL, _, _, hoL, _⟩ := id hn
  refine h _ ⟨I.ok, I.os, I.bare, ⟨fun b o e n hb hx => ?_, fun b o e n hb hx => ?_, I.base.free, fun b o e hx => ?_, I.base.tups, I.base.frzs, I.base.tbls⟩, ⟨_, hn', fun j y v' e1 e2 e3 => ?_⟩, fun y c e => ?_, I.free, I.freeC, fun p hp => ?_, tracked ⟨oL, hoL, I.free⟩ hs, by simpa using I.len⟩ ⟨_, hs, .inl rfl⟩
  ·exact (hs.2 b (Nat.ne_of_lt (Nat.lt_of_lt_of_le (Heap.lt_size e) I.ok.above))).trans (I.base.keep b o e n hb hx)
  ·obtain ⟨sl, e1⟩ := I.base.slot b o e n hb hx
   exact ⟨sl, (hs.2 b (Nat.ne_of_lt (Nat.lt_of_lt_of_le (Heap.lt_size e) I.ok.above))).trans e1⟩
  ·obtain ⟨o', e1⟩ := I.base.there b o e hx
   exact ⟨o', (hs.2 b (Nat.ne_of_lt (Nat.lt_of_lt_of_le (Heap.lt_size e) I.ok.above))).trans e1⟩
  ·by_cases hj : j = i
   ·subst hj
    rw [hi] at e1; cases e1
    rw [List.getElem?_set_self hiσ] at e2
    cases e2
    exact ⟨u, r, .inl ⟨hk, by simp⟩⟩
   ·rw [List.getElem?_set_ne (Ne.symm hj)] at e2
    obtain ⟨u', r', q⟩ := hl j y v' e1 e2 e3
    refine ⟨u', r', ?_⟩
    rcases q with ⟨k, e⟩ | ⟨k, c, e, z⟩
    ·refine .inl ⟨k, ?_⟩
     have : y ≠ x := fun e => hj (Zhc hN e1 (e ▸ hi))
     simp [this, e]
    ·exact .inr ⟨k, c, e, z.sameBut hs (cne y c e)⟩
  ·obtain ⟨w', z⟩ := I.cell y c e
   exact ⟨w', z.sameBut hs (cne y c e)⟩
  ·obtain ⟨e, n, ne, nf, d⟩ := I.pin p hp
   exact ⟨(hs.2 p.1 ne).trans e, n, ne, nf, d⟩
 ·have hfn : X.fn x = true := by
   rcases hf with z | z
   ·exact z
   ·rw [z] at hk; cases hk
  obtain ⟨c, hc⟩ := I.ok.has x (.inl hk)
  obtain ⟨w', z⟩ := I.cell x c hc
  refine wpAny_storeName_cell I.ok.kind hk hc z (fun h' hc' hs => ?_)
  obtain ⟨oc, hoc, hocd⟩ := id z
  refine h { s with heap := h' } ⟨I.ok, I.os, I.bare, ⟨fun b o e n hb hx => ?_, fun b o e n hb hx => ?_, I.base.free, fun b o e hx => ?_, I.base.tups, I.base.frzs, I.base.tbls⟩, ⟨m, hn.sameBut hs (Ne.symm (cne x c hc)), fun j y v' e1 e2 e3 => ?_⟩, fun y c' e => ?_, I.free, I.freeC, fun p hp => ?_, tracked ⟨oc, hoc, I.freeC x c hc⟩ hs, by simpa using I.len⟩ ⟨c, hs, .inr hc⟩
  ·exact (hs.2 b (Nat.ne_of_lt (Nat.lt_of_lt_of_le (Heap.lt_size e) (I.ok.cab x c hfn hc)))).trans (I.base.keep b o e n hb hx)
  ·obtain ⟨sl, e1⟩ := I.base.slot b o e n hb hx
   exact ⟨sl, (hs.2 b (Nat.ne_of_lt (Nat.lt_of_lt_of_le (Heap.lt_size e) (I.ok.cab x c hfn hc)))).trans e1⟩
  ·obtain ⟨o', e1⟩ := I.base.there b o e hx
   exact ⟨o', (hs.2 b (Nat.ne_of_lt (Nat.lt_of_lt_of_le (Heap.lt_size e) (I.ok.cab x c hfn hc)))).trans e1⟩
  ·by_cases hj : j = i
   ·subst hj
    rw [hi] at e1; cases e1
    rw [List.getElem?_set_self hiσ] at e2
    cases e2
    exact ⟨u, r, .inr ⟨.inl hk, c, hc, hc'⟩⟩
   ·rw [List.getElem?_set_ne (Ne.symm hj)] at e2
    obtain ⟨u', r', q⟩ := hl j y v' e1 e2 e3
    refine ⟨u', r', ?_⟩
    rcases q with q | ⟨k, c', e, z'⟩
    ·exact .inl q
    ·refine .inr ⟨k, c', e, z'.sameBut hs ?_⟩
     rintro rfl
     exact hj (Zhc hN e1 (I.ok.inj _ _ _ e hc ▸ hi))
  ·by_cases hcc : c' = c
   ·subst hcc; exact ⟨_, hc'⟩
   ·obtain ⟨w2, z2⟩ := I.cell y c' e
    exact ⟨w2, z2.sameBut hs hcc⟩
  ·obtain ⟨e, n, ne, nf, d⟩ := I.pin p hp
   refine ⟨(hs.2 p.1 ?_).trans e, n, ne, nf, d⟩
   intro q
   rw [q, hoc] at e
   have q' : oc = p.2 := Option.some.inj e
   exact d w' (by rw [← q']; exact hocd)
theorem ZdR {M : Model} {A : Around} {E : Value → Shared → Prop} {i : Nat} {x : Str} {v : V} {u : Value} {Q : Unit → Shared → Prop} (I : Inv X pins σ H s) (hN : X.N.Nodup) (hi : X.N[i]? = some x) (hx : Loc X.env.scope x) (r : RelV v u)
  (h : ∀ s', Inv X pins (σ.set i (some v)) H s' → Q () s') (hf : X.fn x = true ∨ X.env.scope.names.lookup x = some .local := by first | exact .inl rfl | exact .inr rfl | assumption) : wpAny M A (storeName X.env x u) Q E s :=
 Zeb I hN hi hx r (fun s' I' _ => h s' I') hf
theorem Inv.call' {s' : Shared} {ch : List Addr} (I : Inv X pins σ H s) (ho : s'.os = s.os) (u : Un (frs X.stack) ch H H' s.heap s'.heap) (hok : HOk X.prog X.w H' s'.heap) (hg : AllBare s'.gens)
  (hch : ∀ b ∈ ch, (b ∈ X.ex ∨ X.s₀.heap.objs.size ≤ b) ∧ b ≠ X.env.locals ∧ (∀ x c, X.env.cells.lookup x = some c → c ≠ b) ∧ ∀ p ∈ X.pn ++ pins, p.1 ≠ b) : Inv X pins σ H' s' := by
 obtain ⟨h', g', d', t', o'⟩ := s'
 have e : o' = s.os := ho
 subst e
 exact I.call (g' := g') (t' := t') (d' := d') u hok hg hch
end
noncomputable abbrev XK := Value → Option Addr → Hp → Prop
noncomputable abbrev St := List (Option V)
noncomputable abbrev VK := V → Hp → Prop
noncomputable abbrev TE := St → Hp → VK → Prop
noncomputable abbrev TT := St → Hp → (Bool → Hp → Prop) → Prop
noncomputable abbrev TA := St → Hp → (List V → Hp → Prop) → Prop
structure Ends where
 nx : St → Hp → Prop
 rt : VK
 bk : St → Hp → Prop := fun _ _ => False
 ct : St → Hp → Prop := fun _ _ => False
noncomputable abbrev TS := Ends → St → Hp → Prop
noncomputable def EP (X : Cx) (pins : List (Addr × Obj)) (σ : St) (Q : VK) (u : Value) (s' : Shared) : Prop := ∃ v H', Inv X pins σ H' s' ∧ RelV v u ∧ Q v H'
noncomputable def TP (X : Cx) (pins : List (Addr × Obj)) (σ : St) (Q : Bool → Hp → Prop) (b : Bool) (s' : Shared) : Prop := ∃ H', Inv X pins σ H' s' ∧ Q b H'
noncomputable def AP (X : Cx) (pins : List (Addr × Obj)) (σ : St) (Q : List V → Hp → Prop) (us : List Value) (s' : Shared) : Prop := ∃ vs H', Inv X pins σ H' s' ∧ Vals vs us ∧ Q vs H'
noncomputable def SP (X : Cx) (pins : List (Addr × Obj)) (D : Ends) (f : Flow) (s' : Shared) : Prop :=
 match f with
 | .next => ∃ σ' H', Inv X pins σ' H' s' ∧ D.nx σ' H'
 | .brk => ∃ σ' H', Inv X pins σ' H' s' ∧ D.bk σ' H'
 | .cont => ∃ σ' H', Inv X pins σ' H' s' ∧ D.ct σ' H'
 | .ret u => ∃ v σ' H', Inv X pins σ' H' s' ∧ RelV v u ∧ D.rt v H'
noncomputable def PE (X : Cx) (e : Expr) (t : TE) : Prop :=
 ∀ (pins : List (Addr × Obj)) (s : Shared) (σ : St) (H : Hp) (Q : VK), Inv X pins σ H s → t σ H Q → wpAny (model X.prog X.w) X.A (eval e X.env) (EP X pins σ Q) X.xe s
noncomputable def PT (X : Cx) (e : Expr) (t : TT) : Prop :=
 ∀ (pins : List (Addr × Obj)) (s : Shared) (σ : St) (H : Hp) (Q : Bool → Hp → Prop), Inv X pins σ H s → t σ H Q → wpAny (model X.prog X.w) X.A (isTrue e X.env (eval e X.env)) (TP X pins σ Q) X.xe s
noncomputable def PW (X : Cx) (e : Expr) (t : TT) : Prop :=
 ∀ (whole : Sem Value) (pins : List (Addr × Obj)) (s : Shared) (σ : St) (H : Hp) (Q : Bool → Hp → Prop), Inv X pins σ H s → t σ H Q → wpAny (model X.prog X.w) X.A (isTrue e X.env whole) (TP X pins σ Q) X.xe s
theorem PW.pt {X : Cx} {e : Expr} {t : TT} (h : PW X e t) : PT X e t := h _
noncomputable def PA (X : Cx) (es : List Expr) (t : TA) : Prop :=
 ∀ (pos : Pos) (pins : List (Addr × Obj)) (s : Shared) (σ : St) (H : Hp) (Q : List V → Hp → Prop), Inv X pins σ H s → t σ H Q → wpAny (model X.prog X.w) X.A (spliced (backTo pos (starEach es X.env))) (AP X pins σ Q) X.xe s
noncomputable def PS (X : Cx) (st : Stmt) (t : TS) : Prop :=
 ∀ (pins : List (Addr × Obj)) (s : Shared) (σ : St) (H : Hp) (D : Ends), Inv X pins σ H s → t D σ H → wpAny (model X.prog X.w) X.A (exec st X.env) (SP X pins D) X.xe s
noncomputable def PSs (X : Cx) (st : List Stmt) (t : TS) : Prop :=
 ∀ (pins : List (Addr × Obj)) (s : Shared) (σ : St) (H : Hp) (D : Ends), Inv X pins σ H s → t D σ H → wpAny (model X.prog X.w) X.A (execs st X.env) (SP X pins D) X.xe s
theorem thn {α : Type} {t : Sem α} {Q Q' : α → Shared → Prop} {M : Model} {A : Around} {E : Value → Shared → Prop} {s : Shared} (h : wpAny M A t Q E s) (hQ : ∀ a s, Q a s → Q' a s) : wpAny M A t Q' E s := wpAny_mono h hQ fun _ _ x => x
end L2
namespace L2
open PySem PySem.Spec PyProof.Rows
section
variable {X : Cx}
noncomputable def tVar (i : Nat) : TE := fun σ H Q => ∃ v, σ[i]? = some (some v) ∧ Q v H
noncomputable def tC (v : V) : TE := fun _ H Q => Q v H
theorem ZmL {i : Nat} {x : Str} {pos : Pos} (hN : X.N[i]? = some x) (hv : Vis X.env.scope x) (hd : (x == ("__debug__" : Str)) = false := by decide) (hcd : (x == ("__classdict__" : Str)) = false := by decide) : PE X (.Name x pos) (tVar i) := by
 intro pins s σ H Q I h
 obtain ⟨v, e, h⟩ := h
 obtain ⟨m, hn, hl⟩ := I.loc
 obtain ⟨u, r, l⟩ := hl i x v hN e hv
 have fin : EP X pins σ Q u s := ⟨v, H, I, r, h⟩
 rcases l with ⟨hk, hm⟩ | ⟨hk, c, hc, hcell⟩
 ·exact wpAny_Name (wpAny_loadName_local I.ok.kind hk hn hm fin) hd
 ·rcases hk with hk | hk
  ·exact wpAny_Name (wpAny_loadName_cell I.ok.kind hk hc hcell fin) hd
  ·exact wpAny_Name (wpAny_loadName_free I.ok.kind hk hc hcell fin hcd) hd
theorem ZaR {i j pos} : PE X (.Constant (.int i) j pos) (tC (.int i)) := fun _ _ _ H _ I h => wpAny_Constant_int ⟨.int i, H, I.tok _, ⟨_, rfl⟩, h⟩
theorem ZnC {b j pos} : PE X (.Constant (.bool b) j pos) (tC (.bl b)) := fun _ _ _ H _ I h => Constant_bool ⟨.bl b, H, I, rfl, h⟩
theorem ZmP {j pos} : PE X (.Constant .none j pos) (tC .non) := fun _ _ _ H _ I h => Constant_none ⟨.non, H, I, rfl, h⟩
theorem Zbr {x j pos} : PE X (.Constant (.str x) j pos) (tC (.str x)) := fun _ _ _ H _ I h => Calls.Constant_str ⟨.str x, H, I.tok _, ⟨_, rfl⟩, h⟩
noncomputable def Gl (X : Cx) (x : Str) : Prop := X.env.kindOf x = some .globalImplicit
theorem Zf2 {E : Value → Shared → Prop} {pins : List (Addr × Obj)} {s : Shared} {σ : St} {H : Hp} {x : Str} {u : Value} {pos : Pos} {Q : Value → Shared → Prop} (I : Inv X pins σ H s) (hg : Gl X x) (hm : X.mg x = some u) (h : Q u s)
  (hd : (x == ("__debug__" : Str)) = false := by decide) : wpAny (model X.prog X.w) X.A (eval (.Name x pos) X.env) Q E s :=
 Calls.Name_function_global I.ok.kind hg (Calls.loadGlobal_global (by rw [I.ok.glob]; exact I.mod.glob.keeps I.bk) hm h) hd
theorem ZcB {E : Value → Shared → Prop} {pins : List (Addr × Obj)} {s : Shared} {σ : St} {H : Hp} {x : Str} {u : Value} {pos : Pos} {Q : Value → Shared → Prop} (I : Inv X pins σ H s) (hg : Gl X x) (hm : X.mg x = none) (hv : bootBuiltins x = some u) (h : Q u s)
  (hn : x ≠ "__name__" := by decide) (hd : (x == ("__debug__" : Str)) = false := by decide) : wpAny (model X.prog X.w) X.A (eval (.Name x pos) X.env) Q E s := by
 obtain ⟨mb, h1, h2⟩ := I.mod.blt
 exact Calls.Name_function_global I.ok.kind hg (Calls.loadGlobal_builtin (by rw [I.ok.glob]; exact I.mod.glob.keeps I.bk) hm (by rw [I.ok.blt]; exact h1.keeps I.bk) ((h2 x hn).trans hv) h) hd
theorem Zl1 {x : Str} {v : V} {u : Value} {pos : Pos} (hg : Gl X x) (hm : X.mg x = some u) (r : RelV v u) (hd : (x == ("__debug__" : Str)) = false := by decide) : PE X (.Name x pos) (tC v) :=
 fun _ _ _ H _ I h => Zf2 I hg hm ⟨v, H, I, r, h⟩ hd
theorem Zl4 {x : Str} {v : V} {u : Value} {pos : Pos} (hg : Gl X x) (hm : X.mg x = none) (hv : bootBuiltins x = some u) (r : RelV v u) (hn : x ≠ "__name__" := by decide) (hd : (x == ("__debug__" : Str)) = false := by decide) : PE X (.Name x pos) (tC v) :=
 fun _ _ _ H _ I h => ZcB I hg hm hv ⟨v, H, I, r, h⟩ hn hd
variable {a b : Expr} {ta tb : TE} {pos : Pos}
noncomputable def tB (t : TE) : TT := fun σ H Q => t σ H fun x H1 => ∃ c, x = .bl c ∧ Q c H1
theorem ZmC {e : Expr} {t : TE} (h : PE X e t) (he : ∀ whole, isTrue e X.env whole = (do let v ← whole; standAt e.pos; holding [v] (truthy v)) := by intro _; rfl) : PT X e (tB t) := by
 intro pins s σ H Q I hw
 refine isTrue_plain (thn (h pins s σ H _ I hw) fun v s1 ⟨x, H1, I1, r1, q1⟩ => ?_) (he _)
 obtain ⟨d, rfl, q⟩ := q1
 cases r1
 exact wpAny_truthy_bool ⟨H1, I1, q⟩
variable {tA tB' : TT} {rest : List Expr}
noncomputable def tAnd (t u : TT) : TT := fun σ H Q => t σ H fun c H1 => if c = true then u σ H1 Q else Q false H1
noncomputable def tOr (t u : TT) : TT := fun σ H Q => t σ H fun c H1 => if c = true then Q true H1 else u σ H1 Q
noncomputable def tNot (t : TT) : TT := fun σ H Q => t σ H fun c H1 => Q (!c) H1
theorem ZlT (ha : PT X a tA) : PW X (.BoolOp .And [a] pos) tA := by
 intro wh pins s σ H Q I h
 refine isTrue_and (thn (ha pins s σ H Q I h) fun c s1 e => ?_)
 cases c with
 | true => exact isTrue_and_nil e
 | false => exact e
theorem ZmA (ha : PT X a tA) : PW X (.BoolOp .Or [a] pos) tA := by
 intro wh pins s σ H Q I h
 refine isTrue_or (thn (ha pins s σ H Q I h) fun c s1 e => ?_)
 cases c with
 | false => exact isTrue_or_nil e
 | true => exact e
theorem ZmB (ha : PT X a tA) (hb : PW X (.BoolOp .And (b :: rest) pos) tB') : PW X (.BoolOp .And (a :: b :: rest) pos) (tAnd tA tB') := by
 intro wh pins s σ H Q I h
 refine isTrue_and (thn (ha pins s σ H _ I h) fun c s1 ⟨H1, I1, q1⟩ => ?_)
 cases c with
 | true => exact hb wh pins s1 σ H1 Q I1 q1
 | false => exact ⟨H1, I1, q1⟩
theorem Znw (ha : PT X a tA) (hb : PW X (.BoolOp .Or (b :: rest) pos) tB') : PW X (.BoolOp .Or (a :: b :: rest) pos) (tOr tA tB') := by
 intro wh pins s σ H Q I h
 refine isTrue_or (thn (ha pins s σ H _ I h) fun c s1 ⟨H1, I1, q1⟩ => ?_)
 cases c with
 | true => exact ⟨H1, I1, q1⟩
 | false => exact hb wh pins s1 σ H1 Q I1 q1
theorem ZmD (ha : PT X a tA) : PT X (.UnaryOp .Not a pos) (tNot tA) := by
 intro pins s σ H Q I h
 exact isTrue_not (ha pins s σ H (fun c H1 => Q (!c) H1) I h)
noncomputable def Znu (ta tb : TE) : TE := fun σ H Q => ta σ H fun x H1 => ∃ c, x = .bl c ∧ if c = true then tb σ H1 Q else Q (.bl false) H1
noncomputable def Zns (ta : TE) : TE := fun σ H Q => ta σ H fun x H1 => ∃ c, x = .bl c ∧ Q (.bl (!c)) H1
theorem ZmN {op} {t : TE} (h : PE X a t) : PE X (.BoolOp op [a] pos) t := fun pins s σ H Q I hw => BoolOp_one (h pins s σ H Q I hw)
theorem ZmS (ha : PE X a ta) (hb : PE X (.BoolOp .And (b :: rest) pos) tb) : PE X (.BoolOp .And (a :: b :: rest) pos) (Znu ta tb) := by
 intro pins s σ H Q I h
 refine BoolOp_and (thn (ha pins s σ H _ I h) fun v s1 ⟨x, H1, I1, r1, q1⟩ => ?_)
 obtain ⟨c, rfl, q1⟩ := q1
 cases r1
 refine wpAny_truthy_bool ?_
 cases c with
 | true => exact hb pins s1 σ H1 Q I1 q1
 | false => exact ⟨.bl false, H1, I1, rfl, q1⟩
theorem ZmO (ha : PE X a ta) : PE X (.UnaryOp .Not a pos) (Zns ta) := by
 intro pins s σ H Q I h
 refine UnaryOp_ (thn (ha pins s σ H _ I h) fun v s1 ⟨x, H1, I1, r1, q1⟩ => ?_)
 obtain ⟨c, rfl, q1⟩ := q1
 cases r1
 exact not_of (wpAny_truthy_bool ⟨.bl (!c), H1, I1, rfl, q1⟩)
end
end L2
namespace L2
open PySem PySem.Spec PyProof.Rows
noncomputable def SqL (K : PySem.W.Frag) (H : Hp) (a : Addr) (xs : List V) : Prop :=
 Rd H a (.lst xs) ∨
  ∃ (o : Obj) (its : Array Value) (n : Nat), K.lookup a = some o ∧ o.cls = .type "list" ∧ o.dict = none ∧ o.data = .seq its n ∧ its.size ≤ sizeLine ∧ Vals xs its.toList
noncomputable def SqT (K : PySem.W.Frag) (H : Hp) (a : Addr) (xs : List V) : Prop :=
 Rd H a (.tup xs) ∨
  ∃ (o : Obj) (its : Array Value) (n : Nat), K.lookup a = some o ∧ o.cls = .type "tuple" ∧ o.data = .seq its n ∧ its.size ≤ sizeLine ∧ Vals xs its.toList
noncomputable def absV : Value → Option V
 | .none => some .non
 | .bool b => some (.bl b)
 | .int i _ => some (.int i)
 | .str x _ => some (.str x)
 | .bytes b _ => some (.byt b)
 | .float b _ => some (.flt b)
 | .ref a => some (.ref a)
 | .type n => some (.ty n)
 | _ => none
theorem RelV.abs {x : V} {u : Value} (r : RelV x u) : absV u = some x := by
 cases x with
 | non => cases r; rfl
 | bl _ => cases r; rfl
 | int _ => obtain ⟨t, rfl⟩ := r; rfl
 | str _ => obtain ⟨t, rfl⟩ := r; rfl
 | byt _ => obtain ⟨t, rfl⟩ := r; rfl
 | flt _ => obtain ⟨t, rfl⟩ := r; rfl
 | ref _ => cases r; rfl
 | ty _ => cases r; rfl
theorem RelV.inj {x y : V} {u : Value} (r : RelV x u) (q : RelV y u) : x = y := Option.some.inj (r.abs.symm.trans q.abs)
theorem Vals.inj : ∀ {xs ys : List V} {us : List Value}, Vals xs us → Vals ys us → xs = ys
 | _, _, _, .nil, .nil => rfl
 | _, _, _, .cons r t, .cons r' t' => by rw [r.inj r', Vals.inj t t']
section
variable {X : Cx} {pins : List (Addr × Obj)} {σ : St} {H : Hp} {s : Shared} {a : Addr} {xs ys : List V}
theorem SqL.of {K : PySem.W.Frag} (h : H a = some (.lst xs)) : SqL K H a xs := .inl (.inl h)
theorem SqT.of {K : PySem.W.Frag} (h : H a = some (.tup xs)) : SqT K H a xs := .inl (.inl h)
theorem Inv.list (I : Inv X pins σ H s) (h : SqL X.K H a xs) : ∃ its : List Value, Vals xs its ∧ PlainL s.heap a its.toArray ∧ xs.length ≤ sizeLine := by
 rcases h with h | ⟨o, its, n, hk, hc, hd, hs, hz, r⟩
 ·obtain ⟨z, its, n, r, e⟩ := h.ok I.hok
  exact ⟨its, r, ⟨_, n, e, rfl, rfl, rfl⟩, z⟩
 ·refine ⟨its.toList, r, ⟨o, n, I.kIn a o hk, hc, hd, by simpa using hs⟩, ?_⟩
  have e := r.length
  simp only [Array.length_toList] at e
  omega
theorem Inv.tuple (I : Inv X pins σ H s) (h : SqT X.K H a xs) : ∃ its : List Value, Vals xs its ∧ IsTup s.heap a its.toArray ∧ xs.length ≤ sizeLine := by
 rcases h with h | ⟨o, its, n, hk, hc, hs, hz, r⟩
 ·obtain ⟨z, its, r, p⟩ := h.ok I.hok
  exact ⟨its, r, p, z⟩
 ·refine ⟨its.toList, r, ⟨o, I.kIn a o hk, hc, n, by simpa using hs⟩, ?_⟩
  have e := r.length
  simp only [Array.length_toList] at e
  omega
theorem Inv.list_inj (I : Inv X pins σ H s) (h : SqL X.K H a xs) (h' : SqL X.K H a ys) : xs = ys := by
 obtain ⟨its, r, ⟨o, n, e, _, _, d⟩, _⟩ := I.list h
 obtain ⟨its', r', ⟨o', n', e', _, _, d'⟩, _⟩ := I.list h'
 rw [e] at e'; cases e'
 rw [d] at d'
 injection d' with d1 _
 have : its = its' := by simpa using congrArg Array.toList d1
 subst this
 exact r.inj r'
theorem Inv.tuple_inj (I : Inv X pins σ H s) (h : SqT X.K H a xs) (h' : SqT X.K H a ys) : xs = ys := by
 obtain ⟨its, r, ⟨o, e, _, n, d⟩, _⟩ := I.tuple h
 obtain ⟨its', r', ⟨o', e', _, n', d'⟩, _⟩ := I.tuple h'
 rw [e] at e'; cases e'
 rw [d] at d'
 injection d' with d1 _
 have : its = its' := by simpa using congrArg Array.toList d1
 subst this
 exact r.inj r'
end
noncomputable abbrev Cx.wish (X : Cx) (E : Value → Shared → Prop) : Cx := { X with xe := E }
noncomputable abbrev Cx.nox (X : Cx) : Cx := X.wish fun _ _ => False
theorem Cx.Ok.wish {X : Cx} (ok : X.Ok) (E : Value → Shared → Prop) : (X.wish E).Ok :=
 ⟨ok.mod, ok.kind, ok.glob, ok.blt, ok.above, ok.inj, ok.has, ok.cab, ok.hd, ok.frames, ok.stk, ok.exf, ok.bs, ok.bsz, ok.noex, ok.exfs, ok.funs, ok.frf⟩
theorem Cx.Ok.unwish {X : Cx} {E : Value → Shared → Prop} (ok : (X.wish E).Ok) : X.Ok :=
 ⟨ok.mod, ok.kind, ok.glob, ok.blt, ok.above, ok.inj, ok.has, ok.cab, ok.hd, ok.frames, ok.stk, ok.exf, ok.bs, ok.bsz, ok.noex, ok.exfs, ok.funs, ok.frf⟩
section
variable {X : Cx} {pins : List (Addr × Obj)} {σ : St} {H : Hp} {s : Shared} {E : Value → Shared → Prop}
theorem Inv.wish (I : Inv X pins σ H s) (E : Value → Shared → Prop) : Inv (X.wish E) pins σ H s := ⟨I.ok.wish E, I.os, I.bare, I.base, I.loc, I.cell, I.free, I.freeC, I.pin, I.hok, I.len⟩
theorem Inv.unwish (I : Inv (X.wish E) pins σ H s) : Inv X pins σ H s := ⟨I.ok.unwish, I.os, I.bare, I.base, I.loc, I.cell, I.free, I.freeC, I.pin, I.hok, I.len⟩
theorem SP.unwish {D : Ends} {f : Flow} {s' : Shared} (h : SP (X.wish E) pins D f s') : SP X pins D f s' := by
 cases f with
 | next => obtain ⟨σ', H', I, q⟩ := h; exact ⟨σ', H', I.unwish, q⟩
 | brk => obtain ⟨σ', H', I, q⟩ := h; exact ⟨σ', H', I.unwish, q⟩
 | cont => obtain ⟨σ', H', I, q⟩ := h; exact ⟨σ', H', I.unwish, q⟩
 | ret u => obtain ⟨v, σ', H', I, r, q⟩ := h; exact ⟨v, σ', H', I.unwish, r, q⟩
theorem PE.nox {e : Expr} {t : TE} (h : PE X.nox e t) : PE X e t := fun pins s σ H Q I hw =>
 wpAny_mono (h pins s σ H Q (I.wish _) hw) (fun _ _ ⟨v, H', I', r, q⟩ => ⟨v, H', I'.unwish, r, q⟩) fun _ _ z => False.elim z
theorem PSs.nox {st : List Stmt} {t : TS} (h : PSs X.nox st t) : PSs X st t := fun pins s σ H D I hw =>
 wpAny_mono (h pins s σ H D (I.wish _) hw) (fun _ _ q => q.unwish) fun _ _ z => False.elim z
end
section
variable {X : Cx} {st : Stmt} {rest : List Stmt} {t u : TS} {e : Expr} {te : TE} {pos : Pos}
noncomputable def ZiC : TS := fun D σ H => D.nx σ H
noncomputable def tSeq (t u : TS) : TS := fun D σ H => t { D with nx := u D } σ H
theorem ZfS : PSs X [] ZiC := fun _ _ σ H _ I h => wpAny_execs_nil ⟨σ, H, I, h⟩
theorem Zbp (h1 : PS X st t) (h2 : PSs X rest u) : PSs X (st :: rest) (tSeq t u) := by
 intro pins s σ H D I h
 refine wpAny_execs_cons (thn (h1 pins s σ H { D with nx := u D } I h) fun f s1 q => ?_)
 cases f with
 | next =>
  obtain ⟨σ', H', I', q⟩ := q
  exact h2 pins s1 σ' H' D I' q
 | ret v => exact q
 | brk => exact q
 | cont => exact q
theorem Zc6 (h1 : PS X st t) : PSs X [st] t := by
 intro pins s σ H D I h
 refine wpAny_execs_cons (thn (h1 pins s σ H D I h) fun f s1 q => ?_)
 cases f with
 | next => exact wpAny_execs_nil q
 | ret v => exact q
 | brk => exact q
 | cont => exact q
theorem Inv.quiet {pins : List (Addr × Obj)} {σ : St} {H : Hp} {s : Shared} (I : Inv X pins σ H s) : interactive X.env = false := by simp [interactive, I.ok.kind]
noncomputable def Zdn (te : TE) : TS := fun D σ H => te σ H fun _ H1 => D.nx σ H1
theorem ZfT (he : PE X e te) (hs : swapsWith e none pos.line X.env = pure false := by rfl) : PS X (.Expr e pos) (Zdn te) := by
 intro pins s σ H D I h
 exact wpAny_Expr_any (thn (he pins s σ H _ I h) fun v s1 ⟨x, H1, I1, r1, q1⟩ => ⟨σ, H1, I1, q1⟩) I.quiet hs
noncomputable def tRet (te : TE) : TS := fun D σ H => te σ H D.rt
theorem ZdB (he : PE X e te) : PS X (.Return (some e) pos) (tRet te) := by
 intro pins s σ H D I h
 exact wpAny_Return_some (thn (he pins s σ H _ I h) fun v s1 ⟨x, H1, I1, r1, q1⟩ => ⟨x, σ, H1, I1, r1, q1⟩)
noncomputable def tIfS (c : TT) (t u : TS) : TS := fun D σ H => c σ H fun b H1 => if b = true then t D σ H1 else u D σ H1
theorem ZiJ {c : Expr} {a b : List Stmt} {tc : TT} (hc : PT X c tc) (ha : PSs X a t) (hb : PSs X b u) : PS X (.If c a b pos) (tIfS tc t u) := by
 intro pins s σ H D I h
 refine wpAny_If (thn (hc pins s σ H _ I h) fun d s1 ⟨H1, I1, q1⟩ => ?_)
 cases d with
 | true => exact ha pins s1 σ H1 D I1 q1
 | false => exact hb pins s1 σ H1 D I1 q1
end
noncomputable abbrev TG := V → St → Hp → (St → Hp → Prop) → Prop
noncomputable abbrev TGs := List V → St → Hp → (St → Hp → Prop) → Prop
noncomputable def PG (X : Cx) (target : Expr) (t : TG) : Prop :=
 ∀ (pins : List (Addr × Obj)) (s : Shared) (σ : St) (H : Hp) (v : V) (u : Value) (Q : St → Hp → Prop), Inv X pins σ H s → RelV v u → t v σ H Q →
  wpAny (model X.prog X.w) X.A (assign target X.env u) (fun _ s' => ∃ σ' H', Inv X pins σ' H' s' ∧ Q σ' H') X.xe s
noncomputable def PGs (X : Cx) (ts : List Expr) (t : TGs) : Prop :=
 ∀ (pins : List (Addr × Obj)) (s : Shared) (σ : St) (H : Hp) (vs : List V) (us : List Value) (Q : St → Hp → Prop), Inv X pins σ H s → Vals vs us → t vs σ H Q →
  wpAny (model X.prog X.w) X.A (assignInOrder ((assignEach ts X.env).map (·.2)) us) (fun _ s' => ∃ σ' H', Inv X pins σ' H' s' ∧ Q σ' H') X.xe s
noncomputable abbrev TSet := V → V → V → Hp → (Hp → Prop) → Prop
noncomputable def PSet (X : Cx) (t : TSet) : Prop :=
 ∀ (pins : List (Addr × Obj)) (s : Shared) (σ : St) (H : Hp) (o i v : V) (ov iv u : Value) (Q : Hp → Prop), Inv X pins σ H s → RelV o ov → RelV i iv → RelV v u → t o i v H Q →
  wpAny (model X.prog X.w) X.A (setItem ov iv u) (fun _ s' => ∃ H', Inv X pins σ H' s' ∧ Q H') X.xe s
section
variable {X : Cx} {pos : Pos}
noncomputable def ZcC (i : Nat) : TG := fun v σ H Q => Q (σ.set i (some v)) H
theorem Zb3 {i : Nat} {x : Str} (hN : X.N.Nodup) (hi : X.N[i]? = some x) (hx : Loc X.env.scope x) (hf : X.fn x = true ∨ X.env.scope.names.lookup x = some .local := by first | exact .inl rfl | exact .inr rfl | assumption) : PG X (.Name x pos) (ZcC i) := by
 intro pins s σ H v u Q I r h
 exact wpAny_assign_Name (ZdR I hN hi hx r (fun s' I' => ⟨_, H, I', h⟩) hf)
noncomputable def gNil : TGs := fun vs σ H Q => vs = [] ∧ Q σ H
noncomputable def Zi3 (t : TG) (u : TGs) : TGs := fun vs σ H Q => ∃ v r, vs = v :: r ∧ t v σ H fun σ' H' => u r σ' H' Q
theorem ZfV : PGs X [] gNil := by
 intro pins s σ H vs us Q I r h
 obtain ⟨e, h⟩ := h
 subst e
 cases r
 exact assignInOrder_nil ⟨σ, H, I, h⟩
theorem ZcJ {e : Expr} {es : List Expr} {t : TG} {u : TGs} (h1 : PG X e t) (h2 : PGs X es u)
  (hs : (assignEach (e :: es) X.env).map (·.2) = assign e X.env :: (assignEach es X.env).map (·.2) := by rfl) : PGs X (e :: es) (Zi3 t u) := by
 intro pins s σ H vs us Q I r h
 obtain ⟨v, vr, e1, h⟩ := h
 subst e1
 cases r with
 | cons r rr =>
  rw [hs]
  refine assignInOrder_cons (thn (h1 pins s σ H _ _ _ I r h) fun _ s1 ⟨σ1, H1, I1, q1⟩ => ?_)
  exact h2 pins s1 σ1 H1 _ _ Q I1 rr q1
noncomputable def gTup (K : PySem.W.Frag) (n : Nat) (t : TGs) : TG := fun v σ H Q => ∃ a xs, v = .ref a ∧ SqT K H a xs ∧ xs.length = n ∧ t xs σ H Q
theorem ZmJ {es : List Expr} {k : Nat} {t : TGs} {n : Nat} (hc : X.calm = true) (h : PGs X es t)
  (hn : (assignEach es X.env).length = n := by rfl) (hst : (assignEach es X.env).findIdx? (·.1) = none := by rfl) : PG X (.Tuple es k pos) (gTup X.K n t) := by
 intro pins s σ H v u Q I r hw
 obtain ⟨a, xs, e1, hq, hl, hw⟩ := hw
 subst e1
 cases r
 obtain ⟨its, rv, ht, hz⟩ := I.tuple hq
 refine assign_Tuple_tuple (I.ok.hd hc) ht (by simp [hn, ← hl, rv.length]) hst fun h' hx => ?_
 have I1 : Inv X pins σ H { s with heap := h' } := I.kept (t' := s.toks) fun b o e => hx b o (Nat.ne_of_lt (Heap.lt_size e)) e
 exact h pins _ σ H xs _ Q I1 (by simpa using rv) hw
noncomputable def gSub (to ti : TE) (t : TSet) : TG := fun v σ H Q => to σ H fun o H1 => ti σ H1 fun i H2 => t o i v H2 fun H3 => Q σ H3
theorem ZmK {o i : Expr} {to ti : TE} {t : TSet} (ho : PE X o to) (hi : PE X i ti) (hs : PSet X t)
  (ha : ∀ v, assign (.Subscript o i pos) X.env v = (do
   let ov ← holding [v] (eval o X.env)
   let iv ← holding [v, ov] (eval i X.env)
   standAt pos
   holding [v, ov, iv] (setItem ov iv v)
   release [v, ov, iv] []) := by intro _; rfl) : PG X (.Subscript o i pos) (gSub to ti t) := by
 intro pins s σ H v u Q I r h
 rw [ha]
 refine wpAny_bind (wpAny_holding (thn (ho pins s σ H _ I h) fun ov s1 ⟨x, H1, I1, r1, q1⟩ => ?_))
 refine wpAny_bind (wpAny_holding (thn (hi pins s1 σ H1 _ I1 q1) fun iv s2 ⟨y, H2, I2, r2, q2⟩ => ?_))
 refine wpAny_bind (wpAny_standAt (wpAny_bind (wpAny_holding (thn (hs pins s2 σ H2 x y v ov iv u _ I2 r1 r2 r q2) fun _ s3 ⟨H3, I3, q3⟩ => ?_))))
 exact wpAny_release ⟨σ, H3, I3, q3⟩
noncomputable def tAsg (te : TE) (g : TG) : TS := fun D σ H => te σ H fun x H1 => g x σ H1 D.nx
theorem ZmG {tg e : Expr} {te : TE} {g : TG} (he : PE X e te) (hg : PG X tg g) (hs : swapsWithSole [tg] e pos.line X.env = pure false := by rfl) (hw : swappedStores [tg] e X.env = pure none := by rfl)
  (h1 : (assignEach [tg] X.env).map (·.2) = [assign tg X.env] := by rfl) : PS X (.Assign [tg] e pos) (tAsg te g) := by
 intro pins s σ H D I h
 refine wpAny_Assign_stores (thn (he pins s σ H _ I h) fun v s1 ⟨x, H1, I1, r1, q1⟩ => ?_) hs hw
 rw [h1]
 exact thn (hg pins s1 σ H1 x v _ I1 r1 q1) fun _ s2 q => q
theorem Zda {i : Nat} {x : Str} {e : Expr} {te : TE} {pos' : Pos} (hN : X.N.Nodup) (hi : X.N[i]? = some x) (hx : Loc X.env.scope x) (he : PE X e te) (hs : swapsWith e (some (.Name x pos')) pos.line X.env = pure false := by rfl) (hf : X.fn x = true ∨ X.env.scope.names.lookup x = some .local := by first | exact .inl rfl | exact .inr rfl | assumption) :
  PS X (.Assign [.Name x pos'] e pos) (tAsg te (ZcC i)) := by
 intro pins s σ H D I h
 refine wpAny_Assign_Name (thn (he pins s σ H _ I h) fun v s1 ⟨y, H1, I1, r1, q1⟩ => ?_) hs
 exact ZdR I1 hN hi hx r1 (fun s2 I2 => ⟨_, H1, I2, q1⟩) hf
noncomputable def tPar (i j : Nat) (ta : TA) : TS := fun D σ H => ta σ H fun vs H1 => ∃ v w, vs = [v, w] ∧ D.nx ((σ.set i (some v)).set j (some w)) H1
theorem ZmE {i j : Nat} {x y : Str} {a b : Expr} {ta : TA} {px py pt : Pos} {kt k2 pt2} (hc : X.calm = true) (hN : X.N.Nodup) (hi : X.N[i]? = some x) (hj : X.N[j]? = some y) (hij : i ≠ j)
  (hx : X.env.scope.names.lookup x = some .local) (hy : X.env.scope.names.lookup y = some .local) (ha : PA X [a, b] ta)
  (hw : swappedStores [.Tuple [.Name x px, .Name y py] kt pt] (.Tuple [a, b] k2 pt2) X.env = pure (some [x, y]))
  (hs : swapsWithSole [.Tuple [.Name x px, .Name y py] kt pt] (.Tuple [a, b] k2 pt2) pos.line X.env = pure false := by rfl) :
  PS X (.Assign [.Tuple [.Name x px, .Name y py] kt pt] (.Tuple [a, b] k2 pt2) pos) (tPar i j ta) := by
 intro pins s σ H D I h
 rw [exec_Assign_arm]
 refine wpAny_bind (wpAny_standAt ?_)
 rw [hs]
 refine wpAny_bind (wpAny_pure ?_)
 rw [if_neg (by decide)]
 refine wpAny_bind (Tuple_ (thn (ha _ pins s σ H _ I h) fun us s1 ⟨vs, H1, I1, r1, q1⟩ => ?_))
 obtain ⟨v, w, e1, q1⟩ := q1
 subst e1
 obtain ⟨u1, u2, rfl, rv, rw'⟩ : ∃ u1 u2, us = [u1, u2] ∧ RelV v u1 ∧ RelV w u2 := by
  cases r1 with
  | cons p q =>
   cases q with
   | cons p' q' =>
    cases q'
    exact ⟨_, _, rfl, p, p'⟩
 refine wpAny_newObj_type ?_ (by show 2 ≤ sizeLine; decide)
 have I2 : Inv X pins σ H1 { s1 with heap := s1.heap.push { cls := .type "tuple", data := .seq [u1, u2].toArray } } := I1.kept (t' := s1.toks) fun b o e => Heap.get?_push_of_some _ e
 rw [hw]
 refine wpAny_bind (wpAny_pure ?_)
 show wpAny (model X.prog X.w) X.A (do rule "assign.swapped-stores"; let items ← unpackItems (.ref s1.heap.objs.size) 2 none; assignInOrder [fun v => bindName X.env y v, fun v => bindName X.env x v] items.reverse; pure Flow.next) _ _ _
 refine wpAny_bind (wpAny_rule (wpAny_bind (unpackItems_tuple (items := #[u1, u2]) (I.ok.hd hc) (IsTup.new s1.heap _) fun h' hx' => ?_)))
 have I3 := I2.kept (h' := h') (t' := s1.toks) fun b o e => hx' b o (Nat.ne_of_lt (Heap.lt_size e)) e
 show wpAny _ _ (assignInOrder [fun v => bindName X.env y v, fun v => bindName X.env x v] [u2, u1] >>= fun _ => pure Flow.next) _ _ _
 refine wpAny_bind (assignInOrder_cons (wpAny_bindName (ZdR I3 hN hj (.inl hy) rw' (fun s2 I4 => ?_) (.inr hy))))
 refine assignInOrder_cons (wpAny_bindName (ZdR I4 hN hi (.inl hx) rv (fun s3 I5 => assignInOrder_nil (wpAny_pure ?_)) (.inr hx)))
 rw [List.set_comm _ _ (Ne.symm hij)] at I5
 exact ⟨_, H1, I5, q1⟩
end
section
variable {X : Cx} {pos : Pos}
end
structure It where
 go : Nat → Hp → Prop
 yld : Nat → Hp → V → Hp → Prop
 stop : Nat → Hp → Prop
noncomputable def FpOk (X : Cx) (pins : List (Addr × Obj)) (H : Hp) (b : Addr) : Prop :=
 H b = none ∧ b ≠ X.env.locals ∧ b ∉ X.fs ∧ (b ∈ X.ex ∨ X.s₀.heap.objs.size ≤ b) ∧ (∀ x c, X.env.cells.lookup x = some c → c ≠ b) ∧ ∀ p ∈ X.pn ++ pins, p.1 ≠ b
theorem Inv.fpOk {X : Cx} {pins : List (Addr × Obj)} {σ : St} {H H' : Hp} {s : Shared} {b : Addr} (I : Inv X pins σ H s) (hb : s.heap.objs.size ≤ b) (hn : H' b = none) : FpOk X pins H' b := by
 refine ⟨hn, Nat.ne_of_gt (Nat.lt_of_lt_of_le I.lt hb), I.nofs hb, .inr (Nat.le_trans I.sz hb), fun x c e z => ?_, fun p hp z => ?_⟩
 ·obtain ⟨v, q⟩ := I.cell x c e
  exact absurd (Nat.lt_of_lt_of_le q.lt (by rw [z]; exact hb)) (Nat.lt_irrefl _)
 ·exact absurd (Nat.lt_of_lt_of_le (Heap.lt_size (I.pin p hp).1) (by rw [z]; exact hb)) (Nat.lt_irrefl _)
structure Turn (P : Program) (w : World) (K : PySem.W.Frag) (tg : Expr) (J : It) (fp : List Addr) (it : Addr) (tn : Nat → Heap → Prop) : Prop where
 mem : it ∈ fp
 obj : ∀ i h, tn i h → ∀ b ∈ fp, ∃ o, h.get? b = some o ∧ ∀ v, o.data ≠ .cell v
 keep : ∀ i h h', tn i h → (∀ b ∈ fp, ∀ o, h.get? b = some o → h'.get? b = some o) → tn i h'
 item : ∀ (X : Cx), X.prog = P → X.w = w → X.K = K → X.calm = true → ∀ (i : Nat) (pins : List (Addr × Obj)) (s : Shared) (σ : St) (H : Hp) (E : Value → Shared → Prop), Inv X pins σ H s → (∀ b ∈ fp, FpOk X pins H b) → tn i s.heap → J.go i H →
  wpAny (model P w) X.A (pyNext (.ref it)) (fun r s1 => ∃ u, r = some u ∧
   wpAny (model P w) X.A (letOwnedTupleGo tg (.ref it) u) (fun _ s2 => ∃ x H', Inv X pins σ H' s2 ∧ RelV x u ∧ J.yld i H x H' ∧ tn (i + 1) s2.heap ∧ ∀ b ∈ fp, H' b = none) E s1) E s
 done : ∀ (X : Cx), X.prog = P → X.w = w → X.K = K → X.calm = true → ∀ (i : Nat) (pins : List (Addr × Obj)) (s : Shared) (σ : St) (H : Hp) (E : Value → Shared → Prop), Inv X pins σ H s → (∀ b ∈ fp, FpOk X pins H b) → tn i s.heap → J.stop i H →
  wpAny (model P w) X.A (pyNext (.ref it)) (fun r s1 => r = none ∧ Inv X pins σ H s1) E s
 self : ∀ (A : Around) (i : Nat) (s : Shared) (Q : Value → Shared → Prop) (E : Value → Shared → Prop), tn i s.heap → Q (.ref it) s → wpAny (model P w) A (pyIter (.ref it)) Q E s
noncomputable abbrev TI := St → Hp → (It → Hp → Prop) → Prop
noncomputable def PIE (X : Cx) (pins : List (Addr × Obj)) (σ : St) (tg : Expr) (R : It → Hp → Prop) (itv : Value) (s2 : Shared) : Prop :=
 ∃ (it : Addr) (fp : List Addr) (tn : Nat → Heap → Prop) (J : It) (H' : Hp), itv = .ref it ∧ Inv X pins σ H' s2 ∧ Turn X.prog X.w X.K tg J fp it tn ∧ tn 0 s2.heap ∧ (∀ b ∈ fp, FpOk X pins H' b) ∧ R J H'
noncomputable def PI (X : Cx) (tg iter : Expr) (wi : TI) : Prop :=
 ∀ (pins : List (Addr × Obj)) (s : Shared) (σ : St) (H : Hp) (R : It → Hp → Prop), Inv X pins σ H s → wi σ H R →
  wpAny (model X.prog X.w) X.A (eval iter X.env) (fun v s1 => wpAny (model X.prog X.w) X.A (pyIter v) (PIE X pins σ tg R) X.xe s1) X.xe s
theorem Zi0 {M : Model} {A : Around} {E : Value → Shared → Prop} {s : Shared} {tg : Expr} {it : Addr} {u : Value} {o : Obj} {n : String} {vs : Array Value} {Q : Unit → Shared → Prop} (ho : s.heap.get? it = some o) (hc : o.cls = .type n) (hd : o.data = .fields vs)
    (hn : ["enumerate", "zip", "dict_itemiterator", "dict_reverseitemiterator", "odict_iterator", "itertools.zip_longest", "itertools.pairwise"].contains n = false) (hQ : Q () s) : wpAny M A (letOwnedTupleGo tg (.ref it) u) Q E s := by
  unfold letOwnedTupleGo
  cases tg <;> first
    | exact wpAny_pure hQ
    | (cases u <;> first
        | exact wpAny_pure hQ
        | (refine wpAny_bind (wpAny_load ho ?_)
           rw [hc, hd]
           show wpAny M A (if (["enumerate", "zip", "dict_itemiterator", "dict_reverseitemiterator", "odict_iterator", "itertools.zip_longest", "itertools.pairwise"].contains n && vs[0]? == some (rawInt _)) = true then _ else _) Q E s
           rw [if_neg (by intro h; rw [hn, Bool.false_and] at h; cases h)]
           exact wpAny_pure hQ))
noncomputable def Itl (K : PySem.W.Frag) (a : Addr) : It :=
 ⟨fun i H => ∃ xs x, SqL K H a xs ∧ xs[i]? = some x, fun i H x H' => H' = H ∧ ∀ xs, SqL K H a xs → xs[i]? = some x, fun i H => ∃ xs, SqL K H a xs ∧ xs.length ≤ i⟩
noncomputable def Itt (K : PySem.W.Frag) (a : Addr) : It :=
 ⟨fun i H => ∃ xs x, SqT K H a xs ∧ xs[i]? = some x, fun i H x H' => H' = H ∧ ∀ xs, SqT K H a xs → xs[i]? = some x, fun i H => ∃ xs, SqT K H a xs ∧ xs.length ≤ i⟩
noncomputable def Itr (lo : Int) (n : Nat) : It := ⟨fun i _ => i < n, fun i H x H' => H' = H ∧ x = .int (lo + i), fun i _ => n ≤ i⟩
theorem Zjl {P : Program} {w : World} {K : PySem.W.Frag} {tg : Expr} (a it : Addr) : Turn P w K tg (Itl K a) [it] it (fun i h => h.IsListIter it a i) where
 mem := by simp
 obj := fun i h st b hb => by
  have e : b = it := by simpa using hb
  subst e
  obtain ⟨o, e, c, d⟩ := st
  exact ⟨o, e, fun v z => by rw [d] at z; cases z⟩
 keep := fun i h h' st k => st.at fun o e => k it (by simp) o e
 item := by
  intro X hP hw hK hc i pins s σ H E I hf st hg
  subst hP hw hK
  obtain ⟨xs, x, hq, hx⟩ := hg
  obtain ⟨its, rv, p, hz⟩ := I.list hq
  obtain ⟨u, hu, ru⟩ := rv.get hx
  obtain ⟨f0, f1, f2, f3, f4, f5⟩ := hf it (by simp)
  refine wpAny_pyNext_list_item st p.isList (x := u) (by simpa using hu) fun h' st' sb => ?_
  have I1 : Inv X pins σ H { s with heap := h' } := I.turned (t' := s.toks) (fun b o hb e => (sb.2 b hb).trans e) f0 f1 f3 f4 f5
  obtain ⟨o, e, c, d⟩ := id st'
  exact ⟨u, rfl, Zi0 (s := { s with heap := h' }) e c d (by decide) ⟨x, H, I1, ru, ⟨rfl, fun ys hy => by rw [I.list_inj hy hq]; exact hx⟩, st', fun b hb => (hf b hb).1⟩⟩
 done := by
  intro X hP hw hK hc i pins s σ H E I hf st hg
  subst hP hw hK
  obtain ⟨xs, hq, hx⟩ := hg
  obtain ⟨its, rv, p, hz⟩ := I.list hq
  obtain ⟨f0, f1, f2, f3, f4, f5⟩ := hf it (by simp)
  have hl := rv.length
  exact wpAny_pyNext_list_end (I.ok.hd hc) st p.isList (by simp; omega) fun h' eb => ⟨rfl, I.turned (t' := s.toks) (fun b o hb e => eb b o hb e) f0 f1 f3 f4 f5⟩
 self := fun _ _ _ _ _ st h => wpAny_pyIter_listiter st h
theorem Ziw {P : Program} {w : World} {K : PySem.W.Frag} {tg : Expr} (a it : Addr) : Turn P w K tg (Itt K a) [it] it (fun i h => h.IsTupleIter it a i) where
 mem := by simp
 obj := fun i h st b hb => by
  have e : b = it := by simpa using hb
  subst e
  obtain ⟨o, e, c, d⟩ := st
  exact ⟨o, e, fun v z => by rw [d] at z; cases z⟩
 keep := fun i h h' st k => st.at fun o e => k it (by simp) o e
 item := by
  intro X hP hw hK hc i pins s σ H E I hf st hg
  subst hP hw hK
  obtain ⟨xs, x, hq, hx⟩ := hg
  obtain ⟨its, rv, p, hz⟩ := I.tuple hq
  obtain ⟨u, hu, ru⟩ := rv.get hx
  obtain ⟨f0, f1, f2, f3, f4, f5⟩ := hf it (by simp)
  refine wpAny_pyNext_tuple_item st (show s.heap.IsTuple a its.toArray from p) (x := u) (by simpa using hu) fun h' st' sb => ?_
  have I1 : Inv X pins σ H { s with heap := h' } := I.turned (t' := s.toks) (fun b o hb e => (sb.2 b hb).trans e) f0 f1 f3 f4 f5
  obtain ⟨o, e, c, d⟩ := id st'
  exact ⟨u, rfl, Zi0 (s := { s with heap := h' }) e c d (by decide) ⟨x, H, I1, ru, ⟨rfl, fun ys hy => by rw [I.tuple_inj hy hq]; exact hx⟩, st', fun b hb => (hf b hb).1⟩⟩
 done := by
  intro X hP hw hK hc i pins s σ H E I hf st hg
  subst hP hw hK
  obtain ⟨xs, hq, hx⟩ := hg
  obtain ⟨its, rv, p, hz⟩ := I.tuple hq
  obtain ⟨f0, f1, f2, f3, f4, f5⟩ := hf it (by simp)
  have hl := rv.length
  exact wpAny_pyNext_tuple_end (I.ok.hd hc) st (show s.heap.IsTuple a its.toArray from p) (by simp; omega) fun h' eb => ⟨rfl, I.turned (t' := s.toks) (fun b o hb e => eb b o hb e) f0 f1 f3 f4 f5⟩
 self := fun _ _ _ _ _ st h => wpAny_pyIter_tupleiter st h
theorem Zix {P : Program} {w : World} {K : PySem.W.Frag} {tg : Expr} (it : Addr) (lo : Int) (n : Nat) : Turn P w K tg (Itr lo n) [it] it (fun i h => IsRangeIter h it (lo + (i : Nat) * 1) ((n : Int) - (i : Nat)) 1) where
 mem := by simp
 obj := fun i h st b hb => by
  have e : b = it := by simpa using hb
  subst e
  exact ⟨_, st, fun v z => by
   have z' : Data.fields _ = Data.cell v := z
   cases z'⟩
 keep := fun i h h' st k => k it (by simp) _ st
 item := by
  intro X hP hw hK hc i pins s σ H E I hf st hg
  subst hP hw hK
  obtain ⟨f0, f1, f2, f3, f4, f5⟩ := hf it (by simp)
  have W := Walks.range (prog := X.prog) (w := X.w) (I.ok.hd hc) it lo 1 n
  refine W.item i s _ _ hg st fun v h' tk hv st' kk => ?_
  obtain ⟨t, rfl⟩ := hv
  have I1 : Inv X pins σ H { s with heap := h', toks := tk } := I.turned (fun b o hb e => kk b o (by simpa using hb) e) f0 f1 f3 f4 f5
  refine ⟨_, rfl, Zi0 (s := { s with heap := h', toks := tk }) (n := "range_iterator") st' rfl rfl (by decide) ⟨.int (lo + i), H, I1, ⟨t, ?_⟩, ⟨rfl, rfl⟩, st', fun b hb => (hf b hb).1⟩⟩
  rw [Int.mul_one]
 done := by
  intro X hP hw hK hc i pins s σ H E I hf st hg
  subst hP hw hK
  obtain ⟨f0, f1, f2, f3, f4, f5⟩ := hf it (by simp)
  exact wpAny_pyNext_range_end (I.ok.hd hc) st (by have : n ≤ i := hg; omega) fun h' eb => ⟨rfl, I.turned (t' := s.toks) (fun b o hb e => eb b o hb e) f0 f1 f3 f4 f5⟩
 self := fun _ _ _ _ _ st h => wpAny_pyIter_rangeiter st h
end L2
namespace L2
open PySem PySem.Spec PyProof.Rows
section
variable {X : Cx} {tg : Expr}
noncomputable def ZiZ (K : PySem.W.Frag) (tl : TE) : TI := fun σ H R => tl σ H fun x H1 => ∃ a, x = .ref a ∧ (∃ xs, SqL K H1 a xs) ∧ R (Itl K a) H1
noncomputable def iTup (K : PySem.W.Frag) (tl : TE) : TI := fun σ H R => tl σ H fun x H1 => ∃ a, x = .ref a ∧ (∃ xs, SqT K H1 a xs) ∧ R (Itt K a) H1
theorem ZfU {l : Expr} {tl : TE} (hl : PE X l tl) : PI X tg l (ZiZ X.K tl) := by
 intro pins s σ H R I h
 refine thn (hl pins s σ H _ I h) fun v s1 ⟨x, H1, I1, r1, q1⟩ => ?_
 obtain ⟨a, e, ⟨xs, hq⟩, q⟩ := q1
 subst e
 cases r1
 obtain ⟨its, rv, p, hz⟩ := I1.list hq
 refine wpAny_pyIter_list p.isList ?_
 refine ⟨s1.heap.objs.size, [s1.heap.objs.size], _, _, H1, rfl, I1.kept (t' := s1.toks) fun b o e => Heap.get?_push_of_some _ e, Zjl a _, ⟨_, Heap.get?_push_size _ rfl, rfl, rfl⟩, fun b hb => ?_, q⟩
 have e : b = s1.heap.objs.size := by simpa using hb
 subst e
 exact I1.fpOk (Nat.le_refl _) (I1.hok.fresh (Nat.le_refl _))
theorem ZmI {l : Expr} {tl : TE} (hl : PE X l tl) : PI X tg l (iTup X.K tl) := by
 intro pins s σ H R I h
 refine thn (hl pins s σ H _ I h) fun v s1 ⟨x, H1, I1, r1, q1⟩ => ?_
 obtain ⟨a, e, ⟨xs, hq⟩, q⟩ := q1
 subst e
 cases r1
 obtain ⟨its, rv, p, hz⟩ := I1.tuple hq
 refine wpAny_pyIter_tuple (show s1.heap.IsTuple a its.toArray from p) ?_
 refine ⟨s1.heap.objs.size, [s1.heap.objs.size], _, _, H1, rfl, I1.kept (t' := s1.toks) fun b o e => Heap.get?_push_of_some _ e, Ziw a _, ⟨_, Heap.get?_push_size _ rfl, rfl, rfl⟩, fun b hb => ?_, q⟩
 have e : b = s1.heap.objs.size := by simpa using hb
 subst e
 exact I1.fpOk (Nat.le_refl _) (I1.hok.fresh (Nat.le_refl _))
theorem Zg2 {pins : List (Addr × Obj)} {σ : St} {H : Hp} {s : Shared} {R : It → Hp → Prop} {E : Value → Shared → Prop} {lo hi : Int} {t u v : Tok} {tk : Nat} (I : Inv X pins σ H s) (h1 : -(2 ^ 62) ≤ lo) (h2 : lo < 2 ^ 62) (h3 : -(2 ^ 62) ≤ hi) (h4 : hi < 2 ^ 62)
  (q : R (Itr lo (hi - lo).toNat) H) : wpAny (model X.prog X.w) X.A (pyIter (.ref s.heap.objs.size)) (PIE X pins σ tg R) E { s with heap := s.heap.push { cls := .type "range", data := .fields #[.int lo t, .int hi u, .int 1 v] }, toks := tk } := by
 refine wpAny_pyIter_range (IsRange.new ..) (small_one h1 h2 h3 h4) ?_
 have I1 : Inv X pins σ H { s with heap := s.heap.push { cls := .type "range", data := .fields #[.int lo t, .int hi u, .int 1 v] }, toks := tk } := I.kept fun b o e => Heap.get?_push_of_some _ e
 refine ⟨(s.heap.push { cls := .type "range", data := .fields #[.int lo t, .int hi u, .int 1 v] }).objs.size, [(s.heap.push { cls := .type "range", data := .fields #[.int lo t, .int hi u, .int 1 v] }).objs.size], _, _, H, rfl,
  I1.kept (t' := tk) fun b o e => Heap.get?_push_of_some _ e, Zix _ lo (hi - lo).toNat, ?_, fun b hb => ?_, q⟩
 ·have e1 : lo + ((0 : Nat) : Int) * 1 = lo := by simp
  have e2 : (((hi - lo).toNat : Nat) : Int) - ((0 : Nat) : Int) = Builtin.Range.rangeSize lo hi 1 := by rw [rangeSize_one]; split <;> omega
  show IsRangeIter _ _ (lo + ((0 : Nat) : Int) * 1) ((((hi - lo).toNat : Nat) : Int) - ((0 : Nat) : Int)) 1
  rw [e1, e2]
  exact Heap.get?_push_size _ rfl
 ·have e : b = (s.heap.push { cls := .type "range", data := .fields #[.int lo t, .int hi u, .int 1 v] }).objs.size := by simpa using hb
  subst e
  exact I1.fpOk (Nat.le_refl _) (I1.hok.fresh (Nat.le_refl _))
noncomputable def ZnI (ta : TA) : TI := fun σ H R => ta σ H fun vs H1 => ∃ j : Int, vs = [.int j] ∧ -(2 ^ 62) ≤ j ∧ j < 2 ^ 62 ∧ R (Itr 0 j.toNat) H1
noncomputable def ZnH (ta : TA) : TI := fun σ H R => ta σ H fun vs H1 => ∃ i j : Int, vs = [.int i, .int j] ∧ (-(2 ^ 62) ≤ i ∧ i < 2 ^ 62 ∧ -(2 ^ 62) ≤ j ∧ j < 2 ^ 62) ∧ R (Itr i (j - i).toNat) H1
theorem Zgk {a : Expr} {ta : TA} {p pos : Pos} (hg : Gl X "range") (hm : X.mg "range" = none) (ha : PA X [a] ta) (hs : starEach [a] X.env = [(false, eval a X.env)] := by rfl) : PI X tg (.Call (.Name "range" p) [a] [] pos) (ZnI ta) := by
 intro pins s σ H R I h
 refine Call_ (ZcB I hg hm boot_range (PyProof.Rows.callWith_type1 (thn (ha pos pins s σ H _ I h) fun us s1 ⟨vs, H1, I1, r1, q1⟩ => ?_) hs rfl))
 obtain ⟨j, e, q1, q2, q⟩ := q1
 subst e
 cases r1 with
 | cons r rr =>
  cases rr
  obtain ⟨t, rfl⟩ := r
  exact call_range_1 (Zg2 I1 (by omega) (by omega) q1 q2 (by simpa using q))
theorem ZjH {a b : Expr} {ta : TA} {p pos : Pos} (hg : Gl X "range") (hm : X.mg "range" = none) (ha : PA X [a, b] ta) (hs : starEach [a, b] X.env = [(false, eval a X.env), (false, eval b X.env)] := by rfl) (hs2 : starEach [b] X.env = [(false, eval b X.env)] := by rfl) :
  PI X tg (.Call (.Name "range" p) [a, b] [] pos) (ZnH ta) := by
 intro pins s σ H R I h
 refine Call_ (ZcB I hg hm boot_range (PyProof.Rows.callWith_type1 (thn (ha pos pins s σ H _ I h) fun us s1 ⟨vs, H1, I1, r1, q1⟩ => ?_) (by rw [hs, hs2]) (by rw [hs2]; rfl)))
 obtain ⟨i, j, e, ⟨q1, q2, q3, q4⟩, q⟩ := q1
 subst e
 cases r1 with
 | cons r rr =>
  cases rr with
  | cons r' rr =>
   cases rr
   obtain ⟨t, rfl⟩ := r
   obtain ⟨t', rfl⟩ := r'
   exact call_range_2 (Zg2 I1 q1 q2 q3 q4 q)
noncomputable def tFor (wi : TI) (g : TG) (tb : TS) : TS := fun D σ H => wi σ H fun J H1 => ∃ W : Nat → Nat → St → Hp → Prop, (∃ m, W 0 m σ H1) ∧ ∀ i m σ H, W i m σ H →
 (J.stop i H ∧ D.nx σ H) ∨ (J.go i H ∧ ∃ N : St → Hp → Prop, (∀ σ' H', N σ' H' → ∃ m', m' < m ∧ W (i + 1) m' σ' H') ∧ ∀ x H', J.yld i H x H' → g x σ H' fun σ2 H2 => tb { D with nx := N, ct := N, bk := D.nx } σ2 H2)
noncomputable def Zel (fp : List Addr) (h : Heap) : List (Addr × Obj) := fp.filterMap fun b => (h.get? b).map fun o => (b, o)
theorem Zcr {fp : List Addr} {h : Heap} {b : Addr} {o : Obj} (hb : b ∈ fp) (e : h.get? b = some o) : (b, o) ∈ Zel fp h := List.mem_filterMap.mpr ⟨b, hb, by rw [e]; rfl⟩
theorem ZjR {fp : List Addr} {h : Heap} {p : Addr × Obj} (hp : p ∈ Zel fp h) : p.1 ∈ fp ∧ h.get? p.1 = some p.2 := by
 obtain ⟨b, hb, e⟩ := List.mem_filterMap.mp hp
 cases q : h.get? b with
 | none => rw [q] at e; cases e
 | some o =>
  rw [q] at e
  have e' : (b, o) = p := Option.some.inj e
  subst e'
  exact ⟨hb, q⟩
theorem Inv.pinned {pins : List (Addr × Obj)} {σ : St} {H : Hp} {s : Shared} {fp : List Addr} (I : Inv X pins σ H s) (hf : ∀ b ∈ fp, FpOk X pins H b) (ho : ∀ b ∈ fp, ∃ o, s.heap.get? b = some o ∧ ∀ v, o.data ≠ .cell v) : Inv X (pins ++ Zel fp s.heap) σ H s :=
 I.pins_of fun p hp => (List.mem_append.mp hp).elim (fun z => I.pin p (List.mem_append_right _ z)) fun z => by
  obtain ⟨hb, e⟩ := ZjR z
  obtain ⟨f0, f1, f2, _⟩ := hf p.1 hb
  obtain ⟨o, e', d⟩ := ho p.1 hb
  rw [e] at e'; cases e'
  exact ⟨e, f0, f1, f2, d⟩
theorem Inv.unpinned {pins pl : List (Addr × Obj)} {σ : St} {H : Hp} {s : Shared} (I : Inv X (pins ++ pl) σ H s) : Inv X pins σ H s := I.pins_of fun p hp => I.pin p (List.mem_append_right _ (List.mem_append_left _ hp))
theorem ZjC {iter : Expr} {body : List Stmt} {wi : TI} {g : TG} {tb : TS} {pos : Pos} (hp : PassesOwn (model X.prog X.w) X.A X.env X.xe) (hc : X.calm = true) (hi : PI X tg iter wi) (hg : PG X tg g) (hb : PSs X body tb)
  (hs : ∀ x, foldedSetIterable iter X.env x = pure x := by intro _; rfl) : PS X (.For tg iter body [] pos) (tFor wi g tb) := by
 intro pins s σ H D I h
 refine wpAny_For (thn (hi pins s σ H _ I h) fun v s1 h1 => thn h1 fun itv s2 h2 => ?_) hs
 obtain ⟨it, fp, tn, J, H2, e, I2, T, st2, f2, W, ⟨m0, w0⟩, turn⟩ := h2
 subst e
 -- what stays true of the iterator's objects through the loop
 have stat : ∀ {H' : Hp}, (∀ b ∈ fp, H' b = none) → ∀ b ∈ fp, FpOk X pins H' b := fun hn b hb => ⟨hn b hb, (f2 b hb).2⟩
 refine codeAny_forLoop_any (fun n s' => ∃ i σ' H', Inv X pins σ' H' s' ∧ tn i s'.heap ∧ (∀ b ∈ fp, H' b = none) ∧ W i n σ' H') ?_ m0 ⟨0, σ, H2, I2, st2, fun b hb => (f2 b hb).1, w0⟩
 rintro n s3 ⟨i, σ3, H3, I3, st3, fr3, w3⟩
 rcases turn i n σ3 H3 w3 with ⟨stop, qn⟩ | ⟨go, N, hN, step⟩
 ·refine wpAny_passesOwn hp (thn (T.done X rfl rfl rfl hc i pins s3 σ3 H3 X.xe I3 (stat fr3) st3 stop) fun r s4 ⟨hr, I4⟩ => ?_)
  subst hr
  exact wpAny_execs_nil ⟨σ3, H3, I4, qn⟩
 ·refine wpAny_passesOwn hp (thn (T.item X rfl rfl rfl hc i pins s3 σ3 H3 X.xe I3 (stat fr3) st3 go) fun r s4 ⟨u, hr, h4⟩ => ?_)
  subst hr
  refine wpAny_passesOwn hp (thn h4 fun _ s5 ⟨x, H5, I5, r5, y5, st5, fr5⟩ => ?_)
  have I5' := I5.pinned (stat fr5) (T.obj _ _ st5)
  refine wpAny_passesOwn hp (thn (hg _ s5 σ3 H5 x u _ I5' r5 (step x H5 y5)) fun _ s6 ⟨σ6, H6, I6, q6⟩ => ?_)
  refine wpAny_passesOwn hp (thn (hb _ s6 σ6 H6 _ I6 q6) fun f s7 q7 => ?_)
  have again : ∀ {σ7 : St} {H7 : Hp}, Inv X (pins ++ Zel fp s5.heap) σ7 H7 s7 → N σ7 H7 → ∃ m, m < n ∧ ∃ i σ' H', Inv X pins σ' H' s7 ∧ tn i s7.heap ∧ (∀ b ∈ fp, H' b = none) ∧ W i m σ' H' := fun {σ7 H7} I7 n7 => by
   obtain ⟨m', hm, w7⟩ := hN σ7 H7 n7
   refine ⟨m', hm, i + 1, σ7, H7, I7.unpinned, T.keep _ _ _ st5 fun b hb o e => (I7.pin (b, o) (List.mem_append_right _ (List.mem_append_right _ (Zcr hb e)))).1, fun b hb => ?_, w7⟩
   obtain ⟨o, e, d⟩ := T.obj _ _ st5 b hb
   exact (I7.pin (b, o) (List.mem_append_right _ (List.mem_append_right _ (Zcr hb e)))).2.1
  cases f with
  | next => obtain ⟨σ7, H7, I7, n7⟩ := q7; exact again I7 n7
  | cont => obtain ⟨σ7, H7, I7, n7⟩ := q7; exact again I7 n7
  | brk => obtain ⟨σ7, H7, I7, q7⟩ := q7; exact ⟨σ7, H7, I7.unpinned, q7⟩
  | ret v => obtain ⟨x7, σ7, H7, I7, r7, q7⟩ := q7; exact ⟨x7, σ7, H7, I7.unpinned, r7, q7⟩
end
end L2
namespace L2
open PySem PySem.Spec PyProof.Rows
noncomputable abbrev R2 := V → V → Hp → VK → Prop
noncomputable def OpR (X : Cx) (f : Value → Value → Sem Value) (r : R2) : Prop :=
 ∀ (pins : List (Addr × Obj)) (s : Shared) (σ : St) (H : Hp) (x y : V) (v u : Value) (Q : VK), Inv X pins σ H s → RelV x v → RelV y u → r x y H Q →
  wpAny (model X.prog X.w) X.A (f v u) (EP X pins σ Q) X.xe s
noncomputable def UnR (X : Cx) (f : Value → Sem Value) (r : V → Hp → VK → Prop) : Prop :=
 ∀ (pins : List (Addr × Obj)) (s : Shared) (σ : St) (H : Hp) (x : V) (v : Value) (Q : VK), Inv X pins σ H s → RelV x v → r x H Q →
  wpAny (model X.prog X.w) X.A (f v) (EP X pins σ Q) X.xe s
noncomputable def ZbY (X : Cx) (f : Value) (r : List V → Hp → VK → Prop) : Prop :=
 ∀ (pins : List (Addr × Obj)) (s : Shared) (σ : St) (H : Hp) (xs : List V) (us : List Value) (Q : VK), Inv X pins σ H s → Vals xs us → r xs H Q →
  wpAny (model X.prog X.w) X.A (call f us) (EP X pins σ Q) X.xe s
noncomputable def tOp (r : R2) (ta tb : TE) : TE := fun σ H Q => ta σ H fun x H1 => tb σ H1 fun y H2 => r x y H2 Q
noncomputable def tUn (r : V → Hp → VK → Prop) (ta : TE) : TE := fun σ H Q => ta σ H fun x H1 => r x H1 Q
noncomputable def rI (C : Int → Int → Prop) (g : Int → Int → V) : R2 := fun x y H Q => ∃ i j, x = .int i ∧ y = .int j ∧ C i j ∧ Q (g i j) H
noncomputable def rI0 (g : Int → Int → V) : R2 := fun x y H Q => ∃ i j, x = .int i ∧ y = .int j ∧ Q (g i j) H
noncomputable def rU (g : Int → V) : V → Hp → VK → Prop := fun x H Q => ∃ i, x = .int i ∧ Q (g i) H
section
variable {X : Cx} {a b c : Expr} {ta tb tc : TE} {pos : Pos}
theorem binT (ha : PE X a ta) (hb : PE X b tb) {pins : List (Addr × Obj)} {s : Shared} {σ : St} {H : Hp} {R : V → V → Hp → Prop} (I : Inv X pins σ H s)
  (h : ta σ H fun x H1 => tb σ H1 fun y H2 => R x y H2) {Q : Value → Shared → Prop} {f : Value → Value → Sem Value}
  (hf : ∀ v u s2 x y H2, Inv X pins σ H2 s2 → RelV x v → RelV y u → R x y H2 → wpAny (model X.prog X.w) X.A (f v u) Q X.xe s2) :
  wpAny (model X.prog X.w) X.A (eval a X.env) (fun v s₁ => wpAny (model X.prog X.w) X.A (eval b X.env) (fun u s₂ => wpAny (model X.prog X.w) X.A (f v u) Q X.xe s₂) X.xe s₁) X.xe s := by
 refine thn (ha pins s σ H _ I h) fun v s1 ⟨x, H1, I1, r1, q1⟩ => ?_
 refine thn (hb pins s1 σ H1 _ I1 q1) fun u s2 ⟨y, H2, I2, r2, q2⟩ => ?_
 exact hf v u s2 x y H2 I2 r1 r2 q2
theorem Za8 {op : Operator} {r : R2} (ho : OpR X (binaryOp op) r) (ha : PE X a ta) (hb : PE X b tb) : PE X (.BinOp a op b pos) (tOp r ta tb) := by
 intro pins s σ H Q I h
 exact wpAny_BinOp (binT ha hb I h fun v u s2 x y H2 I2 rx ry q => ho pins s2 σ H2 x y v u Q I2 rx ry q)
theorem ZnB {op : UnaryOp} {r : V → Hp → VK → Prop} (ho : UnR X (unaryOp op) r) (ha : PE X a ta) : PE X (.UnaryOp op a pos) (tUn r ta) := by
 intro pins s σ H Q I h
 exact UnaryOp_ (thn (ha pins s σ H _ I h) fun v s1 ⟨x, H1, I1, r1, q1⟩ => ho pins s1 σ H1 x v Q I1 r1 q1)
theorem opI {f : Value → Value → Sem Value} {C : Int → Int → Prop} {g : Int → Int → Int}
  (rule : ∀ (i j : Int) (t u : Tok) (s : Shared) (Q : Value → Shared → Prop) (E : Value → Shared → Prop), C i j → Q (.int (g i j) s.toks) { s with toks := s.toks + 1 } → wpAny (model X.prog X.w) X.A (f (.int i t) (.int j u)) Q E s) :
  OpR X f (rI C fun i j => .int (g i j)) := by
 intro pins s σ H x y v u Q I rx ry h
 obtain ⟨i, j, rfl, rfl, hc, q⟩ := h
 obtain ⟨t, rfl⟩ := rx
 obtain ⟨t', rfl⟩ := ry
 exact rule i j t t' s _ _ hc ⟨.int (g i j), H, I.tok _, ⟨_, rfl⟩, q⟩
theorem opI0 {f : Value → Value → Sem Value} {g : Int → Int → Int}
  (rule : ∀ (i j : Int) (t u : Tok) (s : Shared) (Q : Value → Shared → Prop) (E : Value → Shared → Prop), Q (.int (g i j) s.toks) { s with toks := s.toks + 1 } → wpAny (model X.prog X.w) X.A (f (.int i t) (.int j u)) Q E s) :
  OpR X f (rI0 fun i j => .int (g i j)) := by
 intro pins s σ H x y v u Q I rx ry h
 obtain ⟨i, j, rfl, rfl, q⟩ := h
 obtain ⟨t, rfl⟩ := rx
 obtain ⟨t', rfl⟩ := ry
 exact rule i j t t' s _ _ ⟨.int (g i j), H, I.tok _, ⟨_, rfl⟩, q⟩
theorem opB0 {f : Value → Value → Sem Value} {g : Int → Int → Bool}
  (rule : ∀ (i j : Int) (t u : Tok) (s : Shared) (Q : Value → Shared → Prop) (E : Value → Shared → Prop), Q (.bool (g i j)) s → wpAny (model X.prog X.w) X.A (f (.int i t) (.int j u)) Q E s) :
  OpR X f (rI0 fun i j => .bl (g i j)) := by
 intro pins s σ H x y v u Q I rx ry h
 obtain ⟨i, j, rfl, rfl, q⟩ := h
 obtain ⟨t, rfl⟩ := rx
 obtain ⟨t', rfl⟩ := ry
 exact rule i j t t' s _ _ ⟨.bl (g i j), H, I, rfl, q⟩
noncomputable def CDiv (i j : Int) : Prop := 0 < j ∧ j < 1073741824
noncomputable def CPow (i j : Int) : Prop := 0 ≤ j ∧ j ≤ 1000000 ∧ i.natAbs < 2 ^ 64
noncomputable def CMul (i j : Int) : Prop := (-(2 ^ 64) < i ∧ i < 2 ^ 64) ∨ (-(2 ^ 64) < j ∧ j < 2 ^ 64)
theorem CMul.ok {i j : Int} (h : CMul i j) : IntMulOk i j := by
 rcases h with ⟨h1, h2⟩ | ⟨h1, h2⟩
 ·exact .of_left (intBits_le_64 h1 h2)
 ·exact .of_right (intBits_le_64 h1 h2)
theorem ZcT : OpR X (binaryOp .Add) (rI0 fun i j => .int (i + j)) := opI0 fun _ _ _ _ _ _ _ q => add_int q
theorem ZmY : OpR X (binaryOp .Sub) (rI0 fun i j => .int (i - j)) := opI0 fun _ _ _ _ _ _ _ q => sub_int q
theorem ZdD : OpR X (binaryOp .Mult) (rI CMul fun i j => .int (i * j)) := opI fun _ _ _ _ _ _ _ hc q => mul_int q hc.ok
theorem Zia : OpR X (binaryOp .FloorDiv) (rI CDiv fun i j => .int (i / j)) := opI fun i j _ _ _ _ _ hc q => by
 have h1 : (0 : Int) < j := hc.1
 have h2 : j < 1073741824 := hc.2
 exact floordiv_int (by omega) (by rw [Int.fdiv_eq_ediv_of_nonneg i (by omega)]; exact q) (.inl (PyProof.noPylong_small (by omega)))
theorem ZcS : OpR X (binaryOp .Mod) (rI (fun _ j => 0 < j) fun i j => .int (i % j)) := opI fun i j _ _ _ _ _ hc q => by
 have h1 : (0 : Int) < j := hc
 exact mod_int' (by omega) (by rw [Int.fmod_eq_emod_of_nonneg i (by omega)]; exact q)
theorem ZmZ : OpR X (binaryOp .Pow) (rI CPow fun i j => .int (i ^ j.toNat)) := opI fun _ _ _ _ _ _ _ hc q => pow_int_small hc.1 hc.2.1 hc.2.2 q
theorem unI {f : Value → Sem Value} {g : Int → Int}
  (rule : ∀ (i : Int) (t : Tok) (s : Shared) (Q : Value → Shared → Prop) (E : Value → Shared → Prop), Q (.int (g i) s.toks) { s with toks := s.toks + 1 } → wpAny (model X.prog X.w) X.A (f (.int i t)) Q E s) :
  UnR X f (rU fun i => .int (g i)) := by
 intro pins s σ H x v Q I rx h
 obtain ⟨i, rfl, q⟩ := h
 obtain ⟨t, rfl⟩ := rx
 exact rule i t s _ _ ⟨.int (g i), H, I.tok _, ⟨_, rfl⟩, q⟩
theorem Zmv : UnR X (unaryOp .USub) (rU fun i => .int (-i)) := unI fun _ _ _ _ _ q => neg_int q
end
section
variable {X : Cx} {a b c : Expr} {ta tb tc : TE} {pos : Pos}
theorem Znk {pins : List (Addr × Obj)} {σ : St} {H : Hp} {s : Shared} {Q : VK} {k k' : Bool} (I : Inv X pins σ H s) (q : Q (.bl k) H) (e : k = k') : EP X pins σ Q (.bool k') s := by
 subst e
 exact ⟨.bl k, H, I, rfl, q⟩
theorem Zly : OpR X (compareOp .Lt) (rI0 fun i j => .bl (decide (i < j))) := opB0 fun _ _ _ _ _ _ _ q => lt_int q
theorem ZiO : OpR X (compareOp .Gt) (rI0 fun i j => .bl (decide (j < i))) := opB0 fun _ _ _ _ _ _ _ q => gt_int q
theorem ZnE : OpR X (compareOp .GtE) (rI0 fun i j => .bl (decide (j ≤ i))) := opB0 fun _ _ _ _ _ _ _ q => ge_int q
theorem Zm2 : OpR X (compareOp .Is) (fun x y H Q => y = .non ∧ Q (.bl (decide (x = .non))) H) := by
 intro pins s σ H x y v u Q I rx ry h
 obtain ⟨rfl, q⟩ := h
 cases ry
 refine is_none_gen (Znk I q ?_)
 cases x <;> first
  | (cases rx; rfl)
  | (obtain ⟨t, rfl⟩ := rx; rfl)
theorem OpR.or {f : Value → Value → Sem Value} {r r' : R2} (h : OpR X f r) (h' : OpR X f r') : OpR X f (fun x y H Q => r x y H Q ∨ r' x y H Q) := by
 intro pins s σ H x y v u Q I rx ry q
 rcases q with q | q
 ·exact h pins s σ H x y v u Q I rx ry q
 ·exact h' pins s σ H x y v u Q I rx ry q
theorem ZdF (b : Expr) {op : CmpOp} (h : op ≠ .In := by decide) (h2 : op ≠ .NotIn := by decide) : behindInMarks op b = false := by
 have e1 : (op == CmpOp.In) = false := by cases op <;> first | rfl | exact absurd rfl h
 have e2 : (op == CmpOp.NotIn) = false := by cases op <;> first | rfl | exact absurd rfl h2
 cases b <;> simp [behindInMarks, e1, e2]
theorem Zl3 {op : CmpOp} {r : R2} (ho : OpR X (compareOp op) r) (ha : PE X a ta) (hb : PE X b tb) (hm : behindInMarks op b = false) : PE X (.Compare a [op] [b] pos) (tOp r ta tb) := by
 intro pins s σ H Q I h
 exact wpAny_Compare1 (binT ha hb I h fun v u s2 x y H2 I2 rx ry q => ho pins s2 σ H2 x y v u Q I2 rx ry q) hm
noncomputable def Zfm (t : TE) : TT := fun σ H Q => t σ H fun x H' => ∃ k, x = .bl k ∧ Q k H'
theorem ZdA {op : CmpOp} {r : R2} (ho : OpR X (compareOp op) r) (ha : PE X a ta) (hb : PE X b tb) (hm : behindInMarks op b = false) : PT X (.Compare a [op] [b] pos) (Zfm (tOp r ta tb)) := by
 intro pins s σ H Q I h
 refine wpAny_isTrue_Compare1 (thn (ha pins s σ H _ I h) fun v s1 ⟨x, H1, I1, r1, q1⟩ => thn (hb pins s1 σ H1 _ I1 q1) fun u s2 ⟨y, H2, I2, r2, q2⟩ =>
  thn (ho pins s2 σ H2 x y v u _ I2 r1 r2 q2) fun c s3 ⟨z, H3, I3, r3, k, e, q3⟩ => ?_) hm
 subst e
 cases r3
 exact wpAny_truthy_bool ⟨H3, I3, q3⟩
theorem ZfD : (sizeLine : Nat) < 2 ^ 63 := by rw [sizeLine_eq]; decide
theorem Zdm {x : V} {us : List Value} (r : Vals [x] us) : ∃ u, us = [u] ∧ RelV x u := by
 cases r with
 | cons r1 r2 => cases r2; exact ⟨_, rfl, r1⟩
theorem Ziv {x y : V} {us : List Value} (r : Vals [x, y] us) : ∃ u w', us = [u, w'] ∧ RelV x u ∧ RelV y w' := by
 cases r with
 | cons r1 r2 =>
  cases r2 with
  | cons r3 r4 => cases r4; exact ⟨_, _, rfl, r1, r3⟩
theorem Zko (hc : X.calm = true) : ZbY X (.builtin "max") (fun xs H Q => ∃ i j, xs = [.int i, .int j] ∧ Q (.int (if j > i then j else i)) H) := by
 intro pins s σ H xs us Q I r h
 obtain ⟨i, j, rfl, q⟩ := h
 obtain ⟨u, w', rfl, ⟨t, rfl⟩, ⟨t', rfl⟩⟩ := Ziv r
 refine max_two_ints (I.ok.hd hc) fun h' tk k => ⟨_, H, I.kept k, ?_, q⟩
 by_cases hj : j > i
 ·rw [if_pos hj, if_pos hj]; exact ⟨_, rfl⟩
 ·rw [if_neg hj, if_neg hj]; exact ⟨_, rfl⟩
theorem Zkn (hc : X.calm = true) : ZbY X (.builtin "min") (fun xs H Q => ∃ i j, xs = [.int i, .int j] ∧ Q (.int (if j < i then j else i)) H) := by
 intro pins s σ H xs us Q I r h
 obtain ⟨i, j, rfl, q⟩ := h
 obtain ⟨u, w', rfl, ⟨t, rfl⟩, ⟨t', rfl⟩⟩ := Ziv r
 refine min_two_ints (I.ok.hd hc) fun h' tk k => ⟨_, H, I.kept k, ?_, q⟩
 by_cases hj : j < i
 ·rw [if_pos hj, if_pos hj]; exact ⟨_, rfl⟩
 ·rw [if_neg hj, if_neg hj]; exact ⟨_, rfl⟩
end
end L2
namespace L2
open PySem PySem.Spec PyProof.Rows
structure ObjM (h : Heap) (x dx C : Addr) (mA : Str → Option Value) : Prop where
 obj : h.get? x = some (PySem.W.instObj C dx)
 ns : h.Ns1 dx mA
 ne : dx ≠ x
theorem ZjY {h : Heap} {dx : Addr} {mA : Str → Option Value} (n : h.Ns1 dx mA) : ∃ od, h.get? dx = some od ∧ ∀ name, PySem.W.lookIn name od = some (mA name) := by
 obtain ⟨o, es, ep, ho, hd, hk, _, hm⟩ := n
 refine ⟨o, ho, fun name => ?_⟩
 have e := hm name
 unfold nsFind findBy at e
 rw [← Array.find?_toList] at e
 unfold PySem.W.lookIn
 rw [hd]
 dsimp only
 split
 ·rename_i y q
  rw [q] at e
  exact congrArg some e
 ·rename_i q
  rw [q] at e
  have a : es.toList.any (·.refKey) = false := by
   rw [List.any_eq_false]
   intro y hy
   obtain ⟨z, t, hkey⟩ := hk y (Array.mem_toList_iff.mp hy)
   simp [DictEntry.refKey, hkey]
  have a' : ¬ es.toList.any (·.refKey) = true := by rw [a]; exact Bool.false_ne_true
  rw [if_neg a']
  exact congrArg some e
theorem ObjM.look {h : Heap} {x dx C : Addr} {mA : Str → Option Value} (I : ObjM h x dx C mA) : ∃ od, PySem.W.InstAt h x (PySem.W.instObj C dx) C (some od) ∧ ∀ name, PySem.W.lookIn name od = some (mA name) :=
 let ⟨od, ho, hl⟩ := ZjY I.ns
 ⟨od, ⟨I.obj, rfl, rfl, ho⟩, hl⟩
section
variable {prog : Program} {w : World} {A : Around} {E : Value → Shared → Prop} {s : Shared} {K : PySem.W.Frag} {x dx C f : Addr} {mA : Str → Option Value} {name : Str} {v : Value}
end
theorem RelO.some_of {v : V} {o : Option Value} (r : RelO (some v) o) : ∃ u, o = some u ∧ RelV v u := by
 cases o with
 | none => exact (show False from r).elim
 | some u => exact ⟨u, rfl, r⟩
section
variable {P : Program} {w : World} {H H' : Hp} {h h' : Heap} {a C dx : Addr} {fs fs' : List (Str × V)}
theorem Zmh (hok : HOk P w H h) (e : H a = some (.ins C dx fs)) : ∃ mA, ObjM h a dx C mA ∧ (∀ f, RelO (fs.lookup f) (mA f)) ∧ PySem.Within mA (fs.map (·.1)) ∧ fs.length ≤ 1000 ∧ H dx = some (.own a) := by
 obtain ⟨d, z, ne, ob, mA, n, r, q⟩ := (show ZaM P w H h a (.ins C dx fs) from hok a _ e)
 exact ⟨mA, ⟨ob, n, ne⟩, r, q, z, d⟩
end
structure Cls (K : PySem.W.Frag) (C : Addr) : Prop where
 pg : PySem.W.plainGet K C Str.empty = true
 hd : PySem.W.hasDictIn K C = true
 po : PySem.W.plainOver K C = true
 sa : PySem.W.findIn K (.ref C) "__setattr__" = some (some (.builtin "object.__setattr__"))
theorem Cls.get {K : PySem.W.Frag} {C : Addr} (c : Cls K C) (f : Str) : PySem.W.plainGet K C f = true := c.pg
section
variable {X : Cx} {pins : List (Addr × Obj)} {σ : St} {H : Hp} {s : Shared} {a C dx : Addr} {fs : List (Str × V)} {f : Str} {v : V} {A : Around} {E : Value → Shared → Prop}
end
section
variable {X : Cx} {o e value : Expr} {f : Str} {pos pos' tpos : Pos} {ta tv : TE}
end
section
variable {X : Cx} {pins : List (Addr × Obj)} {σ : St} {H : Hp} {s : Shared} {A : Around} {E : Value → Shared → Prop} {Q : Value → Shared → Prop} {c : Value} {b : Bool}
inductive TyOf (K : PySem.W.Frag) (H : Hp) : V → Value → Prop where
 | non : TyOf K H .non (.type "NoneType")
 | bl (x : Bool) : TyOf K H (.bl x) (.type "bool")
 | int (i : Int) : TyOf K H (.int i) (.type "int")
 | str (x : Str) : TyOf K H (.str x) (.type "str")
 | flt (x : UInt64) : TyOf K H (.flt x) (.type "float")
 | lst {a : Addr} {xs : List V} (e : H a = some (.lst xs)) : TyOf K H (.ref a) (.type "list")
 | frz {a : Addr} {o : Obj} {xs : List V} (e : H a = some (.frz o (.lst xs))) : TyOf K H (.ref a) (.type "list")
 | tup {a : Addr} {xs : List V} (e : H a = some (.tup xs)) : TyOf K H (.ref a) (.type "tuple")
 | dK {a : Addr} {kvs : List (Key × V)} (e : H a = some (.dK kvs)) : TyOf K H (.ref a) (.type "dict")
 | dT {a : Addr} {kvs : List (List Key × V)} (e : H a = some (.dT kvs)) : TyOf K H (.ref a) (.type "dict")
 | ins {a C dx : Addr} {fs : List (Str × V)} (e : H a = some (.ins C dx fs)) (cl : Cls K C) (ha : PySem.W.findIn K (.ref C) "__class__" = some (some (.builtin "object.__class__")))
   (hn : PySem.W.specialIn K (.builtin "object.__class__") "__get__" = some (some (.builtin "getset_descriptor.__get__"))) (htk : PySem.W.takesIn K (.builtin "object.__class__") = some true)
   (hm : PySem.W.mroIn K C (.type "object") = some true) : TyOf K H (.ref a) (.ref C)
theorem Zj5 {x : V} {u t : Value} (I : Inv X pins σ H s) (rx : RelV x u) (ty : TyOf X.K H x t) (e : PySem.W.kitOne X.K t c = some b) (h : ∀ tk, Q (.bool b) { s with toks := tk }) :
  wpAny (model X.prog X.w) A (call (.builtin "isinstance") [u, c]) Q E s := by
 cases ty with
 | non => cases (show u = Value.none from rx); exact PySem.W.kia_one PySem.W.kitx_none I.kIn True.intro e (fun z => nomatch z) h
 | bl y => cases (show u = Value.bool y from rx); exact PySem.W.kia_one PySem.W.kitx_bool I.kIn True.intro e (fun z => nomatch z) h
 | int i => obtain ⟨t, q⟩ := (show ∃ t, u = Value.int i t from rx); cases q; exact PySem.W.kia_one PySem.W.kitx_int I.kIn True.intro e (fun z => nomatch z) h
 | str y => obtain ⟨t, q⟩ := (show ∃ t, u = Value.str y t from rx); cases q; exact PySem.W.kia_one PySem.W.kitx_str I.kIn True.intro e (fun z => nomatch z) h
 | flt y => obtain ⟨t, q⟩ := (show ∃ t, u = Value.float y t from rx); cases q; exact PySem.W.kia_one PySem.W.kitx_float I.kIn True.intro e (fun z => nomatch z) h
 | @lst a xs ea =>
  cases (show u = Value.ref a from rx)
  obtain ⟨_, _, n, _, h1⟩ := (show ZaM X.prog X.w H s.heap a (.lst xs) from I.hok a _ ea)
  exact PySem.W.kia_one PySem.W.kitx_list I.kIn ⟨_, h1, rfl⟩ e (fun z => nomatch z) h
 | @frz a ob xs ea =>
  cases (show u = Value.ref a from rx)
  obtain ⟨_, _, _, n, _, h1⟩ := (show ZaM X.prog X.w H s.heap a (.frz ob (.lst xs)) from I.hok a _ ea)
  exact PySem.W.kia_one PySem.W.kitx_list I.kIn ⟨_, h1, rfl⟩ e (fun z => nomatch z) h
 | @tup a xs ea =>
  cases (show u = Value.ref a from rx)
  obtain ⟨_, _, _, p⟩ := (show ZaM X.prog X.w H s.heap a (.tup xs) from I.hok a _ ea)
  obtain ⟨o, h1, h2, _⟩ := p
  exact PySem.W.kia_one PySem.W.kitx_tuple I.kIn ⟨o, h1, h2⟩ e (fun z => nomatch z) h
 | @dK a kvs ea =>
  cases (show u = Value.ref a from rx)
  obtain ⟨_, _, vs, _, p⟩ := (show ZaM X.prog X.w H s.heap a (.dK kvs) from I.hok a _ ea)
  obtain ⟨o, es, ep, h1, h2, _⟩ := p
  exact PySem.W.kia_one PySem.W.kitx_dict I.kIn ⟨o, h1, h2.1⟩ e (fun z => nomatch z) h
 | @dT a kvs ea =>
  cases (show u = Value.ref a from rx)
  obtain ⟨_, _, xs, _, o, es, ep, h1, h2, _⟩ := (show ZaM X.prog X.w H s.heap a (.dT kvs) from I.hok a _ ea)
  exact PySem.W.kia_one PySem.W.kitx_dict I.kIn ⟨o, h1, h2.1⟩ e (fun z => nomatch z) h
 | @ins a C dx fs ea cl ha hn htk hm =>
  cases (show u = Value.ref a from rx)
  obtain ⟨mA, O, _⟩ := Zmh I.hok ea
  obtain ⟨od, J, _⟩ := O.look
  exact PySem.W.kia_one (PySem.W.kitx_own (cl.get _) cl.hd ha hn htk hm) I.kIn J e (fun z => nomatch z) h
end
end L2
namespace L2
open PySem PySem.Spec PyProof.Rows
structure Room (k : Nat) (A : Around) : Prop where
 hd : A.handled = none
 dp : A.depth + 3 * k + 5 < recursionLimit
 un : A.units + 16 * k + 200 < cLine
 gd : A.guards = some []
theorem Room.mono {j k : Nat} {A : Around} (r : Room k A) (h : j ≤ k) : Room j A := ⟨r.hd, by have := r.dp; omega, by have := r.un; omega, r.gd⟩
theorem Room.deeper {k : Nat} {A : Around} (r : Room (k + 1) A) (env : Env) : Room k (A.deeper env) :=
 ⟨r.hd, by have := r.dp; show A.depth + 1 + 3 * k + 5 < _; omega, by have := r.un; show A.units + 3 + 16 * k + 200 < _; omega, r.gd⟩
theorem Room.depth {k : Nat} {A : Around} (r : Room k A) : A.depth < recursionLimit := by have := r.dp; omega
theorem Room.units {k : Nat} {A : Around} (r : Room k A) : A.units + 64 < cLine := by have := r.un; omega
theorem Room.units0 {k : Nat} {A : Around} (r : Room k A) : A.units < cLine := by have := r.un; omega
noncomputable def tNil : TA := fun _ H Q => Q [] H
noncomputable def Zc0 (ta : TE) (tr : TA) : TA := fun σ H Q => ta σ H fun x H1 => tr σ H1 fun xs H2 => Q (x :: xs) H2
section
variable {X : Cx} {e : Expr} {es : List Expr} {te : TE} {t : TA} {pos : Pos}
theorem Zbs : PA X [] tNil := fun _ _ _ _ H Q I h => Calls.spliced_nil ⟨[], H, I, .nil, h⟩
theorem ZaV (ha : PE X e te) (hr : PA X es t) (hs : starEach (e :: es) X.env = (false, eval e X.env) :: starEach es X.env := by rfl) : PA X (e :: es) (Zc0 te t) := by
 intro pos pins s σ H Q I h
 rw [hs]
 show wpAny _ _ (spliced ((false, eval e X.env) :: backTo pos (starEach es X.env))) _ _ s
 refine Calls.spliced_cons (thn (ha pins s σ H _ I h) fun u s1 ⟨x, H1, I1, r1, q1⟩ => ?_)
 exact thn (hr pos pins s1 σ H1 _ I1 q1) fun us s2 ⟨xs, H2, I2, r2, q2⟩ => ⟨x :: xs, H2, I2, .cons r1 r2, q2⟩
noncomputable def tTup (t : TA) : TE := fun σ H Q => t σ H fun xs H1 => xs.length ≤ sizeLine ∧ ∀ p, H1 p = none → Q (.ref p) (upd H1 p (.tup xs))
noncomputable def tLst (t : TA) : TE := fun σ H Q => t σ H fun xs H1 => xs.length ≤ sizeLine ∧ ∀ p, H1 p = none → Q (.ref p) (upd H1 p (.lst xs))
theorem ZmM {x1} (h : PA X es t) : PE X (.Tuple es x1 pos) (tTup t) := by
 intro pins s σ H Q I hq
 refine wpAny_Tuple_spliced (thn (h pos pins s σ H _ I hq) fun us s1 ⟨xs, H1, I1, r, z, q⟩ => ⟨by rw [← r.length]; exact z, ?_⟩)
 have hf : H1 s1.heap.objs.size = none := I1.hok.fresh (Nat.le_refl _)
 refine ⟨.ref s1.heap.objs.size, upd H1 s1.heap.objs.size (.tup xs), I1.laid (t' := s1.toks) (fun b u e => Heap.get?_push_of_some _ e) (Nat.le_refl _) ?_, rfl, q _ hf⟩
 exact ⟨z, us, r, ⟨_, Heap.get?_push_size _ rfl, rfl, _, rfl⟩⟩
theorem ZmQ (h : PA X es t) : PE X (.List es pos) (tLst t) := by
 intro pins s σ H Q I hq
 refine wpAny_List_spliced (thn (h pos pins s σ H _ I hq) fun us s1 ⟨xs, H1, I1, r, z, q⟩ => ⟨by rw [← r.length]; exact z, ?_⟩)
 have hf : H1 s1.heap.objs.size = none := I1.hok.fresh (Nat.le_refl _)
 refine ⟨.ref s1.heap.objs.size, upd H1 s1.heap.objs.size (.lst xs), I1.laid (t' := s1.toks) (fun b u e => Heap.get?_push_of_some _ e) (Nat.le_refl _) ?_, rfl, q _ hf⟩
 exact ⟨z, us, 0, r, Heap.get?_push_size _ rfl⟩
end
noncomputable abbrev Sp := List V → Hp → VK → XK → Prop
noncomputable abbrev CXT := List Env → Hp → Shared → XK → Value → Shared → Prop
structure Env0 (P : Program) (w : World) (K : PySem.W.Frag) (mg : Str → Option Value) (base : Heap) (A : Around) (outer : List Env) (s : Shared) (H : Hp) : Prop where
 frames : A.frames = some outer
 mod : Mod K mg base
 bs : ∀ b o, base.get? b = some o → s.heap.get? b = some o ∧ H b = none
 bsz : base.objs.size ≤ s.heap.objs.size
 funs : s.heap.FunFrames base outer
 frf : ∀ b ∈ frs outer, H b = none
 hok : HOk P w H s.heap
 bare : AllBare s.gens
noncomputable def CE (outer : List Env) (P : Program) (w : World) (H : Hp) (s : Shared) (Q : VK) (u : Value) (s' : Shared) : Prop :=
 ∃ v H', s'.os = s.os ∧ AllBare s'.gens ∧ Un (frs outer) [] H H' s.heap s'.heap ∧ HOk P w H' s'.heap ∧ RelV v u ∧ Q v H'
noncomputable def CR (CX : CXT) (outer : List Env) (P : Program) (w : World) (H : Hp) (s : Shared) (Q : VK) (E : XK) (r : Result) (s' : Shared) : Prop :=
 match r with
 | .ok (.ret u) => CE outer P w H s Q u s'
 | .ok _ => False
 | .error e => CX outer H s E e s'
structure FnOk (P : Program) (w : World) (K : PySem.W.Frag) (mg : Str → Option Value) (base : Heap) (CX : CXT) (k : Nat) (f : Addr) (fd : FuncData) (ps : List Str) (sp : Sp) : Prop where
 len : ∀ vs H Q E, sp vs H Q E → vs.length = ps.length
 run : ∀ (A : Around) (outer : List Env) (s : Shared) (H : Hp) (args : Args) (us : List Value) (vs : List V) (Q : VK) (E : XK), Room k A → Env0 P w K mg base A outer s H → BindsTo s fd args (ps.zip us) → Vals vs us → sp vs H Q E →
  codeAny (model P w) A (.call (.ref f) args) (CR CX outer P w H s Q E) s
theorem FnOk.mono {P : Program} {w : World} {K : PySem.W.Frag} {mg : Str → Option Value} {base : Heap} {CX : CXT} {j k : Nat} {f : Addr} {fd : FuncData} {ps : List Str} {sp : Sp} (F : FnOk P w K mg base CX j f fd ps sp) (h : j ≤ k) :
  FnOk P w K mg base CX k f fd ps sp := ⟨F.len, fun A outer s H args us vs Q E hr => F.run A outer s H args us vs Q E (hr.mono h)⟩
theorem FnOk.imp {P : Program} {w : World} {K : PySem.W.Frag} {mg : Str → Option Value} {base : Heap} {CX : CXT} {k : Nat} {f : Addr} {fd : FuncData} {ps : List Str} {sp sp' : Sp} (F : FnOk P w K mg base CX k f fd ps sp)
  (h : ∀ vs H Q E, sp' vs H Q E → sp vs H Q E) : FnOk P w K mg base CX k f fd ps sp' :=
 ⟨fun vs H Q E q => F.len vs H Q E (h _ _ _ _ q), fun A outer s H args us vs Q E hr he hb hv hs => F.run A outer s H args us vs Q E hr he hb hv (h _ _ _ _ hs)⟩
section
variable {X : Cx} {pins : List (Addr × Obj)} {σ : St} {H : Hp} {s s' : Shared}
theorem Inv.env0 (I : Inv X pins σ H s) : Env0 X.prog X.w X.K X.mg X.base X.A X.stack s H :=
 ⟨I.ok.frames, I.ok.mod, I.bs, Nat.le_trans I.ok.bsz I.sz, I.stack, I.stkFree, I.hok, I.bare⟩
theorem Inv.after {Q : VK} {u : Value} (I : Inv X pins σ H s) (h : CE X.stack X.prog X.w H s Q u s') : EP X pins σ Q u s' := by
 obtain ⟨v, H', os, bare, un, hok, r, q⟩ := h
 obtain ⟨hh, g, d, t, os'⟩ := s'
 obtain rfl : os' = s.os := os
 exact ⟨v, H', I.call (h' := hh) (g' := g) (d' := d) (t' := t) (ch := []) un hok bare (fun b z => absurd z (by simp)), r, q⟩
end
noncomputable def Znt (sp : Sp) (dvs : List V) (E : XK) (t : TA) : TE := fun σ H Q => t σ H fun vs H1 => sp (vs ++ dvs) H1 Q E
noncomputable def ZbR (K : PySem.W.Frag) (fd : FuncData) (ps : List Str) (ds : List Value) : Prop :=
 ∀ (s : Shared) (us : List Value), K.In s.heap → (us ++ ds).length = ps.length → BindsTo s fd ⟨us, []⟩ (ps.zip (us ++ ds))
theorem ZbR.all {K : PySem.W.Frag} {fd : FuncData} {ps : List Str} (h : ∀ us : List Value, us.length = ps.length → bindArgs fd ⟨us, []⟩ = pure (ps.zip us)) : ZbR K fd ps [] := fun s us _ hl => by
 rw [List.append_nil] at hl ⊢
 exact .of_eq (h us hl)
noncomputable def ZfO (CX : CXT) (X : Cx) (E : XK) : Prop := ∀ (pins : List (Addr × Obj)) (σ : St) (H : Hp) (s : Shared) (e : Value) (s' : Shared), Inv X pins σ H s → CX X.stack H s E e s' → X.xe e s'
section
variable {X : Cx} {CX : CXT} {k : Nat} {f C : Addr} {fd : FuncData} {ps : List Str} {sp : Sp} {dvs : List V} {ds : List Value} {E : XK} {x m : Str} {p pos apos : Pos} {e o : Expr} {es : List Expr} {ta : TE} {t : TA}
theorem Zjx {pins : List (Addr × Obj)} {σ : St} {H : Hp} {s : Shared} {Q : VK} {us : List Value} {vs : List V} (F : FnOk X.prog X.w X.K X.mg X.base CX k f fd ps sp) (hr : Room k X.A) (hb : ZbR X.K fd ps ds) (hd : Vals dvs ds) (hx : ZfO CX X E)
  (I : Inv X pins σ H s) (r : Vals vs us) (h : sp (vs ++ dvs) H Q E) : wpAny (model X.prog X.w) X.A (call (.ref f) us) (EP X pins σ Q) X.xe s := by
 have r2 : Vals (vs ++ dvs) (us ++ ds) := r.append hd
 have hl : (us ++ ds).length = ps.length := by rw [← r2.length]; exact F.len _ _ _ _ h
 refine wpAny_call (codeAny_mono (F.run X.A X.stack s H ⟨us, []⟩ (us ++ ds) (vs ++ dvs) Q E hr I.env0 (hb s us I.kIn hl) r2 h) fun r s' hq => ?_)
 cases r with
 | error e => exact hx pins σ H s e s' I hq
 | ok fl =>
  cases fl with
  | ret u => exact I.after hq
  | next => exact False.elim hq
  | brk => exact False.elim hq
  | cont => exact False.elim hq
theorem Zh6 (F : FnOk X.prog X.w X.K X.mg X.base CX k f fd ps sp) (hr : Room k X.A) (hg : Gl X x) (hm : X.mg x = some (.ref f)) (hk : PySem.W.keepIn X.K (.ref f) = true) (hb : ZbR X.K fd ps ds) (hd : Vals dvs ds) (hx : ZfO CX X E)
  (ha : PA X (e :: es) t) (hdb : (x == ("__debug__" : Str)) = false := by decide) (he : starEach (e :: es) X.env = (false, eval e X.env) :: starEach es X.env := by rfl) (hpl : (backTo pos (starEach es X.env)).any (·.1) = false := by rfl) :
  PE X (.Call (.Name x p) (e :: es) [] pos) (Znt sp dvs E t) := by
 intro pins s σ H Q I h
 refine wpAny_Call_Name_kw (Zf2 I hg hm ?_ hdb)
 refine PySem.W.callWith_K (h₀ := X.base) I.ok.mod.kin hk (thn (ha pos pins s σ H _ I h) fun us s1 ⟨vs, H1, I1, r, q⟩ => ⟨I1.kIn, ?_⟩) he hpl
 exact Zjx F hr hb hd hx I1 r q
end
section
variable {X : Cx} {CX : CXT} {k : Nat} {f C : Addr} {fd : FuncData} {ps ks : List Str} {sp : Sp} {E : XK} {x m : Str} {p pos apos kpos : Pos} {e o : Expr} {es : List Expr} {kws : List Keyword} {te ta : TE} {t tk : TA} {nm : Option Str}
variable {g : List Value → List Value → List Value} {gV : List V → List V → List V}
end
structure FnScope (N P : List Str) (sc : Scope) : Prop where
 kind : sc.kind = .function
 co : sc.isCoroutine = false
 gen : sc.isGenerator = false
 nd : N.Nodup
 pre : N.take P.length = P
 par : ∀ x ∈ P, sc.names.lookup x = some .local ∨ sc.names.lookup x = some .cell
 nofree : ∀ y ∈ sc.names, y.2 ≠ .free
theorem Zgw {kindOf : Str → Option NameKind} {x : Str} : ∀ {binds : List (Str × Value)} {m : Str → Option Value}, (∀ v, (x, v) ∉ binds) → bindL kindOf binds m x = m x
 | [], _, _ => rfl
 | (n, v) :: r, m, h => by
  unfold bindL
  rw [Zgw fun w hw => h w (List.mem_cons_of_mem _ hw)]
  split
  ·have : x ≠ n := by rintro rfl; exact h v List.mem_cons_self
   simp [this]
  ·rfl
theorem Zgy {kindOf : Str → Option NameKind} {x : Str} : ∀ {binds : List (Str × Value)} {m : Str → Option Value}, (∀ v, (x, v) ∉ binds) → bindC kindOf binds m x = m x
 | [], _, _ => rfl
 | (n, v) :: r, m, h => by
  unfold bindC
  rw [Zgy fun w hw => h w (List.mem_cons_of_mem _ hw)]
  split
  ·rfl
  ·have : x ≠ n := by rintro rfl; exact h v List.mem_cons_self
   simp [this]
theorem Zgx {kindOf : Str → Option NameKind} {x : Str} {v : Value} : ∀ {P : List Str} {vs : List Value} {i : Nat} {m : Str → Option Value}, P.Nodup → P[i]? = some x → vs[i]? = some v → kindOf x = some .local →
  bindL kindOf (P.zip vs) m x = some v
 | [], _, _, _, _, h, _, _ => by simp at h
 | _ :: _, [], _, _, _, _, h, _ => by simp at h
 | p :: P, w :: vs, 0, m, nd, h1, h2, hk => by
  simp at h1 h2; subst h1; subst h2
  show bindL kindOf ((p, w) :: P.zip vs) m p = _
  unfold bindL
  rw [Zgw fun v hv => (List.nodup_cons.mp nd).1 (List.of_mem_zip hv).1, if_pos hk]
  simp
 | p :: P, w :: vs, i + 1, m, nd, h1, h2, hk => by
  show bindL kindOf ((p, w) :: P.zip vs) m x = _
  unfold bindL
  exact Zgx (i := i) (List.nodup_cons.mp nd).2 (by simpa using h1) (by simpa using h2) hk
theorem Zgz {kindOf : Str → Option NameKind} {x : Str} {v : Value} : ∀ {P : List Str} {vs : List Value} {i : Nat} {m : Str → Option Value}, P.Nodup → P[i]? = some x → vs[i]? = some v → kindOf x ≠ some .local →
  bindC kindOf (P.zip vs) m x = some v
 | [], _, _, _, _, h, _, _ => by simp at h
 | _ :: _, [], _, _, _, _, h, _ => by simp at h
 | p :: P, w :: vs, 0, m, nd, h1, h2, hk => by
  simp at h1 h2; subst h1; subst h2
  show bindC kindOf ((p, w) :: P.zip vs) m p = _
  unfold bindC
  rw [Zgy fun v hv => (List.nodup_cons.mp nd).1 (List.of_mem_zip hv).1, if_neg hk]
  simp
 | p :: P, w :: vs, i + 1, m, nd, h1, h2, hk => by
  show bindC kindOf ((p, w) :: P.zip vs) m x = _
  unfold bindC
  exact Zgz (i := i) (List.nodup_cons.mp nd).2 (by simpa using h1) (by simpa using h2) hk
noncomputable def start (N : List Str) (vs : List V) : St := vs.map some ++ List.replicate (N.length - vs.length) none
noncomputable def cxOf (CX : CXT) (P : Program) (w : World) (K : PySem.W.Frag) (mg : Str → Option Value) (base : Heap) (N : List Str) (qual : Str) (scope : Scope) (f : Addr) (cd : Value) (A : Around) (outer : List Env) (s : Shared) (H : Hp) (E : XK) : Cx where
 prog := P
 w := w
 K := K
 mg := mg
 base := base
 A := A.deeper (envOfC qual scope s.heap.objs.size f cd)
 N := N
 s₀ := s
 H₀ := H
 env := envOfC qual scope s.heap.objs.size f cd
 outer := outer
 stack := envOfC qual scope s.heap.objs.size f cd :: outer
 ex := []
 calm := true
 fn := fun _ => true
 pn := []
 xe := fun e s' => wpAny (model P w) (A.deeper (envOfC qual scope s.heap.objs.size f cd)) (leaving (envOfC qual scope s.heap.objs.size f cd) e) (fun _ s'' => CX outer H s E e s'') (fun e' s'' => CX outer H s E e' s'') s'
theorem Zhx {sc : Scope} {n : Nat} {x : Str} (h : sc.names.lookup x = some .cell) : ∃ c, (cellsFrom n sc.names []).lookup x = some c := by
 have q := PySem.W.cellsFrom_some sc.names n [] (.inl h)
 exact Option.isSome_iff_exists.mp q
theorem Zj7 {CX : CXT} {P : Program} {w : World} {K : PySem.W.Frag} {mg : Str → Option Value} {base : Heap} {N ps : List Str} {qual : Str} {scope : Scope} {f : Addr} {cd : Value} {A : Around} {outer : List Env} {s s1 : Shared} {H : Hp} {E : XK} {us : List Value} {vs : List V}
  (S : FnScope N ps scope) (hd : A.handled = none) (e0 : Env0 P w K mg base A outer s H) (hl : vs.length = ps.length) (r : Vals vs us)
  (x : InCallC s s.heap.objs.size (bindL (envOfC qual scope s.heap.objs.size f cd).kindOf (ps.zip us) fun _ => none) (cellsFrom (s.heap.objs.size + 1) scope.names []) (bindC (envOfC qual scope s.heap.objs.size f cd).kindOf (ps.zip us) fun _ => none) s1) :
  Inv (cxOf CX P w K mg base N qual scope f cd A outer s H E) [] (start N vs) H s1 := by
 have hpl : ps.length ≤ N.length := by have := congrArg List.length S.pre; rw [List.length_take] at this; omega
 obtain ⟨h1, tk, rfl, hk⟩ := x.done
 have noA : ∀ b : Addr, b ∉ (cxOf CX P w K mg base N qual scope f cd A outer s H E).ex := fun b z => absurd (show b ∈ ([] : List Addr) from z) (by simp)
 refine ⟨⟨e0.mod, S.kind, rfl, rfl, Nat.le_refl _, fun y z c h1 h2 => ?_, fun y hy => ?_, fun y c _ h => ?_, fun _ => hd, Around.frames_deeper e0.frames, .inr ⟨rfl, rfl⟩, fun b z => absurd z (noA b), e0.bs, e0.bsz, fun b _ _ => noA b, fun b z => absurd z (noA b), e0.funs, e0.frf⟩,
  rfl, e0.bare, Un.kept hk, ⟨_, x.toInCall.ns, fun i y v h1 h2 h3 => ?_⟩, fun y c h => ⟨_, x.cell y c h⟩, e0.hok.fresh (Nat.le_refl _), fun y c h => ?_, fun p hp => absurd (show p ∈ ([] : List (Addr × Obj)) from hp) (by simp), e0.hok.kept hk, ?_⟩
 ·exact name_of_addr x.apart (PySem.mem_of_lookup h1) (PySem.mem_of_lookup h2)
 ·have hy : scope.names.lookup y = some .cell ∨ scope.names.lookup y = some .free := hy
  rcases hy with hy | hy
  ·exact Zhx hy
  ·exact absurd rfl (S.nofree _ (PySem.mem_of_lookup hy))
 ·exact Nat.le_of_lt (x.above y c (PySem.mem_of_lookup h))
 ·have hi : i < vs.length := by
   unfold start at h2
   by_cases hi : i < vs.length
   ·exact hi
   ·rw [List.getElem?_append_right (by simpa using hi)] at h2
    rw [List.getElem?_replicate] at h2
    split at h2 <;> cases h2
  have ha : vs[i]? = some v := by
   unfold start at h2
   rw [List.getElem?_append_left (by simpa using hi), List.getElem?_map] at h2
   cases e : vs[i]? with
   | none => rw [e] at h2; cases h2
   | some a => rw [e] at h2; cases h2; rfl
  obtain ⟨u, hu, rv⟩ := r.get ha
  have hp : ps[i]? = some y := by
   rw [← S.pre, List.getElem?_take_of_lt (by omega)]; exact h1
  have ndP : ps.Nodup := by rw [← S.pre]; exact S.nd.sublist (List.take_sublist _ _)
  refine ⟨u, rv, ?_⟩
  rcases S.par y (List.mem_of_getElem? hp) with k | k
  ·exact .inl ⟨k, Zgx ndP hp hu k⟩
  ·obtain ⟨c, e⟩ := Zhx (n := s.heap.objs.size + 1) k
   refine .inr ⟨.inl k, c, e, ?_⟩
   have q := x.cell y c e
   rw [Zgz ndP hp hu (by show scope.names.lookup y ≠ _; rw [k]; decide)] at q
   exact q
 ·exact e0.hok.fresh (Nat.le_of_lt (x.above y c (PySem.mem_of_lookup h)))
 ·unfold start
  show _ = N.length
  rw [List.length_append, List.length_map, List.length_replicate]
  omega
theorem ZlB {CX : CXT} {P : Program} {w : World} {K : PySem.W.Frag} {mg : Str → Option Value} {base : Heap} {k : Nat} {f : Addr} {name qual : Str} {params : Arguments} {body : List Stmt} {scope : Scope} {dV kV doc pm cdv ct oc : Value} {an od : Option Addr}
  {osl : Array (Option Value)} {N ps : List Str} {sp : Sp} (lk : K.lookup f = some ⟨oc, od, .func (PySem.W.fnOf name qual params body scope dV kV doc pm an cdv ct), osl⟩) (hcd : PySem.W.codeIn K cdv qual = true) (S : FnScope N ps scope)
  (len : ∀ vs H Q E, sp vs H Q E → vs.length = ps.length)
  (hbody : ∀ (A : Around) (outer : List Env) (s : Shared) (H : Hp) (vs : List V) (Q : VK) (E : XK), Room k (A.deeper (envOfC qual scope s.heap.objs.size f cdv)) → sp vs H Q E →
   ∃ t, PSs (cxOf CX P w K mg base N qual scope f cdv A outer s H E) body t ∧ t { nx := fun _ H' => Q .non H', rt := Q } (start N vs) H) :
  FnOk P w K mg base CX (k + 1) f (PySem.W.fnOf name qual params body scope dV kV doc pm an cdv ct) ps sp := by
 refine ⟨len, fun A outer s H args us vs Q E hr e0 hb r hsp => ?_⟩
 have hl := len _ _ _ _ hsp
 have KX : K.In s.heap := e0.mod.kin.keeps fun b o e => (e0.bs b o e).1
 have lim : s.heap.NoLimit := e0.mod.nolimit.keeps fun b o e => (e0.bs b o e).1
 have hkind : ∀ y ∈ ps.zip us, scope.names.lookup y.1 = some .local ∨ (scope.names.lookup y.1 = some .cell ∧ ((cellsFrom (s.heap.objs.size + 1) scope.names []).lookup y.1).isSome = true) := fun ⟨n, v⟩ hy => by
  rcases S.par n (List.of_mem_zip hy).1 with q | q
  ·exact .inl q
  ·exact .inr ⟨q, PySem.W.cellsFrom_some _ _ _ (.inl q)⟩
 refine codeAny_call_function hr.depth (KX _ _ lk) rfl S.co S.gen rfl (PySem.W.codeRec_of KX hcd) (hb _ _ _ _ ?_)
 refine wpAny_newFunctionEnv_cells S.kind hkind fun env he s1 x => ?_
 subst he
 refine ⟨lim.keeps x.toInCall.keep, codeAny_func ?_⟩
 obtain ⟨t, ht, hq⟩ := hbody A outer s H vs Q E (hr.deeper _) hsp
 have I : Inv (cxOf CX P w K mg base N qual scope f cdv A outer s H E) [] (start N vs) H s1 := Zj7 S hr.hd e0 hl r x
 refine wpAny_mono (ht [] s1 (start N vs) H _ I hq) (fun fl s' hs => ?_) fun e s' hs => hs
 have fin : ∀ {σ' : St} {H' : Hp} {v : V} {u : Value}, Inv (cxOf CX P w K mg base N qual scope f cdv A outer s H E) [] σ' H' s' → RelV v u → Q v H' → CE outer P w H s Q u s' :=
  fun {σ' H' v u} J rv q => ⟨v, H', J.os, J.bare, J.base, J.hok, rv, q⟩
 cases fl with
 | ret u =>
  obtain ⟨v, σ', H', J, rv, q⟩ := hs
  exact fin J rv q
 | next =>
  obtain ⟨σ', H', J, q⟩ := hs
  exact fin (v := V.non) (u := Value.none) J rfl q
 | brk =>
  obtain ⟨_, _, _, q⟩ := hs
  exact False.elim q
 | cont =>
  obtain ⟨_, _, _, q⟩ := hs
  exact False.elim q
end L2
namespace L2
open PySem PySem.Spec PyProof.Rows
section
variable {X : Cx} {x : Str} {p pos : Pos} {e : Expr} {es : List Expr} {t : TA} {id T : String} {r : List V → Hp → VK → Prop}
noncomputable def tCB (r : List V → Hp → VK → Prop) (t : TA) : TE := fun σ H Q => t σ H fun vs H1 => r vs H1 Q
theorem Ze8 (hc : ZbY X (.builtin id) r) (hg : Gl X x) (hm : X.mg x = none) (hv : bootBuiltins x = some (.builtin id)) (ha : PA X (e :: es) t) (hn : x ≠ "__name__" := by decide) (hdb : (x == ("__debug__" : Str)) = false := by decide)
  (he : starEach (e :: es) X.env = (false, eval e X.env) :: starEach es X.env := by rfl) (hpl : (backTo pos (starEach es X.env)).any (·.1) = false := by rfl) : PE X (.Call (.Name x p) (e :: es) [] pos) (tCB r t) := by
 intro pins s σ H Q I h
 refine wpAny_Call_Name_kw (ZcB I hg hm hv ?_ hn hdb)
 exact PyProof.Rows.callWith_builtin1 (thn (ha pos pins s σ H _ I h) fun us s1 ⟨vs, H1, I1, r1, q1⟩ => hc pins s1 σ H1 vs us Q I1 r1 q1) he hpl
theorem Zgl (hc : ZbY X (.type T) r) (hg : Gl X x) (hm : X.mg x = none) (hv : bootBuiltins x = some (.type T)) (ha : PA X (e :: es) t) (hn : x ≠ "__name__" := by decide) (hdb : (x == ("__debug__" : Str)) = false := by decide)
  (he : starEach (e :: es) X.env = (false, eval e X.env) :: starEach es X.env := by rfl) (hpl : (backTo pos (starEach es X.env)).any (·.1) = false := by rfl) : PE X (.Call (.Name x p) (e :: es) [] pos) (tCB r t) := by
 intro pins s σ H Q I h
 refine wpAny_Call_Name_kw (ZcB I hg hm hv ?_ hn hdb)
 exact PyProof.Rows.callWith_type1 (thn (ha pos pins s σ H _ I h) fun us s1 ⟨vs, H1, I1, r1, q1⟩ => hc pins s1 σ H1 vs us Q I1 r1 q1) he hpl
end
end L2
namespace HT
open PySem PyProof.Rows
noncomputable def lexLt : List Int → List Int → Bool
 | [], [] => false
 | [], _ :: _ => true
 | _ :: _, [] => false
 | x :: xs, y :: ys => if x = y then lexLt xs ys else decide (x < y)
theorem ZiW (x y : Int) (xs ys : List Int) : lexLt (x :: xs) (y :: ys) = if x = y then lexLt xs ys else decide (x < y) := rfl
theorem ZgE : lexLt [] [] = false := rfl
theorem Zf0 (y : Int) (ys : List Int) : lexLt [] (y :: ys) = true := rfl
theorem Zf1 (x : Int) (xs : List Int) : lexLt (x :: xs) [] = false := rfl
theorem Zlb (A : Around) (s : Shared) (a : Int) (t : Tok) (c : Int) (u : Tok) : ∃ e, SeqAt.EqAt A s (.int a t) (.int c u) e ∧ (e = true ↔ a = c) :=
 ⟨(a == c), SeqAt.EqAt.int_int a t c u, by simp⟩
theorem ZkL (A : Around) (s : Shared) (a : Int) (t : Tok) (c : Int) (u : Tok) (prog : Program) (w : World) (E : Value → Shared → Prop) (Q : Value → Shared → Prop) (h : Q (.bool (decide (a < c))) s) :
  wpAny (model prog w) A (richCompare .Lt (.int a t) (.int c u)) Q E s :=
 (PyProof.Rows.lt_int h : wpAny (model prog w) A (compareOp .Lt (.int a t) (.int c u)) Q E s)
section
open PySem.SeqAt
open PySem.AutoSeq1 (wpAny_loadPart')
open PySem.MeetsSeq PySem.MeetsSeq2 PySem.MeetsSeq3
theorem ZgA (l b : Addr) (items items2 : Array Value) (n n2 : Nat) (dd dd2 : Option Addr) (sl sl2 : Array (Option Value)) (ns ms : List Int) (hi : IntsAre items.toList ns) (hj : IntsAre items2.toList ms) :
  Meets (Builtin.«tuple.__lt__» ⟨[.ref l, .ref b], []⟩)
   (fun _ R s => s.heap.get? l = some { cls := .type "tuple", dict := dd, data := .seq items n, slots := sl } ∧ s.heap.get? b = some { cls := .type "tuple", dict := dd2, data := .seq items2 n2, slots := sl2 } ∧
    R (.ok (.ret (.bool (lexLt ns ms)))) s) :=
 .of_wp fun prog w A R s h => by
  obtain ⟨hp, g, d, tk, os⟩ := s; obtain ⟨hl, hb, h⟩ := h
  have f2 := AutoSeq1.sub_tuple_tuple
  have z1 : items.size = ns.length := by rw [← hi.length]; simp
  have z2 : items2.size = ms.length := by rw [← hj.length]; simp
  wp_walk using wpAny_loadPart' hl, wpAny_loadPart' hb, wpAny_forIn_list _ (fun rest b s' => b.1 = none ∧ s' = ⟨hp, g, d, tk, os⟩ ∧ ∃ (vs ws : List Value) (ns' ms' : List Int), rest = vs.zip ws ∧
   IntsAre vs ns' ∧ IntsAre ws ms' ∧ ns'.length + items2.size = ms'.length + items.size ∧ R (.ok (.ret (.bool (lexLt ns' ms')))) ⟨hp, g, d, tk, os⟩) _
  case turn =>
   rintro ⟨y, x⟩ rest b s' ⟨hb', rfl, vs, ws, ns', ms', hz, hvi, hwi, hlen, hR⟩
   cases hvi with
   | nil => rw [List.zip_nil_left] at hz; cases hz
   | cons a t hvi' =>
    cases hwi with
    | nil => rw [List.zip_nil_right] at hz; cases hz
    | cons c u hwi' =>
     rw [List.zip_cons_cons] at hz
     injection hz with hyx hrest
     injection hyx with hy hx
     subst hy hx
     rw [ZiW] at hR
     simp only [List.length_cons] at hlen
     obtain ⟨e, he, hiff⟩ := Zlb A.in1 ⟨hp, g, d, tk, os⟩ a t c u
     refine wpAny_bind (he prog w _ _ ?_)
     cases e with
     | true =>
      rw [if_pos (hiff.mp rfl)] at hR
      wp_walk
      exact ⟨rfl, rfl, _, _, _, _, hrest, hvi', hwi', by omega, hR⟩
     | false =>
      rw [if_neg (fun q => absurd (hiff.mpr q) Bool.false_ne_true)] at hR
      have hri := ZkL A.in1 ⟨hp, g, d, tk, os⟩ a t c u prog w
      wp_walk using hri
      exact ⟨_, rfl, by simpa using hR⟩
  case fin =>
   rintro ⟨b1, b2⟩ s' ⟨hb', rfl, vs, ws, ns', ms', hz, hvi, hwi, hlen, hR⟩
   simp only at hb'
   subst hb'
   have hv : lexLt ns' ms' = decide (items.size < items2.size) := by
    cases hvi with
    | nil =>
     cases hwi with
     | nil =>
      simp only [List.length_nil] at hlen
      rw [ZgE]
      exact (decide_eq_false (by omega)).symm
     | cons c u hw =>
      simp only [List.length_nil, List.length_cons] at hlen
      rw [Zf0]
      exact (decide_eq_true (by omega)).symm
    | cons a t hv =>
     cases hwi with
     | nil =>
      simp only [List.length_nil, List.length_cons] at hlen
      rw [Zf1]
      exact (decide_eq_false (by omega)).symm
     | cons c u hw =>
      rw [List.zip_cons_cons] at hz
      cases hz
   rw [hv] at hR
   wp_walk
   exact ⟨_, rfl, by simpa [Builtin.Tuple.tupleCompareSizes] using hR⟩
  case h =>
   exact ⟨rfl, rfl, items.toList, items2.toList, ns, ms, rfl, hi, hj, by omega, h⟩
end
section
variable {prog : Program} {w : World} {A : Around} {E : Value → Shared → Prop} {s : Shared}
theorem lt_tupInts {l b : Addr} {items items2 : Array Value} {ns ms : List Int} {Q : Value → Shared → Prop} (hl : IsTup s.heap l items) (hb : IsTup s.heap b items2) (hi : IntsAre items.toList ns) (hj : IntsAre items2.toList ms)
  (hu : A.units < cLine) (h : Q (.bool (lexLt ns ms)) s) : wpAny (model prog w) A (compareOp .Lt (.ref l) (.ref b)) Q E s := by
 obtain ⟨⟨cls, dd, data, sl⟩, ho, hc, n, hd⟩ := id hl
 obtain ⟨⟨cls2, dd2, data2, sl2⟩, ho2, hc2, n2, hd2⟩ := id hb
 simp only at hc hd hc2 hd2
 subst hc hd hc2 hd2
 exact richCompare_meets_room (op := .Lt) ⟨_, ho, rfl⟩ ⟨_, ho2, rfl⟩ PySem.F.slot_tuple_lt PySem.F.entry_tuple_lt (PySem.F.args_tuple_lt_2 _ _) (ZgA l b items items2 n n2 dd dd2 sl sl2 ns ms hi hj)
  ⟨ho, ho2, show Value.bool (lexLt ns ms) ≠ Value.notImplemented ∧ Q (.bool (lexLt ns ms)) s from ⟨(fun x => nomatch x), h⟩⟩ hu
theorem cat_tup {t b : Addr} {vs ws : List Value} {Q : Value → Shared → Prop} (ht : IsTup s.heap t vs.toArray) (hb : IsTup s.heap b ws.toArray) (hv : vs ≠ [])
  (h1 : ws = [] → Q (.ref t) s) (h2 : ws ≠ [] → Q (.ref s.heap.objs.size) { s with heap := s.heap.push { cls := .type "tuple", data := .seq (vs ++ ws).toArray } })
  (hsz : vs.length + ws.length ≤ sizeLine) : wpAny (model prog w) A (binaryOp .Add (.ref t) (.ref b)) Q E s := by
 obtain ⟨⟨cls, dd, data, sl⟩, ho, hc, n, hd⟩ := id ht
 obtain ⟨⟨cls2, dd2, data2, sl2⟩, ho2, hc2, n2, hd2⟩ := id hb
 simp only at hc hd hc2 hd2
 subst hc hd hc2 hd2
 have e : vs.toArray ++ ws.toArray = (vs ++ ws).toArray := by simp
 by_cases hw : ws = []
 ·exact concat_meets ⟨_, ho, rfl⟩ ⟨_, ho2, rfl⟩ noFill_tuple_add seq_tuple_add PySem.F.slot_tuple_add PySem.F.entry_tuple_add (PySem.F.args_tuple_add_2 _ _)
   (tuple_addW1 t b vs.toArray ws.toArray n n2 dd dd2 sl sl2 (by simpa using hv) (by simp [hw])) ⟨ho, ho2, h1 hw⟩
 ·refine concat_meets ⟨_, ho, rfl⟩ ⟨_, ho2, rfl⟩ noFill_tuple_add seq_tuple_add PySem.F.slot_tuple_add PySem.F.entry_tuple_add (PySem.F.args_tuple_add_2 _ _)
   (tuple_addW2 t b vs.toArray ws.toArray n n2 dd dd2 sl sl2 (by simpa using hv) (by simpa using hw) (by rw [List.size_toArray, List.size_toArray]; exact hsz)) ⟨ho, ho2, ?_⟩
  rw [e]
  exact h2 hw
end
end HT
namespace L2
open PySem PySem.Spec PyProof.Rows
theorem ZdW {ns : List Int} : ∀ {us : List Value}, Vals (ns.map V.int) us → IntsAre us ns := by
 induction ns with
 | nil => intro us r; rw [List.map_nil] at r; cases r; exact .nil
 | cons n ns ih =>
  intro us r
  rw [List.map_cons] at r
  cases r with
  | cons r1 r2 =>
   obtain ⟨t, e⟩ := r1
   subst e
   exact .cons n t (ih r2)
section
variable {X : Cx} {e : Expr} {te : TE} {lo hi : Option Expr} {tl th : TO} {pos p2 : Pos}
noncomputable def rLtT (K : PySem.W.Frag) : R2 := fun x y H Q => ∃ a b ns ms, x = .ref a ∧ y = .ref b ∧ SqT K H a (ns.map V.int) ∧ SqT K H b (ms.map V.int) ∧ Q (.bl (HT.lexLt ns ms)) H
theorem Zm1 (hu : X.A.units < cLine) : OpR X (compareOp .Lt) (rLtT X.K) := by
 intro pins s σ H x y v u Q I rx ry h
 obtain ⟨a, b, ns, ms, rfl, rfl, ha, hb, q⟩ := h
 cases rx
 cases ry
 obtain ⟨its, r1, p1, _⟩ := I.tuple ha
 obtain ⟨its2, r2, p2, _⟩ := I.tuple hb
 have i1 : IntsAre its.toArray.toList ns := ZdW r1
 have i2 : IntsAre its2.toArray.toList ms := ZdW r2
 exact HT.lt_tupInts p1 p2 i1 i2 hu ⟨.bl (HT.lexLt ns ms), H, I, rfl, q⟩
noncomputable def Znv (K : PySem.W.Frag) : R2 := fun x y H Q => ∃ a b xs ys, x = .ref a ∧ y = .ref b ∧ SqT K H a xs ∧ SqT K H b ys ∧ xs ≠ [] ∧ xs.length + ys.length ≤ sizeLine ∧
 (ys = [] → Q (.ref a) H) ∧ (ys ≠ [] → ∀ p, H p = none → Q (.ref p) (upd H p (.tup (xs ++ ys))))
theorem Vals.nil_iff {xs : List V} {us : List Value} (r : Vals xs us) : us = [] ↔ xs = [] := by
 cases r with
 | nil => simp
 | cons _ _ => simp
theorem Zl9 : OpR X (binaryOp .Add) (Znv X.K) := by
 intro pins s σ H x y v u Q I rx ry h
 obtain ⟨a, b, xs, ys, rfl, rfl, ha, hb, hx, hz, q1, q2⟩ := h
 cases rx
 cases ry
 obtain ⟨its, r1, p1, _⟩ := I.tuple ha
 obtain ⟨its2, r2, p2, _⟩ := I.tuple hb
 refine HT.cat_tup p1 p2 (fun z => hx (r1.nil_iff.mp z)) (fun z => ⟨.ref a, H, I, rfl, q1 (r2.nil_iff.mp z)⟩) (fun z => ?_) (by rw [← r1.length, ← r2.length]; exact hz)
 refine ⟨.ref s.heap.objs.size, _, I.laid (t' := s.toks) (o := .tup (xs ++ ys)) (fun b ob q => Heap.get?_push_of_some _ q) (Nat.le_refl _) ?_, rfl, q2 (fun w => z (r2.nil_iff.mpr w)) _ (I.hok.fresh (Nat.le_refl _))⟩
 exact ⟨by rw [List.length_append]; exact hz, _, r1.append r2, IsTup.new _ _⟩
end
end L2
namespace L2
open PySem PySem.Spec PyProof.Rows
noncomputable def ixN (n : Nat) (i : Int) : Option Nat := if 0 ≤ i then (if i < n then some i.toNat else none) else if -(n : Int) ≤ i then some (i + n).toNat else none
noncomputable def atI {α : Type} (xs : List α) (i : Int) : Option α := (ixN xs.length i).bind fun j => xs[j]?
theorem Zif {n : Nat} {i : Int} {j : Nat} (h : ixN n i = some j) : seqIndex? i n = some j ∧ j < n ∧ -(n : Int) ≤ i ∧ i < n := by
 unfold ixN at h
 by_cases h0 : 0 ≤ i
 ·rw [if_pos h0] at h
  by_cases h1 : i < n
  ·rw [if_pos h1] at h
   have e : i.toNat = j := Option.some.inj h
   exact ⟨by rw [seqIndex_of h0 h1, e], by omega, by omega, h1⟩
  ·rw [if_neg h1] at h; cases h
 ·rw [if_neg h0] at h
  by_cases h1 : -(n : Int) ≤ i
  ·rw [if_pos h1] at h
   have e : (i + n).toNat = j := Option.some.inj h
   exact ⟨by rw [seqIndex_neg (by omega) h1, e], by omega, h1, by omega⟩
  ·rw [if_neg h1] at h; cases h
theorem Ziq {α : Type} {xs : List α} {i : Int} {v : α} (h : atI xs i = some v) : ∃ j, seqIndex? i xs.length = some j ∧ xs[j]? = some v ∧ j < xs.length ∧ -(xs.length : Int) ≤ i ∧ i < xs.length := by
 unfold atI at h
 cases e : ixN xs.length i with
 | none => rw [e] at h; cases h
 | some j =>
  rw [e] at h
  obtain ⟨h1, h2, h3, h4⟩ := Zif e
  exact ⟨j, h1, h, h2, h3, h4⟩
theorem Zb6 {α : Type} {xs : List α} {j : Nat} {v : α} (h : xs[j]? = some v) : atI xs (j : Int) = some v := by
 have hj : j < xs.length := (List.getElem?_eq_some_iff.mp h).1
 have e : ixN xs.length (j : Int) = some j := by
  unfold ixN
  rw [if_pos (by omega), if_pos (by omega)]; simp
 unfold atI; rw [e]; exact h
noncomputable def Zit (b : Expr) : Prop := ∀ o i, subscripted b false o i = operate [o, i] (getItem o i)
noncomputable def IxR (X : Cx) (r : R2) : Prop :=
 ∀ (value slice : Expr) (pins : List (Addr × Obj)) (s : Shared) (σ : St) (H : Hp) (x y : V) (v u : Value) (Q : VK), Inv X pins σ H s → RelV x v → RelV y u → r x y H Q →
  subscripted slice false v u = operate [v, u] (getItem v u) → wpAny (model X.prog X.w) X.A (subscriptTail value slice v u) (EP X pins σ Q) X.xe s
noncomputable def MtR (X : Cx) (id : String) (r : V → List V → Hp → VK → Prop) : Prop :=
 ∀ (pins : List (Addr × Obj)) (s : Shared) (σ : St) (H : Hp) (x : V) (xs : List V) (v : Value) (us : List Value) (Q : VK), Inv X pins σ H s → RelV x v → Vals xs us → r x xs H Q →
  wpAny (model X.prog X.w) X.A (call (.builtin id) (v :: us)) (EP X pins σ Q) X.xe s
section
variable {X : Cx} {a b : Expr} {ta tb : TE} {pos : Pos}
theorem IxR.or {r r' : R2} (h : IxR X r) (h' : IxR X r') : IxR X (fun x y H Q => r x y H Q ∨ r' x y H Q) := by
 intro value slice pins s σ H x y v u Q I rx ry q hs
 rcases q with q | q
 ·exact h value slice pins s σ H x y v u Q I rx ry q hs
 ·exact h' value slice pins s σ H x y v u Q I rx ry q hs
theorem ZgM {r : R2} (hr : IxR X r) (ha : PE X a ta) (hb : PE X b tb) (hs : Zit b) : PE X (.Subscript a b pos) (tOp r ta tb) := by
 intro pins s σ H Q I h
 exact Subscript_ (binT ha hb I h fun v u s2 x y H2 I2 rx ry q => hr a b pins s2 σ H2 x y v u Q I2 rx ry q (hs _ _))
noncomputable def rIxL (K : PySem.W.Frag) : R2 := fun x y H Q => ∃ p xs i v, x = .ref p ∧ y = .int i ∧ SqL K H p xs ∧ atI xs i = some v ∧ Q v H
noncomputable def rIxT (K : PySem.W.Frag) : R2 := fun x y H Q => ∃ p xs i v, x = .ref p ∧ y = .int i ∧ SqT K H p xs ∧ atI xs i = some v ∧ Q v H
theorem ZeP : IxR X (rIxL X.K) := by
 intro value slice pins s σ H x y v u Q I rx ry h hs
 obtain ⟨p, xs, i, z, rfl, rfl, hq, he, q⟩ := h
 cases rx
 obtain ⟨t, rfl⟩ := ry
 obtain ⟨its, r, pl, hz⟩ := I.list hq
 obtain ⟨j, h1, h2, h3, h4, h5⟩ := Ziq he
 obtain ⟨w, ew, rw'⟩ := r.get h2
 have hl := r.length
 have hn := ZfD
 have fin : EP X pins σ Q w s := ⟨z, H, I, rw', q⟩
 by_cases h0 : 0 ≤ i
 ·have hj : i.toNat = j := by
   rw [seqIndex_of h0 h5] at h1
   exact Option.some.inj h1
  exact item_listR pl.isList h0 (by omega) (by rw [hj]; simpa using ew) fin hs
 ·have hj : (i + (its.toArray.size : Int)).toNat = j := by
   rw [seqIndex_neg (by omega) h4] at h1
   rw [List.size_toArray, ← hl]
   exact Option.some.inj h1
  exact subscriptTail_builtinR (x := w) pl.isList.typeIs slot_list_getitem.lookup
   (wpAny_getItem_list_neg (Q := fun r s' => r = w ∧ EP X pins σ Q r s') pl.isList (by omega) (by rw [List.size_toArray] <;> omega) (by omega) (by rw [hj]; simpa using ew) ⟨rfl, fin⟩) hs
theorem Znh : IxR X (rIxT X.K) := by
 intro value slice pins s σ H x y v u Q I rx ry h hs
 obtain ⟨p, xs, i, z, rfl, rfl, hq, he, q⟩ := h
 cases rx
 obtain ⟨t, rfl⟩ := ry
 obtain ⟨its, r, pl, hz⟩ := I.tuple hq
 obtain ⟨j, h1, h2, h3, h4, h5⟩ := Ziq he
 obtain ⟨w, ew, rw'⟩ := r.get h2
 have hl := r.length
 have hn := ZfD
 have fin : EP X pins σ Q w s := ⟨z, H, I, rw', q⟩
 exact subscriptTail_builtinR (x := w) pl.typeIs slot_tuple_getitem.lookup
  (getItem_tuple (j := j) (Q := fun r s' => r = w ∧ EP X pins σ Q r s') pl (by omega) (by omega) (by rw [List.size_toArray, ← hl]; exact h1) (by simpa using ew) ⟨rfl, fin⟩) hs
theorem ZiV (its : List Value) (n j : Nat) (u : Value) : Obj.mapSeq (·.setIfInBounds j u) { cls := .type "list", data := .seq its.toArray n } = { cls := .type "list", data := .seq (its.set j u).toArray n } := by
 simp [Obj.mapSeq]
theorem Inv.lst {pins : List (Addr × Obj)} {σ : St} {H : Hp} {s : Shared} {p : Addr} {xs : List V} (I : Inv X pins σ H s) (h : H p = some (.lst xs)) :
  ∃ (its : List Value) (n : Nat), Vals xs its ∧ s.heap.get? p = some { cls := .type "list", data := .seq its.toArray n } ∧ xs.length ≤ sizeLine := by
 obtain ⟨z, its, n, r, e⟩ := I.hok p _ h
 exact ⟨its, n, r, e, z⟩
theorem Inv.lstUpd {pins : List (Addr × Obj)} {σ : St} {H : Hp} {s : Shared} {p : Addr} {xs ys : List V} {its its' : List Value} {n n' : Nat} {f : Obj → Obj} (I : Inv X pins σ H s) (h : H p = some (.lst xs))
  (ho : s.heap.get? p = some { cls := .type "list", data := .seq its.toArray n }) (hf : f { cls := .type "list", data := .seq its.toArray n } = { cls := .type "list", data := .seq its'.toArray n' }) (r : Vals ys its') (hz : ys.length ≤ sizeLine) (t : Nat) :
  Inv X pins σ (upd H p (.lst ys)) { s with heap := s.heap.update p f, toks := t } := by
 have e : (s.heap.update p f).get? p = some { cls := .type "list", data := .seq its'.toArray n' } := by
  rw [Heap.get?_update_self f ho (by rw [hf] <;> rfl), hf]
 refine I.write (x := p) (e := p) (by rw [h]; trivial) (.inl rfl) (fun b u hb q => (Heap.get?_update_other _ _ (Ne.symm hb)).trans q) ⟨_, e⟩ ?_
 exact ⟨hz, its', n', r, e⟩
noncomputable def Zlx : V → V → V → Hp → (Hp → Prop) → Prop := fun o i v H Q => ∃ p xs k j, o = .ref p ∧ i = .int k ∧ H p = some (.lst xs) ∧ ixN xs.length k = some j ∧ Q (upd H p (.lst (xs.set j v)))
theorem ZkK : PSet X Zlx := by
 intro pins s σ H o i v ov iv u Q I ro ri rv h
 obtain ⟨p, xs, k, j, rfl, rfl, hp, hj, q⟩ := h
 cases ro
 obtain ⟨t, rfl⟩ := ri
 obtain ⟨its, n, r, ho, hz⟩ := I.lst hp
 obtain ⟨h1, h2, h3, h4⟩ := Zif hj
 have hl := r.length
 have hn := ZfD
 have I' : Inv X pins σ (upd H p (.lst (xs.set j v))) { s with heap := s.heap.update p (Obj.mapSeq (·.setIfInBounds j u)) } :=
  I.lstUpd hp ho (ZiV its n j u) (r.set rv j) (by rw [List.length_set]; exact hz) s.toks
 by_cases h0 : 0 ≤ k
 ·have hk : k.toNat = j := by
   rw [seqIndex_of h0 h4] at h1
   exact Option.some.inj h1
  exact PySem.W.ki_setAt ho h0 (by omega) (by rw [List.size_toArray, ← hl]; exact h4) (by rw [hk]; exact ⟨_, I', q⟩)
 ·have hk : (k + (its.toArray.size : Int)).toNat = j := by
   rw [seqIndex_neg (by omega) h3] at h1
   rw [List.size_toArray, ← hl]
   exact Option.some.inj h1
  exact PySem.W.ki_setBack ho (by omega) (by rw [List.size_toArray, ← hl]; exact h3) (by omega) (by rw [hk]; exact ⟨_, I', q⟩)
theorem Zdg : ZbY X (.builtin "len") (fun xs H Q => ∃ p ys, xs = [.ref p] ∧ (SqL X.K H p ys ∨ SqT X.K H p ys) ∧ Q (.int ys.length) H) := by
 intro pins s σ H xs us Q I r h
 obtain ⟨p, ys, rfl, hq, q⟩ := h
 obtain ⟨u, rfl, rx⟩ := Zdm r
 cases rx
 have hn := ZfD
 rcases hq with hq | hq
 ·obtain ⟨its, r', pl, hz⟩ := I.list hq
  have hlen := r'.length
  exact Calls.call_len_list pl.isList (by simp only [List.size_toArray] <;> omega) ⟨.int ys.length, H, I.tok _, ⟨s.toks + 1, by rw [List.size_toArray, hlen]⟩, q⟩
 ·obtain ⟨its, r', pl, hz⟩ := I.tuple hq
  have hlen := r'.length
  exact len_tuple pl (by simp only [List.size_toArray] <;> omega) ⟨.int ys.length, H, I.tok _, ⟨s.toks + 1, by rw [List.size_toArray, hlen]⟩, q⟩
theorem ZhA : ZbY X (.type "list") (fun xs H Q => ∃ p ys, xs = [.ref p] ∧ (SqL X.K H p ys ∨ SqT X.K H p ys) ∧ ∀ l, H l = none → Q (.ref l) (upd H l (.lst ys))) := by
 intro pins s σ H xs us Q I r h
 obtain ⟨p, ys, rfl, hq, q⟩ := h
 obtain ⟨u, rfl, rx⟩ := Zdm r
 cases rx
 have fin : ∀ (its : List Value), Vals ys its → ys.length ≤ sizeLine → ∀ (h' : Heap) (c' : Nat), (∀ b o', s.heap.get? b = some o' → h'.get? b = some o') →
   h'.get? s.heap.objs.size = some { cls := .type "list", dict := none, data := .seq its.toArray c', slots := #[] } → EP X pins σ Q (.ref s.heap.objs.size) { s with heap := h' } := fun its r' hz h' c' kp e =>
  ⟨.ref s.heap.objs.size, _, I.laid (t' := s.toks) kp (Nat.le_refl _) (show ZaM X.prog X.w _ h' _ (.lst ys) from ⟨hz, its, c', r', e⟩), rfl, q _ (I.hok.fresh (Nat.le_refl _))⟩
 rcases hq with hq | hq
 ·obtain ⟨its, r', pl, hz⟩ := I.list hq
  have hlen := r'.length
  obtain ⟨o, ho, hc, n, hd⟩ := pl.isList
  exact call_list_seq p (.inl rfl) ho hc hd (fun h' c' kp e => fin its r' hz h' c' kp e) (by simp only [List.size_toArray] <;> omega)
 ·obtain ⟨its, r', pl, hz⟩ := I.tuple hq
  have hlen := r'.length
  obtain ⟨o, ho, hc, n, hd⟩ := pl
  exact call_list_seq p (.inr rfl) ho hc hd (fun h' c' kp e => fin its r' hz h' c' kp e) (by simp only [List.size_toArray] <;> omega)
theorem ZgJ : ZbY X (.type "tuple") (fun xs H Q => ∃ p ys, xs = [.ref p] ∧ ((SqL X.K H p ys ∧ ∀ l, H l = none → Q (.ref l) (upd H l (.tup ys))) ∨ (SqT X.K H p ys ∧ Q (.ref p) H))) := by
 intro pins s σ H xs us Q I r h
 obtain ⟨p, ys, rfl, h⟩ := h
 obtain ⟨u, rfl, rx⟩ := Zdm r
 cases rx
 rcases h with ⟨hq, q⟩ | ⟨hq, q⟩
 ·obtain ⟨its, r', pl, hz⟩ := I.list hq
  have hlen := r'.length
  refine call_tuple_list pl.isList (fun h' kp => ?_) (by simp only [List.size_toArray] <;> omega)
  have I1 : Inv X pins σ H { s with heap := h' } := I.kept (t' := s.toks) kp
  have I2 : Inv X pins σ (upd H h'.objs.size (.tup ys)) { s with heap := h'.push { cls := .type "tuple", data := .seq its.toArray } } :=
   I1.laid (t' := s.toks) (fun b o e => Heap.get?_push_of_some _ e) (Nat.le_refl _) (show ZaM X.prog X.w _ _ _ (.tup ys) from ⟨hz, its, r', IsTup.new _ _⟩)
  exact ⟨.ref h'.objs.size, _, I2, rfl, q _ (I1.hok.fresh (Nat.le_refl _))⟩
 ·obtain ⟨its, r', pl, hz⟩ := I.tuple hq
  exact call_tuple_same pl ⟨.ref p, H, I, rfl, q⟩
noncomputable def tyV (K : PySem.W.Frag) (T : String) (x : V) (H : Hp) : Prop := match x with
 | .str _ => T = "str"
 | .int _ => T = "int"
 | .ref p => (T = "list" ∧ ∃ xs, SqL K H p xs) ∨ (T = "tuple" ∧ ∃ o, K.lookup p = some o ∧ o.cls = .type "tuple" ∧ o.dict = none) ∨
   (T = "dict" ∧ ((∃ kvs, H p = some (.dK kvs)) ∨ ∃ kvs, H p = some (.dT kvs))) ∨ (T = "set" ∧ ∃ S n, H p = some (.set S n))
 | _ => False
theorem Zmw {pins : List (Addr × Obj)} {σ : St} {H : Hp} {s : Shared} {T : String} {x : V} {v : Value} (I : Inv X pins σ H s) (r : RelV x v) (ty : tyV X.K T x H) :
  s.TypeIs v T ∧ ∀ a, v = .ref a → ∃ ob, s.heap.get? a = some ob ∧ ob.dict = none := by
 cases x with
 | str z =>
  obtain ⟨t, rfl⟩ := r
  cases (show T = "str" from ty)
  exact ⟨typeIs_str s z t, fun _ e => nomatch e⟩
 | int i =>
  obtain ⟨t, rfl⟩ := r
  cases (show T = "int" from ty)
  exact ⟨typeIs_int s i t, fun _ e => nomatch e⟩
 | ref p =>
  cases r
  rcases ty with ⟨rfl, xs, hq⟩ | ⟨rfl, o, hk, hc, hd⟩ | ⟨rfl, hk⟩ | ⟨rfl, S, n, hk⟩
  ·obtain ⟨its, _, pl, _⟩ := I.list hq
   refine ⟨pl.isList.typeIs, fun a e => ?_⟩
   cases e
   obtain ⟨o, n, e, c, hd, _⟩ := pl
   exact ⟨o, e, hd⟩
  ·refine ⟨⟨o, I.kIn p o hk, hc⟩, fun a e => ?_⟩
   cases e
   exact ⟨o, I.kIn _ o hk, hd⟩
  ·have z : ∃ o, s.heap.get? p = some o ∧ o.ExactDict := by
    rcases hk with ⟨kvs, hk⟩ | ⟨kvs, hk⟩
    ·obtain ⟨_, _, _, _, o, _, _, e, ex, _⟩ := I.hok p _ hk
     exact ⟨o, e, ex⟩
    ·obtain ⟨_, _, _, _, o, _, _, e, ex, _⟩ := I.hok p _ hk
     exact ⟨o, e, ex⟩
   obtain ⟨o, e, ex⟩ := z
   refine ⟨⟨o, e, ex.1⟩, fun a e2 => ?_⟩
   cases e2
   exact ⟨o, e, ex.2.1⟩
  ·obtain ⟨o, _, _, _, e, ex, _⟩ := I.hok p _ hk
   refine ⟨⟨o, e, ex.1⟩, fun a e2 => ?_⟩
   cases e2
   exact ⟨o, e, ex.2.1⟩
 | _ => exact False.elim ty
noncomputable def tBM (K : PySem.W.Frag) (T : String) (r : V → List V → Hp → VK → Prop) (to : TE) (t : TA) : TE := fun σ H Q => to σ H fun x H1 => tyV K T x H1 ∧ t σ H1 fun xs H2 => r x xs H2 Q
variable {o e : Expr} {es : List Expr} {to : TE} {t : TA} {name : Str} {apos cpos : Pos} {T id : String} {r : V → List V → Hp → VK → Prop}
theorem ZiK (pa : PlainAttrs T) (slot : Slot T name id) (hty : typeOf (.builtin id) = pure (.type "method_descriptor")) (hm : MtR X id r) (ho : PE X o to) (ha : PA X (e :: es) t)
  (hbase : attributeBase o name X.env (eval o X.env) = eval o X.env := by rfl)
  (hfew : ((backTo cpos (starEach (e :: es) X.env)).all (fun x => !x.1) && (backToKw cpos (keywordEach [] X.env)).all (fun x => x.1.isSome)
   && decide ((e :: es).length + ([] : List Keyword).length + (if ([] : List Keyword).isEmpty then 0 else 1) < 30)) = true := by rfl)
  (hline : (apos.endLine == cpos.line) = true := by rfl) (hs : starEach (e :: es) X.env = (false, eval e X.env) :: starEach es X.env := by rfl) (hplain : (backTo cpos (starEach es X.env)).any (·.1) = false := by rfl) :
  PE X (.Call (.Attribute o name apos) (e :: es) [] cpos) (tBM X.K T r to t) := by
 intro pins s σ H Q I h
 refine wpAny_Call_method_late hbase hfew hline rfl (thn (ho pins s σ H _ I h) fun v s1 ⟨x, H1, I1, r1, ty, q1⟩ => ?_)
 obtain ⟨h1, h2⟩ := Zmw I1 r1 ty
 refine ⟨T, id, pa, slot, hty, h1, h2, ?_⟩
 have hA := ha cpos pins s1 σ H1 _ I1 q1
 rw [hs] at hA ⊢
 refine Calls.callWith_builtin (by show (false || (backTo cpos (starEach es X.env)).any (·.1)) = false; rw [hplain] <;> rfl) (Calls.evalArgs_plain ?_)
 exact thn hA fun us s2 ⟨vs, H2, I2, r2, q2⟩ => hm pins s2 σ H2 x vs v us Q I2 r1 r2 q2
end
end L2
namespace L2
open PySem PySem.Spec PyProof.Rows
noncomputable def MtM (X : Cx) (id : String) (r : V → List V → Hp → VK → Prop) : Prop :=
 ∀ (pins : List (Addr × Obj)) (s : Shared) (σ : St) (H : Hp) (x : V) (xs : List V) (v : Value) (us : List Value) (Q : VK), Inv X pins σ H s → RelV x v → Vals xs us → r x xs H Q →
  wpAny (model X.prog X.w) X.A (call (.builtin id) (v :: us)) (EP X pins σ Q) X.xe s
theorem Vals.one : ∀ {x : V} {us : List Value}, Vals [x] us → ∃ u, us = [u] ∧ RelV x u
 | _, _, .cons r .nil => ⟨_, rfl, r⟩
theorem Vals.two : ∀ {x y : V} {us : List Value}, Vals [x, y] us → ∃ u v, us = [u, v] ∧ RelV x u ∧ RelV y v
 | _, _, _, .cons r (.cons q .nil) => ⟨_, _, rfl, r, q⟩
theorem Vals.eraseIdx : ∀ {xs : List V} {us : List Value} (i : Nat), Vals xs us → Vals (xs.eraseIdx i) (us.eraseIdx i)
 | _, _, _, .nil => .nil
 | _, _, 0, .cons _ t => t
 | _, _, i + 1, .cons r t => .cons r (Vals.eraseIdx i t)
theorem Zgq {α : Type} : ∀ (l : List α) (i : Nat), (l.eraseIdx i).length ≤ l.length
 | [], _ => Nat.le_refl _
 | _ :: _, 0 => Nat.le_succ _
 | _ :: r, i + 1 => Nat.succ_le_succ (Zgq r i)
section
variable {X : Cx} {pins : List (Addr × Obj)} {σ : St} {H : Hp} {s : Shared} {l b : Addr} {xs ys zs : List V}
theorem Inv.lset {its its' : List Value} {n : Nat} {f : Array Value → Array Value} {t' : Nat} (I : Inv X pins σ H s) (hH : H l = some (.lst xs))
  (e : s.heap.get? l = some { cls := .type "list", data := .seq its.toArray n }) (hf : f its.toArray = its'.toArray) (hv : Vals ys its') (hz : ys.length ≤ sizeLine) :
  Inv X pins σ (upd H l (.lst ys)) { s with heap := s.heap.update l (Obj.mapSeq f), toks := t' } := by
 have q := PySem.IsL.update e f
 rw [hf] at q
 refine I.write (x := l) (e := l) (by rw [hH]; exact trivial) (.inl rfl) (fun b' u hb hu => (Heap.get?_update_other s.heap (Obj.mapSeq f) (Ne.symm hb)).trans hu) ⟨_, q⟩ ?_
 exact ⟨hz, its', _, hv, q⟩
theorem Inv.lnew {its : List Value} {t' : Nat} (I : Inv X pins σ H s) (hv : Vals ys its) (hz : ys.length ≤ sizeLine) :
  Inv X pins σ (upd H s.heap.objs.size (.lst ys)) { s with heap := s.heap.push { cls := .type "list", data := .seq its.toArray }, toks := t' } :=
 I.laid (fun _ _ q => Heap.get?_push_of_some _ q) (Nat.le_refl _) ⟨hz, its, 0, hv, Heap.get?_push_size _ rfl⟩
theorem Inv.fresh (I : Inv X pins σ H s) : H s.heap.objs.size = none := I.hok.fresh (Nat.le_refl _)
theorem Inv.lstM (I : Inv X pins σ H s) (hH : H l = some (.lst xs)) : xs.length ≤ sizeLine ∧ ∃ (its : List Value) (n : Nat), Vals xs its ∧ xs.length = its.length ∧ s.heap.get? l = some { cls := .type "list", data := .seq its.toArray n } := by
 obtain ⟨z, its, n, r, e⟩ := I.hok l _ hH
 exact ⟨z, its, n, r, r.length, e⟩
theorem ZkX {n : Nat} (h : n ≤ sizeLine) : Builtin.List.listTooLong n = false := by
 unfold Builtin.List.listTooLong
 exact decide_eq_false (by omega)
end
section
variable {X : Cx}
noncomputable def ZeI : V → List V → Hp → VK → Prop := fun x vs H Q => ∃ l xs y, x = .ref l ∧ vs = [y] ∧ H l = some (.lst xs) ∧ xs.length < sizeLine ∧ Q .non (upd H l (.lst (xs ++ [y])))
theorem Zgp : MtM X "list.append" ZeI := by
 intro pins s σ H x vs v us Q I rx rv h
 obtain ⟨l, xs, y, rfl, rfl, hH, hz, q⟩ := h
 cases rx
 obtain ⟨u, rfl, ru⟩ := rv.one
 obtain ⟨z, its, n, r, hl, e⟩ := I.lstM hH
 refine call_meets F.slot_list_append ⟨_, e, rfl⟩ F.entry_list_append (F.args_list_append_2 _ _) (PySem.list_append l its.toArray n u (by rw [List.size_toArray]; omega)) ⟨e, ?_⟩
 refine ⟨.non, _, I.lset (its' := its ++ [u]) hH e (by simp) (r.append (.cons ru .nil)) ?_, rfl, q⟩
 rw [List.length_append, List.length_singleton]
 omega
noncomputable def ZeH : V → List V → Hp → VK → Prop := fun x vs H Q => ∃ l b xs zs, x = .ref l ∧ vs = [.ref b] ∧ H l = some (.lst xs) ∧ H b = some (.lst zs) ∧ xs.length + zs.length ≤ sizeLine ∧ Q .non (upd H l (.lst (xs ++ zs)))
theorem ZjW : MtM X "list.extend" ZeH := by
 intro pins s σ H x vs v us Q I rx rv h
 obtain ⟨l, b, xs, zs, rfl, rfl, hH, hB, hz, q⟩ := h
 cases rx
 obtain ⟨u, rfl, ru⟩ := rv.one
 cases ru
 obtain ⟨z, its, n, r, hl, e⟩ := I.lstM hH
 obtain ⟨z2, its2, n2, r2, hl2, e2⟩ := I.lstM hB
 have hsz : its.toArray.size + its2.toArray.size ≤ sizeLine := by rw [List.size_toArray, List.size_toArray]; omega
 have hlong : ¬ (!its.toArray.isEmpty && Builtin.List.listTooLong (its.toArray.size + its2.toArray.size)) = true := by
  rw [ZkX hsz, Bool.and_false]
  exact Bool.false_ne_true
 refine call_meets F.slot_list_extend ⟨_, e, rfl⟩ F.entry_list_extend (F.args_list_extend_2 _ _)
  (AutoSeq1.list_extend_list_list_0 l its.toArray n b its2.toArray n2 hlong (by rw [List.size_toArray]; omega) (by omega)) ⟨e, e2, ?_⟩
 refine ⟨.non, _, I.lset (its' := its ++ its2) hH e (by simp) (r.append r2) ?_, rfl, q⟩
 rw [List.length_append]
 omega
noncomputable def Zjz : V → List V → Hp → VK → Prop := fun x vs H Q => ∃ l xs i k y, x = .ref l ∧ vs = [.int i] ∧ H l = some (.lst xs) ∧ -(2 ^ 63) ≤ i ∧ i < 2 ^ 63 ∧ seqIndex? i xs.length = some k ∧ xs[k]? = some y ∧ Q y (upd H l (.lst (xs.eraseIdx k)))
theorem ZkY : MtM X "list.pop" Zjz := by
 intro pins s σ H x vs v us Q I rx rv h
 obtain ⟨l, xs, i, k, y, rfl, rfl, hH, h1, h2, hk, hy, q⟩ := h
 cases rx
 obtain ⟨u, rfl, ru⟩ := rv.one
 obtain ⟨t, rfl⟩ := ru
 obtain ⟨z, its, n, r, hl, e⟩ := I.lstM hH
 obtain ⟨w, hw, rw'⟩ := r.get hy
 refine call_meets F.slot_list_pop ⟨_, e, rfl⟩ F.entry_list_pop (F.args_list_pop_2 _ _)
  (MeetsSeq.list_pop_at l its.toArray n i t k w (fitsIndex_both h1 h2) (by rw [List.size_toArray, ← hl]; exact hk) (by rw [← Array.getElem?_toList]; exact hw) (by rw [List.size_toArray]; omega)) ⟨e, ?_⟩
 refine ⟨y, _, I.lset (its' := its.eraseIdx k) hH e ?_ (r.eraseIdx k) ?_, rw', q⟩
 ·show its.toArray.eraseIdxIfInBounds k = (its.eraseIdx k).toArray
  rw [List.eraseIdxIfInBounds_toArray]
 ·have := Zgq xs k
  omega
noncomputable def rCat : R2 := fun x y H Q => ∃ l b xs zs, x = .ref l ∧ y = .ref b ∧ H l = some (.lst xs) ∧ H b = some (.lst zs) ∧ xs.length + zs.length ≤ sizeLine ∧ ∀ p, H p = none → Q (.ref p) (upd H p (.lst (xs ++ zs)))
theorem Zm6 : OpR X (binaryOp .Add) rCat := by
 intro pins s σ H x y v u Q I rx ry h
 obtain ⟨l, b, xs, zs, rfl, rfl, hH, hB, hz, q⟩ := h
 cases rx
 cases ry
 obtain ⟨z, its, n, r, hl, e⟩ := I.lstM hH
 obtain ⟨z2, its2, n2, r2, hl2, e2⟩ := I.lstM hB
 refine PySem.P.add_list e e2 ?_ (by rw [List.size_toArray, List.size_toArray]; omega)
 have ea : its.toArray ++ its2.toArray = (its ++ its2).toArray := by simp
 rw [ea]
 exact ⟨.ref _, _, I.lnew (t' := s.toks) (r.append r2) (by rw [List.length_append]; omega), rfl, q _ I.fresh⟩
end
section
variable {prog : Program} {w : World} {A : Around} {E : Value → Shared → Prop} {s : Shared}
end
section
variable {X : Cx}
end
end L2
namespace L2
open PySem PySem.Spec PyProof.Rows
section
variable {κ : Type} [DecidableEq κ]
noncomputable def valV (kvs : List (κ × V)) (k : κ) : Option V := (kvs.find? fun kv => decide (kv.1 = k)).map (·.2)
noncomputable def putK (kvs : List (κ × V)) (k : κ) (v : V) : List (κ × V) :=
 if (kvs.any fun kv => decide (kv.1 = k)) = true then kvs.map (fun kv => if kv.1 = k then (kv.1, v) else kv) else kvs ++ [(k, v)]
theorem Zba {p : κ × V} {r : List (κ × V)} {k : κ} (e : p.1 = k) : valV (p :: r) k = some p.2 := by simp [valV, List.find?_cons, e]
theorem Zbb {p : κ × V} {r : List (κ × V)} {k : κ} (e : ¬ p.1 = k) : valV (p :: r) k = valV r k := by simp [valV, List.find?_cons, e]
theorem ZdO (k : κ) : ∀ kvs : List (κ × V), (kvs.any fun kv => decide (kv.1 = k)) = (valV kvs k).isSome
 | [] => rfl
 | p :: r => by
  rw [List.any_cons]
  by_cases e : p.1 = k
  ·simp only [Zba e, decide_eq_true e, Bool.true_or, Option.isSome_some]
  ·rw [Zbb e, decide_eq_false e, Bool.false_or]; exact ZdO k r
theorem ZgT (k j : κ) (y : V) : ∀ kvs : List (κ × V), valV (kvs.map fun kv => if kv.1 = k then (kv.1, y) else kv) j = (valV kvs j).map fun x => if j = k then y else x
 | [] => rfl
 | p :: r => by
  have ih := ZgT k j y r
  rw [List.map_cons]
  by_cases h : p.1 = k
  ·rw [if_pos h]
   by_cases e : p.1 = j
   ·rw [Zba (p := (p.1, y)) e, Zba e, Option.map_some, if_pos (e.symm.trans h)]
   ·rw [Zbb (p := (p.1, y)) e, Zbb e, ih]
  ·rw [if_neg h]
   by_cases e : p.1 = j
   ·rw [Zba (p := p) e, Zba e, Option.map_some, if_neg (fun z => h (e.trans z))]
   ·rw [Zbb (p := p) e, Zbb e, ih]
theorem Zgc (k j : κ) (y : V) : ∀ kvs : List (κ × V), valV kvs k = none → valV (kvs ++ [(k, y)]) j = if j = k then some y else valV kvs j
 | [], _ => by
  by_cases e : k = j
  ·rw [if_pos e.symm]; exact Zba (p := (k, y)) e
  ·rw [if_neg (fun z => e z.symm)]; exact Zbb (p := (k, y)) e
 | p :: r, hn => by
  rw [List.cons_append]
  have hk : ¬ p.1 = k := fun z => by rw [Zba z] at hn; cases hn
  rw [Zbb hk] at hn
  have ih := Zgc k j y r hn
  by_cases e : p.1 = j
  ·rw [Zba e, Zba e, if_neg (fun z => hk (e.trans z))]
  ·rw [Zbb e, Zbb e, ih]
theorem ZkD (kvs : List (κ × V)) (k j : κ) (y : V) : valV (putK kvs k y) j = if j = k then some y else valV kvs j := by
 unfold putK
 by_cases a : (kvs.any fun kv => decide (kv.1 = k)) = true
 ·rw [if_pos a, ZgT]
  rw [ZdO] at a
  by_cases e : j = k
  ·obtain ⟨x, hx⟩ := Option.isSome_iff_exists.mp a
   rw [if_pos e, e, hx, Option.map_some, if_pos rfl]
  ·rw [if_neg e]
   cases valV kvs j with
   | none => rfl
   | some x => rw [Option.map_some, if_neg e]
 ·rw [if_neg a]
  refine Zgc k j y kvs ?_
  rw [ZdO] at a
  cases q : valV kvs k with
  | none => rfl
  | some x => rw [q] at a; exact (a rfl).elim
theorem Zb4 (kvs : List (κ × V)) (k : κ) (v : V) : (putK kvs k v).length ≤ kvs.length + 1 := by
 unfold putK
 split
 ·rw [List.length_map]; omega
 ·rw [List.length_append, List.length_cons, List.length_nil]; omega
theorem RelO.isSome_eq {o : Option V} {u : Option Value} (r : RelO o u) : o.isSome = u.isSome := by
 cases o with
 | none => cases u with
  | none => rfl
  | some _ => exact (show False from r).elim
 | some _ => cases u with
  | none => exact (show False from r).elim
  | some _ => rfl
theorem KV.val {kvs : List (κ × V)} {vs : List (κ × Value)} (r : KV kvs vs) (k : κ) : RelO (valV kvs k) (valueAt vs k) := by
 unfold KV at r
 induction r with
 | nil => exact True.intro
 | @cons p q ps qs h t ih =>
  obtain ⟨h1, h2⟩ := h
  by_cases e : p.1 = k
  ·have e' : q.1 = k := h1.symm.trans e
   have b : valueAt (q :: qs) k = some q.2 := by simp [valueAt, List.find?_cons, e']
   rw [Zba e, b]; exact h2
  ·have e' : ¬ q.1 = k := fun z => e (h1.trans z)
   have b : valueAt (q :: qs) k = valueAt qs k := by simp [valueAt, List.find?_cons, e']
   rw [Zbb e, b]; exact ih
theorem KV.any {kvs : List (κ × V)} {vs : List (κ × Value)} (r : KV kvs vs) (k : κ) : (kvs.any fun kv => decide (kv.1 = k)) = vs.any fun kv => decide (kv.1 = k) := by
 unfold KV at r
 induction r with
 | nil => rfl
 | cons h t ih => rw [List.any_cons, List.any_cons, ih, h.1]
theorem KV.repl {kvs : List (κ × V)} {vs : List (κ × Value)} (r : KV kvs vs) (k : κ) {y : V} {u : Value} (ry : RelV y u) :
  KV (kvs.map fun kv => if kv.1 = k then (kv.1, y) else kv) (vs.map fun kv => if kv.1 = k then (kv.1, u) else kv) := by
 unfold KV at r ⊢
 induction r with
 | nil => exact .nil
 | @cons p q ps qs h t ih =>
  rw [List.map_cons, List.map_cons]
  refine .cons ?_ ih
  obtain ⟨h1, h2⟩ := h
  by_cases e : p.1 = k
  ·rw [if_pos e, if_pos (h1.symm.trans e)]; exact ⟨h1, ry⟩
  ·rw [if_neg e, if_neg (fun z => e (h1.trans z))]; exact ⟨h1, h2⟩
theorem KV.put {kvs : List (κ × V)} {vs : List (κ × Value)} (r : KV kvs vs) (k : κ) {y : V} {u : Value} (ry : RelV y u) : KV (putK kvs k y) (stored vs k u) := by
 unfold putK stored
 rw [r.any k]
 by_cases e : (vs.any fun kv => decide (kv.1 = k)) = true
 ·rw [if_pos e, if_pos e]; exact r.repl k ry
 ·rw [if_neg e, if_neg e]; exact Paired.snoc r ⟨rfl, ry⟩
theorem KV.length {kvs : List (κ × V)} {vs : List (κ × Value)} (r : KV kvs vs) : kvs.length = vs.length := Paired.length r
end
theorem ZeO {P : Program} {w : World} {k : Key} {u : Value} (r : RelV (kV k) u) : (Zbd P w).is k u = true := by
 cases k with
 | inl i => obtain ⟨t, e⟩ := (show ∃ t, u = Value.int i t from r); subst e; exact ZhP P w i t
 | inr x => obtain ⟨t, e⟩ := (show ∃ t, u = Value.str x t from r); subst e; exact ZhO P w x t
theorem Zgs {P : Program} {w : World} : ∀ {ks : List Key} {us : List Value}, Vals (ks.map kV) us → ItemsAre (Zbd P w) ks us
 | [], _, r => by rw [List.map_nil] at r; cases r; exact .nil
 | k :: ks, _, r => by
  rw [List.map_cons] at r
  cases r with
  | cons h t => exact .cons (ZeO h) (Zgs t)
noncomputable abbrev KT (H : Hp) : List (List Key × V) → List (List Key × Addr × Value) → Prop := Paired fun p q => p.1 = q.1 ∧ H q.2.1 = some (.tup (p.1.map kV)) ∧ RelV p.2 q.2.2
theorem KT.val {H : Hp} {kvs : List (List Key × V)} {xs : List (List Key × Addr × Value)} (r : KT H kvs xs) (k : List Key) : RelO (valV kvs k) ((atKey xs k).map (·.2)) := by
 induction r with
 | nil => exact True.intro
 | @cons p q ps qs h t ih =>
  obtain ⟨h1, _, h2⟩ := h
  by_cases e : p.1 = k
  ·have e' : q.1 = k := h1.symm.trans e
   have b : atKey (q :: qs) k = some q.2 := by simp [atKey, List.find?_cons, e']
   rw [Zba e, b]; exact h2
  ·have e' : ¬ q.1 = k := fun z => e (h1.trans z)
   have b : atKey (q :: qs) k = atKey qs k := by simp [atKey, List.find?_cons, e']
   rw [Zbb e, b]; exact ih
theorem KT.repl {H : Hp} {kvs : List (List Key × V)} {xs : List (List Key × Addr × Value)} (r : KT H kvs xs) (k : List Key) {y : V} {u : Value} (ry : RelV y u) :
  KT H (kvs.map fun kv => if kv.1 = k then (kv.1, y) else kv) (xs.map (putAt k u)) := by
 induction r with
 | nil => exact .nil
 | @cons p q ps qs h t ih =>
  rw [List.map_cons, List.map_cons]
  refine .cons ?_ ih
  obtain ⟨h1, h2, h3⟩ := h
  unfold putAt
  by_cases e : p.1 = k
  ·rw [if_pos e, if_pos (h1.symm.trans e)]; exact ⟨h1, h2, ry⟩
  ·rw [if_neg e, if_neg (fun z => e (h1.trans z))]; exact ⟨h1, h2, h3⟩
theorem KT.put {H : Hp} {kvs : List (List Key × V)} {xs : List (List Key × Addr × Value)} (r : KT H kvs xs) (k : List Key) {b : Addr} {y : V} {u : Value} (hb : H b = some (.tup (k.map kV))) (ry : RelV y u) :
  KT H (putK kvs k y) (storedH xs k b u) := by
 have e : (kvs.any fun kv => decide (kv.1 = k)) = (atKey xs k).isSome := by
  rw [ZdO, (r.val k).isSome_eq, Option.isSome_map]
 unfold putK storedH
 rw [e]
 by_cases q : (atKey xs k).isSome = true
 ·rw [if_pos q, if_pos q]; exact r.repl k ry
 ·rw [if_neg q, if_neg q]; exact Paired.snoc r ⟨rfl, hb, ry⟩
theorem KT.keeps {H H' : Hp} {kvs : List (List Key × V)} {xs : List (List Key × Addr × Value)} (r : KT H kvs xs) (ht : ∀ b ys, H b = some (.tup ys) → H' b = some (.tup ys)) : KT H' kvs xs :=
 Paired.mapP r fun _ _ z => ⟨z.1, ht _ _ z.2.1, z.2.2⟩
section
variable {P : Program} {w : World} {H : Hp} {h : Heap} {a : Addr}
theorem Zlw {u : HO} (ok : HOk P w H h) (e : Rd H a u) : ZaM P w H h a u := e.ok ok
theorem ZgS {kvs : List (Key × V)} (ok : HOk P w H h) (e : Rd H a (.dK kvs)) : kvs.length ≤ sizeLine ∧ (a == sysModules) = false ∧ ∃ vs, KV kvs vs ∧ h.DictOf (Zbd P w) a vs :=
 show ZaM P w H h a (.dK kvs) from Zlw ok e
theorem Zi6 {kvs : List (Key × V)} (ok : HOk P w H h) (e : H a = some (.dK kvs)) : kvs.length ≤ sizeLine ∧ (a == sysModules) = false ∧ ∃ vs, KV kvs vs ∧ h.DictOf (Zbd P w) a vs := ZgS ok (.inl e)
theorem Zev {ks : List Key} (ok : HOk P w H h) (e : H a = some (.tup (ks.map kV))) : (tupleKind (Zbd P w)).is h ks a := by
 obtain ⟨_, its, r, o, h1, h2, n, h3⟩ := (show ZaM P w H h a (.tup (ks.map kV)) from ok a _ e)
 exact ⟨o, its.toArray, n, h1, h2, h3, by simpa using Zgs r⟩
theorem ZgR {kvs : List (List Key × V)} (ok : HOk P w H h) (e : Rd H a (.dT kvs)) : kvs.length ≤ sizeLine ∧ (a == sysModules) = false ∧
  ∃ xs, KT H kvs xs ∧ h.DictOfH (tupleKind (Zbd P w)) a xs := by
 obtain ⟨z, y, xs, r, o, es, ep, h1, h2, h3, h4, h5⟩ := (show ZaM P w H h a (.dT kvs) from Zlw ok e)
 refine ⟨z, y, xs, r, o, es, ep, h1, h2, h3, h4, fun x hx => ?_, h5⟩
 have all : ∀ {l : List (List Key × V)} {m : List (List Key × Addr × Value)}, KT H l m → ∀ x ∈ m, (tupleKind (Zbd P w)).is h x.1 x.2.1 := by
  intro l m q
  induction q with
  | nil => intro x hx; exact nomatch hx
  | @cons p q ps qs hq t ih =>
   intro x hx
   rcases List.mem_cons.mp hx with e | hx
   ·subst e
    exact Zev ok (by rw [← hq.1]; exact hq.2.1)
   ·exact ih x hx
 exact all r x hx
theorem ZlC {kvs : List (List Key × V)} (ok : HOk P w H h) (e : H a = some (.dT kvs)) : kvs.length ≤ sizeLine ∧ (a == sysModules) = false ∧
  ∃ xs, KT H kvs xs ∧ h.DictOfH (tupleKind (Zbd P w)) a xs := ZgR ok (.inl e)
end
noncomputable def DGet (H : Hp) (a : Addr) (y : V) (r : Option V) : Prop :=
 (∃ kvs k, Rd H a (.dK kvs) ∧ y = kV k ∧ r = valV kvs k) ∨ ∃ kvs k b, Rd H a (.dT kvs) ∧ y = .ref b ∧ H b = some (.tup (k.map kV)) ∧ r = valV kvs k
noncomputable def DPut (H : Hp) (a : Addr) (y v : V) (H' : Hp) : Prop :=
 (∃ kvs k, H a = some (.dK kvs) ∧ y = kV k ∧ kvs.length < sizeLine ∧ H' = upd H a (.dK (putK kvs k v))) ∨
 ∃ kvs k b, H a = some (.dT kvs) ∧ y = .ref b ∧ H b = some (.tup (k.map kV)) ∧ kvs.length < sizeLine ∧ H' = upd H a (.dT (putK kvs k v))
theorem DGet.k {H : Hp} {a : Addr} {kvs : List (Key × V)} {k : Key} (e : H a = some (.dK kvs)) : DGet H a (kV k) (valV kvs k) := .inl ⟨kvs, k, .inl e, rfl, rfl⟩
theorem DGet.t {H : Hp} {a b : Addr} {kvs : List (List Key × V)} {k : List Key} (e : H a = some (.dT kvs)) (eb : H b = some (.tup (k.map kV))) : DGet H a (.ref b) (valV kvs k) := .inr ⟨kvs, k, b, .inl e, rfl, eb, rfl⟩
theorem DPut.k {H : Hp} {a : Addr} {kvs : List (Key × V)} {k : Key} {v : V} (e : H a = some (.dK kvs)) (hl : kvs.length < sizeLine) : DPut H a (kV k) v (upd H a (.dK (putK kvs k v))) := .inl ⟨kvs, k, e, rfl, hl, rfl⟩
theorem DPut.t {H : Hp} {a b : Addr} {kvs : List (List Key × V)} {k : List Key} {v : V} (e : H a = some (.dT kvs)) (eb : H b = some (.tup (k.map kV))) (hl : kvs.length < sizeLine) :
  DPut H a (.ref b) v (upd H a (.dT (putK kvs k v))) := .inr ⟨kvs, k, b, e, rfl, eb, hl, rfl⟩
section
variable {X : Cx} {pins : List (Addr × Obj)} {σ : St} {H : Hp} {s : Shared} {a : Addr} {y v : V} {u r : Value} {o : Option V} {A : Around} {E : Value → Shared → Prop}
theorem Inv.big (I : Inv X pins σ H s) : sysModules < s.heap.objs.size := by
 have h : mainGlobals < s.heap.objs.size := (I.mod.glob.keeps I.bk).lt
 exact Nat.lt_trans (by decide) h
theorem Zkh {Q : Value → Shared → Prop} (hu : A.units + 1 < cLine) (I : Inv X pins σ H s) (g : DGet H a y (some v)) (ry : RelV y u) (h : ∀ w' s', Inv X pins σ H s' → RelV v w' → Q w' s') :
  wpAny (model X.prog X.w) A (getItem (.ref a) u) Q E s := by
 rcases g with ⟨kvs, k, e, ey, l⟩ | ⟨kvs, k, b, e, ey, eb, l⟩
 ·subst ey
  obtain ⟨z, hd, vs, rel, dd⟩ := ZgS I.hok e
  obtain ⟨w', hw, rw'⟩ := RelO.some_of (v := v) (o := valueAt vs k) (by rw [l]; exact rel.val k)
  exact wpAny_getItem_of (ZeO ry) dd.mapOf hw (h w' _ (I.tok _) rw')
 ·subst ey
  cases (show u = Value.ref b from ry)
  obtain ⟨z, hd, xs, rel, dd⟩ := ZgR I.hok e
  obtain ⟨w', hw, rw'⟩ := RelO.some_of (v := v) (o := (atKey xs k).map (·.2)) (by rw [l]; exact rel.val k)
  obtain ⟨p, hp, hp2⟩ := Option.map_eq_some_iff.mp hw
  refine wpAny_getItem_heap (tupleKind_room_in1 hu) (Zev I.hok eb) dd hp ?_
  rw [hp2]
  exact h w' _ (I.tok _) rw'
theorem d_in {Q : Value → Shared → Prop} (hu : A.units + 1 < cLine) (I : Inv X pins σ H s) (g : DGet H a y o) (ry : RelV y u) (h : ∀ s', Inv X pins σ H s' → Q (.bool o.isSome) s') :
  wpAny (model X.prog X.w) A (compareOp .In u (.ref a)) Q E s := by
 rcases g with ⟨kvs, k, e, ey, l⟩ | ⟨kvs, k, b, e, ey, eb, l⟩
 ·subst ey
  obtain ⟨z, hd, vs, rel, dd⟩ := ZgS I.hok e
  refine wpAny_in_of (ZeO ry) hd dd.mapOf ?_
  rw [← (rel.val k).isSome_eq, ← l]
  exact h _ (I.tok _)
 ·subst ey
  cases (show u = Value.ref b from ry)
  obtain ⟨z, hd, xs, rel, dd⟩ := ZgR I.hok e
  refine wpAny_in_heap (tupleKind_room_in1 hu) (Zev I.hok eb) hd dd ?_
  have q := (rel.val k).isSome_eq
  rw [Option.isSome_map] at q
  rw [← q, ← l]
  exact h _ (I.tok _)
theorem ZdK {h' : Heap} {t' : Nat} {ob : HO} (I : Inv X pins σ H s) (mu : Mut (H a)) (hs : Heap.SameBut a s.heap h') (he : ∃ q, h'.get? a = some q) (new : ZaM X.prog X.w (upd H a ob) h' a ob) :
  Inv X pins σ (upd H a ob) { s with heap := h', toks := t' } :=
 I.write (x := a) (e := a) mu (.inl rfl) (fun b q hb z => (hs.2 b hb).trans z) he new
theorem Zht {P : Program} {w : World} {H' : Hp} {h' : Heap} {kvs : List (Key × V)} {vs : List (Key × Value)} (z : kvs.length ≤ sizeLine) (hd : (a == sysModules) = false) (rel : KV kvs vs) (dd : h'.DictOf (Zbd P w) a vs) :
  ZaM P w H' h' a (.dK kvs) := ⟨z, hd, vs, rel, dd⟩
theorem Zkg {H' : Hp} {Q : Unit → Shared → Prop} (hu : A.units + 1 < cLine) (I : Inv X pins σ H s) (g : DPut H a y v H') (ry : RelV y u) (rv : RelV v r) (h : ∀ s', Inv X pins σ H' s' → Q () s') :
  wpAny (model X.prog X.w) A (setItem (.ref a) u r) Q E s := by
 rcases g with ⟨kvs, k, e, ey, l, eH⟩ | ⟨kvs, k, b, e, ey, eb, l, eH⟩
 ·subst ey eH
  obtain ⟨z, hd, vs, rel, dd⟩ := Zi6 I.hok e
  have hz : vs.length ≤ sizeLine := by rw [← rel.length]; exact z
  have hl : (putK kvs k v).length ≤ sizeLine := by have := Zb4 kvs k v; omega
  refine wpAny_setItem_pairs (hsz := hz) (ZeO ry) dd fun h' dd' hs => h _ ?_
  have he : ∃ q, h'.get? a = some q := let ⟨q, _, _, hq, _⟩ := dd'; ⟨q, hq⟩
  exact ZdK I (by rw [e]; exact True.intro) hs he (Zht hl hd (rel.put k rv) dd')
 ·subst ey eH
  cases (show u = Value.ref b from ry)
  obtain ⟨z, hd, xs, rel, dd⟩ := ZlC I.hok e
  have hz : xs.length ≤ sizeLine := by rw [← Paired.length rel]; exact z
  have hl : (putK kvs k v).length ≤ sizeLine := by have := Zb4 kvs k v; omega
  refine wpAny_setItem_heap (hsz := hz) (tupleKind_room_in1 hu) (Zev I.hok eb) dd fun h' dd' hs => h _ ?_
  obtain ⟨q, es, ep, hq, h2, h3, h4, _, h5⟩ := dd'
  refine ZdK I (by rw [e]; exact True.intro) hs ⟨q, hq⟩ ⟨hl, hd, _, (rel.put k eb rv).keeps fun c ys ec => ?_, q, es, ep, hq, h2, h3, h4, h5⟩
  rw [Zaj (Zlz ec e (fun z => nomatch z))]
  exact ec
end
section
variable {X : Cx} {pins : List (Addr × Obj)} {σ : St} {H : Hp} {s : Shared} {a : Addr} {kvs : List (Key × V)} {k : Key} {u : Value} {A : Around} {E : Value → Shared → Prop}
end
noncomputable def NoSl (i : Expr) : Prop := ∀ ov iv, subscripted i false ov iv = operate [ov, iv] (getItem ov iv)
theorem ZlP {prog : Program} {w : World} {A : Around} {E : Value → Shared → Prop} {s : Shared} {env : Env} {value slice : Expr} {pos : Pos} {T id : String} {Q : Value → Shared → Prop}
  (hl : typeLookup (.type T) "__getitem__" = pure (some (.builtin id))) (hs : NoSl slice)
  (h : wpAny (model prog w) A (eval value env) (fun o s₁ => wpAny (model prog w) A (eval slice env) (fun i s₂ => s₂.TypeIs o T ∧ wpAny (model prog w) A (getItem o i) Q E s₂) E s₁) E s) :
  wpAny (model prog w) A (eval (.Subscript value slice pos) env) Q E s := by
 refine Subscript_ (wpAny_mono h (fun o s₁ h₁ => wpAny_mono h₁ (fun i s₂ h₂ => ?_) fun _ _ x => x) fun _ _ x => x)
 obtain ⟨hT, h₂⟩ := h₂
 unfold subscriptTail
 refine wpAny_bind ?_
 rw [getitemInPython_of_ne hT.not_modules]
 refine wpAny_bind (wpAny_specialOf hT hl ?_)
 have fin : wpAny (model prog w) A (subscripted slice false o i) (fun r s₃ => wpAny (model prog w) A (letTemporaryGo value o r >>= fun _ => pure r) Q E s₃) E s₂ := by
  rw [hs o i]
  exact wpAny_operating (wpAny_mono h₂ (fun r s₃ h₃ => wpAny_bind (wpAny_letTemporaryGo (wpAny_pure h₃))) fun _ _ x => x)
 first
  | exact wpAny_pure (wpAny_bind fin)
  | exact wpAny_bind (wpAny_pure (wpAny_bind fin))
  | exact wpAny_bind fin
theorem ZhT {X : Cx} {pins : List (Addr × Obj)} {σ : St} {H : Hp} {s : Shared} {a : Addr} {y : V} {o : Option V} (I : Inv X pins σ H s) (g : DGet H a y o) : s.TypeIs (.ref a) "dict" := by
 rcases g with ⟨kvs, k, e, _, _⟩ | ⟨kvs, k, b, e, _, _, _⟩
 ·obtain ⟨_, _, vs, _, dd⟩ := ZgS I.hok e
  exact dd.typeIs
 ·obtain ⟨_, _, xs, _, dd⟩ := ZgR I.hok e
  exact dd.typeIs
noncomputable def ZgL (td ty : TE) : TE := fun σ H Q => td σ H fun x H1 => ty σ H1 fun y H2 => ∃ a v, x = .ref a ∧ DGet H2 a y (some v) ∧ Q v H2
noncomputable def Zlv (td ty tv : TE) : TS := fun D σ H => tv σ H fun v H1 => td σ H1 fun x H2 => ty σ H2 fun y H3 => ∃ a H4, x = .ref a ∧ DPut H3 a y v H4 ∧ D.nx σ H4
section
variable {X : Cx} {o i e value : Expr} {pos pos' tpos : Pos} {td ty tv : TE}
theorem ZbG (hu : X.A.units + 1 < cLine) (ho : PE X o td) (hi : PE X i ty) (hs : NoSl i) : PE X (.Subscript o i pos) (ZgL td ty) := by
 intro pins s σ H Q I h
 refine ZlP PySem.F.slot_dict_getitem.lookup hs (thn (ho pins s σ H _ I h) fun u s1 ⟨x, H1, I1, rx, q1⟩ => thn (hi pins s1 σ H1 _ I1 q1) fun iv s2 ⟨y, H2, I2, ry, a, v, ex, g, q2⟩ => ?_)
 subst ex
 obtain rfl : u = Value.ref a := rx
 exact ⟨ZhT I2 g, Zkh hu I2 g ry fun w' s3 I3 rw' => ⟨v, H2, I3, rw', q2⟩⟩
theorem ZlV (hu : X.A.units + 1 < cLine) (ho : PE X o td) (hi : PE X i ty) (hv : PE X value tv) (hs : swapsWith value (some (.Subscript o i pos')) pos.line X.env = pure false) :
  PS X (.Assign [.Subscript o i pos'] value pos) (Zlv td ty tv) := by
 intro pins s σ H D I h
 refine wpAny_Assign_Subscript (thn (hv pins s σ H _ I h) fun r s1 ⟨v, H1, I1, rv, q1⟩ => thn (ho pins s1 σ H1 _ I1 q1) fun u s2 ⟨x, H2, I2, rx, q2⟩ => thn (hi pins s2 σ H2 _ I2 q2) fun iv s3 ⟨y, H3, I3, ry, a, H4, ex, g, q3⟩ => ?_) hs
 subst ex
 obtain rfl : u = Value.ref a := rx
 exact Zkg hu I3 g ry rv fun s4 I4 => ⟨σ, H4, I4, q3⟩
end
theorem Zhu {P : Program} {w : World} {H : Hp} (h : Heap) (hb : sysModules < h.objs.size) : ZaM P w H (h.push { cls := .type "dict", data := .dict #[] }) h.objs.size (.dK []) :=
 ⟨Nat.zero_le _, beq_eq_false_iff_ne.mpr (Ne.symm (Nat.ne_of_lt hb)), [], .nil, Heap.DictOf.new h⟩
theorem Zle {P : Program} {w : World} {H : Hp} (h : Heap) (hb : sysModules < h.objs.size) : ZaM P w H (h.push { cls := .type "dict", data := .dict #[] }) h.objs.size (.dT []) :=
 ⟨Nat.zero_le _, beq_eq_false_iff_ne.mpr (Ne.symm (Nat.ne_of_lt hb)), [], .nil, _, #[], 0, Heap.get?_push_size _ rfl, ⟨rfl, rfl, rfl⟩, rfl, rfl, List.nodup_nil⟩
section
variable {X : Cx} {pos : Pos}
end
noncomputable def ZgV : List (TE × TE) → St → Hp → (List (V × V) → Hp → Prop) → Prop
 | [], _, H, Q => Q [] H
 | (tk, tv) :: r, σ, H, Q => tk σ H fun x H1 => tv σ H1 fun y H2 => ZgV r σ H2 fun ps H3 => Q ((x, y) :: ps) H3
noncomputable abbrev VV : List (V × V) → List (Value × Value) → Prop := Paired fun p q => RelV p.1 q.1 ∧ RelV p.2 q.2
noncomputable def PPs (X : Cx) (pos : Pos) (keys : List (Option Expr)) (values : List Expr) (trs : List (TE × TE)) : Prop :=
 ∀ (pins : List (Addr × Obj)) (s : Shared) (σ : St) (H : Hp) (Q : List (V × V) → Hp → Prop), Inv X pins σ H s → ZgV trs σ H Q →
  wpAny (model X.prog X.w) X.A (evalPairs (pairTrees keys values X.env pos)) (fun vs s' => ∃ ps H', Inv X pins σ H' s' ∧ VV ps vs ∧ Q ps H') X.xe s
theorem ZlW {X : Cx} {pos : Pos} : PPs X pos [] [] [] := fun pins s σ H Q I h => pairTrees_nil_walk ⟨[], H, I, .nil, h⟩
theorem Ze7 {X : Cx} {pos : Pos} {k v : Expr} {ks : List (Option Expr)} {vs : List Expr} {tk tv : TE} {trs : List (TE × TE)} (hk : PE X k tk) (hv : PE X v tv) (hr : PPs X pos ks vs trs) :
  PPs X pos (some k :: ks) (v :: vs) ((tk, tv) :: trs) := fun pins s σ H Q I h =>
 pairTrees_cons_walk (thn (hk pins s σ H _ I h) fun u s1 ⟨x, H1, I1, rx, q1⟩ => thn (hv pins s1 σ H1 _ I1 q1) fun w2 s2 ⟨y, H2, I2, ry, q2⟩ =>
  thn (hr pins s2 σ H2 _ I2 q2) fun ws s3 ⟨ps, H3, I3, rel, q3⟩ => ⟨(x, y) :: ps, H3, I3, .cons ⟨rx, ry⟩ rel, q3⟩)
noncomputable def ZcV (kvs more : List (Key × V)) : List (Key × V) := more.foldl (fun acc kv => putK acc kv.1 kv.2) kvs
theorem KV.merge : ∀ {more : List (Key × V)} {rs : List (Key × Value)} {kvs : List (Key × V)} {vs : List (Key × Value)}, KV more rs → KV kvs vs → KV (ZcV kvs more) (merged vs rs) := by
 intro more rs kvs vs r
 unfold KV at r
 induction r generalizing kvs vs with
 | nil => intro q; exact q
 | @cons p q ps qs h t ih =>
  intro r0
  have e : KV (putK kvs p.1 p.2) (stored vs q.1 q.2) := by
   have := r0.put p.1 h.2
   rw [← h.1]; exact this
  exact ih e
theorem Zd5 : ∀ (more kvs : List (Key × V)), (ZcV kvs more).length ≤ kvs.length + more.length
 | [], kvs => by show kvs.length ≤ kvs.length + 0; omega
 | p :: r, kvs => by
  have h1 := Zd5 r (putK kvs p.1 p.2)
  have h2 := Zb4 kvs p.1 p.2
  show (ZcV (putK kvs p.1 p.2) r).length ≤ _
  rw [List.length_cons]; omega
theorem ZfL {P : Program} {w : World} : ∀ {kvs : List (Key × V)} {ws : List (Value × Value)}, VV (kvs.map fun kv => (kV kv.1, kv.2)) ws → ∃ rs, Carries (Zbd P w) ws rs ∧ KV kvs rs
 | [], _, r => by rw [List.map_nil] at r; cases r; exact ⟨[], True.intro, .nil⟩
 | p :: kvs, _, r => by
  rw [List.map_cons] at r
  cases r with
  | @cons a b as bs h t =>
   obtain ⟨rs, c, q⟩ := ZfL (P := P) (w := w) t
   obtain ⟨b1, b2⟩ := b
   exact ⟨(p.1, b2) :: rs, ⟨ZeO h.1, rfl, c⟩, .cons ⟨rfl, h.2⟩ q⟩
noncomputable def Zls (trs : List (TE × TE)) : TE := fun σ H Q => ∀ p, H p = none → ZgV trs σ (upd H p (.dK [])) fun ps H2 => H2 p = some (.dK []) ∧ ∃ kvs : List (Key × V), ps = kvs.map (fun kv => (kV kv.1, kv.2)) ∧ kvs.length ≤ 15 ∧ Q (.ref p) (upd H2 p (.dK (ZcV [] kvs)))
theorem Zl2 {X : Cx} {pos : Pos} {keys : List (Option Expr)} {values : List Expr} {trs : List (TE × TE)} (h : PPs X pos keys values trs) (hall : keys.all (·.isSome) = true) (hl : keys.length = values.length) (h0 : keys ≠ [])
  (h15 : keys.length ≤ 15) : PE X (.Dict keys values pos) (Zls trs) := by
 intro pins s σ H Q I q
 have hn := I.hok.fresh (Nat.le_refl s.heap.objs.size)
 have I1 := I.laid (a := s.heap.objs.size) (o := .dK []) (h' := s.heap.push { cls := .type "dict", data := .dict #[] }) (t' := s.toks) (fun _ _ q => Heap.get?_push_of_some _ q) (Nat.le_refl _) (Zhu s.heap I.big)
 refine wpAny_Dict_walk (knd := Zbd X.prog X.w) hall hl h0 h15 (thn (h pins _ σ _ _ I1 (q _ hn)) fun ws s2 ⟨ps, H2, I2, rel, e, kvs, ep, lk, q2⟩ => ?_)
 subst ep
 obtain ⟨rs, c, rk⟩ := ZfL (P := X.prog) (w := X.w) rel
 obtain ⟨z, hd, vs0, r0, dd⟩ := Zi6 I2.hok e
 cases r0
 refine ⟨rs, c, dd, fun h' dd' hs => ⟨.ref s.heap.objs.size, _, ?_, rfl, q2⟩⟩
 have hz : (ZcV [] kvs).length ≤ sizeLine := by
  have h1 := Zd5 kvs []
  rw [List.length_nil] at h1
  rw [sizeLine_eq]; omega
 have he : ∃ q, h'.get? s.heap.objs.size = some q := let ⟨q, _, _, hq, _⟩ := dd'; ⟨q, hq⟩
 exact ZdK I2 (by rw [e]; exact True.intro) hs he (Zht hz hd (rk.merge .nil) dd')
section
variable {X : Cx} {pins : List (Addr × Obj)} {σ : St} {H : Hp} {s : Shared} {a : Addr} {y d : V} {u r : Value} {o : Option V} {A : Around} {E : Value → Shared → Prop}
end
section
variable {X : Cx} {o e f : Expr} {apos cpos : Pos} {td ty tx : TE}
end
section
variable {X : Cx} {pins : List (Addr × Obj)} {σ : St} {H : Hp} {s : Shared} {a : Addr} {kvs : List (Key × V)} {A : Around} {E : Value → Shared → Prop}
end
section
variable {X : Cx} {pins : List (Addr × Obj)} {σ : St} {H : Hp} {s : Shared} {a : Addr} {y : V} {u : Value} {A : Around} {E : Value → Shared → Prop}
end
end L2
namespace Att
open PySem PySem.W PySem.Calls PyProof.Rows
theorem ZfF {P : Params} {h : Heap} : ∀ (ns : List Int) (vs : List Value), WellAll P h vs (ns.map WData.int) → IntsAre vs ns := by
 intro ns
 induction ns with
 | nil =>
  intro vs w
  rw [List.map_nil] at w
  cases w
  exact .nil
 | cons n ns ih =>
  intro vs w
  rw [List.map_cons] at w
  cases w with
  | cons a b =>
   cases a
   exact .cons _ _ (ih _ b)
theorem Zjw {l : OpenLaw} {n : Nat} (hn : l.most = some n) {P : Params} {h : Heap} {args : List WData} {vals : List Value}
  (hpre : l.row.toRowW.claim.pre args = true) (hwl : WellAll P h vals args) :
  ∃ a vs ns, vals = [Value.ref a] ∧ args = [WData.list (ns.map WData.int)] ∧ h.get? a = some { cls := .type "list", data := .seq vs.toArray } ∧ IntsAre vs ns ∧ ns.length ≤ n := by
 have hsh : WShape.hasAll [] args [.list .int] = true := (pre_splitW hpre).1
 have hc : l.pre.holds [] { args := args } = true := (pre_splitW hpre).2
 obtain ⟨d, r, rfl, h1, h2⟩ := hasAllW_cons hsh
 obtain rfl := hasAllW_nil h2
 obtain ⟨xs, rfl, h3⟩ := hasW_list h1
 obtain ⟨ns, rfl⟩ := items_int h3
 have hlen : ns.length ≤ n := by
  unfold OpenLaw.pre at hc
  have h4 : (WTm.not (.lt (.lit (.int (n : Int))) (.len (.arg 0)))).holds [] { args := [.list (ns.map .int)] } = true := by
   have h4 := (holds_andW hc).1
   rw [hn] at h4
   exact h4
  have h5 := condW_of h4 (w_not (w_lt w_lit (w_len_list (w_arg rfl))))
  rw [List.length_map] at h5
  refine Nat.le_of_not_lt fun q => ?_
  have q' : (n : Int) < ((ns.length : Nat) : Int) := by omega
  first
   | (rw [decide_eq_true q'] at h5; exact absurd h5 (by decide))
   | (simp at h5; omega)
 cases hwl with
 | cons w1 w2 =>
  cases w2
  cases w1 with
  | list ho hall => exact ⟨_, _, ns, rfl, rfl, ho, ZfF ns _ hall, hlen⟩
theorem ZjF (l : OpenLaw) (args : List WData) : l.row.toRowW.claim.post args (.bool true) args = true :=
 postW_of (r := l.row.toRowW) (X := (true == true))
  (show WShape.has [] (.bool true) .bool = true by first | rfl | decide | simp [WShape.has, WShape.arms, WShape.armsAll])
  (show (WTm.eq .res (.lit (.bool true))).value [] { args := args, res := some (.bool true), after := args } = some (.bool (true == true)) from w_eq_bool (w_res rfl) w_lit) rfl
theorem attach_call {l : OpenLaw} {n : Nat} {q : Program} {loose : List Str} {XP : (Str → Option Value) → Heap → Prop} {YP : World → Heap → Prop} {d : DefRec}
  (hn : l.most = some n) (hdf : d.params.defaults = [])
  (call : ∀ (w : World) (s₀ s₁ : Shared) (mg mb : Str → Option Value) (fa : Addr) (o : Obj) (pm cd doc : Value) (a : Addr) (vs : List Value) (ns : List Int),
   Ground q loose [] XP w s₀ mg mb s₁.heap → YP w s₁.heap →
   s₁.heap.get? fa = some o → o.data = .func (docDef d.name d.params d.body d.scope pm cd doc) → s₁.heap.CodeRec cd d.name → mg d.name = some (.ref fa) →
   s₁.heap.get? a = some { cls := .type "list", data := .seq vs.toArray } → IntsAre vs ns → ns.length ≤ n → s₁.gens = #[] →
   codeAny (model l.prog w) callerA (.call (.ref fa) ⟨[.ref a], []⟩) (fun r s' => r = .ok (.ret (.bool true)) ∧ OldK s₁.heap s'.heap ∧ s'.os = s₁.os ∧ AllBare s'.gens) s₁) :
  WalkO q loose XP YP l.row.toRowW d [] (fun f vs => PySem.call f vs) := by
 intro w s₀ s₁ mg mb G Y fa o pm cd doc dV kV ho hd hcd hD hmg hg args vals as hpre hlay hrd hwl hlo
 obtain rfl : dV = .none := Dflts.none hD hdf
 obtain rfl : kV = .none := Dflts.noKw hD
 obtain ⟨a, vs, ns, rfl, rfl, hobj, hints, hlen⟩ := Zjw hn hpre hwl
 refine enter_call (codeAny_mono (call w s₀ s₁ mg mb fa o pm cd doc a vs ns G Y ho (fd_plain hd) hcd hmg hobj hints hlen hg) fun r s' hq => ?_)
 obtain ⟨rfl, h2, h3, h4⟩ := hq
 exact ⟨.inl ⟨.bool true, .bool true, [], rfl, fun _ => rfl, .bool true, ZjF l _, fun _ => ⟨List.Pairwise.nil, fun _ hm => (nomatch hm)⟩⟩, h2, h3, h4⟩
section
variable {prog : Program} {w : World} {A : Around} {E : Value → Shared → Prop} {s : Shared} {K : Frag}
end
end Att
namespace L2
open PySem PySem.Spec PyProof.Rows
theorem Zgb : ∀ {vs : List Value} {ns : List Int}, IntsAre vs ns → Vals (ns.map V.int) vs
 | _, _, .nil => .nil
 | _, _, .cons n t h => .cons ⟨t, rfl⟩ (Zgb h)
end L2
namespace L2
open PySem PySem.Spec PyProof.Rows
end L2
namespace L2
open PySem PySem.Spec PyProof.Rows
noncomputable def ZaP (s : Stmt) : Arguments := match s with
 | .FunctionDef _ a _ _ _ _ _ _ _ _ => a
 | _ => { posonlyargs := [], args := [], vararg := none, kwonlyargs := [], kw_defaults := [], kwarg := none, defaults := [] }
noncomputable def ZaH (s : Stmt) : List Stmt := match s with
 | .FunctionDef _ _ b _ _ _ _ _ _ _ => b
 | _ => []
noncomputable def Zak (s : Stmt) : Scope := match s with
 | .FunctionDef _ _ _ _ _ _ sc _ _ _ => sc
 | _ => { kind := .function, names := [], isGenerator := false, isCoroutine := false }
noncomputable abbrev CX0 : CXT := fun _ _ _ _ _ _ => False
noncomputable abbrev E0 : XK := fun _ _ _ => False
theorem ZiM {X : Cx} : ZfO CX0 X E0 := fun _ _ _ _ _ _ _ h => h.elim
structure Fun (K : PySem.W.Frag) (x qual : Str) (st : Stmt) (f : Addr) (fd : FuncData) : Prop where
 ex : ∃ (oc : Value) (od : Option Addr) (kV doc pm : Value) (an : Option Addr) (cdv ct : Value) (osl : Array (Option Value)),
  fd = PySem.W.fnOf x qual (ZaP st) (ZaH st) (Zak st) .none kV doc pm an cdv ct ∧ K.lookup f = some ⟨oc, od, .func fd, osl⟩ ∧ PySem.W.codeIn K cdv qual = true
 kp : PySem.W.keepIn K (.ref f) = true
section
variable {P : Program} {w : World} {K : PySem.W.Frag} {mg : Str → Option Value} {base : Heap}
theorem Fun.ok {x qual : Str} {st : Stmt} {f : Addr} {fd : FuncData} {N ps : List Str} {k : Nat} {sp : Sp} (F : Fun K x qual st f fd) (S : FnScope N ps (Zak st)) (len : ∀ vs H Q E, sp vs H Q E → vs.length = ps.length)
  (hbody : ∀ (cdv : Value) (A : Around) (outer : List Env) (s : Shared) (H : Hp) (vs : List V) (Q : VK) (E : XK), Room k (A.deeper (envOfC qual (Zak st) s.heap.objs.size f cdv)) → sp vs H Q E →
   ∃ t, PSs (cxOf CX0 P w K mg base N qual (Zak st) f cdv A outer s H E).nox (ZaH st) t ∧ t { nx := fun _ H' => Q .non H', rt := Q } (start N vs) H) : FnOk P w K mg base CX0 (k + 1) f fd ps sp := by
 obtain ⟨oc, od, kV, doc, pm, an, cdv, ct, osl, rfl, lk, hcd⟩ := F.ex
 refine ZlB lk hcd S len fun A outer s H vs Q E hr hsp => ?_
 obtain ⟨t, h, q⟩ := hbody cdv A outer s H vs Q E hr hsp
 exact ⟨t, h.nox, q⟩
theorem Fun.binds {x qual : Str} {st : Stmt} {f : Addr} {fd : FuncData} {ps : List Str} (F : Fun K x qual st f fd)
  (h : ∀ (kV doc pm : Value) (an : Option Addr) (cdv ct : Value) (us : List Value), us.length = ps.length → bindArgs (PySem.W.fnOf x qual (ZaP st) (ZaH st) (Zak st) .none kV doc pm an cdv ct) ⟨us, []⟩ = pure (ps.zip us)) : ZbR K fd ps [] := by
 obtain ⟨oc, od, kV, doc, pm, an, cdv, ct, osl, rfl, lk, hcd⟩ := F.ex
 exact .all (h kV doc pm an cdv ct)
theorem Zbi {x qual : Str} {st : Stmt} {f : Addr} {oc : Value} {od an : Option Addr} {osl : Array (Option Value)} {kV doc pm cdv ct : Value} (l : K.lookup f = some ⟨oc, od, .func (PySem.W.fnOf x qual (ZaP st) (ZaH st) (Zak st) .none kV doc pm an cdv ct), osl⟩)
  (c : PySem.W.codeIn K cdv qual = true) (k : PySem.W.keepIn K (.ref f) = true) : Fun K x qual st f (PySem.W.fnOf x qual (ZaP st) (ZaH st) (Zak st) .none kV doc pm an cdv ct) := ⟨⟨oc, od, kV, doc, pm, an, cdv, ct, osl, rfl, l, c⟩, k⟩
end
theorem hu_of {A : Around} {k : Nat} (hr : Room k A) : A.units + 1 < cLine := Nat.lt_of_le_of_lt (Nat.add_le_add_left (by decide : 1 ≤ 64) _) hr.units
section
variable {X : Cx}
theorem pv (i : Nat) {x : Str} {pos : Pos} (hN : X.N[i]? = some x := by rfl) (hv : Vis X.env.scope x := by first | exact Or.inl rfl | exact Or.inr (Or.inl rfl) | exact Or.inr (Or.inr rfl)) (hd : (x == ("__debug__" : Str)) = false := by decide)
  (hcd : (x == ("__classdict__" : Str)) = false := by decide) : PE X (.Name x pos) (tVar i) := ZmL hN hv hd hcd
end
theorem iteF {A B : Prop} (h : B) : if false = true then A else B := by
 rw [if_neg Bool.false_ne_true]
 exact h
theorem iteT {A B : Prop} (h : A) : if true = true then A else B := by
 rw [if_pos rfl]
 exact h
section
variable {X : Cx}
end
section
variable {κ : Type} [DecidableEq κ]
end
end L2
namespace L2
open PySem PySem.Spec PyProof.Rows
theorem ZhV {prog : Program} {w : World} {A : Around} {R : Result → Shared → Prop} {s : Shared} {elt target iter : Expr} {ifs : List Expr} {scope : Scope} {pos : Pos} {it acc : Value} {env : Env} (I : Nat → Shared → Prop)
  (turn : ∀ n s, I n s → wpAny (model prog w) A (pyNext it) (fun r s₁ => match r with
   | none => R (.ok .next) s₁
   | some v => wpAny (model prog w) A (letOwnedTupleGo target it v) (fun _ s₁' => wpAny (model prog w) A (assign target env v) (fun _ s₂ =>
     wpAny (model prog w) A (forIn ifs true fun c r => if r = true then do let ok ← isTrue c env (eval c env); pure (ForInStep.yield ok) else pure (ForInStep.yield r)) (fun ok s₃ =>
      if ok = true then wpAny (model prog w) A (eval elt env) (fun x s₄ =>
       wpAny (model prog w) A (call (.builtin "list.append") [acc, x]) (fun _ s₅ => ∃ m, m < n ∧ I m s₅) (notedBy (model prog w) A env fun e s' => R (.error e) s') s₄) (notedBy (model prog w) A env fun e s' => R (.error e) s') s₃
      else ∃ m, m < n ∧ I m s₃) (notedBy (model prog w) A env fun e s' => R (.error e) s') s₂) (notedBy (model prog w) A env fun e s' => R (.error e) s') s₁') (notedBy (model prog w) A env fun e s' => R (.error e) s') s₁) (notedBy (model prog w) A env fun e s' => R (.error e) s') s)
  (n : Nat) (h : I n s) :
  codeAny (model prog w) A (.compLoop (.ListComp elt [⟨target, iter, ifs, 0⟩] scope pos) 0 it acc env) R s := by
 refine codeAny_loop rfl I (fun n s hI => ?_) n h
 show wpAny _ A ((compTurn (.ListComp elt [⟨target, iter, ifs, 0⟩] scope pos) 0 it acc env).onRaise (fun x => do noteFrame x env; theTreesLotGoes x)) _ _ s
 refine wpAny_noted ?_
 rw [compTurn_list]
 refine wpAny_bind (wpAny_standAt (wpAny_bind (wpAny_mono (turn n s hI) (fun r s₁ h₁ => ?_) fun _ _ h' => h')))
 cases r with
 | none => exact wpAny_pure h₁
 | some v =>
  refine wpAny_bind (wpAny_mono h₁ (fun _ s₁' h₁' => ?_) fun _ _ h' => h')
  refine wpAny_bind (wpAny_mono h₁' (fun _ s₂ h₂ => wpAny_bind (wpAny_mono h₂ (fun ok s₃ h₃ => ?_) fun _ _ h' => h')) fun _ _ h' => h')
  cases ok with
  | false => exact wpAny_pure ⟨rfl, h₃⟩
  | true =>
   exact wpAny_bind (wpAny_bind (wpAny_mono h₃ (fun x s₄ h₄ => wpAny_bind (wpAny_mono h₄ (fun _ s₅ h₅ => wpAny_pure (wpAny_pure ⟨rfl, h₅⟩)) fun _ _ h' => h')) fun _ _ h' => h'))
noncomputable def blk (X : Cx) (pins : List (Addr × Obj)) (N' : List Str) (scope : Scope) (cl : List (Str × Addr)) (C : Addr) (s : Shared) (H : Hp) (fp : List Addr) : Cx where
 prog := X.prog
 w := X.w
 K := X.K
 mg := X.mg
 base := X.base
 A := X.A
 N := N'
 s₀ := s
 H₀ := H
 env := compEnvC scope cl C X.env
 outer := X.stack
 stack := X.stack
 ex := fp
 fn := fun _ => false
 calm := X.calm
 pn := X.pn ++ pins
 xe := fun _ _ => False
noncomputable def PIfs (X : Cx) (ifs : List Expr) (t : TT) : Prop :=
 ∀ (pins : List (Addr × Obj)) (s : Shared) (σ : St) (H : Hp) (Q : Bool → Hp → Prop), Inv X pins σ H s → t σ H Q →
  wpAny (model X.prog X.w) X.A (forIn ifs true fun c r => if r = true then do let ok ← isTrue c X.env (eval c X.env); pure (ForInStep.yield ok) else pure (ForInStep.yield r)) (TP X pins σ Q) X.xe s
noncomputable def Znr : TT := fun _ H Q => Q true H
theorem ZkN {X : Cx} : PIfs X [] Znr := fun _ _ _ H _ I h => wpAny_pure ⟨H, I, h⟩
theorem Zg5 {X : Cx} {c : Expr} {t : TT} (h : PT X c t) : PIfs X [c] t := fun pins s σ H Q I hq => wpAny_tests_one (h pins s σ H Q I hq)
structure BlkOk (X : Cx) (N' : List Str) (src : List (Option Nat)) (scope : Scope) (cl : List (Str × Addr)) : Prop where
 clos : closureFor scope X.env = pure cl
 nocell : ∀ y ∈ scope.names, y.2 ≠ .cell
 kind : scope.kind = .function
 names : ∀ y ∈ scope.names, y.2 = .local → scope.names.lookup y.1 = some .local
 len : src.length = N'.length
 cells : ∀ x c, cl.lookup x = some c → X.env.cells.lookup x = some c
 has : ∀ x, ((relabel scope X.env).names.lookup x = some .cell ∨ (relabel scope X.env).names.lookup x = some .free) → ∃ c, cl.lookup x = some c
 from_ : ∀ (i j : Nat) x, src[i]? = some (some j) → N'[i]? = some x → X.N[j]? = some x ∧ (X.env.kindOf x = some .cell ∨ X.env.kindOf x = some .free) ∧ ((relabel scope X.env).names.lookup x = some .cell ∨ (relabel scope X.env).names.lookup x = some .free)
noncomputable def ZcP (src : List (Option Nat)) (σ : St) : St := src.map fun o => o.bind fun j => (σ[j]?).bind id
theorem Zmt {X : Cx} {pins : List (Addr × Obj)} {σ : St} {H : Hp} {s s1 : Shared} {N' : List Str} {src : List (Option Nat)} {scope : Scope} {cl : List (Str × Addr)} {C : Addr} {fp : List Addr} {m : Str → Option Value}
  (B : BlkOk X N' src scope cl) (I : Inv X pins σ H s) (hf : ∀ b ∈ fp, FpOk X pins H b) (hC : s.heap.objs.size ≤ C) (hCf : ∀ b ∈ fp, b ≠ C)
  (hs : s1.os = s.os) (hg : s1.gens = s.gens) (hk : ∀ b o, s.heap.get? b = some o → s1.heap.get? b = some o) (hn : s1.heap.Ns C m) : Inv (blk X pins N' scope cl C s H fp) [] (ZcP src σ) H s1 := by
 have noC : ∀ b o, s.heap.get? b = some o → b ≠ C := fun b o e => Nat.ne_of_lt (Nat.lt_of_lt_of_le (Heap.lt_size e) hC)
 refine ⟨⟨I.ok.mod, B.kind, I.ok.glob, I.ok.blt, hC, fun x y c h1 h2 => I.ok.inj x y c (B.cells _ _ h1) (B.cells _ _ h2), fun x hx => B.has x hx, fun x c hf _ => (by cases hf), I.ok.hd, I.ok.frames, .inl rfl, fun b hb => ?_, I.bs, Nat.le_trans I.ok.bsz I.sz, fun b o e hb => ?_, fun b hb z => ?_, I.stack, I.stkFree⟩,
  hs, by rw [hg]; exact I.bare, Un.kept hk, ⟨m, hn, fun i x v h1 h2 h3 => ?_⟩, fun x c e => ?_, I.hok.fresh hC, fun x c e => I.freeC x c (B.cells _ _ e), fun p hp => ?_, I.hok.kept hk, ?_⟩
 ·obtain ⟨f0, f1, f2, f3, f4, f5⟩ := hf b hb
  exact ⟨hCf b hb, fun x c e => f4 x c (B.cells _ _ e)⟩
 ·obtain ⟨f0, f1, f2, f3, f4, f5⟩ := hf b hb
  rcases f3 with z | z
  ·exact I.ok.noex b o e z
  ·exact absurd (Nat.lt_of_lt_of_le (Heap.lt_size (I.ok.bs b o e).1) z) (Nat.lt_irrefl _)
 ·obtain ⟨f0, f1, f2, f3, f4, f5⟩ := hf b hb
  rcases List.mem_cons.mp (I.stkSub b z) with e | e
  ·exact f1 e
  ·exact f2 e
 ·have h2' : (ZcP src σ)[i]? = some (some v) := h2
  unfold ZcP at h2'
  rw [List.getElem?_map] at h2'
  cases e : src[i]? with
  | none => rw [e] at h2'; cases h2'
  | some o =>
   rw [e] at h2'
   cases o with
   | none => simp at h2'
   | some j =>
    obtain ⟨q1, q2, q3⟩ := B.from_ i j x e h1
    have hj : σ[j]? = some (some v) := by
     simp only [Option.map_some, Option.bind_some, Option.some.injEq] at h2'
     cases e2 : σ[j]? with
     | none => rw [e2] at h2'; cases h2'
     | some o2 => rw [e2] at h2'; simp at h2'; rw [h2']
    obtain ⟨mm, hnn, hl⟩ := I.loc
    have vis : Vis X.env.scope x := by
     rcases q2 with z | z
     ·exact .inr (.inl z)
     ·exact .inr (.inr z)
    obtain ⟨u, r, l⟩ := hl j x v q1 hj vis
    refine ⟨u, r, ?_⟩
    rcases l with ⟨k, _⟩ | ⟨_, c, ec, z⟩
    ·rcases q2 with z | z <;> rw [z] at k <;> cases k
    ·obtain ⟨c', ec'⟩ := B.has x q3
     have ee : c' = c := by
      have := B.cells _ _ ec'
      rw [ec] at this
      exact (Option.some.inj this).symm
     subst ee
     obtain ⟨o, ho, hd⟩ := z
     exact .inr ⟨q3, c', ec', o, hk _ _ ho, hd⟩
 ·obtain ⟨v, o, ho, hd⟩ := I.cell x c (B.cells _ _ e)
  exact ⟨v, o, hk _ _ ho, hd⟩
 ·have hp' : p ∈ X.pn ++ pins := by simpa [blk] using hp
  obtain ⟨e, n, ne, nf, d⟩ := I.pin p hp'
  refine ⟨hk _ _ e, n, noC _ _ e, fun z => ?_, d⟩
  rcases List.mem_cons.mp (I.stkSub p.1 z) with q | q
  ·exact ne q
  ·exact nf q
 ·show (ZcP src σ).length = N'.length
  unfold ZcP
  rw [List.length_map, B.len]
noncomputable def Zfn (src : List (Option Nat)) (wi : TI) (g : TG) (tt : TT) (te : TE) : TE := fun σ H Q => wi σ H fun J H1 => ∀ p, H1 p = none →
 ∃ W : Nat → Nat → St → Hp → Prop, (∃ m, W 0 m (ZcP src σ) (upd H1 p (.lst []))) ∧ ∀ i m σ2 H2, W i m σ2 H2 →
  (J.stop i H2 ∧ Q (.ref p) H2) ∨ (J.go i H2 ∧ ∀ x H3, J.yld i H2 x H3 → g x σ2 H3 fun σ4 H4 => tt σ4 H4 fun ok H5 =>
   if ok = true then te σ4 H5 fun y H6 => ∃ xs, H6 p = some (.lst xs) ∧ xs.length < sizeLine ∧ ∃ m', m' < m ∧ W (i + 1) m' σ4 (upd H6 p (.lst (xs ++ [y])))
   else ∃ m', m' < m ∧ W (i + 1) m' σ4 H5)
theorem Zgv {X : Cx} {elt tg iter : Expr} {ifs : List Expr} {scope : Scope} {pos : Pos} {N' : List Str} {src : List (Option Nat)} {cl : List (Str × Addr)} {g : TG} {tt : TT} {te : TE}
  {pins : List (Addr × Obj)} {σ : St} {H2 : Hp} {s₂ : Shared} {it : Addr} {fp : List Addr} {tn : Nat → Heap → Prop} {J : It} {Qp : Addr → Hp → Prop} {RR : Value → Addr → Result → Shared → Prop} {E : Value → Shared → Prop}
  (hc : X.calm = true) (B : BlkOk X N' src scope cl)
  (hg : ∀ pins C s H fp, PG (blk X pins N' scope cl C s H fp) tg g) (ht : ∀ pins C s H fp, PIfs (blk X pins N' scope cl C s H fp) ifs tt) (he : ∀ pins C s H fp, PE (blk X pins N' scope cl C s H fp) elt te)
  (I2 : Inv X pins σ H2 s₂) (T : Turn X.prog X.w X.K tg J fp it tn) (st2 : tn 0 s₂.heap) (f2 : ∀ b ∈ fp, FpOk X pins H2 b)
  (q2 : ∀ p, H2 p = none → ∃ W : Nat → Nat → St → Hp → Prop, (∃ m, W 0 m (ZcP src σ) (upd H2 p (.lst []))) ∧ ∀ i m σ2 H2, W i m σ2 H2 →
   (J.stop i H2 ∧ Qp p H2) ∨ (J.go i H2 ∧ ∀ x H3, J.yld i H2 x H3 → g x σ2 H3 fun σ4 H4 => tt σ4 H4 fun ok H5 =>
    if ok = true then te σ4 H5 fun y H6 => ∃ xs, H6 p = some (.lst xs) ∧ xs.length < sizeLine ∧ ∃ m', m' < m ∧ W (i + 1) m' σ4 (upd H6 p (.lst (xs ++ [y])))
    else ∃ m', m' < m ∧ W (i + 1) m' σ4 H5))
  (hfin : ∀ p C s6 H5 mm, Inv X pins σ H5 s6 → s6.heap.Ns C mm → FpOk X pins H5 C → Qp p H5 → RR (.ref p) C (.ok .next) s6) :
  wpAny (model X.prog X.w) X.A (newList []) (fun acc s₃ => wpAny (model X.prog X.w) X.A (newFunctionEnv scope X.env.globals cl [] X.env.qual none .none (some X.env)) (fun cenv s₄ =>
   codeAny (model X.prog X.w) X.A (.compStart (.ListComp elt [⟨tg, iter, ifs, 0⟩] scope pos) 0 (.ref it) acc { cenv with scope := relabel scope X.env }) (RR acc cenv.locals) s₄) E s₃) E s₂ := by
 have fpold : ∀ b ∈ fp, b < s₂.heap.objs.size := fun b hb => by
  obtain ⟨o, e, _⟩ := T.obj _ _ st2 b hb
  exact Heap.lt_size e
 have q2 := q2 s₂.heap.objs.size (I2.hok.fresh (Nat.le_refl _))
 obtain ⟨W, ⟨m0, w0⟩, turn⟩ := q2
 -- the new list
 refine wpAny_newObj_type ?_
 have I3 : Inv X pins σ (upd H2 s₂.heap.objs.size (.lst [])) { s₂ with heap := s₂.heap.push { cls := .type "list", dict := none, data := .seq ([] : List Value).toArray } } :=
  I2.lnew (t' := s₂.toks) (ys := []) .nil (Nat.zero_le _)
 have st3 : tn 0 (s₂.heap.push { cls := .type "list", dict := none, data := .seq ([] : List Value).toArray }) := T.keep _ _ _ st2 fun b _ o e => Heap.get?_push_of_some _ e
 have f3 : ∀ b ∈ fp, FpOk X pins (upd H2 s₂.heap.objs.size (.lst [])) b := fun b hb => by
  obtain ⟨f0, f1⟩ := f2 b hb
  exact ⟨by rw [Zaj (Nat.ne_of_lt (fpold b hb))]; exact f0, f1⟩
 generalize hs3 : ({ s₂ with heap := s₂.heap.push { cls := .type "list", dict := none, data := .seq ([] : List Value).toArray } } : Shared) = s₃ at I3
 have st3' : tn 0 s₃.heap := by rw [← hs3]; exact st3
 have lt3 : s₂.heap.objs.size < s₃.heap.objs.size := by rw [← hs3]; show _ < (Heap.push _ _).objs.size; rw [Heap.size_push]; exact Nat.lt_succ_self _
 refine wpAny_newFunctionEnv B.nocell (by intro y hy; simp at hy) (fun h₁ hns₁ hsb₁ => ?_) B.kind
 have kp1 : ∀ b o, s₃.heap.get? b = some o → h₁.get? b = some o := fun b o e => hsb₁.extBut b o (Nat.ne_of_lt (Heap.lt_size e)) (Heap.get?_push_of_some _ e)
 have I4 := Zmt (s1 := { s₃ with heap := h₁, toks := s₃.toks + ([] : List (Str × Value)).length }) (C := s₃.heap.objs.size) B I3 f3 (Nat.le_refl _) (fun b hb => Nat.ne_of_lt (Nat.lt_trans (fpold b hb) lt3)) rfl rfl kp1 hns₁
 have st4 : tn 0 h₁ := T.keep _ _ _ st3' fun b _ o e => kp1 b o e
 show codeAny (model X.prog X.w) X.A (.compStart (.ListComp elt [⟨tg, iter, ifs, 0⟩] scope pos) 0 (.ref it) (.ref s₂.heap.objs.size) (compEnvC scope cl s₃.heap.objs.size X.env)) (RR (.ref s₂.heap.objs.size) s₃.heap.objs.size) _
 generalize hs4 : ({ s₃ with heap := h₁, toks := s₃.toks + ([] : List (Str × Value)).length } : Shared) = s₄ at I4
 have st4' : tn 0 s₄.heap := by rw [← hs4]; exact st4
 have blkX : ∀ {b : Addr} {H' : Hp}, b ∈ fp → H' b = none → FpOk (blk X pins N' scope cl s₃.heap.objs.size s₃ (upd H2 s₂.heap.objs.size (.lst [])) fp) [] H' b := fun {b H'} hb hn => by
  obtain ⟨f0, f1, f2', f3', f4', f5'⟩ := f3 b hb
  refine ⟨hn, Nat.ne_of_lt (Nat.lt_trans (fpold b hb) lt3), fun z => ?_, .inl hb, fun x c e => f4' x c (B.cells _ _ e), fun p hp => ?_⟩
  ·rcases List.mem_cons.mp (I3.stkSub b z) with e | e
   ·exact f1 e
   ·exact f2' e
  ·exact f5' p (by simpa [blk] using hp)
 have loop : codeAny (model X.prog X.w) X.A (.compLoop (.ListComp elt [⟨tg, iter, ifs, 0⟩] scope pos) 0 (.ref it) (.ref s₂.heap.objs.size) (compEnvC scope cl s₃.heap.objs.size X.env)) (RR (.ref s₂.heap.objs.size) s₃.heap.objs.size) s₄ := by
  refine ZhV (fun n s' => ∃ i σ' H', Inv (blk X pins N' scope cl s₃.heap.objs.size s₃ (upd H2 s₂.heap.objs.size (.lst [])) fp) [] σ' H' s' ∧ tn i s'.heap ∧ (∀ b ∈ fp, H' b = none) ∧ W i n σ' H') ?_ m0 ⟨0, _, _, I4, st4', fun b hb => (f3 b hb).1, w0⟩
  rintro n s5 ⟨i, σ5, H5, I5, st5, fr5, w5⟩
  rcases turn i n σ5 H5 w5 with ⟨stop, qn⟩ | ⟨go, step⟩
  ·refine wpAny_mono (T.done (blk X pins N' scope cl s₃.heap.objs.size s₃ (upd H2 s₂.heap.objs.size (.lst [])) fp) rfl rfl rfl hc i [] s5 σ5 H5 (fun _ _ => False) I5 (fun b hb => blkX hb (fr5 b hb)) st5 stop) (fun r s6 ⟨hr, I6⟩ => ?_) fun _ _ f => f.elim
   subst hr
   obtain ⟨mm, hnn, _⟩ := id I6.loc
   have nC : H5 s₃.heap.objs.size = none := I6.free
   have J1 : Inv X pins σ H5 s6 := by
    refine I3.call' (ch := fp) I6.os I6.base I6.hok I6.bare fun b hb => ?_
    obtain ⟨f0, f1, f2', f3', f4', f5'⟩ := f3 b hb
    exact ⟨f3', f1, f4', f5'⟩
   exact hfin _ _ s6 H5 mm J1 hnn (I3.fpOk (Nat.le_refl _) nC) qn
  ·refine wpAny_mono (T.item (blk X pins N' scope cl s₃.heap.objs.size s₃ (upd H2 s₂.heap.objs.size (.lst [])) fp) rfl rfl rfl hc i [] s5 σ5 H5 (fun _ _ => False) I5 (fun b hb => blkX hb (fr5 b hb)) st5 go) (fun r s6 ⟨u, hr, h6⟩ => ?_) fun _ _ f => f.elim
   subst hr
   refine wpAny_mono h6 (fun _ s7 ⟨x, H7, I7, r7, y7, st7, fr7⟩ => ?_) fun _ _ f => f.elim
   have I7' := I7.pinned (fun b hb => blkX hb (fr7 b hb)) (T.obj _ _ st7)
   refine wpAny_mono (hg _ _ _ _ _ _ s7 σ5 H7 x u _ I7' r7 (step x H7 y7)) (fun _ s8 ⟨σ8, H8, I8, q8⟩ => ?_) fun _ _ f => f.elim
   refine wpAny_mono (ht _ _ _ _ _ _ s8 σ8 H8 _ I8 q8) (fun ok s9 ⟨H9, I9, q9⟩ => ?_) fun _ _ f => f.elim
   have again : ∀ {σ7 : St} {H7 : Hp} {sz : Shared}, Inv (blk X pins N' scope cl s₃.heap.objs.size s₃ (upd H2 s₂.heap.objs.size (.lst [])) fp) ([] ++ Zel fp s7.heap) σ7 H7 sz → (∃ m', m' < n ∧ W (i + 1) m' σ7 H7) →
     ∃ m, m < n ∧ ∃ i σ' H', Inv (blk X pins N' scope cl s₃.heap.objs.size s₃ (upd H2 s₂.heap.objs.size (.lst [])) fp) [] σ' H' sz ∧ tn i sz.heap ∧ (∀ b ∈ fp, H' b = none) ∧ W i m σ' H' := fun {σ7 H7 sz} Iz ⟨m', hm, wz⟩ => by
    refine ⟨m', hm, i + 1, σ7, H7, Iz.unpinned, T.keep _ _ _ st7 fun b hb o e => (Iz.pin (b, o) (List.mem_append_right _ (List.mem_append_right _ (Zcr hb e)))).1, fun b hb => ?_, wz⟩
    obtain ⟨o, e, d⟩ := T.obj _ _ st7 b hb
    exact (Iz.pin (b, o) (List.mem_append_right _ (List.mem_append_right _ (Zcr hb e)))).2.1
   cases ok with
   | false =>
    show ∃ m, m < n ∧ _
    exact again I9 (by simpa using q9)
   | true =>
    have q9' : te σ8 H9 fun y H6 => ∃ xs, H6 s₂.heap.objs.size = some (.lst xs) ∧ xs.length < sizeLine ∧ ∃ m', m' < n ∧ W (i + 1) m' σ8 (upd H6 s₂.heap.objs.size (.lst (xs ++ [y]))) := by simpa using q9
    show wpAny _ _ _ _ _ _
    refine wpAny_mono (he _ _ _ _ _ _ s9 σ8 H9 _ I9 q9') (fun y sA ⟨yv, HA, IA, rA, xs, eA, zA, mA⟩ => ?_) fun _ _ f => f.elim
    refine wpAny_mono (Zgp (X := blk X pins N' scope cl s₃.heap.objs.size s₃ (upd H2 s₂.heap.objs.size (.lst [])) fp) _ sA σ8 HA (.ref s₂.heap.objs.size) [yv] (.ref s₂.heap.objs.size) [y] (fun _ HB => HB = upd HA s₂.heap.objs.size (.lst (xs ++ [yv]))) IA rfl (.cons rA .nil) ⟨_, xs, yv, rfl, rfl, eA, zA, rfl⟩) (fun _ sB ⟨_, HB, IB, _, eB⟩ => ?_) fun _ _ f => f.elim
    subst eB
    exact again IB mA
 exact codeAny_compStart_list loop (T.self _ 0 _ _ _ st4' loop)
theorem Zh5 {X : Cx} {elt tg iter : Expr} {ifs : List Expr} {scope : Scope} {pos : Pos} {N' : List Str} {src : List (Option Nat)} {cl : List (Str × Addr)} {wi : TI} {g : TG} {tt : TT} {te : TE}
  (hc : X.calm = true) (B : BlkOk X N' src scope cl) (hi : PI X tg iter wi)
  (hg : ∀ pins C s H fp, PG (blk X pins N' scope cl C s H fp) tg g) (ht : ∀ pins C s H fp, PIfs (blk X pins N' scope cl C s H fp) ifs tt) (he : ∀ pins C s H fp, PE (blk X pins N' scope cl C s H fp) elt te)
  (hs : ∀ x, foldedSetIterable iter X.env x = pure x := by intro _; rfl) : PE X (.ListComp elt [⟨tg, iter, ifs, 0⟩] scope pos) (Zfn src wi g tt te) := by
 intro pins s σ H Q I h
 rw [eval_ListComp]
 refine wpAny_comprehension_free (use := none) rfl hs B.clos B.kind B.names (wpAny_mono (hi pins s σ H _ I h) (fun xv s₁ h₁ => wpAny_mono h₁ (fun it s₂ h₂ => ?_) fun _ _ e => e) fun _ _ e => e)
 obtain ⟨it, fp, tn, J, H2, e, I2, T, st2, f2, q2⟩ := h₂
 subst e
 refine Zgv (RR := fun acc C => compPost (model X.prog X.w) X.A X.xe none (EP X pins σ Q) acc C) (Qp := fun p H => Q (.ref p) H) hc B hg ht he I2 T st2 f2 q2 ?_
 intro p C s6 H5 mm J1 hnn fC qn
 refine ⟨mm, hnn, fun h' sb => ?_⟩
 obtain ⟨c0, c1, c2, c3, c4, c5⟩ := fC
 exact ⟨.ref p, H5, J1.turned (t' := s6.toks) (it := C) (fun b o hb e => (sb.2 b hb).trans e) c0 c1 c3 c4 c5, rfl, qn⟩
theorem ZlU {X : Cx} {elt tg iter : Expr} {ifs : List Expr} {scope : Scope} {pos pos' spos : Pos} {N' : List Str} {src : List (Option Nat)} {cl : List (Str × Addr)} {wi : TI} {g : TG} {tt : TT} {te : TE} {i : Nat} {x : Str}
  (hN : X.N.Nodup) (hi' : X.N[i]? = some x) (hx : Loc X.env.scope x)
  (hc : X.calm = true) (B : BlkOk X N' src scope cl) (hi : PI X tg iter wi)
  (hg : ∀ pins C s H fp, PG (blk X pins N' scope cl C s H fp) tg g) (ht : ∀ pins C s H fp, PIfs (blk X pins N' scope cl C s H fp) ifs tt) (he : ∀ pins C s H fp, PE (blk X pins N' scope cl C s H fp) elt te)
  (hsw : swapsWith (.ListComp elt [⟨tg, iter, ifs, 0⟩] scope pos) (some (.Name x pos')) spos.line X.env = pure true := by rfl)
  (hs : ∀ x, foldedSetIterable iter X.env x = pure x := by intro _; rfl)
  (hf : X.fn x = true ∨ X.env.scope.names.lookup x = some .local := by first | exact .inl rfl | exact .inr rfl | assumption) :
  PS X (.Assign [.Name x pos'] (.ListComp elt [⟨tg, iter, ifs, 0⟩] scope pos) spos) (fun D σ H => Zfn src wi g tt te σ H fun y H1 => D.nx (σ.set i (some y)) H1) := by
 intro pins s σ H D I h
 rw [exec_Assign_Name_used _ _ _ _ hsw]
 refine wpAny_bind (wpAny_standAt (wpAny_bind ?_))
 show wpAny _ _ (do let _ ← comprehension (.ListComp elt [⟨tg, iter, ifs, 0⟩] scope pos) scope X.env _ (newList []) false (eval iter X.env) (some (assign (.Name x pos') X.env))) _ _ s
 refine wpAny_bind (wpAny_mono (wpAny_comprehension_free (use := some (assign (.Name x pos') X.env)) (Q := fun _ s' => SP X pins D .next s') rfl hs B.clos B.kind B.names
  (wpAny_mono (hi pins s σ H _ I h) (fun xv s₁ h₁ => wpAny_mono h₁ (fun it s₂ h₂ => ?_) fun _ _ e => e) fun _ _ e => e)) (fun _ s' hq => wpAny_pure (wpAny_pure hq)) fun _ _ e => e)
 obtain ⟨it, fp, tn, J, H2, e, I2, T, st2, f2, q2⟩ := h₂
 subst e
 refine Zgv (RR := fun acc C => compPost (model X.prog X.w) X.A X.xe (some (assign (.Name x pos') X.env)) (fun _ s' => SP X pins D .next s') acc C) (Qp := fun p H => D.nx (σ.set i (some (.ref p))) H) hc B hg ht he I2 T st2 f2 q2 ?_
 intro p C s6 H5 mm J1 hnn fC qn
 obtain ⟨oC, es, ep, hoC, hdC, hrC⟩ := id hnn
 have fC' : ∀ b ∈ [C], FpOk X pins H5 b := by
  intro b hb
  have e : b = C := by simpa using hb
  rw [e]
  exact fC
 have oC' : ∀ b ∈ [C], ∃ o, s6.heap.get? b = some o ∧ ∀ v, o.data ≠ .cell v := by
  intro b hb
  have e : b = C := by simpa using hb
  rw [e]
  exact ⟨oC, hoC, fun v z => by rw [hdC] at z; cases z⟩
 have J2 := J1.pinned (fp := [C]) fC' oC'
 show wpAny _ _ (assign (.Name x pos') X.env (.ref p)) _ _ _
 refine wpAny_mono (Zb3 (X := X) (pos := pos') hN hi' hx hf _ s6 σ H5 (.ref p) (.ref p) (fun σ' H' => σ' = σ.set i (some (.ref p)) ∧ H' = H5) J2 rfl ⟨rfl, rfl⟩) (fun _ s7 ⟨σ7, H7, I7, e7, e7'⟩ => ?_) fun _ _ e => e
 subst e7 e7'
 have pC := I7.pin (C, oC) (List.mem_append_right _ (List.mem_append_right _ (Zcr (by simp) hoC)))
 refine ⟨mm, ⟨oC, es, ep, pC.1, hdC, hrC⟩, fun h' sb => ?_⟩
 obtain ⟨c0, c1, c2, c3, c4, c5⟩ := fC
 exact ⟨_, _, (I7.unpinned).turned (t' := s7.toks) (it := C) (fun b o hb e => (sb.2 b hb).trans e) c0 c1 c3 c4 c5, qn⟩
end L2
namespace TF
open PySem PySem.Spec PyProof.Rows L2
inductive D where
 | non | bl (b : Bool) | int (i : Int) | str (x : Str) | tup (xs : List D) | lst (xs : List D)
 | dk (kvs : List (Key × V)) | dt (kvs : List (List Key × V)) | du (kvs : List (List Key × V)) | df (kvs : List (Key × V)) | pen | ty (n : String) | clo (t : Nat) (caps : List D)
noncomputable abbrev St := L2.St
noncomputable abbrev Pn := List Int × List Int
noncomputable abbrev M (α : Type) := Pn → Option (α × Pn)
noncomputable abbrev Rho := List (Option D)
noncomputable def mret {α : Type} (a : α) : M α := fun s => some (a, s)
noncomputable def Zao {α β : Type} (m : M α) (k : α → M β) : M β := fun s => match m s with | none => none | some p => k p.1 p.2
noncomputable def Zaz {α : Type} : M α := fun _ => none
noncomputable def mOf {α : Type} (o : Option α) : M α := fun s => match o with | none => none | some a => some (a, s)
theorem Zai {α β : Type} {m : M α} {k : α → M β} {s s' : Pn} {b : β} (h : Zao m k s = some (b, s')) : ∃ a s1, m s = some (a, s1) ∧ k a s1 = some (b, s') := by
 unfold Zao at h
 cases e : m s with
 | none => rw [e] at h; cases h
 | some p => rw [e] at h; exact ⟨p.1, p.2, rfl, h⟩
theorem Zal {α : Type} {a b : α} {s s' : Pn} (h : mret a s = some (b, s')) : b = a ∧ s' = s := by
 unfold mret at h
 cases h
 exact ⟨rfl, rfl⟩
theorem ZbA {α : Type} {o : Option α} {b : α} {s s' : Pn} (h : mOf o s = some (b, s')) : o = some b ∧ s' = s := by
 unfold mOf at h
 cases e : o with
 | none => rw [e] at h; cases h
 | some a => rw [e] at h; cases h; exact ⟨rfl, rfl⟩
structure Gh where
 fp : Addr → Prop
 rd : Addr → Prop
 pen : V
 st : Pn → Hp → Prop
 mono : ∀ s H H', st s H → (∀ b o, rd b → H b = some o → H' b = some o) → (∀ b φ, H b = some (.ext φ) → H' b = some (.ext φ)) → st s H'
 sub : ∀ b, fp b → rd b
 dom : ∀ s H b, st s H → rd b → ∃ o, H b = some o
 ntp : ∀ s H b vs, st s H → fp b → H b ≠ some (.tup vs)
 clo : Nat → V → List V → Prop := fun _ _ _ => False
mutual
noncomputable def Rep (G : Gh) (H : Hp) : D → V → Prop
 | .non, v => v = .non
 | .bl b, v => v = .bl b
 | .int i, v => v = .int i
 | .str x, v => v = .str x
 | .tup ds, v => ∃ a vs, v = .ref a ∧ ¬ G.fp a ∧ H a = some (.tup vs) ∧ RepL G H ds vs
 | .lst ds, v => ∃ a vs, v = .ref a ∧ ¬ G.fp a ∧ H a = some (.lst vs) ∧ RepL G H ds vs
 | .dk kvs, v => ∃ a, v = .ref a ∧ ¬ G.fp a ∧ H a = some (.dK kvs)
 | .dt kvs, v => ∃ a o, v = .ref a ∧ ¬ G.fp a ∧ H a = some (.frz o (.dT kvs))
 | .du kvs, v => ∃ a, v = .ref a ∧ ¬ G.fp a ∧ H a = some (.dT kvs)
 | .df kvs, v => ∃ a o, v = .ref a ∧ ¬ G.fp a ∧ H a = some (.frz o (.dK kvs))
 | .pen, v => v = G.pen
 | .ty n, v => v = .ty n
 | .clo t ds, v => ∃ vs, G.clo t v vs ∧ RepL G H ds vs
noncomputable def RepL (G : Gh) (H : Hp) : List D → List V → Prop
 | [], vs => vs = []
 | d :: ds, vs => ∃ v r, vs = v :: r ∧ Rep G H d v ∧ RepL G H ds r
end
noncomputable def Ext (G : Gh) (H H' : Hp) : Prop := ∀ b o, ¬ G.fp b → H b = some o → H' b = some o
theorem Ext.refl (G : Gh) (H : Hp) : Ext G H H := fun _ _ _ e => e
theorem Ext.trans {G : Gh} {H H1 H2 : Hp} (a : Ext G H H1) (b : Ext G H1 H2) : Ext G H H2 := fun c o n e => b c o n (a c o n e)
mutual
theorem Rep.ext {G : Gh} {H H' : Hp} (e : Ext G H H') : ∀ {d : D} {v : V}, Rep G H d v → Rep G H' d v
 | .non, _, h => h
 | .bl _, _, h => h
 | .int _, _, h => h
 | .str _, _, h => h
 | .tup ds, v, h => by
  unfold Rep at h ⊢
  obtain ⟨a, vs, e1, n, e2, r⟩ := h
  exact ⟨a, vs, e1, n, e _ _ n e2, RepL.ext e r⟩
 | .lst ds, v, h => by
  unfold Rep at h ⊢
  obtain ⟨a, vs, e1, n, e2, r⟩ := h
  exact ⟨a, vs, e1, n, e _ _ n e2, RepL.ext e r⟩
 | .dk kvs, v, h => by
  unfold Rep at h ⊢
  obtain ⟨a, e1, n, e2⟩ := h
  exact ⟨a, e1, n, e _ _ n e2⟩
 | .dt kvs, v, h => by
  unfold Rep at h ⊢
  obtain ⟨a, o, e1, n, e2⟩ := h
  exact ⟨a, o, e1, n, e _ _ n e2⟩
 | .df kvs, v, h => by
  unfold Rep at h ⊢
  obtain ⟨a, o, e1, n, e2⟩ := h
  exact ⟨a, o, e1, n, e _ _ n e2⟩
 | .du kvs, v, h => by
  unfold Rep at h ⊢
  obtain ⟨a, e1, n, e2⟩ := h
  exact ⟨a, e1, n, e _ _ n e2⟩
 | .pen, _, h => h
 | .ty _, _, h => h
 | .clo t ds, v, h => by
  unfold Rep at h ⊢
  obtain ⟨vs, c, r⟩ := h
  exact ⟨vs, c, RepL.ext e r⟩
theorem RepL.ext {G : Gh} {H H' : Hp} (e : Ext G H H') : ∀ {ds : List D} {vs : List V}, RepL G H ds vs → RepL G H' ds vs
 | [], _, h => h
 | d :: ds, vs, h => by
  unfold RepL at h ⊢
  obtain ⟨v, r, e1, r1, r2⟩ := h
  exact ⟨v, r, e1, Rep.ext e r1, RepL.ext e r2⟩
end
section
variable {G : Gh} {H : Hp}
theorem Rep.tup_iff {ds : List D} {v : V} : Rep G H (.tup ds) v ↔ ∃ a vs, v = .ref a ∧ ¬ G.fp a ∧ H a = some (.tup vs) ∧ RepL G H ds vs := by unfold Rep; exact Iff.rfl
theorem Rep.lst_iff {ds : List D} {v : V} : Rep G H (.lst ds) v ↔ ∃ a vs, v = .ref a ∧ ¬ G.fp a ∧ H a = some (.lst vs) ∧ RepL G H ds vs := by unfold Rep; exact Iff.rfl
theorem Rep.dk_iff {kvs : List (Key × V)} {v : V} : Rep G H (.dk kvs) v ↔ ∃ a, v = .ref a ∧ ¬ G.fp a ∧ H a = some (.dK kvs) := by unfold Rep; exact Iff.rfl
theorem Rep.dt_iff {kvs : List (List Key × V)} {v : V} : Rep G H (.dt kvs) v ↔ ∃ a o, v = .ref a ∧ ¬ G.fp a ∧ H a = some (.frz o (.dT kvs)) := by unfold Rep; exact Iff.rfl
theorem Rep.du_iff {kvs : List (List Key × V)} {v : V} : Rep G H (.du kvs) v ↔ ∃ a, v = .ref a ∧ ¬ G.fp a ∧ H a = some (.dT kvs) := by unfold Rep; exact Iff.rfl
theorem Rep.df_iff {kvs : List (Key × V)} {v : V} : Rep G H (.df kvs) v ↔ ∃ a o, v = .ref a ∧ ¬ G.fp a ∧ H a = some (.frz o (.dK kvs)) := by unfold Rep; exact Iff.rfl
theorem Rep.int_iff {i : Int} {v : V} : Rep G H (.int i) v ↔ v = .int i := by unfold Rep; exact Iff.rfl
theorem Rep.bl_iff {b : Bool} {v : V} : Rep G H (.bl b) v ↔ v = .bl b := by unfold Rep; exact Iff.rfl
theorem Rep.str_iff {b : Str} {v : V} : Rep G H (.str b) v ↔ v = .str b := by unfold Rep; exact Iff.rfl
theorem Rep.non_iff {v : V} : Rep G H .non v ↔ v = .non := by unfold Rep; exact Iff.rfl
theorem Rep.pen_iff {v : V} : Rep G H .pen v ↔ v = G.pen := by unfold Rep; exact Iff.rfl
theorem Rep.ty_iff {n : String} {v : V} : Rep G H (.ty n) v ↔ v = .ty n := by unfold Rep; exact Iff.rfl
theorem Rep.clo_iff {t : Nat} {ds : List D} {v : V} : Rep G H (.clo t ds) v ↔ ∃ vs, G.clo t v vs ∧ RepL G H ds vs := by unfold Rep; exact Iff.rfl
theorem RepL.nil_iff {vs : List V} : RepL G H [] vs ↔ vs = [] := by unfold RepL; exact Iff.rfl
theorem RepL.cons_iff {d : D} {ds : List D} {vs : List V} : RepL G H (d :: ds) vs ↔ ∃ v r, vs = v :: r ∧ Rep G H d v ∧ RepL G H ds r := by
 constructor
 ·intro h; unfold RepL at h; exact h
 ·intro h; unfold RepL; exact h
theorem RepL.length : ∀ {ds : List D} {vs : List V}, RepL G H ds vs → ds.length = vs.length
 | [], vs, h => by rw [RepL.nil_iff.mp h]; rfl
 | d :: ds, vs, h => by
  obtain ⟨v, r, rfl, _, h2⟩ := RepL.cons_iff.mp h
  simp [RepL.length h2]
theorem RepL.get : ∀ {ds : List D} {vs : List V} {i : Nat} {d : D}, RepL G H ds vs → ds[i]? = some d → ∃ v, vs[i]? = some v ∧ Rep G H d v
 | [], _, _, _, _, e => by simp at e
 | d :: ds, vs, 0, d', h, e => by
  obtain ⟨v, r, rfl, h1, _⟩ := RepL.cons_iff.mp h
  simp at e; subst e
  exact ⟨v, rfl, h1⟩
 | d :: ds, vs, i + 1, d', h, e => by
  obtain ⟨v, r, rfl, _, h2⟩ := RepL.cons_iff.mp h
  obtain ⟨u, e1, e2⟩ := RepL.get h2 (i := i) (d := d') (by simpa using e)
  exact ⟨u, by simpa using e1, e2⟩
theorem RepL.append : ∀ {ds es : List D} {vs us : List V}, RepL G H ds vs → RepL G H es us → RepL G H (ds ++ es) (vs ++ us)
 | [], es, vs, us, h, h' => by rw [RepL.nil_iff.mp h]; exact h'
 | d :: ds, es, vs, us, h, h' => by
  obtain ⟨v, r, rfl, h1, h2⟩ := RepL.cons_iff.mp h
  exact RepL.cons_iff.mpr ⟨v, r ++ us, rfl, h1, RepL.append h2 h'⟩
theorem RepL.one {d : D} {v : V} (h : Rep G H d v) : RepL G H [d] [v] := RepL.cons_iff.mpr ⟨v, [], rfl, h, RepL.nil_iff.mpr rfl⟩
theorem RepL.cons {d : D} {v : V} {ds : List D} {vs : List V} (h : Rep G H d v) (h2 : RepL G H ds vs) : RepL G H (d :: ds) (v :: vs) := RepL.cons_iff.mpr ⟨v, vs, rfl, h, h2⟩
end
noncomputable def Nt (o : Option HO) : Prop := ∃ u, o = some u ∧ ∀ vs, u ≠ .tup vs
theorem Nt.no {o : Option HO} (h : Nt o) (e : o = none) : False := by
 obtain ⟨u, q, _⟩ := h
 rw [e] at q; cases q
structure Gr (G : Gh) (Hf H Hf' H' : Hp) : Prop where
 hh : Ext G H H'
 ff : Ext G Hf Hf'
 fh : Ext G Hf' H'
 nw : ∀ b, ¬ G.fp b → Hf b = none → Nt (H b) → Hf' b = none
theorem Gr.refl {G : Gh} {Hf H : Hp} (e : Ext G Hf H) : Gr G Hf H Hf H := ⟨.refl _ _, .refl _ _, e, fun _ _ h _ => h⟩
theorem Gr.trans {G : Gh} {Hf H Hf1 H1 Hf2 H2 : Hp} (a : Gr G Hf H Hf1 H1) (b : Gr G Hf1 H1 Hf2 H2) : Gr G Hf H Hf2 H2 :=
 ⟨a.hh.trans b.hh, a.ff.trans b.ff, b.fh, fun c n h1 h2 => b.nw c n (a.nw c n h1 h2) (let ⟨u, e, nt⟩ := h2; ⟨u, a.hh c u n e, nt⟩)⟩
theorem Gr.new {G : Gh} {Hf H : Hp} {p : Addr} {o : HO} (e : Ext G Hf H) (hp : H p = none) (nf : ¬ G.fp p) : Gr G Hf H (upd Hf p o) (upd H p o) where
 hh := fun b u n q => by rw [Zaj (Zam q hp)]; exact q
 ff := fun b u n q => by rw [Zaj (Zam (e b u n q) hp)]; exact q
 fh := fun b u n q => by
  by_cases hb : b = p
  ·subst hb; rw [Zap] at q ⊢; exact q
  ·rw [Zaj hb] at q ⊢; exact e b u n q
 nw := fun b n h1 h2 => by
  by_cases hb : b = p
  ·subst hb; exact (h2.no hp).elim
  ·rw [Zaj hb]; exact h1
theorem Gh.nofp {G : Gh} {s : Pn} {H : Hp} {p : Addr} (h : G.st s H) (hp : H p = none) : ¬ G.fp p := fun f => by
 obtain ⟨o, e⟩ := G.dom s H p h (G.sub p f)
 rw [hp] at e; cases e
theorem Gh.nord {G : Gh} {s : Pn} {H : Hp} {p : Addr} (h : G.st s H) (hp : H p = none) : ¬ G.rd p := fun f => by
 obtain ⟨o, e⟩ := G.dom s H p h f
 rw [hp] at e; cases e
theorem Gh.grow {G : Gh} {s : Pn} {H : Hp} {p : Addr} {o : HO} (h : G.st s H) (hp : H p = none) : G.st s (upd H p o) := G.mono s H _ h (fun b u _ q => by
 rw [Zaj (Zam q hp)]; exact q) fun b φ q => by
 rw [Zaj (Zam q hp)]; exact q
noncomputable def ZdV : D → Prop
 | .lst _ => True
 | .dk _ => True
 | .dt _ => True
 | .du _ => True
 | _ => False
noncomputable def Zax (G : Gh) (H Hf' : Hp) (d : D) (v : V) : Prop := ∀ a, v = .ref a → ZdV d → H a = none ∧ ∀ ds, d = .lst ds → ∃ vs Hm, Hf' a = some (.lst vs) ∧ Hm a = none ∧ Ext G Hm Hf' ∧ RepL G Hm ds vs
theorem Zax.old {G : Gh} {H H' Hf' : Hp} {d : D} {v : V} (e : Ext G H H') (r : ∀ a, v = .ref a → ZdV d → ¬ G.fp a) (h : Zax G H' Hf' d v) : Zax G H Hf' d v := fun a ea m => by
 refine ⟨?_, (h a ea m).2⟩
 cases q : H a with
 | none => rfl
 | some o =>
  have := e a o (r a ea m) q
  rw [(h a ea m).1] at this; cases this
theorem Rep.nofp {G : Gh} {H : Hp} {d : D} {v : V} (r : Rep G H d v) : ∀ a, v = .ref a → ZdV d → ¬ G.fp a := fun a e m => by
 cases d with
 | lst ds => obtain ⟨b, vs, e1, n, _⟩ := Rep.lst_iff.mp r; rw [e] at e1; cases e1; exact n
 | dk ds => obtain ⟨b, e1, n, _⟩ := Rep.dk_iff.mp r; rw [e] at e1; cases e1; exact n
 | dt ds => obtain ⟨b, _, e1, n, _⟩ := Rep.dt_iff.mp r; rw [e] at e1; cases e1; exact n
 | du ds => obtain ⟨b, e1, n, _⟩ := Rep.du_iff.mp r; rw [e] at e1; cases e1; exact n
 | _ => exact m.elim
noncomputable def EnvR (G : Gh) (H : Hp) (σ : St) (ρ : Rho) : Prop := ∀ (i : Nat) (d : D), ρ[i]? = some (some d) → ∃ v, σ[i]? = some (some v) ∧ Rep G H d v
theorem EnvR.ext {G : Gh} {H H' : Hp} {σ : St} {ρ : Rho} (h : EnvR G H σ ρ) (e : Ext G H H') : EnvR G H' σ ρ := fun i d q => let ⟨v, a, b⟩ := h i d q; ⟨v, a, b.ext e⟩
noncomputable def PD (X : Cx) (G : Gh) (fr : Bool) (e : Expr) (f : Rho → M D) : Prop :=
 ∃ t, PE X e t ∧ ∀ (σ : St) (Hf H : Hp) (ρ : Rho) (s : Pn) (d : D) (s' : Pn) (Q : VK), Ext G Hf H → EnvR G Hf σ ρ → G.st s H → f ρ s = some (d, s') →
  (∀ v Hf' H', Gr G Hf H Hf' H' → G.st s' H' → Rep G Hf' d v → (fr = true → Zax G H Hf' d v) → Q v H') → t σ H Q
noncomputable def PDT (X : Cx) (G : Gh) (e : Expr) (f : Rho → M Bool) : Prop :=
 ∃ t, PT X e t ∧ ∀ (σ : St) (Hf H : Hp) (ρ : Rho) (s : Pn) (b : Bool) (s' : Pn) (Q : Bool → Hp → Prop), Ext G Hf H → EnvR G Hf σ ρ → G.st s H → f ρ s = some (b, s') →
  (∀ Hf' H', Gr G Hf H Hf' H' → G.st s' H' → Q b H') → t σ H Q
noncomputable def PDA (X : Cx) (G : Gh) (es : List Expr) (f : Rho → M (List D)) : Prop :=
 ∃ t, PA X es t ∧ ∀ (σ : St) (Hf H : Hp) (ρ : Rho) (s : Pn) (ds : List D) (s' : Pn) (Q : List V → Hp → Prop), Ext G Hf H → EnvR G Hf σ ρ → G.st s H → f ρ s = some (ds, s') →
  (∀ vs Hf' H', Gr G Hf H Hf' H' → G.st s' H' → RepL G Hf' ds vs → Q vs H') → t σ H Q
section
variable {X : Cx} {G : Gh}
theorem PD.weak {e : Expr} {f : Rho → M D} {fr : Bool} (h : PD X G fr e f) : PD X G false e f := by
 obtain ⟨t, p, q⟩ := h
 exact ⟨t, p, fun σ Hf H ρ s d s' Q e1 e2 e3 e4 k => q σ Hf H ρ s d s' Q e1 e2 e3 e4 fun v Hf' H' g1 g2 g3 _ => k v Hf' H' g1 g2 g3 (fun z => by cases z)⟩
noncomputable def dVar (i : Nat) : Rho → M D := fun ρ => mOf ((ρ[i]?).bind id)
noncomputable def dC (d : D) : Rho → M D := fun _ => mret d
theorem Zad (i : Nat) {x : Str} {pos : Pos} (h : PE X (.Name x pos) (tVar i)) : PD X G false (.Name x pos) (dVar i) := by
 refine ⟨_, h, fun σ Hf H ρ s d s' Q e1 e2 e3 e4 k => ?_⟩
 obtain ⟨e, rfl⟩ := ZbA e4
 have e' : ρ[i]? = some (some d) := by
  cases q : ρ[i]? with
  | none => rw [q] at e; cases e
  | some o => rw [q] at e; simp at e; rw [e]
 obtain ⟨v, h1, h2⟩ := e2 i d e'
 exact ⟨v, h1, k v Hf H (.refl e1) e3 h2 (fun z => by cases z)⟩
theorem Zax.scal {H Hf' : Hp} {d : D} {v : V} (h : ZdV d → False) : Zax G H Hf' d v := fun _ _ m => (h m).elim
theorem Zav {i : Int} {j pos} : PD X G true (.Constant (.int i) j pos) (dC (.int i)) := by
 refine ⟨_, ZaR, fun σ Hf H ρ s d s' Q e1 e2 e3 e4 k => ?_⟩
 obtain ⟨rfl, rfl⟩ := Zal e4
 exact k _ Hf H (.refl e1) e3 (Rep.int_iff.mpr rfl) fun _ => .scal fun z => z
theorem Zdp {b : Bool} {j pos} : PD X G true (.Constant (.bool b) j pos) (dC (.bl b)) := by
 refine ⟨_, ZnC, fun σ Hf H ρ s d s' Q e1 e2 e3 e4 k => ?_⟩
 obtain ⟨rfl, rfl⟩ := Zal e4
 exact k _ Hf H (.refl e1) e3 (Rep.bl_iff.mpr rfl) fun _ => .scal fun z => z
theorem ZjM {j pos} : PD X G true (.Constant .none j pos) (dC .non) := by
 refine ⟨_, ZmP, fun σ Hf H ρ s d s' Q e1 e2 e3 e4 k => ?_⟩
 obtain ⟨rfl, rfl⟩ := Zal e4
 exact k _ Hf H (.refl e1) e3 (Rep.non_iff.mpr rfl) fun _ => .scal fun z => z
noncomputable def dNil : Rho → M (List D) := fun _ => mret []
noncomputable def Zab (f : Rho → M D) (g : Rho → M (List D)) : Rho → M (List D) := fun ρ => Zao (f ρ) fun d => Zao (g ρ) fun ds => mret (d :: ds)
theorem Zaf : PDA X G [] dNil := by
 refine ⟨_, Zbs, fun σ Hf H ρ s d s' Q e1 e2 e3 e4 k => ?_⟩
 obtain ⟨rfl, rfl⟩ := Zal e4
 exact k _ Hf H (.refl e1) e3 (RepL.nil_iff.mpr rfl)
theorem Zaa {e : Expr} {es : List Expr} {f : Rho → M D} {g : Rho → M (List D)} {fr : Bool} (h : PD X G fr e f) (hr : PDA X G es g) (hs : starEach (e :: es) X.env = (false, eval e X.env) :: starEach es X.env := by rfl) : PDA X G (e :: es) (Zab f g) := by
 obtain ⟨t, p, q⟩ := h
 obtain ⟨u, p2, q2⟩ := hr
 refine ⟨_, ZaV p p2 hs, fun σ Hf H ρ s ds s' Q e1 e2 e3 e4 k => ?_⟩
 obtain ⟨d, s1, a1, a2⟩ := Zai e4
 obtain ⟨r, s2, a3, a4⟩ := Zai a2
 obtain ⟨rfl, rfl⟩ := Zal a4
 refine q σ Hf H ρ s d s1 _ e1 e2 e3 a1 fun v Hf1 H1 g1 st1 r1 _ => ?_
 refine q2 σ Hf1 H1 ρ s1 r _ _ g1.fh (e2.ext g1.ff) st1 a3 fun vs Hf2 H2 g2 st2 r2 => ?_
 exact k _ Hf2 H2 (g1.trans g2) st2 (RepL.cons (r1.ext g2.ff) r2)
noncomputable def dTup (f : Rho → M (List D)) : Rho → M D := fun ρ => Zao (f ρ) fun ds => if ds.length ≤ sizeLine then mret (.tup ds) else Zaz
noncomputable def dLst (f : Rho → M (List D)) : Rho → M D := fun ρ => Zao (f ρ) fun ds => if ds.length ≤ sizeLine then mret (.lst ds) else Zaz
theorem ZaL {α : Type} {c : Prop} [Decidable c] {a : M α} {s s' : Pn} {b : α} (h : (if c then a else Zaz) s = some (b, s')) : c ∧ a s = some (b, s') := by
 split at h
 ·rename_i hc; exact ⟨hc, h⟩
 ·cases h
theorem Zax.mk {Hf H : Hp} {p : Addr} {vs : List V} {ds : List D} (e : Ext G Hf H) (hp : H p = none) (nf : ¬ G.fp p) (r : RepL G Hf ds vs) : Zax G H (upd Hf p (.lst vs)) (.lst ds) (.ref p) := fun a ea _ => by
 cases ea
 refine ⟨hp, fun ds' ed => ?_⟩
 cases ed
 have hf : Hf p = none := by
  cases q : Hf p with
  | none => rfl
  | some o => rw [e p o nf q] at hp; cases hp
 exact ⟨vs, Hf, Zap, hf, fun b o n q => by rw [Zaj (Zam q hf)]; exact q, r⟩
theorem ZaT {es : List Expr} {f : Rho → M (List D)} {x1 : Nat} {pos : Pos} (h : PDA X G es f) : PD X G true (.Tuple es x1 pos) (dTup f) := by
 obtain ⟨t, p, q⟩ := h
 refine ⟨_, ZmM p, fun σ Hf H ρ s d s' Q e1 e2 e3 e4 k => ?_⟩
 obtain ⟨ds, s1, a1, a2⟩ := Zai e4
 obtain ⟨hl, a3⟩ := ZaL a2
 obtain ⟨rfl, rfl⟩ := Zal a3
 refine q σ Hf H ρ s ds s' _ e1 e2 e3 a1 fun vs Hf1 H1 g1 st1 r1 => ⟨by rw [← r1.length]; exact hl, fun p hp => ?_⟩
 have nf := Gh.nofp st1 hp
 have g2 := Gr.new (o := .tup vs) g1.fh hp nf
 exact k (.ref p) _ _ (g1.trans g2) (Gh.grow st1 hp) (Rep.tup_iff.mpr ⟨p, vs, rfl, nf, Zap, r1.ext g2.ff⟩) fun _ => .scal fun z => z
theorem ZbZ {es : List Expr} {f : Rho → M (List D)} {pos : Pos} (h : PDA X G es f) : PD X G true (.List es pos) (dLst f) := by
 obtain ⟨t, p, q⟩ := h
 refine ⟨_, ZmQ p, fun σ Hf H ρ s d s' Q e1 e2 e3 e4 k => ?_⟩
 obtain ⟨ds, s1, a1, a2⟩ := Zai e4
 obtain ⟨hl, a3⟩ := ZaL a2
 obtain ⟨rfl, rfl⟩ := Zal a3
 refine q σ Hf H ρ s ds s' _ e1 e2 e3 a1 fun vs Hf1 H1 g1 st1 r1 => ⟨by rw [← r1.length]; exact hl, fun p hp => ?_⟩
 have nf := Gh.nofp st1 hp
 have g2 := Gr.new (o := .lst vs) g1.fh hp nf
 refine k (.ref p) _ _ (g1.trans g2) (Gh.grow st1 hp) (Rep.lst_iff.mpr ⟨p, vs, rfl, nf, Zap, r1.ext g2.ff⟩) fun _ => Zax.old g1.hh (fun a ea _ => by cases ea; exact nf) (Zax.mk g1.fh hp nf r1)
noncomputable def OpD (X : Cx) (G : Gh) (f : Value → Value → Sem Value) (g : D → D → Option D) : Prop :=
 ∃ r, OpR X f r ∧ ∀ (Hf H : Hp) (s : Pn) (x y : V) (d e c : D) (Q : VK), Ext G Hf H → G.st s H → Rep G Hf d x → Rep G Hf e y → g d e = some c →
  (∀ v Hf' H', Gr G Hf H Hf' H' → G.st s H' → Rep G Hf' c v → Zax G H Hf' c v → Q v H') → r x y H Q
noncomputable def dOp (g : D → D → Option D) (a b : Rho → M D) : Rho → M D := fun ρ => Zao (a ρ) fun d => Zao (b ρ) fun e => mOf (g d e)
theorem op2D {fa fb : Rho → M D} {g : D → D → Option D} {ta tb : TE} {r : R2}
  (qa : ∀ (σ : St) (Hf H : Hp) (ρ : Rho) (s : Pn) (d : D) (s' : Pn) (Q : VK), Ext G Hf H → EnvR G Hf σ ρ → G.st s H → fa ρ s = some (d, s') → (∀ v Hf' H', Gr G Hf H Hf' H' → G.st s' H' → Rep G Hf' d v → Q v H') → ta σ H Q)
  (qb : ∀ (σ : St) (Hf H : Hp) (ρ : Rho) (s : Pn) (d : D) (s' : Pn) (Q : VK), Ext G Hf H → EnvR G Hf σ ρ → G.st s H → fb ρ s = some (d, s') → (∀ v Hf' H', Gr G Hf H Hf' H' → G.st s' H' → Rep G Hf' d v → Q v H') → tb σ H Q)
  (qo : ∀ (Hf H : Hp) (s : Pn) (x y : V) (d e c : D) (Q : VK), Ext G Hf H → G.st s H → Rep G Hf d x → Rep G Hf e y → g d e = some c → (∀ v Hf' H', Gr G Hf H Hf' H' → G.st s H' → Rep G Hf' c v → Zax G H Hf' c v → Q v H') → r x y H Q)
  (σ : St) (Hf H : Hp) (ρ : Rho) (s : Pn) (d : D) (s' : Pn) (Q : VK) (e1 : Ext G Hf H) (e2 : EnvR G Hf σ ρ) (e3 : G.st s H) (e4 : dOp g fa fb ρ s = some (d, s'))
  (k : ∀ v Hf' H', Gr G Hf H Hf' H' → G.st s' H' → Rep G Hf' d v → Zax G H Hf' d v → Q v H') : tOp r ta tb σ H Q := by
 obtain ⟨da, s1, a1, a2⟩ := Zai e4
 obtain ⟨db, s2, a3, a4⟩ := Zai a2
 obtain ⟨a5, rfl⟩ := ZbA a4
 refine qa σ Hf H ρ s da s1 _ e1 e2 e3 a1 fun x Hf1 H1 g1 st1 r1 => ?_
 refine qb σ Hf1 H1 ρ s1 db _ _ g1.fh (e2.ext g1.ff) st1 a3 fun y Hf2 H2 g2 st2 r2 => ?_
 refine qo Hf2 H2 _ x y da db d Q g2.fh st2 (r1.ext g2.ff) r2 a5 fun v Hf3 H3 g3 st3 r3 fz => ?_
 exact k v Hf3 H3 ((g1.trans g2).trans g3) st3 r3 (Zax.old (g1.hh.trans g2.hh) r3.nofp fz)
theorem PD.drop {e : Expr} {f : Rho → M D} {fr : Bool} (h : PD X G fr e f) : ∃ t, PE X e t ∧ ∀ (σ : St) (Hf H : Hp) (ρ : Rho) (s : Pn) (d : D) (s' : Pn) (Q : VK), Ext G Hf H → EnvR G Hf σ ρ → G.st s H → f ρ s = some (d, s') →
  (∀ v Hf' H', Gr G Hf H Hf' H' → G.st s' H' → Rep G Hf' d v → Q v H') → t σ H Q := by
 obtain ⟨t, p, q⟩ := h
 exact ⟨t, p, fun σ Hf H ρ s d s' Q a b c d' k => q σ Hf H ρ s d s' Q a b c d' fun v Hf' H' g1 g2 g3 _ => k v Hf' H' g1 g2 g3⟩
theorem Zc2 {a b : Expr} {op : Operator} {pos : Pos} {fa fb : Rho → M D} {g : D → D → Option D} {r1 r2 : Bool} (ho : OpD X G (binaryOp op) g) (ha : PD X G r1 a fa) (hb : PD X G r2 b fb) : PD X G true (.BinOp a op b pos) (dOp g fa fb) := by
 obtain ⟨r, po, qo⟩ := ho
 obtain ⟨ta, pa, qa⟩ := ha.drop
 obtain ⟨tb, pb, qb⟩ := hb.drop
 exact ⟨_, Za8 po pa pb, fun σ Hf H ρ s d s' Q e1 e2 e3 e4 k => op2D qa qb qo σ Hf H ρ s d s' Q e1 e2 e3 e4 fun v Hf' H' g1 g2 g3 fz => k v Hf' H' g1 g2 g3 fun _ => fz⟩
theorem Zcf {a b : Expr} {op : CmpOp} {pos : Pos} {fa fb : Rho → M D} {g : D → D → Option D} {r1 r2 : Bool} (ho : OpD X G (compareOp op) g) (ha : PD X G r1 a fa) (hb : PD X G r2 b fb)
  (hm : behindInMarks op b = false := by first | exact ZdF _ | with_unfolding_all rfl) : PD X G true (.Compare a [op] [b] pos) (dOp g fa fb) := by
 obtain ⟨r, po, qo⟩ := ho
 obtain ⟨ta, pa, qa⟩ := ha.drop
 obtain ⟨tb, pb, qb⟩ := hb.drop
 exact ⟨_, Zl3 po pa pb hm, fun σ Hf H ρ s d s' Q e1 e2 e3 e4 k => op2D qa qb qo σ Hf H ρ s d s' Q e1 e2 e3 e4 fun v Hf' H' g1 g2 g3 fz => k v Hf' H' g1 g2 g3 fun _ => fz⟩
noncomputable def asB (f : Rho → M D) : Rho → M Bool := fun ρ => Zao (f ρ) fun d => match d with | .bl b => mret b | _ => Zaz
theorem ZhD {f : Rho → M D} {ρ : Rho} {s s' : Pn} {b : Bool} (h : asB f ρ s = some (b, s')) : f ρ s = some (.bl b, s') := by
 obtain ⟨d, s1, a1, a2⟩ := Zai h
 cases d with
 | bl c => obtain ⟨rfl, rfl⟩ := Zal a2; exact a1
 | _ => cases a2
theorem ZcL {a b : Expr} {op : CmpOp} {pos : Pos} {fa fb : Rho → M D} {g : D → D → Option D} {r1 r2 : Bool} (ho : OpD X G (compareOp op) g) (ha : PD X G r1 a fa) (hb : PD X G r2 b fb)
  (hm : behindInMarks op b = false := by first | exact ZdF _ | with_unfolding_all rfl) : PDT X G (.Compare a [op] [b] pos) (asB (dOp g fa fb)) := by
 obtain ⟨r, po, qo⟩ := ho
 obtain ⟨ta, pa, qa⟩ := ha.drop
 obtain ⟨tb, pb, qb⟩ := hb.drop
 refine ⟨_, ZdA po pa pb hm, fun σ Hf H ρ s c s' Q e1 e2 e3 e4 k => ?_⟩
 exact op2D qa qb qo σ Hf H ρ s (.bl c) s' _ e1 e2 e3 (ZhD e4) fun v Hf' H' g1 g2 g3 fz => ⟨c, Rep.bl_iff.mp g3, k Hf' H' g1 g2⟩
theorem ZcK {e : Expr} {f : Rho → M D} {fr : Bool} (h : PD X G fr e f) (he : ∀ whole, isTrue e X.env whole = (do let v ← whole; standAt e.pos; holding [v] (truthy v)) := by intro _; rfl) : PDT X G e (asB f) := by
 obtain ⟨t, p, q⟩ := h
 refine ⟨_, ZmC p he, fun σ Hf H ρ s c s' Q e1 e2 e3 e4 k => ?_⟩
 exact q σ Hf H ρ s (.bl c) s' _ e1 e2 e3 (ZhD e4) fun v Hf' H' g1 g2 g3 fz => ⟨c, Rep.bl_iff.mp g3, k Hf' H' g1 g2⟩
noncomputable def bNot (f : Rho → M Bool) : Rho → M Bool := fun ρ => Zao (f ρ) fun b => mret (!b)
theorem Zl5 {a : Expr} {pos : Pos} {f : Rho → M Bool} (h : PDT X G a f) : PDT X G (.UnaryOp .Not a pos) (bNot f) := by
 obtain ⟨t, p, q⟩ := h
 refine ⟨_, ZmD p, fun σ Hf H ρ s c s' Q e1 e2 e3 e4 k => ?_⟩
 obtain ⟨b, s1, a1, a2⟩ := Zai e4
 obtain ⟨rfl, rfl⟩ := Zal a2
 exact q σ Hf H ρ s b s' _ e1 e2 e3 a1 fun Hf' H' g1 g2 => k Hf' H' g1 g2
noncomputable def bOr (f g : Rho → M Bool) : Rho → M Bool := fun ρ => Zao (f ρ) fun b => if b = true then mret true else g ρ
noncomputable def PDW (X : Cx) (G : Gh) (e : Expr) (f : Rho → M Bool) : Prop :=
 ∃ t, PW X e t ∧ ∀ (σ : St) (Hf H : Hp) (ρ : Rho) (s : Pn) (b : Bool) (s' : Pn) (Q : Bool → Hp → Prop), Ext G Hf H → EnvR G Hf σ ρ → G.st s H → f ρ s = some (b, s') →
  (∀ Hf' H', Gr G Hf H Hf' H' → G.st s' H' → Q b H') → t σ H Q
theorem PDW.pt {e : Expr} {f : Rho → M Bool} (h : PDW X G e f) : PDT X G e f := by
 obtain ⟨t, p, q⟩ := h
 exact ⟨t, p.pt, q⟩
theorem Zh7 {a : Expr} {pos : Pos} {f : Rho → M Bool} (h : PDT X G a f) : PDW X G (.BoolOp .Or [a] pos) f := by
 obtain ⟨t, p, q⟩ := h
 exact ⟨t, ZmA p, q⟩
theorem ZjJ {a b : Expr} {rest : List Expr} {pos : Pos} {f g : Rho → M Bool} (h : PDT X G a f) (h2 : PDW X G (.BoolOp .Or (b :: rest) pos) g) : PDW X G (.BoolOp .Or (a :: b :: rest) pos) (bOr f g) := by
 obtain ⟨t, p, q⟩ := h
 obtain ⟨u, p2, q2⟩ := h2
 refine ⟨_, Znw p p2, fun σ Hf H ρ s c s' Q e1 e2 e3 e4 k => ?_⟩
 obtain ⟨b, s1, a1, a2⟩ := Zai e4
 refine q σ Hf H ρ s b s1 _ e1 e2 e3 a1 fun Hf1 H1 g1 st1 => ?_
 cases b with
 | true => obtain ⟨rfl, rfl⟩ := Zal a2; exact k Hf1 H1 g1 st1
 | false => exact q2 σ Hf1 H1 ρ s1 c s' _ g1.fh (e2.ext g1.ff) st1 a2 fun Hf2 H2 g2 st2 => k Hf2 H2 (g1.trans g2) st2
noncomputable def vAnd (f g : Rho → M D) : Rho → M D := fun ρ => Zao (f ρ) fun d => match d with | .bl true => g ρ | .bl false => mret (.bl false) | _ => Zaz
noncomputable def vOr (f g : Rho → M D) : Rho → M D := fun ρ => Zao (f ρ) fun d => match d with | .bl true => mret (.bl true) | .bl false => g ρ | _ => Zaz
noncomputable def vNot (f : Rho → M D) : Rho → M D := fun ρ => Zao (f ρ) fun d => match d with | .bl b => mret (.bl (!b)) | _ => Zaz
theorem Zfy {op} {a : Expr} {pos : Pos} {fr : Bool} {f : Rho → M D} (h : PD X G fr a f) : PD X G false (.BoolOp op [a] pos) f := by
 obtain ⟨t, p, q⟩ := h.weak
 exact ⟨t, ZmN p, q⟩
theorem Zen {a b : Expr} {rest : List Expr} {pos : Pos} {r1 r2 : Bool} {f g : Rho → M D} (h : PD X G r1 a f) (h2 : PD X G r2 (.BoolOp .And (b :: rest) pos) g) : PD X G false (.BoolOp .And (a :: b :: rest) pos) (vAnd f g) := by
 obtain ⟨t, p, q⟩ := h.drop
 obtain ⟨u, p2, q2⟩ := h2.drop
 refine ⟨_, ZmS p p2, fun σ Hf H ρ s c s' Q e1 e2 e3 e4 k => ?_⟩
 obtain ⟨d, s1, a1, a2⟩ := Zai e4
 refine q σ Hf H ρ s d s1 _ e1 e2 e3 a1 fun v Hf1 H1 g1 st1 r1 => ?_
 cases d with
 | bl b =>
  cases b with
  | true => exact ⟨true, Rep.bl_iff.mp r1, iteT (q2 σ Hf1 H1 ρ s1 c s' _ g1.fh (e2.ext g1.ff) st1 a2 fun v Hf2 H2 g2 st2 r2 => k v Hf2 H2 (g1.trans g2) st2 r2 (fun z => by cases z))⟩
  | false => obtain ⟨rfl, rfl⟩ := Zal a2; exact ⟨false, Rep.bl_iff.mp r1, iteF (k _ Hf1 H1 g1 st1 (Rep.bl_iff.mpr rfl) (fun z => by cases z))⟩
 | _ => cases a2
theorem ZjL {a : Expr} {pos : Pos} {r1 : Bool} {f : Rho → M D} (h : PD X G r1 a f) : PD X G true (.UnaryOp .Not a pos) (vNot f) := by
 obtain ⟨t, p, q⟩ := h.drop
 refine ⟨_, ZmO p, fun σ Hf H ρ s c s' Q e1 e2 e3 e4 k => ?_⟩
 obtain ⟨d, s1, a1, a2⟩ := Zai e4
 refine q σ Hf H ρ s d s1 _ e1 e2 e3 a1 fun v Hf1 H1 g1 st1 r1 => ?_
 cases d with
 | bl b => obtain ⟨rfl, rfl⟩ := Zal a2; exact ⟨b, Rep.bl_iff.mp r1, k _ Hf1 H1 g1 st1 (Rep.bl_iff.mpr rfl) fun _ => .scal fun z => z⟩
 | _ => cases a2
noncomputable def ZbJ (X : Cx) (G : Gh) (f : Value) (g : List D → Option D) : Prop :=
 ∃ r, ZbY X f r ∧ ∀ (Hf H : Hp) (s : Pn) (xs : List V) (ds : List D) (c : D) (Q : VK), Ext G Hf H → G.st s H → RepL G Hf ds xs → g ds = some c →
  (∀ v Hf' H', Gr G Hf H Hf' H' → G.st s H' → Rep G Hf' c v → Zax G H Hf' c v → Q v H') → r xs H Q
noncomputable def Zaw (g : List D → Option D) (fs : Rho → M (List D)) : Rho → M D := fun ρ => Zao (fs ρ) fun ds => mOf (g ds)
theorem Zay {id : String} {x : Str} {p pos : Pos} {e : Expr} {es : List Expr} {g : List D → Option D} {fs : Rho → M (List D)} (hc : ZbJ X G (.builtin id) g) (hg : Gl X x) (hm : X.mg x = none) (hv : bootBuiltins x = some (.builtin id)) (ha : PDA X G (e :: es) fs)
  (hn : x ≠ "__name__" := by decide) (hdb : (x == ("__debug__" : Str)) = false := by decide)
  (he : starEach (e :: es) X.env = (false, eval e X.env) :: starEach es X.env := by rfl) (hpl : (backTo pos (starEach es X.env)).any (·.1) = false := by rfl) : PD X G true (.Call (.Name x p) (e :: es) [] pos) (Zaw g fs) := by
 obtain ⟨r, pr, qr⟩ := hc
 obtain ⟨t, pa, qa⟩ := ha
 refine ⟨_, Ze8 pr hg hm hv pa hn hdb he hpl, fun σ Hf H ρ s d s' Q e1 e2 e3 e4 k => ?_⟩
 obtain ⟨ds, s1, a1, a2⟩ := Zai e4
 obtain ⟨a3, rfl⟩ := ZbA a2
 refine qa σ Hf H ρ s ds _ _ e1 e2 e3 a1 fun vs Hf1 H1 g1 st1 r1 => ?_
 exact qr Hf1 H1 _ vs ds d Q g1.fh st1 r1 a3 fun v Hf2 H2 g2 st2 r2 fz => k v Hf2 H2 (g1.trans g2) st2 r2 fun _ => Zax.old g1.hh r2.nofp fz
theorem ZbI {T : String} {x : Str} {p pos : Pos} {e : Expr} {es : List Expr} {g : List D → Option D} {fs : Rho → M (List D)} (hc : ZbJ X G (.type T) g) (hg : Gl X x) (hm : X.mg x = none) (hv : bootBuiltins x = some (.type T)) (ha : PDA X G (e :: es) fs)
  (hn : x ≠ "__name__" := by decide) (hdb : (x == ("__debug__" : Str)) = false := by decide)
  (he : starEach (e :: es) X.env = (false, eval e X.env) :: starEach es X.env := by rfl) (hpl : (backTo pos (starEach es X.env)).any (·.1) = false := by rfl) : PD X G true (.Call (.Name x p) (e :: es) [] pos) (Zaw g fs) := by
 obtain ⟨r, pr, qr⟩ := hc
 obtain ⟨t, pa, qa⟩ := ha
 refine ⟨_, Zgl pr hg hm hv pa hn hdb he hpl, fun σ Hf H ρ s d s' Q e1 e2 e3 e4 k => ?_⟩
 obtain ⟨ds, s1, a1, a2⟩ := Zai e4
 obtain ⟨a3, rfl⟩ := ZbA a2
 refine qa σ Hf H ρ s ds _ _ e1 e2 e3 a1 fun vs Hf1 H1 g1 st1 r1 => ?_
 exact qr Hf1 H1 _ vs ds d Q g1.fh st1 r1 a3 fun v Hf2 H2 g2 st2 r2 fz => k v Hf2 H2 (g1.trans g2) st2 r2 fun _ => Zax.old g1.hh r2.nofp fz
noncomputable def IxD (X : Cx) (G : Gh) (g : D → D → Option D) : Prop :=
 ∃ r, IxR X r ∧ ∀ (Hf H : Hp) (s : Pn) (x y : V) (d e c : D) (Q : VK), Ext G Hf H → G.st s H → Rep G Hf d x → Rep G Hf e y → g d e = some c →
  (∀ v, Rep G Hf c v → Q v H) → r x y H Q
theorem ZaE {a b : Expr} {pos : Pos} {fa fb : Rho → M D} {g : D → D → Option D} {r1 r2 : Bool} (ho : IxD X G g) (ha : PD X G r1 a fa) (hb : PD X G r2 b fb) (hs : Zit b := by intro _ _; rfl) : PD X G false (.Subscript a b pos) (dOp g fa fb) := by
 obtain ⟨r, po, qo⟩ := ho
 obtain ⟨ta, pa, qa⟩ := ha.drop
 obtain ⟨tb, pb, qb⟩ := hb.drop
 refine ⟨_, ZgM po pa pb hs, fun σ Hf H ρ s d s' Q e1 e2 e3 e4 k => ?_⟩
 obtain ⟨da, s1, a1, a2⟩ := Zai e4
 obtain ⟨db, s2, a3, a4⟩ := Zai a2
 obtain ⟨a5, rfl⟩ := ZbA a4
 refine qa σ Hf H ρ s da s1 _ e1 e2 e3 a1 fun x Hf1 H1 g1 st1 r1 => ?_
 refine qb σ Hf1 H1 ρ s1 db _ _ g1.fh (e2.ext g1.ff) st1 a3 fun y Hf2 H2 g2 st2 r2 => ?_
 exact qo Hf2 H2 _ x y da db d Q g2.fh st2 (r1.ext g2.ff) r2 a5 fun v r3 => k v Hf2 H2 (g1.trans g2) st2 r3 (fun z => by cases z)
noncomputable def spD (n : Nat) (fr : Bool) (GG : Gh → Prop) (F : List D → M D) : Sp := fun vs H Q _ => ∃ (G : Gh) (Hf : Hp) (ds : List D) (s : Pn) (d : D) (s' : Pn), GG G ∧ vs.length = n ∧ Ext G Hf H ∧ RepL G Hf ds vs ∧ G.st s H ∧ F ds s = some (d, s') ∧
 ∀ v Hf' H', Gr G Hf H Hf' H' → G.st s' H' → Rep G Hf' d v → (fr = true → Zax G H Hf' d v) → Q v H'
noncomputable def dFn (F : List D → M D) (fs : Rho → M (List D)) : Rho → M D := fun ρ => Zao (fs ρ) F
theorem Zl7 {CX : CXT} {k : Nat} {f : Addr} {fd : FuncData} {ps : List Str} {n : Nat} {fr : Bool} {GG : Gh → Prop} {F : List D → M D} {E : XK} {x : Str} {p pos : Pos} {e : Expr} {es : List Expr} {fs : Rho → M (List D)}
  (FN : FnOk X.prog X.w X.K X.mg X.base CX k f fd ps (spD n fr GG F)) (hG : GG G) (hr : Room k X.A) (hg : Gl X x) (hm : X.mg x = some (.ref f)) (hk : PySem.W.keepIn X.K (.ref f) = true) (hb : ZbR X.K fd ps []) (hx : ZfO CX X E)
  (ha : PDA X G (e :: es) fs) (hlen : (e :: es).length = n := by rfl) (hal : ∀ ρ s ds s', fs ρ s = some (ds, s') → ds.length = (e :: es).length)
  (hdb : (x == ("__debug__" : Str)) = false := by decide) (he : starEach (e :: es) X.env = (false, eval e X.env) :: starEach es X.env := by rfl) (hpl : (backTo pos (starEach es X.env)).any (·.1) = false := by rfl) :
  PD X G fr (.Call (.Name x p) (e :: es) [] pos) (dFn F fs) := by
 obtain ⟨t, pa, qa⟩ := ha
 refine ⟨_, Zh6 FN hr hg hm hk hb .nil hx pa hdb he hpl, fun σ Hf H ρ s d s' Q e1 e2 e3 e4 k => ?_⟩
 obtain ⟨ds, s1, a1, a2⟩ := Zai e4
 refine qa σ Hf H ρ s ds _ _ e1 e2 e3 a1 fun vs Hf1 H1 g1 st1 r1 => ?_
 refine ⟨G, Hf1, ds, s1, d, s', hG, by rw [List.append_nil, ← r1.length, hal _ _ _ _ a1]; exact hlen, g1.fh, by rw [List.append_nil]; exact r1, st1, a2, fun v Hf2 H2 g2 st2 r2 fz => ?_⟩
 exact k v Hf2 H2 (g1.trans g2) st2 r2 fun z => Zax.old g1.hh r2.nofp (fz z)
theorem Zan {f : Rho → M D} {g : Rho → M (List D)} {n : Nat} (h : ∀ ρ s ds s', g ρ s = some (ds, s') → ds.length = n) : ∀ ρ s ds s', Zab f g ρ s = some (ds, s') → ds.length = n + 1 := fun ρ s ds s' q => by
 obtain ⟨d, s1, a1, a2⟩ := Zai q
 obtain ⟨r, s2, a3, a4⟩ := Zai a2
 obtain ⟨rfl, rfl⟩ := Zal a4
 simp [h _ _ _ _ a3]
theorem ZaB : ∀ ρ s ds s', dNil ρ s = some (ds, s') → ds.length = 0 := fun ρ s ds s' q => by
 obtain ⟨rfl, rfl⟩ := Zal q
 rfl
end
mutual
noncomputable def Zbm : D → Bool
 | .tup ds => ZdG ds
 | .lst _ => false
 | .dk _ => false
 | .dt _ => false
 | .du _ => false
 | .df _ => false
 | .clo _ _ => false
 | _ => true
noncomputable def ZdG : List D → Bool
 | [] => true
 | d :: ds => Zbm d && ZdG ds
end
mutual
theorem Rep.only {G : Gh} {H H' : Hp} (e : ∀ b vs, ¬ G.fp b → H b = some (.tup vs) → H' b = some (.tup vs)) : ∀ {d : D} {v : V}, Zbm d = true → Rep G H d v → Rep G H' d v
 | .non, _, _, h => h
 | .bl _, _, _, h => h
 | .int _, _, _, h => h
 | .str _, _, _, h => h
 | .tup ds, v, n, h => by
  obtain ⟨a, vs, e1, nf, e2, r⟩ := Rep.tup_iff.mp h
  exact Rep.tup_iff.mpr ⟨a, vs, e1, nf, e _ _ nf e2, RepL.only e (by simpa [Zbm] using n) r⟩
 | .lst ds, v, n, h => by simp [Zbm] at n
 | .dk kvs, v, n, h => by simp [Zbm] at n
 | .dt kvs, v, n, h => by simp [Zbm] at n
 | .du kvs, v, n, h => by simp [Zbm] at n
 | .df kvs, v, n, h => by simp [Zbm] at n
 | .pen, _, _, h => h
 | .ty _, _, _, h => h
 | .clo _ _, v, n, h => by simp [Zbm] at n
theorem RepL.only {G : Gh} {H H' : Hp} (e : ∀ b vs, ¬ G.fp b → H b = some (.tup vs) → H' b = some (.tup vs)) : ∀ {ds : List D} {vs : List V}, ZdG ds = true → RepL G H ds vs → RepL G H' ds vs
 | [], _, _, h => h
 | d :: ds, vs, n, h => by
  obtain ⟨v, r, e1, r1, r2⟩ := RepL.cons_iff.mp h
  have n' : Zbm d = true ∧ ZdG ds = true := by simpa [ZdG] using n
  exact RepL.cons_iff.mpr ⟨v, r, e1, Rep.only e n'.1 r1, RepL.only e n'.2 r2⟩
end
noncomputable def ZcF (G : Gh) (Hf H : Hp) (a : Addr) : D → Prop
 | .lst ds => ∃ vs, H a = some (.lst vs) ∧ RepL G Hf ds vs
 | .dk kvs => H a = some (.dK kvs)
 | .dt kvs => ∃ o, H a = some (.frz o (.dT kvs))
 | .du kvs => H a = some (.dT kvs)
 | _ => False
theorem ZcF.there {G : Gh} {Hf H : Hp} {a : Addr} {d : D} (h : ZcF G Hf H a d) : ∃ o, H a = some o ∧ ∀ vs, o ≠ .tup vs := by
 cases d with
 | lst ds => obtain ⟨vs, e, _⟩ := h; exact ⟨_, e, fun _ z => by cases z⟩
 | dk kvs => exact ⟨_, h, fun _ z => by cases z⟩
 | dt kvs => obtain ⟨o, h⟩ := h; exact ⟨_, h, fun _ z => by cases z⟩
 | du kvs => exact ⟨_, h, fun _ z => by cases z⟩
 | _ => exact h.elim
theorem ZcF.keep {G : Gh} {Hf H Hf' H' : Hp} {a : Addr} {d : D} (h : ZcF G Hf H a d) (e : Ext G Hf Hf') (ha : ∀ o, H a = some o → H' a = some o) : ZcF G Hf' H' a d := by
 cases d with
 | lst ds => obtain ⟨vs, q, r⟩ := h; exact ⟨vs, ha _ q, r.ext e⟩
 | dk kvs => exact ha _ h
 | dt kvs => obtain ⟨o, h⟩ := h; exact ⟨o, ha _ h⟩
 | du kvs => exact ha _ h
 | _ => exact h.elim
theorem ZcF.rep {G : Gh} {Hf H Hf' : Hp} {a : Addr} {d : D} (h : ZcF G Hf H a d) (nf : ¬ G.fp a) (e : Ext G Hf Hf') (ha : ∀ o, H a = some o → Hf' a = some o) : Rep G Hf' d (.ref a) := by
 cases d with
 | lst ds => obtain ⟨vs, q, r⟩ := h; exact Rep.lst_iff.mpr ⟨a, vs, rfl, nf, ha _ q, r.ext e⟩
 | dk kvs => exact Rep.dk_iff.mpr ⟨a, rfl, nf, ha _ h⟩
 | dt kvs => obtain ⟨o, h⟩ := h; exact Rep.dt_iff.mpr ⟨a, o, rfl, nf, ha _ h⟩
 | du kvs => exact Rep.du_iff.mpr ⟨a, rfl, nf, ha _ h⟩
 | _ => exact h.elim
structure Jf (G : Gh) (own : List Nat) (kn Hf0 H0 : Hp) (σ : St) (Hf H : Hp) (ρ : Rho) : Prop where
 len : σ.length = ρ.length
 kn : Ext G kn Hf
 gr : Gr G Hf0 H0 Hf H
 fz : ∀ (i : Nat) (d : D), i ∉ own → ρ[i]? = some (some d) → ∃ v, σ[i]? = some (some v) ∧ Rep G Hf d v
 ow : ∀ (i : Nat) (d : D), i ∈ own → ρ[i]? = some (some d) → ∃ a, σ[i]? = some (some (.ref a)) ∧ ¬ G.rd a ∧ Hf a = none ∧ H0 a = none ∧ ZcF G Hf H a d
 ne : ∀ (i j : Nat) (a : Addr) (di dj : D), i ∈ own → j ∈ own → i ≠ j → ρ[i]? = some (some di) → ρ[j]? = some (some dj) → σ[i]? = some (some (.ref a)) → σ[j]? = some (some (.ref a)) → False
noncomputable def J (G : Gh) (own : List Nat) (kn Hf0 H0 : Hp) (σ : St) (H : Hp) (ρ : Rho) : Prop := ∃ Hf, Jf G own kn Hf0 H0 σ Hf H ρ
noncomputable def hide (own : List Nat) (ρ : Rho) : Rho := ρ.mapIdx fun i o => if i ∈ own then none else o
theorem Zhn (ρ : Rho) : hide [] ρ = ρ := by
 unfold hide
 apply List.ext_getElem?
 intro i
 simp
theorem Zk5 {own : List Nat} {ρ : Rho} {i : Nat} {d : D} (h : (hide own ρ)[i]? = some (some d)) : i ∉ own ∧ ρ[i]? = some (some d) := by
 unfold hide at h
 rw [List.getElem?_mapIdx] at h
 cases e : ρ[i]? with
 | none => rw [e] at h; cases h
 | some o =>
  rw [e] at h
  simp only [Option.map_some, Option.some.injEq] at h
  split at h
  ·cases h
  ·rename_i hn; exact ⟨hn, by rw [h]⟩
section
variable {X : Cx} {G : Gh} {own : List Nat} {kn Hf0 H0 Hf H : Hp} {σ : St} {ρ : Rho}
theorem Jf.envA (j : Jf G own kn Hf0 H0 σ Hf H ρ) : EnvR G Hf σ (hide own ρ) := fun i d e => by
 obtain ⟨n, q⟩ := Zk5 e
 exact j.fz i d n q
theorem Gh.sub' {G : Gh} {a : Addr} (h : ¬ G.rd a) : ¬ G.fp a := fun z => h (G.sub a z)
theorem Jf.grow {Hf' H' : Hp} (j : Jf G own kn Hf0 H0 σ Hf H ρ) (g : Gr G Hf H Hf' H') : Jf G own kn Hf0 H0 σ Hf' H' ρ where
 len := j.len
 kn := j.kn.trans g.ff
 gr := j.gr.trans g
 fz := fun i d n e => let ⟨v, a, b⟩ := j.fz i d n e; ⟨v, a, b.ext g.ff⟩
 ow := fun i d m e => by
  obtain ⟨a, h1, h2, h3, h4, h5⟩ := j.ow i d m e
  have nf := Gh.sub' h2
  refine ⟨a, h1, h2, ?_, h4, h5.keep g.ff fun o q => g.hh a o nf q⟩
  exact g.nw a nf h3 h5.there
 ne := j.ne
noncomputable def wide (Hf0 H0 H : Hp) : Hp := fun b => open Classical in if Hf0 b = none ∧ Nt (H0 b) then none else H b
theorem Zca {Hf0 H0 H : Hp} : Ext G (wide Hf0 H0 H) H := fun b o _ e => by
 unfold wide at e
 split at e
 ·cases e
 ·exact e
theorem Jf.wideF (j : Jf G own kn Hf0 H0 σ Hf H ρ) : Ext G Hf (wide Hf0 H0 H) := fun b o n e => by
 unfold wide
 split
 ·rename_i h
  rw [j.gr.nw b n h.1 h.2] at e; cases e
 ·exact j.gr.fh b o n e
theorem Jf.envB (j : Jf G own kn Hf0 H0 σ Hf H ρ) : EnvR G (wide Hf0 H0 H) σ ρ := fun i d e => by
 by_cases m : i ∈ own
 ·obtain ⟨a, h1, h2, h3, h4, h5⟩ := j.ow i d m e
  refine ⟨_, h1, h5.rep (Gh.sub' h2) j.wideF fun o q => ?_⟩
  unfold wide
  rw [if_neg (fun z => z.2.no h4)]
  exact q
 ·obtain ⟨v, h1, h2⟩ := j.fz i d m e
  exact ⟨v, h1, h2.ext j.wideF⟩
theorem Jf.grW {Hf' H' : Hp} (j : Jf G own kn Hf0 H0 σ Hf H ρ) (g : Gr G (wide Hf0 H0 H) H Hf' H') : Gr G Hf0 H0 Hf' H' where
 hh := j.gr.hh.trans g.hh
 ff := fun b o n e => g.ff b o n (j.wideF b o n (j.gr.ff b o n e))
 fh := g.fh
 nw := fun b n h1 h2 => g.nw b n (by unfold wide; rw [if_pos ⟨h1, h2⟩]) (let ⟨u, e, nt⟩ := h2; ⟨u, j.gr.hh b u n e, nt⟩)
noncomputable def okB : D → Bool
 | .lst ds => ZdG ds
 | .dk _ => true
 | .dt _ => true
 | .du _ => true
 | _ => false
theorem Zmb {d : D} (h : okB d = true) : ZdV d := by
 cases d <;> first | trivial | (simp [okB] at h)
theorem Jf.growB {Hf' H' : Hp} (j : Jf G own kn Hf0 H0 σ Hf H ρ) (g : Gr G (wide Hf0 H0 H) H Hf' H') :
  ∃ Hf'', Jf G own kn Hf0 H0 σ Hf'' H' ρ ∧ Ext G Hf Hf'' ∧ (∀ d v, Zbm d = true → Rep G Hf' d v → Rep G Hf'' d v) ∧ ∀ d v, okB d = true → Zax G H Hf' d v → Rep G Hf' d v → Rep G Hf'' d v ∧ Zax G H Hf'' d v := by
 classical
 -- the owned addresses are left out again
 let OA : Addr → Prop := fun b => ∃ i d, i ∈ own ∧ ρ[i]? = some (some d) ∧ σ[i]? = some (some (.ref b))
 have oaH : ∀ b, OA b → Hf b = none ∧ ¬ G.rd b ∧ ∃ o, H b = some o ∧ ∀ vs, o ≠ .tup vs := fun b ⟨i, d, m, e, q⟩ => by
  obtain ⟨a, h1, h2, h3, h4, h5⟩ := j.ow i d m e
  rw [q] at h1; cases h1
  exact ⟨h3, h2, h5.there⟩
 have W := j.grW g
 refine ⟨fun b => if OA b then none else Hf' b, ?_⟩
 have fF : Ext G Hf (fun b => if OA b then none else Hf' b) := fun b o n e => by
  have : ¬ OA b := fun z => by rw [(oaH b z).1] at e; cases e
  show (if OA b then none else Hf' b) = _
  rw [if_neg this]
  exact g.ff b o n (j.wideF b o n e)
 have Fh : Ext G (fun b => if OA b then none else Hf' b) H' := fun b o n e => by
  have e' : (if OA b then none else Hf' b) = some o := e
  split at e'
  ·cases e'
  ·exact g.fh b o n e'
 have tupK : ∀ b vs, ¬ G.fp b → Hf' b = some (.tup vs) → (if OA b then none else Hf' b) = some (.tup vs) := fun b vs nf e => by
  have : ¬ OA b := fun z => by
   obtain ⟨_, _, o, q, nt⟩ := oaH b z
   have q1 := g.hh b o nf q
   have q2 := g.fh b _ nf e
   rw [q1] at q2
   exact nt vs (Option.some.inj q2)
  rw [if_neg this]
  exact e
 have frK : ∀ a, H a = none → ¬ OA a := fun a e z => by
  obtain ⟨_, _, o, q, nt⟩ := oaH a z
  rw [e] at q; cases q
 refine ⟨⟨j.len, j.kn.trans fF, ⟨W.hh, j.gr.ff.trans fF, Fh, fun b n h1 h2 => ?_⟩, fun i d n e => ?_, fun i d m e => ?_, j.ne⟩, fF, fun d v n r => Rep.only tupK n r, fun d v ok fr r => ?_⟩
 ·show (if OA b then none else Hf' b) = none
  split
  ·rfl
  ·exact W.nw b n h1 h2
 ·obtain ⟨v, a, b⟩ := j.fz i d n e
  exact ⟨v, a, b.ext fF⟩
 ·obtain ⟨a, h1, h2, h3, h4, h5⟩ := j.ow i d m e
  refine ⟨a, h1, h2, ?_, h4, h5.keep fF fun o q => g.hh a o (Gh.sub' h2) q⟩
  show (if OA a then none else Hf' a) = none
  rw [if_pos ⟨i, d, m, e, h1⟩]
 ·cases d with
  | lst ds =>
   obtain ⟨a, vs, e, n, q, r'⟩ := Rep.lst_iff.mp r
   have na := frK a (fr a e trivial).1
   have ea : (if OA a then none else Hf' a) = some (.lst vs) := by rw [if_neg na]; exact q
   refine ⟨Rep.lst_iff.mpr ⟨a, vs, e, n, ea, RepL.only tupK ok r'⟩, fun b eb m => ?_⟩
   rw [e] at eb; cases eb
   refine ⟨(fr a e trivial).1, fun ds' ed => ?_⟩
   cases ed
   refine ⟨vs, fun b => if b = a then none else if OA b then none else Hf' b, ea, if_pos rfl, fun b o nb eb => ?_, ?_⟩
   ·have eb' : (if b = a then none else if OA b then none else Hf' b) = some o := eb
    split at eb'
    ·cases eb'
    ·exact eb'
   ·refine RepL.only (fun b ws nb eb => ?_) ok r'
    have hba : b ≠ a := fun z => by rw [z, q] at eb; cases eb
    show (if b = a then none else if OA b then none else Hf' b) = _
    rw [if_neg hba]
    exact tupK b ws nb eb
  | dk ds =>
   obtain ⟨a, e, n, q⟩ := Rep.dk_iff.mp r
   have na := frK a (fr a e trivial).1
   refine ⟨Rep.dk_iff.mpr ⟨a, e, n, ?_⟩, fun b eb m => ⟨(fr b eb m).1, fun ds' ed => by cases ed⟩⟩
   show (if OA a then none else Hf' a) = _
   rw [if_neg na]; exact q
  | dt ds =>
   obtain ⟨a, o, e, n, q⟩ := Rep.dt_iff.mp r
   have na := frK a (fr a e trivial).1
   refine ⟨Rep.dt_iff.mpr ⟨a, o, e, n, ?_⟩, fun b eb m => ⟨(fr b eb m).1, fun ds' ed => by cases ed⟩⟩
   show (if OA a then none else Hf' a) = _
   rw [if_neg na]; exact q
  | du ds =>
   obtain ⟨a, e, n, q⟩ := Rep.du_iff.mp r
   have na := frK a (fr a e trivial).1
   refine ⟨Rep.du_iff.mpr ⟨a, e, n, ?_⟩, fun b eb m => ⟨(fr b eb m).1, fun ds' ed => by cases ed⟩⟩
   show (if OA a then none else Hf' a) = _
   rw [if_neg na]; exact q
  | _ => exact absurd (Zmb ok) (fun z => z)
theorem Jf.set {i : Nat} {d : D} {v : V} {own' : List Nat} (j : Jf G own kn Hf0 H0 σ Hf H ρ) (ho : ∀ k, k ∈ own' → k ≠ i ∧ k ∈ own) (hk : ∀ k, k ∈ own → k ≠ i → k ∈ own') (r : Rep G Hf d v) : Jf G own' kn Hf0 H0 (σ.set i (some v)) Hf H (ρ.set i (some d)) where
 len := by simp [j.len]
 kn := j.kn
 gr := j.gr
 fz := fun k c n e => by
  by_cases h : i = k
  ·subst h
   have hl : i < ρ.length := by
    have := (List.getElem?_eq_some_iff.mp e).1
    simpa using this
   rw [List.getElem?_set_self hl] at e
   cases e
   exact ⟨v, List.getElem?_set_self (by rw [j.len]; exact hl), r⟩
  ·rw [List.getElem?_set_ne h] at e ⊢
   exact j.fz k c (fun z => n (hk k z (Ne.symm h))) e
 ow := fun k c m e => by
  have h : i ≠ k := Ne.symm (ho k m).1
  rw [List.getElem?_set_ne h] at e ⊢
  exact j.ow k c (ho k m).2 e
 ne := fun k l a dk dl mk ml n ek el sk sl => by
  have h : i ≠ k := Ne.symm (ho k mk).1
  have h' : i ≠ l := Ne.symm (ho l ml).1
  rw [List.getElem?_set_ne h] at ek sk
  rw [List.getElem?_set_ne h'] at el sl
  exact j.ne k l a dk dl (ho k mk).2 (ho l ml).2 n ek el sk sl
noncomputable def Zew : D → Bool
 | .lst _ => true
 | .dk _ => true
 | .dt _ => true
 | .du _ => true
 | _ => false
theorem ZiX {d : D} (h : Zew d = true) : ZdV d := by
 cases d <;> first | trivial | (simp [Zew] at h)
theorem Jf.setOwn {i : Nat} {d : D} {v : V} {Hb Hq : Hp} {s : Pn} {own' : List Nat} (j0 : Jf G own kn Hf0 H0 σ Hq Hb ρ) (j : Jf G own kn Hf0 H0 σ Hf H ρ) (ho : ∀ k, k ∈ own' ↔ k = i ∨ k ∈ own) (st : G.st s Hb) (hb : Ext G Hb H) (hq : Ext G Hq Hf)
  (r : Rep G Hf d v) (fr : Zax G Hb Hf d v) (ok : Zew d = true) : ∃ Hf', Jf G own' kn Hf0 H0 (σ.set i (some v)) Hf' H (ρ.set i (some d)) := by
 classical
 have mu := ZiX ok
 obtain ⟨a, ea, nfa⟩ : ∃ a, v = .ref a ∧ ¬ G.fp a := by
  cases d with
  | lst ds => obtain ⟨a, vs, e, n, _⟩ := Rep.lst_iff.mp r; exact ⟨a, e, n⟩
  | dk ds => obtain ⟨a, e, n, _⟩ := Rep.dk_iff.mp r; exact ⟨a, e, n⟩
  | dt ds => obtain ⟨a, _, e, n, _⟩ := Rep.dt_iff.mp r; exact ⟨a, e, n⟩
  | du ds => obtain ⟨a, e, n, _⟩ := Rep.du_iff.mp r; exact ⟨a, e, n⟩
  | _ => exact mu.elim
 subst ea
 have fra : Hb a = none := (fr a rfl mu).1
 have hqa : Hq a = none := by
  cases e : Hq a with
  | none => rfl
  | some o => rw [j0.gr.fh a o nfa e] at fra; cases fra
 have h0a : H0 a = none := by
  cases e : H0 a with
  | none => rfl
  | some o => rw [j0.gr.hh a o nfa e] at fra; cases fra
 have qF : Ext G Hq (fun b => if b = a then none else Hf b) := fun b o n e => by
  have : b ≠ a := fun z => by rw [z, hqa] at e; cases e
  show (if b = a then none else Hf b) = _
  rw [if_neg this]; exact hq b o n e
 have oldA : ∀ k c, k ∈ own → ρ[k]? = some (some c) → σ[k]? ≠ some (some (.ref a)) := fun k c m e z => by
  obtain ⟨b, h1, _, _, _, h5⟩ := j0.ow k c m e
  rw [z] at h1; cases h1
  obtain ⟨o, q, _⟩ := h5.there
  rw [fra] at q; cases q
 refine ⟨fun b => if b = a then none else Hf b, by simp [j.len], j0.kn.trans qF, ⟨j.gr.hh, j0.gr.ff.trans qF, fun b o n e => ?_, fun b n h1 h2 => ?_⟩, fun k c n e => ?_, fun k c m e => ?_, fun k l b dk dl mk ml n ek el sk sl => ?_⟩
 ·have e' : (if b = a then none else Hf b) = some o := e
  split at e'
  ·cases e'
  ·exact j.gr.fh b o n e'
 ·show (if b = a then none else Hf b) = none
  split
  ·rfl
  ·exact j.gr.nw b n h1 h2
 ·have h : i ≠ k := fun z => n ((ho k).mpr (.inl z.symm))
  rw [List.getElem?_set_ne h] at e ⊢
  obtain ⟨v, q1, q2⟩ := j0.fz k c (fun z => n ((ho k).mpr (.inr z))) e
  exact ⟨v, q1, q2.ext qF⟩
 ·by_cases h : i = k
  ·subst h
   have hl : i < ρ.length := by
    have := (List.getElem?_eq_some_iff.mp e).1
    simpa using this
   rw [List.getElem?_set_self hl] at e
   cases e
   refine ⟨a, List.getElem?_set_self (by rw [j.len]; exact hl), Gh.nord st fra, by show (if a = a then none else Hf a) = none; rw [if_pos rfl], h0a, ?_⟩
   cases d with
   | lst ds =>
    obtain ⟨a', vs, e', n', q', r'⟩ := Rep.lst_iff.mp r
    cases e'
    obtain ⟨ws, Hm, f1, f2, f3, f4⟩ := (fr a rfl mu).2 ds rfl
    rw [q'] at f1; cases f1
    refine ⟨vs, j.gr.fh a _ n' q', f4.ext fun b o nb eb => ?_⟩
    have : b ≠ a := fun z => by rw [z, f2] at eb; cases eb
    show (if b = a then none else Hf b) = _
    rw [if_neg this]; exact f3 b o nb eb
   | dk ds => obtain ⟨a', e', n', q'⟩ := Rep.dk_iff.mp r; cases e'; exact j.gr.fh a _ n' q'
   | dt ds => obtain ⟨a', o', e', n', q'⟩ := Rep.dt_iff.mp r; cases e'; exact ⟨o', j.gr.fh a _ n' q'⟩
   | du ds => obtain ⟨a', e', n', q'⟩ := Rep.du_iff.mp r; cases e'; exact j.gr.fh a _ n' q'
   | _ => exact mu.elim
  ·have m' : k ∈ own := ((ho k).mp m).resolve_left (Ne.symm h)
   rw [List.getElem?_set_ne h] at e ⊢
   obtain ⟨b, h1, h2, h3, h4, h5⟩ := j0.ow k c m' e
   obtain ⟨b', g1, g2, g3, g4, g5⟩ := j.ow k c m' e
   rw [h1] at g1; cases g1
   refine ⟨b, h1, h2, ?_, h4, h5.keep qF fun o q => hb b o (Gh.sub' h2) q⟩
   show (if b = a then none else Hf b) = none
   split
   ·rfl
   ·exact g3
 ·by_cases hk : i = k
  ·subst hk
   have h' : i ≠ l := n
   have hl : i < σ.length := by
    have := (List.getElem?_eq_some_iff.mp sk).1
    simpa using this
   rw [List.getElem?_set_self hl] at sk
   cases sk
   rw [List.getElem?_set_ne h'] at el sl
   exact oldA l dl (((ho l).mp ml).resolve_left (Ne.symm h')) el sl
  ·by_cases hl' : i = l
   ·subst hl'
    have hl : i < σ.length := by
     have := (List.getElem?_eq_some_iff.mp sl).1
     simpa using this
    rw [List.getElem?_set_self hl] at sl
    cases sl
    rw [List.getElem?_set_ne hk] at ek sk
    exact oldA k dk (((ho k).mp mk).resolve_left (Ne.symm hk)) ek sk
   ·rw [List.getElem?_set_ne hk] at ek sk
    rw [List.getElem?_set_ne hl'] at el sl
    exact j.ne k l b dk dl (((ho k).mp mk).resolve_left (Ne.symm hk)) (((ho l).mp ml).resolve_left (Ne.symm hl')) n ek el sk sl
theorem Jf.freeze {own' : List Nat} (j : Jf G own kn Hf0 H0 σ Hf H ρ) (ho : ∀ k, k ∈ own' → k ∈ own) : ∃ Hf', Jf G own' kn Hf0 H0 σ Hf' H ρ := by
 classical
 let OA : Addr → Prop := fun b => ∃ i d, i ∈ own ∧ i ∉ own' ∧ ρ[i]? = some (some d) ∧ σ[i]? = some (some (.ref b))
 have oaH : ∀ b, OA b → Hf b = none ∧ H0 b = none := fun b ⟨i, d, m, _, e, q⟩ => by
  obtain ⟨a, h1, h2, h3, h4, h5⟩ := j.ow i d m e
  rw [q] at h1; cases h1
  exact ⟨h3, h4⟩
 have fF : Ext G Hf (fun b => if OA b then H b else Hf b) := fun b o n e => by
  have : ¬ OA b := fun z => by rw [(oaH b z).1] at e; cases e
  show (if OA b then H b else Hf b) = _
  rw [if_neg this]; exact e
 refine ⟨fun b => if OA b then H b else Hf b, j.len, j.kn.trans fF, ⟨j.gr.hh, j.gr.ff.trans fF, fun b o n e => ?_, fun b n h1 h2 => ?_⟩, fun k c n e => ?_, fun k c m e => ?_, fun k l b dk dl mk ml => j.ne k l b dk dl (ho k mk) (ho l ml)⟩
 ·have e' : (if OA b then H b else Hf b) = some o := e
  split at e'
  ·exact e'
  ·exact j.gr.fh b o n e'
 ·have : ¬ OA b := fun z => h2.no (oaH b z).2
  show (if OA b then H b else Hf b) = none
  rw [if_neg this]; exact j.gr.nw b n h1 h2
 ·by_cases m : k ∈ own
  ·obtain ⟨a, h1, h2, h3, h4, h5⟩ := j.ow k c m e
   refine ⟨_, h1, h5.rep (Gh.sub' h2) fF fun o q => ?_⟩
   show (if OA a then H a else Hf a) = _
   rw [if_pos ⟨k, c, m, n, e, h1⟩]; exact q
  ·obtain ⟨v, h1, h2⟩ := j.fz k c m e
   exact ⟨v, h1, h2.ext fF⟩
 ·obtain ⟨a, h1, h2, h3, h4, h5⟩ := j.ow k c (ho k m) e
  refine ⟨a, h1, h2, ?_, h4, h5.keep fF fun o q => q⟩
  have : ¬ OA a := fun ⟨i, d, mi, ni, ei, qi⟩ => j.ne i k a d c mi (ho k m) (fun z => ni (z ▸ m)) ei e qi h1
  show (if OA a then H a else Hf a) = none
  rw [if_neg this]; exact h3
end
theorem Jf.setF {G : Gh} {own : List Nat} {kn Hf0 H0 Hf H : Hp} {σ : St} {ρ : Rho} {i : Nat} {d : D} {v : V} (j : Jf G own kn Hf0 H0 σ Hf H ρ) (hi : i ∉ own) (r : Rep G Hf d v) : Jf G own kn Hf0 H0 (σ.set i (some v)) Hf H (ρ.set i (some d)) :=
 j.set (own' := own) (fun k m => ⟨fun z => hi (by rw [← z]; exact m), m⟩) (fun k m _ => m) r
noncomputable def Yld (G : Gh) (fr : Bool) (t : TE) (f : Rho → M D) : Prop :=
 ∀ (σ : St) (Hf H : Hp) (ρ : Rho) (s : Pn) (d : D) (s' : Pn) (Q : VK), Ext G Hf H → EnvR G Hf σ ρ → G.st s H → f ρ s = some (d, s') →
  (∀ v Hf' H', Gr G Hf H Hf' H' → G.st s' H' → Rep G Hf' d v → (fr = true → Zax G H Hf' d v) → Q v H') → t σ H Q
noncomputable def YldJ (G : Gh) (own : List Nat) (fr : Bool) (t : TE) (f : Rho → M D) : Prop :=
 ∀ (kn Hf0 H0 : Hp) (σ : St) (Hf H : Hp) (ρ : Rho) (s : Pn) (d : D) (s' : Pn) (Q : VK), Jf G own kn Hf0 H0 σ Hf H ρ → G.st s H → f ρ s = some (d, s') →
  (∀ v Hf' H', Jf G own kn Hf0 H0 σ Hf' H' ρ → Ext G Hf Hf' → Ext G H H' → G.st s' H' → Rep G Hf' d v → (fr = true → Zax G H Hf' d v) → Q v H') → t σ H Q
section
variable {X : Cx} {G : Gh} {own : List Nat} {fr : Bool} {t : TE} {f : Rho → M D}
theorem Yld.a (h : Yld G fr t f) : YldJ G own fr t (fun ρ => f (hide own ρ)) := fun kn Hf0 H0 σ Hf H ρ s d s' Q j st e k =>
 h σ Hf H (hide own ρ) s d s' Q j.gr.fh j.envA st e fun v Hf' H' g st' r fz => k v Hf' H' (j.grow g) g.ff g.hh st' r fz
theorem Yld.n (h : Yld G fr t f) : YldJ G [] fr t f := fun kn Hf0 H0 σ Hf H ρ s d s' Q j st e k =>
 h.a kn Hf0 H0 σ Hf H ρ s d s' Q j st (by show f (hide [] ρ) s = _; rw [Zhn]; exact e) k
theorem ZjS {d : D} (h : Zbm d = true) : ¬ ZdV d := by
 cases d <;> first | exact (fun z => z) | (simp [Zbm] at h)
noncomputable def chk (fr : Bool) (f : Rho → M D) : Rho → M D := fun ρ => Zao (f ρ) fun d => if (Zbm d || (fr && okB d)) = true then mret d else Zaz
theorem Znn {fr : Bool} {f : Rho → M D} {ρ : Rho} {s s' : Pn} {d : D} (h : f ρ s = some (d, s')) (c : (Zbm d || (fr && okB d)) = true) : chk fr f ρ s = some (d, s') := by
 unfold chk Zao
 rw [h]
 show (if (Zbm d || (fr && okB d)) = true then mret d else Zaz) s' = _
 rw [if_pos c]
 rfl
theorem Yld.b (h : Yld G fr t f) : YldJ G own fr t (chk fr f) := fun kn Hf0 H0 σ Hf H ρ s d s' Q j st e k => by
 obtain ⟨d1, s1, a1, a2⟩ := Zai e
 obtain ⟨c, a3⟩ := ZaL a2
 obtain ⟨rfl, rfl⟩ := Zal a3
 refine h σ _ H ρ s d s' Q Zca j.envB st a1 fun v Hf' H' g st' r fz => ?_
 obtain ⟨F, j', fF, q1, q2⟩ := j.growB g
 rcases Bool.or_eq_true_iff.mp c with c | c
 ·exact k v F H' j' fF g.hh st' (q1 d v c r) fun z a ea m => absurd m (ZjS c)
 ·obtain ⟨c1, c2⟩ := Bool.and_eq_true_iff.mp c
  obtain ⟨x1, x2⟩ := q2 d v c2 (fz c1) r
  exact k v F H' j' fF g.hh st' x1 fun _ => x2
inductive Out where
 | nx (ρ : Rho) | rt (d : D) | bk (ρ : Rho) | ct (ρ : Rho)
noncomputable def Post (G : Gh) (ob own' : List Nat) (kn Hf0 H0 : Hp) (fr : Bool) (out : Out) (s' : Pn) (E : Ends) : Prop := match out with
 | .nx ρ => ∀ σ H, J G own' kn Hf0 H0 σ H ρ → G.st s' H → E.nx σ H
 | .bk ρ => ∀ σ H, J G ob kn Hf0 H0 σ H ρ → G.st s' H → E.bk σ H
 | .ct ρ => ∀ σ H, J G ob kn Hf0 H0 σ H ρ → G.st s' H → E.ct σ H
 | .rt d => ∀ v Hf' H', Gr G Hf0 H0 Hf' H' → G.st s' H' → Rep G Hf' d v → (fr = true → Zax G H0 Hf' d v) → E.rt v H'
noncomputable def Dos (G : Gh) (ob own own' : List Nat) (fr : Bool) (t : TS) (g : Rho → M Out) : Prop :=
 ∀ (kn Hf0 H0 : Hp) (σ : St) (H : Hp) (ρ : Rho) (s : Pn) (out : Out) (s' : Pn) (E : Ends), J G own kn Hf0 H0 σ H ρ → G.st s H → g ρ s = some (out, s') → Post G ob own' kn Hf0 H0 fr out s' E → t E σ H
noncomputable def PDS (X : Cx) (G : Gh) (ob own own' : List Nat) (fr : Bool) (st : Stmt) (g : Rho → M Out) : Prop := ∃ t, PS X st t ∧ Dos G ob own own' fr t g
noncomputable def PDSs (X : Cx) (G : Gh) (ob own own' : List Nat) (fr : Bool) (sts : List Stmt) (g : Rho → M Out) : Prop := ∃ t, PSs X sts t ∧ Dos G ob own own' fr t g
variable {ob own' own2 : List Nat}
theorem PDS.frz {st : Stmt} {g : Rho → M Out} (h : PDS X G ob own2 own' fr st g) (hs : ∀ k, k ∈ own2 → k ∈ own := by decide) : PDS X G ob own own' fr st g := by
 obtain ⟨t, p, q⟩ := h
 exact ⟨t, p, fun kn Hf0 H0 σ H ρ s out s' E ⟨Hf, j⟩ st e po => q kn Hf0 H0 σ H ρ s out s' E (j.freeze hs) st e po⟩
noncomputable def Zas : Rho → M Out := fun ρ => mret (.nx ρ)
noncomputable def sSeq (g1 g2 : Rho → M Out) : Rho → M Out := fun ρ => Zao (g1 ρ) fun o => match o with | .nx ρ' => g2 ρ' | .rt d => mret (.rt d) | .bk ρ' => mret (.bk ρ') | .ct ρ' => mret (.ct ρ')
theorem Zaq (hs : ∀ k, k ∈ own' → k ∈ own := by decide) : PDSs X G ob own own' fr [] Zas := ⟨_, ZfS, fun kn Hf0 H0 σ H ρ s out s' E ⟨Hf, j⟩ st e p => by
 obtain ⟨rfl, rfl⟩ := Zal e
 exact p σ H (j.freeze hs) st⟩
theorem Zae {st : Stmt} {sts : List Stmt} {g1 g2 : Rho → M Out} (h : PDS X G ob own own2 fr st g1) (h2 : PDSs X G ob own2 own' fr sts g2) : PDSs X G ob own own' fr (st :: sts) (sSeq g1 g2) := by
 obtain ⟨t, p, q⟩ := h
 obtain ⟨u, p2, q2⟩ := h2
 refine ⟨_, Zbp p p2, fun kn Hf0 H0 σ H ρ s out s' E j st e po => ?_⟩
 obtain ⟨o, s1, a1, a2⟩ := Zai e
 refine q kn Hf0 H0 σ H ρ s o s1 _ j st a1 ?_
 cases o with
 | nx ρ1 => exact fun σ1 H1 j1 st1 => q2 kn Hf0 H0 σ1 H1 ρ1 s1 out s' E j1 st1 a2 po
 | rt d => obtain ⟨rfl, rfl⟩ := Zal a2; exact po
 | bk ρ1 => obtain ⟨rfl, rfl⟩ := Zal a2; exact po
 | ct ρ1 => obtain ⟨rfl, rfl⟩ := Zal a2; exact po
noncomputable def sRet (f : Rho → M D) : Rho → M Out := fun ρ => Zao (f ρ) fun d => mret (.rt d)
theorem Za2 {e : Expr} {pos : Pos} (h : PD X G fr e f) : PDS X G ob own own' fr (.Return (some e) pos) (sRet f) := by
 obtain ⟨t, p, q⟩ := h
 refine ⟨_, ZdB p, fun kn Hf0 H0 σ H ρ s out s' E ⟨Hf, j⟩ st e po => ?_⟩
 obtain ⟨d, s1, a1, a2⟩ := Zai e
 obtain ⟨rfl, rfl⟩ := Zal a2
 exact q σ _ H ρ s d s' _ Zca j.envB st a1 fun v Hf' H' g st' r fz => po v Hf' H' (j.grW g) st' r fun z => Zax.old j.gr.hh r.nofp (fz z)
theorem Zc1 {i : Nat} {x : Str} {pos pos' : Pos} (hi : i ∈ own) (h : PE X (.Name x pos') (tVar i)) : PDS X G ob own own' true (.Return (some (.Name x pos')) pos) (sRet (dVar i)) := by
 refine ⟨_, ZdB h, fun kn Hf0 H0 σ H ρ s out s' E ⟨Hf, j⟩ st e po => ?_⟩
 obtain ⟨d, s1, a1, a2⟩ := Zai e
 obtain ⟨rfl, rfl⟩ := Zal a2
 obtain ⟨e1, rfl⟩ := ZbA a1
 have e' : ρ[i]? = some (some d) := by
  cases q : ρ[i]? with
  | none => rw [q] at e1; cases e1
  | some o => rw [q] at e1; simp at e1; rw [e1]
 obtain ⟨v, h1, h2⟩ := j.envB i d e'
 obtain ⟨a, g1, g2, g3, g4, g5⟩ := j.ow i d hi e'
 rw [g1] at h1; cases h1
 refine ⟨_, g1, po (.ref a) _ H (j.grW (.refl Zca)) st h2 fun _ b eb _ => ?_⟩
 cases eb
 refine ⟨g4, fun ds ed => ?_⟩
 subst ed
 obtain ⟨vs, q1, q2⟩ := g5
 refine ⟨vs, Hf, ?_, g3, j.wideF, q2⟩
 unfold wide
 rw [if_neg (fun z => z.2.no g4)]
 exact q1
noncomputable def sIf (c : Rho → M Bool) (g1 g2 : Rho → M Out) : Rho → M Out := fun ρ => Zao (c ρ) fun b => if b = true then g1 ρ else g2 ρ
theorem Zce {c : Expr} {a b : List Stmt} {pos : Pos} {fc : Rho → M Bool} {g1 g2 : Rho → M Out} (hc : PDT X G c fc) (ha : PDSs X G ob own own' fr a g1) (hb : PDSs X G ob own own' fr b g2) : PDS X G ob own own' fr (.If c a b pos) (sIf fc g1 g2) := by
 obtain ⟨tc, pc, qc⟩ := hc
 obtain ⟨ta, pa, qa⟩ := ha
 obtain ⟨tb, pb, qb⟩ := hb
 refine ⟨_, ZiJ pc pa pb, fun kn Hf0 H0 σ H ρ s out s' E ⟨Hf, j⟩ st e po => ?_⟩
 obtain ⟨b, s1, a1, a2⟩ := Zai e
 refine qc σ _ H ρ s b s1 _ Zca j.envB st a1 fun Hf' H' g st' => ?_
 obtain ⟨F, j', fF, q1, q2⟩ := j.growB g
 cases b with
 | true => exact iteT (qa kn Hf0 H0 σ H' ρ s1 out s' E ⟨F, j'⟩ st' a2 po)
 | false => exact iteF (qb kn Hf0 H0 σ H' ρ s1 out s' E ⟨F, j'⟩ st' a2 po)
noncomputable def PAsg (X : Cx) (G : Gh) (fr : Bool) (i : Nat) (st : Stmt) (f : Rho → M D) : Prop := ∃ te, PS X st (fun E σ H => te σ H fun y H1 => E.nx (σ.set i (some y)) H1) ∧ Yld G fr te f
theorem ZaA {i : Nat} {x : Str} {e : Expr} {pos pos' : Pos} (hN : X.N.Nodup) (hi : X.N[i]? = some x) (hx : Loc X.env.scope x) (he : PD X G fr e f) (hs : swapsWith e (some (.Name x pos')) pos.line X.env = pure false := by rfl)
  (hf : X.fn x = true ∨ X.env.scope.names.lookup x = some .local := by first | exact .inl rfl | exact .inr rfl | assumption) : PAsg X G fr i (.Assign [.Name x pos'] e pos) f := by
 obtain ⟨t, p, q⟩ := he
 exact ⟨t, Zda hN hi hx p hs hf, q⟩
noncomputable def sSet (i : Nat) (f : Rho → M D) : Rho → M Out := fun ρ => Zao (f ρ) fun d => mret (.nx (ρ.set i (some d)))
theorem Ze9 {i : Nat} {st : Stmt} {te : TE} (hp : PS X st (fun E σ H => te σ H fun y H1 => E.nx (σ.set i (some y)) H1)) (hy : YldJ G own fr te f) (hi : i ∉ own) {fr' : Bool} : PDS X G ob own own fr' st (sSet i f) :=
 ⟨_, hp, fun kn Hf0 H0 σ H ρ s out s' E ⟨Hf, j⟩ st e po => by
  obtain ⟨d, s1, a1, a2⟩ := Zai e
  obtain ⟨rfl, rfl⟩ := Zal a2
  exact hy kn Hf0 H0 σ Hf H ρ s d s' _ j st a1 fun v Hf' H' j' e1 e2 st' r fz => po _ H' ⟨Hf', j'.setF hi r⟩ st'⟩
theorem Za0 {i : Nat} {st : Stmt} {fr' : Bool} (h : PAsg X G fr i st f) : PDS X G ob [] [] fr' st (sSet i f) := let ⟨_, p, q⟩ := h; Ze9 p q.n (by simp)
theorem Zdc {i : Nat} {st : Stmt} {fr' : Bool} (h : PAsg X G fr i st f) (hi : i ∉ own := by decide) : PDS X G ob own own fr' st (sSet i (fun ρ => f (hide own ρ))) := let ⟨_, p, q⟩ := h; Ze9 p q.a hi
theorem ZkS {i : Nat} {st : Stmt} {fr' : Bool} (h : PAsg X G fr i st f) (hi : i ∉ own := by decide) : PDS X G ob own own fr' st (sSet i (chk fr f)) := let ⟨_, p, q⟩ := h; Ze9 p q.b hi
noncomputable def sOwn (i : Nat) (f : Rho → M D) : Rho → M Out := fun ρ => Zao (f ρ) fun d => if Zew d = true then mret (.nx (ρ.set i (some d))) else Zaz
theorem ZkT {i : Nat} {st : Stmt} {te : TE} (hp : PS X st (fun E σ H => te σ H fun y H1 => E.nx (σ.set i (some y)) H1)) (hy : YldJ G own true te f) (ho : ∀ k, k ∈ own' ↔ k = i ∨ k ∈ own) {fr' : Bool} : PDS X G ob own own' fr' st (sOwn i f) :=
 ⟨_, hp, fun kn Hf0 H0 σ H ρ s out s' E ⟨Hf, j⟩ st e po => by
  obtain ⟨d, s1, a1, a2⟩ := Zai e
  obtain ⟨ok, a3⟩ := ZaL a2
  obtain ⟨rfl, rfl⟩ := Zal a3
  exact hy kn Hf0 H0 σ Hf H ρ s d s' _ j st a1 fun v Hf' H' j' e1 e2 st' r fz => po _ H' (j.setOwn j' ho st e2 e1 r (fz rfl) ok) st'⟩
theorem Zcy {i : Nat} {st : Stmt} {fr' : Bool} (h : PAsg X G true i st f) : PDS X G ob [] [i] fr' st (sOwn i f) := let ⟨_, p, q⟩ := h; ZkT p q.n (by intro k; simp)
noncomputable def sPar (i j : Nat) (fs : Rho → M (List D)) : Rho → M Out := fun ρ => Zao (fs ρ) fun ds => match ds with | [a, b] => if (Zbm a && Zbm b) = true then mret (.nx ((ρ.set i (some a)).set j (some b))) else Zaz | _ => Zaz
theorem Zl6 {i j : Nat} {x y : Str} {a b : Expr} {fs : Rho → M (List D)} {px py pt pos : Pos} {kt k2 pt2} (hc : X.calm = true) (hN : X.N.Nodup) (hi : X.N[i]? = some x) (hj : X.N[j]? = some y) (hij : i ≠ j) (oi : i ∉ own) (oj : j ∉ own)
  (hx : X.env.scope.names.lookup x = some .local) (hy : X.env.scope.names.lookup y = some .local) (ha : PDA X G [a, b] fs)
  (hw : swappedStores [.Tuple [.Name x px, .Name y py] kt pt] (.Tuple [a, b] k2 pt2) X.env = pure (some [x, y]))
  (hs : swapsWithSole [.Tuple [.Name x px, .Name y py] kt pt] (.Tuple [a, b] k2 pt2) pos.line X.env = pure false := by rfl) :
  PDS X G ob own own fr (.Assign [.Tuple [.Name x px, .Name y py] kt pt] (.Tuple [a, b] k2 pt2) pos) (sPar i j fs) := by
 obtain ⟨t, p, q⟩ := ha
 refine ⟨_, ZmE hc hN hi hj hij hx hy p hw hs, fun kn Hf0 H0 σ H ρ s out s' E ⟨Hf, j'⟩ st e po => ?_⟩
 obtain ⟨ds, s1, a1, a2⟩ := Zai e
 refine q σ _ H ρ s ds s1 _ Zca j'.envB st a1 fun vs Hf' H' g st' r => ?_
 match ds, a2, r with
 | [d1, d2], a2, r =>
  obtain ⟨c, a3⟩ := ZaL a2
  obtain ⟨rfl, rfl⟩ := Zal a3
  obtain ⟨c1, c2⟩ := Bool.and_eq_true_iff.mp c
  obtain ⟨v1, r1, rfl, q1, q2⟩ := RepL.cons_iff.mp r
  obtain ⟨v2, r2, rfl, q3, q4⟩ := RepL.cons_iff.mp q2
  rw [RepL.nil_iff.mp q4]
  obtain ⟨F, jF, fF, f1, f2⟩ := j'.growB g
  exact ⟨v1, v2, rfl, po _ H' ⟨F, (jF.setF oi (f1 _ _ c1 q1)).setF oj (f1 _ _ c2 q3)⟩ st'⟩
 | [], a2, _ => cases a2
 | [_], a2, _ => cases a2
 | _ :: _ :: _ :: _, a2, _ => cases a2
inductive Sets (G : Gh) (Hf : Hp) (ok : Nat → Prop) : St → Rho → St → Rho → Prop
 | nil {σ ρ} : Sets G Hf ok σ ρ σ ρ
 | cons {σ ρ σ' ρ'} {i : Nat} {d : D} {v : V} : ok i → Rep G Hf d v → Sets G Hf ok (σ.set i (some v)) (ρ.set i (some d)) σ' ρ' → Sets G Hf ok σ ρ σ' ρ'
noncomputable def PDG (X : Cx) (G : Gh) (tg : Expr) (ok : Nat → Prop) (τ : D → Rho → Option Rho) : Prop :=
 ∃ g, PG X tg g ∧ ∀ (x : V) (σ : St) (Hf H : Hp) (d : D) (ρ ρ' : Rho) (Q : St → Hp → Prop), Ext G Hf H → Rep G Hf d x → τ d ρ = some ρ' → (∀ σ', Sets G Hf ok σ ρ σ' ρ' → Q σ' H) → g x σ H Q
noncomputable def gOne (i : Nat) : D → Rho → Option Rho := fun d ρ => some (ρ.set i (some d))
theorem ZaK {i : Nat} {x : Str} {pos : Pos} {ok : Nat → Prop} (hN : X.N.Nodup) (hi : X.N[i]? = some x) (hx : Loc X.env.scope x) (oi : ok i) (hf : X.fn x = true ∨ X.env.scope.names.lookup x = some .local := by first | exact .inl rfl | exact .inr rfl | assumption) : PDG X G (.Name x pos) ok (gOne i) :=
 ⟨_, Zb3 hN hi hx hf, fun x σ Hf H d ρ ρ' Q e r q k => by
  cases q
  exact k _ (.cons oi r .nil)⟩
noncomputable def ZeS (i j : Nat) : D → Rho → Option Rho := fun d ρ => match d with | .tup [a, b] => some ((ρ.set i (some a)).set j (some b)) | _ => none
theorem Zfb {i j : Nat} {x y : Str} {pos px py : Pos} {k : Nat} {ok : Nat → Prop} (hc : X.calm = true) (hN : X.N.Nodup) (hi : X.N[i]? = some x) (hj : X.N[j]? = some y) (hx : Loc X.env.scope x) (hy : Loc X.env.scope y) (oi : ok i) (oj : ok j)
  (hfx : X.fn x = true ∨ X.env.scope.names.lookup x = some .local := by first | exact .inl rfl | exact .inr rfl | assumption) (hfy : X.fn y = true ∨ X.env.scope.names.lookup y = some .local := by first | exact .inl rfl | exact .inr rfl | assumption)
  (hn : (assignEach [.Name x px, .Name y py] X.env).length = 2 := by rfl) (hst : (assignEach [.Name x px, .Name y py] X.env).findIdx? (·.1) = none := by rfl)
  (hp : PGs X [.Name x px, .Name y py] (Zi3 (ZcC i) (Zi3 (ZcC j) gNil))) : PDG X G (.Tuple [.Name x px, .Name y py] k pos) ok (ZeS i j) :=
 ⟨_, ZmJ hc hp hn hst, fun x σ Hf H d ρ ρ' Q e r q k => by
  match d, q, r with
  | .tup [a, b], q, r =>
   cases q
   obtain ⟨ad, vs, rfl, n, h, rl⟩ := Rep.tup_iff.mp r
   obtain ⟨v1, r1, rfl, q1, q2⟩ := RepL.cons_iff.mp rl
   obtain ⟨v2, r2, rfl, q3, q4⟩ := RepL.cons_iff.mp q2
   have := RepL.nil_iff.mp q4
   subst this
   exact ⟨ad, _, rfl, SqT.of (e _ _ n h), rfl, v1, _, rfl, v2, _, rfl, rfl, k _ (.cons oi q1 (.cons oj q3 .nil))⟩⟩
theorem Sets.jf {kn Hf0 H0 Hf H : Hp} {σ σ' : St} {ρ ρ' : Rho} (h : Sets G Hf (fun i => i ∉ own) σ ρ σ' ρ') : Jf G own kn Hf0 H0 σ Hf H ρ → Jf G own kn Hf0 H0 σ' Hf H ρ' := by
 induction h with
 | nil => exact fun j => j
 | cons o r _ ih => exact fun j => ih (j.setF o r)
noncomputable def ItOk (G : Gh) (J : It) (Hf' : Hp) (ds : List D) : Prop :=
 ∀ (i : Nat) (Hf2 H2 : Hp) (s : Pn), Ext G Hf' Hf2 → Ext G Hf2 H2 → G.st s H2 →
  (∀ d, ds[i]? = some d → J.go i H2 ∧ ∀ x H3, J.yld i H2 x H3 → ∃ Hf3, Gr G Hf2 H2 Hf3 H3 ∧ G.st s H3 ∧ Rep G Hf3 d x) ∧ (i = ds.length → J.stop i H2)
noncomputable def PDI (X : Cx) (G : Gh) (tg iter : Expr) (f : Rho → M (List D)) : Prop :=
 ∃ wi, PI X tg iter wi ∧ ∀ (σ : St) (Hf H : Hp) (ρ : Rho) (s : Pn) (ds : List D) (s' : Pn) (R : It → Hp → Prop), Ext G Hf H → EnvR G Hf σ ρ → G.st s H → f ρ s = some (ds, s') →
  (∀ J Hf' H', Gr G Hf H Hf' H' → G.st s' H' → ItOk G J Hf' ds → R J H') → wi σ H R
theorem ItOk.range {lo : Int} {n : Nat} {Hf : Hp} {ds : List D} (e : ds = (List.range n).map fun (i : Nat) => D.int (lo + i)) : ItOk G (Itr lo n) Hf ds := fun i Hf2 H2 s e1 e2 st => by
 subst e
 refine ⟨fun d q => ?_, fun q => by show n ≤ i; rw [q]; simp⟩
 have hi : i < n := by
  have := (List.getElem?_eq_some_iff.mp q).1
  simpa using this
 have hd : d = .int (lo + i) := by
  rw [List.getElem?_map, List.getElem?_range hi] at q
  simp at q; exact q.symm
 subst hd
 refine ⟨hi, fun x H3 y => ?_⟩
 obtain ⟨y1, y2⟩ := y
 subst y1 y2
 exact ⟨Hf2, .refl e2, st, Rep.int_iff.mpr rfl⟩
theorem ItOk.list {K : PySem.W.Frag} {a : Addr} {vs : List V} {Hf : Hp} {ds : List D} (nf : ¬ G.fp a) (h : Hf a = some (.lst vs)) (r : RepL G Hf ds vs) : ItOk G (Itl K a) Hf ds := fun i Hf2 H2 s e1 e2 st => by
 have h2 : SqL K H2 a vs := SqL.of (e2 _ _ nf (e1 _ _ nf h))
 refine ⟨fun d q => ?_, fun q => ⟨vs, h2, by rw [q, r.length]; exact Nat.le_refl _⟩⟩
 obtain ⟨v, q1, q2⟩ := r.get q
 refine ⟨⟨vs, v, h2, q1⟩, fun x H3 ⟨y1, y2⟩ => ?_⟩
 subst y1
 have e := y2 vs h2
 rw [q1] at e; cases e
 exact ⟨Hf2, .refl e2, st, q2.ext e1⟩
theorem ItOk.tup {K : PySem.W.Frag} {a : Addr} {vs : List V} {Hf : Hp} {ds : List D} (nf : ¬ G.fp a) (h : Hf a = some (.tup vs)) (r : RepL G Hf ds vs) : ItOk G (Itt K a) Hf ds := fun i Hf2 H2 s e1 e2 st => by
 have h2 : SqT K H2 a vs := SqT.of (e2 _ _ nf (e1 _ _ nf h))
 refine ⟨fun d q => ?_, fun q => ⟨vs, h2, by rw [q, r.length]; exact Nat.le_refl _⟩⟩
 obtain ⟨v, q1, q2⟩ := r.get q
 refine ⟨⟨vs, v, h2, q1⟩, fun x H3 ⟨y1, y2⟩ => ?_⟩
 subst y1
 have e := y2 vs h2
 rw [q1] at e; cases e
 exact ⟨Hf2, .refl e2, st, q2.ext e1⟩
noncomputable def ZaD (lo : Int) (n : Nat) : List D := (List.range n).map fun (i : Nat) => D.int (lo + i)
noncomputable def Za3 (f : Rho → M D) : Rho → M (List D) := fun ρ => Zao (f ρ) fun d => match d with | .int j => if -(2 ^ 62) ≤ j ∧ j < 2 ^ 62 then mret (ZaD 0 j.toNat) else Zaz | _ => Zaz
theorem ZdT {tg a : Expr} {p pos : Pos} {r1 : Bool} (hg : Gl X "range") (hm : X.mg "range" = none) (ha : PD X G r1 a f) (hs : starEach [a] X.env = [(false, eval a X.env)] := by rfl) : PDI X G tg (.Call (.Name "range" p) [a] [] pos) (Za3 f) := by
 obtain ⟨t, pa, qa⟩ := ha.drop
 refine ⟨_, Zgk hg hm (ZaV pa Zbs (by rw [hs]; rfl)) hs, fun σ Hf H ρ s ds s' R e1 e2 e3 e4 k => ?_⟩
 obtain ⟨d, s1, a1, a2⟩ := Zai e4
 cases d with
 | int j =>
  obtain ⟨c, a3⟩ := ZaL a2
  obtain ⟨rfl, rfl⟩ := Zal a3
  refine qa σ Hf H ρ s _ _ _ e1 e2 e3 a1 fun v Hf1 H1 g st r => ?_
  rw [Rep.int_iff.mp r]
  exact ⟨j, rfl, c.1, c.2, k _ Hf1 H1 g st (.range rfl)⟩
 | _ => cases a2
noncomputable def ZdI (f g : Rho → M D) : Rho → M (List D) := fun ρ => Zao (f ρ) fun d => Zao (g ρ) fun e => match d, e with | .int i, .int j => if -(2 ^ 62) ≤ i ∧ i < 2 ^ 62 ∧ -(2 ^ 62) ≤ j ∧ j < 2 ^ 62 then mret (ZaD i (j - i).toNat) else Zaz | _, _ => Zaz
noncomputable def Zcx (f : Rho → M D) : Rho → M (List D) := fun ρ => Zao (f ρ) fun d => match d with | .lst ds => mret ds | _ => Zaz
noncomputable def Zcs (f : Rho → M D) : Rho → M (List D) := fun ρ => Zao (f ρ) fun d => match d with | .tup ds => mret ds | _ => Zaz
theorem Zdd {tg l : Expr} {r1 : Bool} (hl : PD X G r1 l f) : PDI X G tg l (Zcx f) := by
 obtain ⟨t, pa, qa⟩ := hl.drop
 refine ⟨_, ZfU pa, fun σ Hf H ρ s ds s' R e1 e2 e3 e4 k => ?_⟩
 obtain ⟨d, s1, a1, a2⟩ := Zai e4
 cases d with
 | lst es =>
  obtain ⟨rfl, rfl⟩ := Zal a2
  refine qa σ Hf H ρ s _ _ _ e1 e2 e3 a1 fun v Hf1 H1 g st r => ?_
  obtain ⟨a, vs, rfl, nf, h, rl⟩ := Rep.lst_iff.mp r
  exact ⟨a, rfl, ⟨vs, SqL.of (g.fh _ _ nf h)⟩, k _ Hf1 H1 g st (.list nf h rl)⟩
 | _ => cases a2
theorem ZfW {tg l : Expr} {r1 : Bool} (hl : PD X G r1 l f) : PDI X G tg l (Zcs f) := by
 obtain ⟨t, pa, qa⟩ := hl.drop
 refine ⟨_, ZmI pa, fun σ Hf H ρ s ds s' R e1 e2 e3 e4 k => ?_⟩
 obtain ⟨d, s1, a1, a2⟩ := Zai e4
 cases d with
 | tup es =>
  obtain ⟨rfl, rfl⟩ := Zal a2
  refine qa σ Hf H ρ s _ _ _ e1 e2 e3 a1 fun v Hf1 H1 g st r => ?_
  obtain ⟨a, vs, rfl, nf, h, rl⟩ := Rep.tup_iff.mp r
  exact ⟨a, rfl, ⟨vs, SqT.of (g.fh _ _ nf h)⟩, k _ Hf1 H1 g st (.tup nf h rl)⟩
 | _ => cases a2
noncomputable def mFor (τ : D → Rho → Option Rho) (body : Rho → M Out) : List D → Rho → M Out
 | [], ρ => mret (.nx ρ)
 | d :: ds, ρ => Zao (mOf (τ d ρ)) fun ρ1 => Zao (body ρ1) fun o => match o with | .nx ρ2 => mFor τ body ds ρ2 | .ct ρ2 => mFor τ body ds ρ2 | .bk ρ2 => mret (.nx ρ2) | .rt d => mret (.rt d)
noncomputable def sFor (fi : Rho → M (List D)) (τ : D → Rho → Option Rho) (body : Rho → M Out) : Rho → M Out := fun ρ => Zao (fi ρ) fun ds => mFor τ body ds ρ
noncomputable def PDIJ (X : Cx) (G : Gh) (own : List Nat) (tg iter : Expr) (f : Rho → M (List D)) : Prop :=
 ∃ wi, PI X tg iter wi ∧ ∀ (kn Hf0 H0 : Hp) (σ : St) (Hf H : Hp) (ρ : Rho) (s : Pn) (ds : List D) (s' : Pn) (R : It → Hp → Prop), Jf G own kn Hf0 H0 σ Hf H ρ → G.st s H → f ρ s = some (ds, s') →
  (∀ J Hf' H', Jf G own kn Hf0 H0 σ Hf' H' ρ → Ext G Hf Hf' → G.st s' H' → ItOk G J Hf' ds → R J H') → wi σ H R
theorem PDI.a {tg iter : Expr} {fi : Rho → M (List D)} (h : PDI X G tg iter fi) : PDIJ X G own tg iter (fun ρ => fi (hide own ρ)) := by
 obtain ⟨wi, p, q⟩ := h
 exact ⟨wi, p, fun kn Hf0 H0 σ Hf H ρ s ds s' R j st e k => q σ Hf H _ s ds s' R j.gr.fh j.envA st e fun J Hf' H' g st' it => k J Hf' H' (j.grow g) g.ff st' it⟩
theorem PDI.n {tg iter : Expr} {fi : Rho → M (List D)} (h : PDI X G tg iter fi) : PDIJ X G [] tg iter fi := by
 obtain ⟨wi, p, q⟩ := h.a (own := [])
 exact ⟨wi, p, fun kn Hf0 H0 σ Hf H ρ s ds s' R j st e k => q kn Hf0 H0 σ Hf H ρ s ds s' R j st (by show fi (hide [] ρ) s = _; rw [Zhn]; exact e) k⟩
theorem Zbu {tg a : Expr} {p pos : Pos} {r1 : Bool} (hg : Gl X "range") (hm : X.mg "range" = none) (ha : PD X G r1 a f) (hs : starEach [a] X.env = [(false, eval a X.env)] := by rfl) : PDIJ X G own tg (.Call (.Name "range" p) [a] [] pos) (Za3 f) := by
 obtain ⟨t, pa, qa⟩ := ha.drop
 refine ⟨_, Zgk hg hm (ZaV pa Zbs (by rw [hs]; rfl)) hs, fun kn Hf0 H0 σ Hf H ρ s ds s' R j st e4 k => ?_⟩
 obtain ⟨d, s1, a1, a2⟩ := Zai e4
 cases d with
 | int i =>
  obtain ⟨c, a3⟩ := ZaL a2
  obtain ⟨rfl, rfl⟩ := Zal a3
  refine qa σ _ H ρ s _ _ _ Zca j.envB st a1 fun v Hf1 H1 g st r => ?_
  obtain ⟨F, j', fF, q1, q2⟩ := j.growB g
  rw [Rep.int_iff.mp r]
  exact ⟨i, rfl, c.1, c.2, k _ F H1 j' fF st (.range rfl)⟩
 | _ => cases a2
theorem Ze2 {tg a b : Expr} {p pos : Pos} {r1 r2 : Bool} {f2 : Rho → M D} (hg : Gl X "range") (hm : X.mg "range" = none) (ha : PD X G r1 a f) (hb : PD X G r2 b f2)
  (hs : starEach [a, b] X.env = [(false, eval a X.env), (false, eval b X.env)] := by rfl) (hs2 : starEach [b] X.env = [(false, eval b X.env)] := by rfl) : PDIJ X G own tg (.Call (.Name "range" p) [a, b] [] pos) (ZdI f f2) := by
 obtain ⟨t, pa, qa⟩ := ha.drop
 obtain ⟨u, pb, qb⟩ := hb.drop
 refine ⟨_, ZjH hg hm (ZaV pa (ZaV pb Zbs (by rw [hs2]; rfl)) (by rw [hs, hs2])) hs hs2, fun kn Hf0 H0 σ Hf H ρ s ds s' R j st e4 k => ?_⟩
 obtain ⟨d, s1, a1, a2⟩ := Zai e4
 obtain ⟨d2, s2, a3, a4⟩ := Zai a2
 match d, d2, a4, a1, a3 with
 | .int i, .int l, a4, a1, a3 =>
  obtain ⟨c, a5⟩ := ZaL a4
  obtain ⟨rfl, rfl⟩ := Zal a5
  refine qa σ _ H ρ s _ _ _ Zca j.envB st a1 fun v Hf1 H1 g st r => ?_
  refine qb σ Hf1 H1 ρ s1 _ _ _ g.fh (j.envB.ext g.ff) st a3 fun v2 Hf2 H2 g2 st2 r2 => ?_
  obtain ⟨F, j', fF, q1, q2⟩ := j.growB (g.trans g2)
  rw [Rep.int_iff.mp r, Rep.int_iff.mp r2]
  exact ⟨i, l, rfl, c, k _ F H2 j' fF st2 (.range rfl)⟩
theorem Jf.weak {kn kn' Hf0 H0 Hf H : Hp} {σ : St} {ρ : Rho} (j : Jf G own kn' Hf0 H0 σ Hf H ρ) (e : Ext G kn kn') : Jf G own kn Hf0 H0 σ Hf H ρ := ⟨j.len, e.trans j.kn, j.gr, j.fz, j.ow, j.ne⟩
theorem ZbH {tg iter : Expr} {body : List Stmt} {pos : Pos} {fi : Rho → M (List D)} {τ : D → Rho → Option Rho} {g : Rho → M Out} (hp : PassesOwn (model X.prog X.w) X.A X.env X.xe) (hc : X.calm = true) (hi : PDIJ X G own tg iter fi) (hg : PDG X G tg (fun i => i ∉ own) τ) (hb : PDSs X G own own own fr body g)
  (hs : ∀ x, foldedSetIterable iter X.env x = pure x := by intro _; rfl) : PDS X G ob own own fr (.For tg iter body [] pos) (sFor fi τ g) := by
 obtain ⟨wi, pi, qi⟩ := hi
 obtain ⟨gt, pg, qg⟩ := hg
 obtain ⟨tb, pb, qb⟩ := hb
 refine ⟨_, ZjC hp hc pi pg pb hs, fun kn Hf0 H0 σ H ρ s out s' E ⟨Hf, j⟩ st e po => ?_⟩
 obtain ⟨ds, s1, a1, a2⟩ := Zai e
 refine qi kn Hf0 H0 σ Hf H ρ s ds s1 _ j st a1 fun Jt Hf1 H1 j1 e1 st1 it => ?_
 refine ⟨fun i m σ2 H2 => ∃ ρ2 s2, J G own Hf1 Hf0 H0 σ2 H2 ρ2 ∧ G.st s2 H2 ∧ mFor τ g (ds.drop i) ρ2 s2 = some (out, s') ∧ i ≤ ds.length ∧ m = ds.length - i, ⟨_, ρ, s1, ⟨Hf1, ⟨j1.len, .refl _ _, j1.gr, j1.fz, j1.ow, j1.ne⟩⟩, st1, a2, Nat.zero_le _, rfl⟩, ?_⟩
 rintro i m σ2 H2 ⟨ρ2, s2, ⟨Hf2, j2⟩, st2, eq2, hle, rfl⟩
 obtain ⟨i1, i2⟩ := it i Hf2 H2 s2 j2.kn j2.gr.fh st2
 by_cases hlt : i < ds.length
 ·have hd : ds.drop i = ds[i] :: ds.drop (i + 1) := List.drop_eq_getElem_cons hlt
  rw [hd] at eq2
  obtain ⟨ρ3, s3, b1, b2⟩ := Zai eq2
  obtain ⟨b1', e3⟩ := ZbA b1
  subst e3
  obtain ⟨o, s4, b3, b4⟩ := Zai b2
  obtain ⟨go, yl⟩ := i1 ds[i] (by simp [hlt])
  refine .inr ⟨go, fun σ' H' => ∃ ρ5 s5, J G own Hf1 Hf0 H0 σ' H' ρ5 ∧ G.st s5 H' ∧ mFor τ g (ds.drop (i + 1)) ρ5 s5 = some (out, s'), fun σ' H' ⟨ρ5, s5, j5, st5, q5⟩ => ⟨_, by omega, ρ5, s5, j5, st5, q5, hlt, rfl⟩, fun x H3 y3 => ?_⟩
  obtain ⟨Hf3, g3, st3, r3⟩ := yl x H3 y3
  have j3 := j2.grow g3
  refine qg x σ2 Hf3 H3 ds[i] ρ2 ρ3 _ g3.fh r3 b1' fun σ3 sets => ?_
  have j4 := sets.jf j3
  refine qb Hf1 Hf0 H0 σ3 H3 ρ3 s3 o s4 _ ⟨Hf3, j4⟩ st3 b3 ?_
  cases o with
  | nx ρ5 => exact fun σ5 H5 j5 st5 => ⟨ρ5, s4, j5, st5, b4⟩
  | ct ρ5 => exact fun σ5 H5 j5 st5 => ⟨ρ5, s4, j5, st5, b4⟩
  | bk ρ5 =>
   obtain ⟨rfl, rfl⟩ := Zal b4
   exact fun σ5 H5 ⟨Hf5, j5⟩ st5 => po σ5 H5 ⟨Hf5, j5.weak (j.kn.trans e1)⟩ st5
  | rt d =>
   obtain ⟨rfl, rfl⟩ := Zal b4
   exact po
 ·have hd : ds.drop i = [] := List.drop_eq_nil_iff.mpr (by omega)
  rw [hd] at eq2
  obtain ⟨rfl, rfl⟩ := Zal eq2
  exact .inl ⟨i2 (by omega), po σ2 H2 ⟨Hf2, j2.weak (j.kn.trans e1)⟩ st2⟩
end
noncomputable def runB (n k : Nat) (g : Rho → M Out) : List D → M D := fun ds => if ds.length = k then Zao (g (ds.map some ++ List.replicate (n - k) none)) fun o => match o with | .rt d => mret d | .nx _ => mret .non | _ => Zaz else Zaz
theorem fnD {P : Program} {w : World} {K : PySem.W.Frag} {mg : Str → Option Value} {base : Heap} {x qual : Str} {st : Stmt} {f : Addr} {fd : FuncData} {N ps : List Str} {k : Nat} {own : List Nat} {fr : Bool} {GG : Gh → Prop} {g : Rho → M Out}
  (F : Fun K x qual st f fd) (S : FnScope N ps (Zak st))
  (hb : ∀ (cdv : Value) (A : Around) (outer : List Env) (s : Shared) (H : Hp) (E : XK), Room k (A.deeper (envOfC qual (Zak st) s.heap.objs.size f cdv)) → ∀ G, GG G → PDSs (cxOf CX0 P w K mg base N qual (Zak st) f cdv A outer s H E).nox G [] [] own fr (ZaH st) g) :
  FnOk P w K mg base CX0 (k + 1) f fd ps (spD ps.length fr GG (runB N.length ps.length g)) := by
 refine F.ok S (fun vs H Q E h => ?_) fun cdv A outer s H vs Q E hr h => ?_
 ·obtain ⟨G, Hf, ds, pn, d, pn', _, e, _⟩ := h
  exact e
 ·obtain ⟨G, Hf, ds, pn, d, pn', hG, el, e1, r, st', eF, k'⟩ := h
  obtain ⟨t, p, q⟩ := hb cdv A outer s H E hr G hG
  refine ⟨t, p, ?_⟩
  obtain ⟨hl, a0⟩ := ZaL eF
  obtain ⟨o, s1, a1, a2⟩ := Zai a0
  have hpl : ps.length ≤ N.length := by have := congrArg List.length S.pre; rw [List.length_take] at this; omega
  have j0 : Jf G [] Hf Hf H (L2.start N vs) Hf H (ds.map some ++ List.replicate (N.length - ps.length) none) := by
   refine ⟨?_, .refl _ _, .refl e1, fun i d n e => ?_, fun i d m e => ?_, fun i j a di dj mi mj n e => ?_⟩
   ·unfold L2.start; simp; omega
   ·have hi : i < ds.length := by
     by_cases hi : i < ds.length
     ·exact hi
     ·rw [List.getElem?_append_right (by simpa using hi), List.getElem?_replicate] at e
      split at e <;> cases e
    have e' : ds[i]? = some d := by
     rw [List.getElem?_append_left (by simpa using hi), List.getElem?_map] at e
     cases q : ds[i]? with
     | none => rw [q] at e; cases e
     | some c => rw [q] at e; simp at e; rw [e]
    obtain ⟨v, h1, h2⟩ := r.get e'
    refine ⟨v, ?_, h2⟩
    unfold L2.start
    rw [List.getElem?_append_left (by simp; rw [← r.length]; exact hi), List.getElem?_map, h1]
    rfl
   ·exact absurd m (by simp)
   ·exact absurd mi (by simp)
  refine q Hf Hf H (L2.start N vs) H _ pn o s1 _ ⟨Hf, j0⟩ st' a1 ?_
  cases o with
  | rt c =>
   obtain ⟨rfl, rfl⟩ := Zal a2
   exact fun v Hf' H' g' st2 r2 fz => k' v Hf' H' g' st2 r2 fz
  | nx ρ' =>
   obtain ⟨rfl, rfl⟩ := Zal a2
   exact fun σ' H' ⟨Hf', j'⟩ st2 => k' .non Hf' H' j'.gr st2 (Rep.non_iff.mpr rfl) fun _ => .scal fun z => z
  | bk ρ' => cases a2
  | ct ρ' => cases a2
noncomputable def tOf (G : Gh) (fr : Bool) (f : Rho → M D) : TE := fun σ H Q => ∃ (Hf : Hp) (ρ : Rho) (s : Pn) (d : D) (s' : Pn), Ext G Hf H ∧ EnvR G Hf σ ρ ∧ G.st s H ∧ f ρ s = some (d, s') ∧
 ∀ v Hf' H', Gr G Hf H Hf' H' → G.st s' H' → Rep G Hf' d v → (fr = true → Zax G H Hf' d v) → Q v H'
noncomputable def tOfT (G : Gh) (f : Rho → M Bool) : TT := fun σ H Q => ∃ (Hf : Hp) (ρ : Rho) (s : Pn) (b : Bool) (s' : Pn), Ext G Hf H ∧ EnvR G Hf σ ρ ∧ G.st s H ∧ f ρ s = some (b, s') ∧
 ∀ Hf' H', Gr G Hf H Hf' H' → G.st s' H' → Q b H'
noncomputable def gOf (G : Gh) (ok : Nat → Prop) (τ : D → Rho → Option Rho) : TG := fun x σ H Q => ∃ (Hf : Hp) (d : D) (ρ ρ' : Rho), Ext G Hf H ∧ Rep G Hf d x ∧ τ d ρ = some ρ' ∧ ∀ σ', Sets G Hf ok σ ρ σ' ρ' → Q σ' H
section
variable {X : Cx} {G : Gh} {own : List Nat} {fr : Bool} {f : Rho → M D}
theorem PD.canon {e : Expr} (h : PD X G fr e f) : PE X e (tOf G fr f) := by
 obtain ⟨t, p, q⟩ := h
 exact fun pins s σ H Q I ⟨Hf, ρ, pn, d, pn', a1, a2, a3, a4, k⟩ => p pins s σ H Q I (q σ Hf H ρ pn d pn' Q a1 a2 a3 a4 k)
theorem PDT.canon {e : Expr} {f : Rho → M Bool} (h : PDT X G e f) : PT X e (tOfT G f) := by
 obtain ⟨t, p, q⟩ := h
 exact fun pins s σ H Q I ⟨Hf, ρ, pn, d, pn', a1, a2, a3, a4, k⟩ => p pins s σ H Q I (q σ Hf H ρ pn d pn' Q a1 a2 a3 a4 k)
theorem PDG.canon {tg : Expr} {ok : Nat → Prop} {τ : D → Rho → Option Rho} (h : PDG X G tg ok τ) : PG X tg (gOf G ok τ) := by
 obtain ⟨t, p, q⟩ := h
 exact fun pins s σ H v u Q I r ⟨Hf, d, ρ, ρ', a1, a2, a3, k⟩ => p pins s σ H v u Q I r (q v σ Hf H d ρ ρ' Q a1 a2 a3 k)
noncomputable def ZbC (src : List (Option Nat)) (ρ : Rho) : Rho := src.map fun o => o.bind fun j => (ρ[j]?).bind id
theorem Zjc {Hf : Hp} {σ : St} {ρ : Rho} {src : List (Option Nat)} (h : EnvR G Hf σ ρ) : EnvR G Hf (ZcP src σ) (ZbC src ρ) := fun i d e => by
 unfold ZbC at e
 rw [List.getElem?_map] at e
 cases q : src[i]? with
 | none => rw [q] at e; cases e
 | some o =>
  rw [q] at e
  cases o with
  | none => simp at e
  | some j =>
   simp only [Option.map_some, Option.bind_some, Option.some.injEq] at e
   have hj : ρ[j]? = some (some d) := by
    cases e2 : ρ[j]? with
    | none => rw [e2] at e; cases e
    | some o2 => rw [e2] at e; simp at e; rw [e]
   obtain ⟨v, h1, h2⟩ := h j d hj
   refine ⟨v, ?_, h2⟩
   unfold ZcP
   rw [List.getElem?_map, q]
   simp [h1]
theorem Sets.len {Hf : Hp} {ok : Nat → Prop} {σ σ' : St} {ρ ρ' : Rho} (h : Sets G Hf ok σ ρ σ' ρ') : (σ.length = ρ.length → σ'.length = ρ'.length) ∧ σ'.length = σ.length := by
 induction h with
 | nil => exact ⟨fun e => e, rfl⟩
 | cons _ _ _ ih => exact ⟨fun e => ih.1 (by simp [e]), ih.2.trans (by simp)⟩
theorem Sets.env {Hf : Hp} {ok : Nat → Prop} {σ σ' : St} {ρ ρ' : Rho} (h : Sets G Hf ok σ ρ σ' ρ') : σ.length = ρ.length → EnvR G Hf σ ρ → EnvR G Hf σ' ρ' := by
 induction h with
 | nil => exact fun _ e => e
 | @cons σ ρ σ' ρ' i d v o r _ ih =>
  intro hl he
  refine ih (by simp [hl]) fun k c e => ?_
  by_cases h : i = k
  ·subst h
   have hk : i < ρ.length := by
    have := (List.getElem?_eq_some_iff.mp e).1
    simpa using this
   rw [List.getElem?_set_self hk] at e
   cases e
   exact ⟨v, List.getElem?_set_self (by rw [hl]; exact hk), r⟩
  ·rw [List.getElem?_set_ne h] at e ⊢
   exact he k c e
theorem Sets.envOld {Hf : Hp} {ok : Nat → Prop} {σ σ' : St} {ρ ρ' ρ0 : Rho} (h : Sets G Hf ok σ ρ σ' ρ') (h0 : ∀ i d, ok i → ρ0[i]? ≠ some (some d)) : EnvR G Hf σ ρ0 → EnvR G Hf σ' ρ0 := by
 induction h with
 | nil => exact fun e => e
 | @cons σ ρ σ' ρ' i d v o r _ ih =>
  intro he
  refine ih fun k c e => ?_
  have hne : i ≠ k := fun z => h0 k c (z ▸ o) e
  rw [List.getElem?_set_ne hne]
  exact he k c e
noncomputable def Zdq (τ : D → Rho → Option Rho) (ft : Rho → M Bool) (fe : Rho → M D) (ρ : Rho) : List D → M (List D)
 | [] => mret []
 | d :: ds => Zao (mOf (τ d ρ)) fun ρ1 => Zao (ft ρ1) fun b => if b = true then Zao (fe ρ1) fun c => Zao (Zdq τ ft fe ρ ds) fun r => mret (c :: r) else Zdq τ ft fe ρ ds
noncomputable def Za9 (src : List (Option Nat)) (fi : Rho → M (List D)) (τ : D → Rho → Option Rho) (ft : Rho → M Bool) (fe : Rho → M D) : Rho → M D := fun ρ =>
 Zao (fi ρ) fun ds => if ds.length ≤ sizeLine then Zao (Zdq τ ft fe (ZbC src ρ) ds) fun r => mret (.lst r) else Zaz
noncomputable def ZaW : Rho → M Bool := fun _ => mret true
theorem Zhw {src : List (Option Nat)} {wi : TI} {fi : Rho → M (List D)} {τ : D → Rho → Option Rho} {ft : Rho → M Bool} {fe : Rho → M D} {r1 : Bool}
  (qi : ∀ (σ : St) (Hf H : Hp) (ρ : Rho) (s : Pn) (ds : List D) (s' : Pn) (R : It → Hp → Prop), Ext G Hf H → EnvR G Hf σ ρ → G.st s H → fi ρ s = some (ds, s') →
   (∀ J Hf' H', Gr G Hf H Hf' H' → G.st s' H' → ItOk G J Hf' ds → R J H') → wi σ H R) :
  Yld G true (Zfn src wi (gOf G (fun i => src[i]? = some none) τ) (tOfT G ft) (tOf G r1 fe)) (Za9 src fi τ ft fe) := by
 intro σ Hf H ρ s d s' Q e1 e2 e3 e4 k
 obtain ⟨ds, s1, a1, a2⟩ := Zai e4
 obtain ⟨hz, a3⟩ := ZaL a2
 obtain ⟨r, s2, a4, a5⟩ := Zai a3
 obtain ⟨rfl, rfl⟩ := Zal a5
 refine qi σ Hf H ρ s ds s1 _ e1 e2 e3 a1 fun Jt Hf1 H1 g1 st1 it => ?_
 intro p hp
 have nrp := Gh.nord st1 hp
 have nfp := Gh.sub' nrp
 have hf1p : Hf1 p = none := by
  cases e : Hf1 p with
  | none => rfl
  | some o => rw [g1.fh p o nfp e] at hp; cases hp
 have h0 : ∀ (i : Nat) (d : D), src[i]? = some none → (ZbC src ρ)[i]? ≠ some (some d) := fun i d e q => by
  unfold ZbC at q
  rw [List.getElem?_map, e] at q
  simp at q
 refine ⟨fun i m σ2 H2 => ∃ (Hf2 : Hp) (s2 : Pn) (vs : List V) (acc rest : List D), i ≤ ds.length ∧ m = ds.length - i ∧ Gr G Hf1 H1 Hf2 H2 ∧ EnvR G Hf2 σ2 (ZbC src ρ) ∧ σ2.length = (ZbC src ρ).length ∧ G.st s2 H2 ∧ Hf2 p = none ∧ H2 p = some (.lst vs) ∧ RepL G Hf2 acc vs ∧ acc.length ≤ i ∧
  Zdq τ ft fe (ZbC src ρ) (ds.drop i) s2 = some (rest, s') ∧ acc ++ rest = r, ⟨_, Hf1, s1, [], [], r, Nat.zero_le _, rfl, ?_, ?_, ?_, Gh.grow st1 hp, hf1p, Zap, RepL.nil_iff.mpr rfl, Nat.le_refl _, a4, rfl⟩, ?_⟩
 ·refine ⟨fun b o n e => ?_, .refl _ _, fun b o n e => ?_, fun b n h1 h2 => h1⟩
  ·rw [Zaj (Zam e hp)]; exact e
  ·rw [Zaj (Zam e hf1p)]; exact g1.fh b o n e
 ·exact Zjc (e2.ext g1.ff)
 ·unfold ZcP ZbC; simp
 ·rintro i m σ2 H2 ⟨Hf2, sz, vs, acc, rest, hle, rfl, g2, env2, len2, st2, hfp2, hp2, racc, hacc, eq2, hr⟩
  obtain ⟨i1, i2⟩ := it i Hf2 H2 sz g2.ff g2.fh st2
  by_cases hlt : i < ds.length
  ·have hd : ds.drop i = ds[i] :: ds.drop (i + 1) := List.drop_eq_getElem_cons hlt
   rw [hd] at eq2
   obtain ⟨ρ3, s3, b1, b2⟩ := Zai eq2
   obtain ⟨b1', e3'⟩ := ZbA b1
   subst e3'
   obtain ⟨bo, s4, b3, b4⟩ := Zai b2
   obtain ⟨go, yl⟩ := i1 ds[i] (by simp [hlt])
   refine .inr ⟨go, fun x H3 y3 => ?_⟩
   obtain ⟨Hf3, g3, st3, r3⟩ := yl x H3 y3
   refine ⟨Hf3, ds[i], ZbC src ρ, ρ3, g3.fh, r3, b1', fun σ4 sets => ?_⟩
   have env2' := env2.ext g3.ff
   have env4 := sets.env len2 env2'
   have env4' := sets.envOld h0 env2'
   refine ⟨Hf3, ρ3, s3, bo, s4, g3.fh, env4, st3, b3, fun Hf5 H5 g5 st5 => ?_⟩
   have g25 := g3.trans g5
   have hfp5 : Hf5 p = none := g25.nw p nfp hfp2 ⟨_, hp2, fun _ z => by cases z⟩
   have hp5 : H5 p = some (.lst vs) := g25.hh p _ nfp hp2
   cases bo with
   | false =>
    refine iteF ⟨ds.length - (i + 1), by omega, Hf5, s4, vs, acc, rest, hlt, rfl, g2.trans g25, env4'.ext g5.ff, by rw [← len2]; exact sets.len.2, st5, hfp5, hp5, racc.ext g25.ff, by omega, ?_, hr⟩
    exact b4
   | true =>
    have b4' : Zao (fe ρ3) (fun c => Zao (Zdq τ ft fe (ZbC src ρ) (ds.drop (i + 1))) fun r => mret (c :: r)) s4 = some (rest, s') := b4
    obtain ⟨c, s6, b5, b6⟩ := Zai b4'
    obtain ⟨rr, s7, b7, b8⟩ := Zai b6
    obtain ⟨rfl, rfl⟩ := Zal b8
    refine iteT ⟨Hf5, ρ3, s4, c, s6, g5.fh, env4.ext g5.ff, st5, b5, fun v Hf6 H6 g6 st6 r6 _ => ?_⟩
    have hfp6 : Hf6 p = none := g6.nw p nfp hfp5 ⟨_, hp5, fun _ z => by cases z⟩
    have hp6 : H6 p = some (.lst vs) := g6.hh p _ nfp hp5
    have hl : vs.length < sizeLine := by rw [← racc.length]; omega
    refine ⟨vs, hp6, hl, ds.length - (i + 1), by omega, Hf6, s6, vs ++ [v], acc ++ [c], rr, hlt, rfl, ?_, (env4'.ext g5.ff).ext g6.ff, by rw [← len2]; exact sets.len.2, ?_, hfp6, Zap, (racc.ext (g25.ff.trans g6.ff)).append (.one r6), by simp; omega, b7, by rw [← hr]; simp⟩
    ·have gg := (g2.trans g25).trans g6
     refine ⟨fun b o n e => ?_, gg.ff, fun b o n e => ?_, gg.nw⟩
     ·rw [Zaj (Zam e hp)]; exact gg.hh b o n e
     ·rw [Zaj (Zam e hfp6)]; exact gg.fh b o n e
    ·refine G.mono _ _ _ st6 (fun b o rb e => ?_) fun b φ e => ?_
     ·have : b ≠ p := fun z => nrp (z ▸ rb)
      rw [Zaj this]; exact e
     ·have : b ≠ p := fun z => by rw [z, hp6] at e; cases e
      rw [Zaj this]; exact e
  ·have hd : ds.drop i = [] := List.drop_eq_nil_iff.mpr (by omega)
   rw [hd] at eq2
   obtain ⟨rfl, rfl⟩ := Zal eq2
   refine .inl ⟨i2 (by omega), ?_⟩
   rw [List.append_nil] at hr
   subst hr
   refine k (.ref p) (upd Hf2 p (.lst vs)) H2 (g1.trans ⟨g2.hh, fun b o n e => ?_, fun b o n e => ?_, fun b n h1 h2 => ?_⟩) st2 (Rep.lst_iff.mpr ⟨p, vs, rfl, nfp, Zap, racc.ext fun b o n e => ?_⟩) fun _ a ea _ => ?_
   ·rw [Zaj (Zam (g2.ff b o n e) hfp2)]; exact g2.ff b o n e
   ·by_cases hb : b = p
    ·subst hb; rw [Zap] at e; rw [hp2]; exact e
    ·rw [Zaj hb] at e; exact g2.fh b o n e
   ·have : b ≠ p := fun z => h2.no (z ▸ hp)
    rw [Zaj this]; exact g2.nw b n h1 h2
   ·rw [Zaj (Zam e hfp2)]; exact e
   ·cases ea
    refine ⟨?_, fun ds' ed => ?_⟩
    ·cases q : H p with
     | none => rfl
     | some o => rw [g1.hh p o nfp q] at hp; cases hp
    ·cases ed
     exact ⟨vs, Hf2, Zap, hfp2, fun b o n e => by rw [Zaj (Zam e hfp2)]; exact e, racc⟩
theorem Zcz : PIfs X [] (tOfT G ZaW) := fun pins s σ H Q I ⟨Hf, ρ, pn, b, pn', a1, a2, a3, a4, k⟩ => by
 obtain ⟨rfl, rfl⟩ := Zal a4
 exact ZkN pins s σ H Q I (k Hf H (.refl a1) a3)
theorem Znx {c : Expr} {ft : Rho → M Bool} (h : PDT X G c ft) : PIfs X [c] (tOfT G ft) := Zg5 h.canon
theorem Jf.put {kn Hf0 H0 Hf H : Hp} {σ : St} {ρ : Rho} {i : Nat} {a : Addr} {d d' : D} {o' : HO} (j : Jf G own kn Hf0 H0 σ Hf H ρ) (hi : i ∈ own) (e : ρ[i]? = some (some d)) (sa : σ[i]? = some (some (.ref a)))
  (new : ZcF G Hf (upd H a o') a d') : Jf G own kn Hf0 H0 σ Hf (upd H a o') (ρ.set i (some d')) := by
 obtain ⟨a', h1, h2, h3, h4, h5⟩ := j.ow i d hi e
 rw [sa] at h1; cases h1
 have il : i < ρ.length := (List.getElem?_eq_some_iff.mp e).1
 refine ⟨by simp [j.len], j.kn, ⟨fun b o n q => ?_, j.gr.ff, fun b o n q => ?_, j.gr.nw⟩, fun k c n q => ?_, fun k c m q => ?_, fun k l b dk dl mk ml n ek el sk sl => ?_⟩
 ·rw [Zaj (Zam q h4)]; exact j.gr.hh b o n q
 ·rw [Zaj (Zam q h3)]; exact j.gr.fh b o n q
 ·have hne : i ≠ k := fun z => n (z ▸ hi)
  rw [List.getElem?_set_ne hne] at q
  exact j.fz k c n q
 ·by_cases hk : i = k
  ·subst hk
   rw [List.getElem?_set_self il] at q
   cases q
   exact ⟨a, sa, h2, h3, h4, new⟩
  ·rw [List.getElem?_set_ne hk] at q
   obtain ⟨b, g1, g2, g3, g4, g5⟩ := j.ow k c m q
   have hab : b ≠ a := fun z => j.ne i k a d c hi m hk e q sa (z ▸ g1)
   exact ⟨b, g1, g2, g3, g4, g5.keep (.refl _ _) fun o z => by rw [Zaj hab]; exact z⟩
 ·have ek' : ∃ d, ρ[k]? = some (some d) := by
   by_cases hk : i = k
   ·exact ⟨d, hk ▸ e⟩
   ·rw [List.getElem?_set_ne hk] at ek; exact ⟨_, ek⟩
  have el' : ∃ d, ρ[l]? = some (some d) := by
   by_cases hl : i = l
   ·exact ⟨d, hl ▸ e⟩
   ·rw [List.getElem?_set_ne hl] at el; exact ⟨_, el⟩
  obtain ⟨_, ek'⟩ := ek'
  obtain ⟨_, el'⟩ := el'
  exact j.ne k l b _ _ mk ml n ek' el' sk sl
theorem ZeJ {kn Hf0 H0 Hf H : Hp} {σ : St} {ρ : Rho} {i : Nat} {ds : List D} (j : Jf G own kn Hf0 H0 σ Hf H ρ) (hi : i ∈ own) (e : ρ[i]? = some (some (.lst ds))) :
  ∃ a vs, σ[i]? = some (some (.ref a)) ∧ ¬ G.rd a ∧ H a = some (.lst vs) ∧ RepL G Hf ds vs := by
 obtain ⟨a, h1, h2, h3, h4, vs, h5, h6⟩ := j.ow i _ hi e
 exact ⟨a, vs, h1, h2, h5, h6⟩
theorem Zio {ρ : Rho} {i : Nat} {d : D} (h : (ρ[i]?).bind id = some d) : ρ[i]? = some (some d) := by
 cases q : ρ[i]? with
 | none => rw [q] at h; cases h
 | some o => rw [q] at h; simp at h; rw [h]
theorem Gh.other {s : Pn} {H : Hp} {a : Addr} {o : HO} (st : G.st s H) (h : ¬ G.rd a)
  (hx : ∀ φ, H a ≠ some (.ext φ) := by intro φ z; first | (have z2 := z.symm.trans (by assumption : _ = some (L2.HO.lst _)); cases z2) | (have z2 := z.symm.trans (by assumption : _ = some (L2.HO.dK _)); cases z2) | (have z2 := z.symm.trans (by assumption : _ = some (L2.HO.dT _)); cases z2)) : G.st s (upd H a o) := G.mono _ _ _ st (fun b u rb e => by
 have : b ≠ a := fun z => h (z ▸ rb)
 rw [Zaj this]; exact e) fun b φ e => by
 have : b ≠ a := fun z => hx φ (z ▸ e)
 rw [Zaj this]; exact e
noncomputable def sApp (i : Nat) (f : Rho → M D) : Rho → M Out := fun ρ => Zao (f ρ) fun d => match (ρ[i]?).bind id with
 | some (.lst ds) => if ds.length < sizeLine then mret (.nx (ρ.set i (some (.lst (ds ++ [d]))))) else Zaz
 | _ => Zaz
theorem Zmu {i : Nat} {ob : List Nat} {te : TE} {r1 : Bool} (hi : i ∈ own) (hy : YldJ G own r1 te f) :
  Dos G ob own own fr (Zdn (tBM X.K "list" ZeI (tVar i) (Zc0 te tNil))) (sApp i f) := fun kn Hf0 H0 σ H ρ s out s' E ⟨Hf, j⟩ st e po => by
 obtain ⟨d, s1, a1, a2⟩ := Zai e
 cases hb : (ρ[i]?).bind id with
 | none => rw [hb] at a2; cases a2
 | some c =>
  rw [hb] at a2
  cases c with
  | lst ds =>
   have a2' : (if ds.length < sizeLine then mret (.nx (ρ.set i (some (.lst (ds ++ [d]))))) else Zaz) s1 = some (out, s') := a2
   obtain ⟨c2, a3⟩ := ZaL a2'
   obtain ⟨rfl, rfl⟩ := Zal a3
   have ei := Zio hb
   obtain ⟨a, vs, h1, h2, h3, h4⟩ := ZeJ j hi ei
   refine ⟨_, h1, .inl ⟨rfl, vs, SqL.of h3⟩, ?_⟩
   refine hy kn Hf0 H0 σ Hf H ρ s d s' _ j st a1 fun v Hf' H' j' e1 e2 st' r fz => ?_
   obtain ⟨a', vs', h1', h2', h3', h4'⟩ := ZeJ j' hi ei
   rw [h1] at h1'; cases h1'
   refine ⟨a, vs', v, rfl, rfl, h3', by rw [← h4'.length]; exact c2, ?_⟩
   exact po σ _ ⟨Hf', j'.put hi ei h1 ⟨vs' ++ [v], Zap, h4'.append (.one r)⟩⟩ (Gh.other st' h2)
  | _ => cases a2
theorem Zdo {i : Nat} {x : Str} {e : Expr} {pos p1 p2 p3 : Pos} {te : TE} (hv : PE X (.Name x p1) (tVar i)) (p : PE X e te)
  (hbase : attributeBase (.Name x p1) "append" X.env (eval (.Name x p1) X.env) = eval (.Name x p1) X.env := by rfl)
  (hfew : ((backTo p3 (starEach [e] X.env)).all (fun x => !x.1) && (backToKw p3 (keywordEach [] X.env)).all (fun x => x.1.isSome)
   && decide ([e].length + ([] : List Keyword).length + (if ([] : List Keyword).isEmpty then 0 else 1) < 30)) = true := by rfl)
  (hline : (p2.endLine == p3.line) = true := by rfl) (hs : starEach [e] X.env = (false, eval e X.env) :: starEach [] X.env := by rfl)
  (hsw : swapsWith (.Call (.Attribute (.Name x p1) "append" p2) [e] [] p3) none pos.line X.env = pure false := by rfl) :
  PS X (.Expr (.Call (.Attribute (.Name x p1) "append" p2) [e] [] p3) pos) (Zdn (tBM X.K "list" ZeI (tVar i) (Zc0 te tNil))) :=
 ZfT (ZiK PySem.F.plainAttrs_list PySem.F.slot_list_append PySem.F.type_list_append Zgp hv (ZaV p Zbs hs) hbase hfew hline hs rfl) hsw
section
variable {i : Nat} {x : Str} {e : Expr} {pos p1 p2 p3 : Pos} {r1 : Bool} {ob : List Nat} {st : Stmt}
theorem ZdS (hi : i ∈ own) (he : PD X G r1 e f) (hp : ∀ te, PE X e te → PS X st (Zdn (tBM X.K "list" ZeI (tVar i) (Zc0 te tNil)))) : PDS X G ob own own fr st (sApp i (fun ρ => f (hide own ρ))) := by
 obtain ⟨t, p, q⟩ := he
 exact ⟨_, hp t p, Zmu hi (Yld.a q)⟩
end
end
section
variable {X : Cx} {G : Gh}
noncomputable def dI (C : Int → Int → Bool) (g : Int → Int → D) : D → D → Option D
 | .int i, .int j => if C i j = true then some (g i j) else none
 | _, _ => none
theorem Zf4 {C : Int → Int → Bool} {g : Int → Int → D} {d e c : D} (h : dI C g d e = some c) : ∃ i j, d = .int i ∧ e = .int j ∧ C i j = true ∧ c = g i j := by
 match d, e, h with
 | .int i, .int j, h =>
  have h' : (if C i j = true then some (g i j) else none) = some c := h
  split at h'
  ·rename_i hc; cases h'; exact ⟨i, j, rfl, rfl, hc, rfl⟩
  ·cases h'
theorem ZnD {f : Value → Value → Sem Value} {C : Int → Int → Prop} {Cb : Int → Int → Bool} {g : Int → Int → Int} (h : OpR X f (rI C fun i j => .int (g i j))) (hc : ∀ i j, Cb i j = true → C i j) : OpD X G f (dI Cb fun i j => .int (g i j)) :=
 ⟨_, h, fun Hf H s x y d e c Q e1 st rx ry q k => by
  obtain ⟨i, j, rfl, rfl, hcb, rfl⟩ := Zf4 q
  exact ⟨i, j, Rep.int_iff.mp rx, Rep.int_iff.mp ry, hc i j hcb, k _ Hf H (.refl e1) st (Rep.int_iff.mpr rfl) (.scal fun z => z)⟩⟩
theorem ZmV {f : Value → Value → Sem Value} {g : Int → Int → Int} (h : OpR X f (rI0 fun i j => .int (g i j))) : OpD X G f (dI (fun _ _ => true) fun i j => .int (g i j)) :=
 ⟨_, h, fun Hf H s x y d e c Q e1 st rx ry q k => by
  obtain ⟨i, j, rfl, rfl, hcb, rfl⟩ := Zf4 q
  exact ⟨i, j, Rep.int_iff.mp rx, Rep.int_iff.mp ry, k _ Hf H (.refl e1) st (Rep.int_iff.mpr rfl) (.scal fun z => z)⟩⟩
theorem ZmX {f : Value → Value → Sem Value} {g : Int → Int → Bool} (h : OpR X f (rI0 fun i j => .bl (g i j))) : OpD X G f (dI (fun _ _ => true) fun i j => .bl (g i j)) :=
 ⟨_, h, fun Hf H s x y d e c Q e1 st rx ry q k => by
  obtain ⟨i, j, rfl, rfl, hcb, rfl⟩ := Zf4 q
  exact ⟨i, j, Rep.int_iff.mp rx, Rep.int_iff.mp ry, k _ Hf H (.refl e1) st (Rep.bl_iff.mpr rfl) (.scal fun z => z)⟩⟩
noncomputable def dSub := dI (fun _ _ => true) fun i j => .int (i - j)
noncomputable def dMod := dI (fun _ j => decide (0 < j)) fun i j => .int (i % j)
theorem ZfX : OpD X G (binaryOp .Sub) dSub := ZmV ZmY
theorem Zh8 : OpD X G (binaryOp .Mod) dMod := ZnD ZcS fun i j h => by simpa using h
noncomputable def dGt := dI (fun _ _ => true) fun i j => .bl (decide (j < i))
theorem ZmW : OpD X G (compareOp .Gt) dGt := ZmX ZiO
noncomputable def ZaI : List D → Option (List Int)
 | [] => some []
 | .int i :: ds => (ZaI ds).map (i :: ·)
 | _ :: _ => none
theorem Zdr : ∀ {ds : List D} {ns : List Int}, ZaI ds = some ns → ds = ns.map D.int
 | [], ns, h => by simp [ZaI] at h; subst h; rfl
 | .int i :: ds, ns, h => by
  cases e : ZaI ds with
  | none => simp [ZaI, e] at h
  | some ms => simp [ZaI, e] at h; subst h; simp [Zdr e]
 | .non :: _, _, h => by simp [ZaI] at h
 | .bl _ :: _, _, h => by simp [ZaI] at h
 | .str _ :: _, _, h => by simp [ZaI] at h
 | .tup _ :: _, _, h => by simp [ZaI] at h
 | .lst _ :: _, _, h => by simp [ZaI] at h
 | .dk _ :: _, _, h => by simp [ZaI] at h
 | .dt _ :: _, _, h => by simp [ZaI] at h
 | .du _ :: _, _, h => by simp [ZaI] at h
 | .df _ :: _, _, h => by simp [ZaI] at h
 | .pen :: _, _, h => by simp [ZaI] at h
 | .ty _ :: _, _, h => by simp [ZaI] at h
theorem ZiY (ns : List Int) : ZaI (ns.map D.int) = some ns := by
 induction ns with
 | nil => rfl
 | cons n ns ih => simp [ZaI, ih]
theorem RepL.ints {H : Hp} : ∀ {ns : List Int} {vs : List V}, RepL G H (ns.map D.int) vs → vs = ns.map V.int
 | [], vs, h => RepL.nil_iff.mp h
 | n :: ns, vs, h => by
  obtain ⟨v, r, rfl, h1, h2⟩ := RepL.cons_iff.mp h
  rw [Rep.int_iff.mp h1, RepL.ints h2]
  rfl
noncomputable def dLt : D → D → Option D
 | .int i, .int j => some (.bl (decide (i < j)))
 | .tup a, .tup b => match ZaI a, ZaI b with | some ns, some ms => some (.bl (HT.lexLt ns ms)) | _, _ => none
 | _, _ => none
theorem ZmU (hu : X.A.units < cLine) : OpD X G (compareOp .Lt) dLt :=
 ⟨_, Zly.or (Zm1 hu), fun Hf H s x y d e c Q e1 st rx ry q k => by
  match d, e, q, rx, ry with
  | .int i, .int j, q, rx, ry =>
   cases q
   exact .inl ⟨i, j, Rep.int_iff.mp rx, Rep.int_iff.mp ry, k _ Hf H (.refl e1) st (Rep.bl_iff.mpr rfl) (.scal fun z => z)⟩
  | .tup a, .tup b, q, rx, ry =>
   have q : (match ZaI a, ZaI b with | some ns, some ms => some (D.bl (HT.lexLt ns ms)) | _, _ => none) = some c := q
   cases ea : ZaI a with
   | none => rw [ea] at q; simp at q
   | some ns =>
    cases eb : ZaI b with
    | none => rw [ea, eb] at q; simp at q
    | some ms =>
     rw [ea, eb] at q
     cases q
     rw [Zdr ea] at rx
     rw [Zdr eb] at ry
     obtain ⟨p, vs, rfl, np, hp, rp⟩ := Rep.tup_iff.mp rx
     obtain ⟨p2, vs2, rfl, np2, hp2, rp2⟩ := Rep.tup_iff.mp ry
     rw [RepL.ints rp] at hp
     rw [RepL.ints rp2] at hp2
     exact .inr ⟨p, p2, ns, ms, rfl, rfl, SqT.of (e1 _ _ np hp), SqT.of (e1 _ _ np2 hp2), k _ Hf H (.refl e1) st (Rep.bl_iff.mpr rfl) (.scal fun z => z)⟩⟩
theorem Zma : OpR X (binaryOp .Add) (fun x y H Q => ∃ a b ys, x = .ref a ∧ y = .ref b ∧ SqT X.K H a [] ∧ SqT X.K H b ys ∧ Q (.ref b) H) := by
 intro pins s σ H x y v u Q I rx ry h
 obtain ⟨a, b, ys, rfl, rfl, ha, hb, q⟩ := h
 cases rx
 cases ry
 obtain ⟨its, r1, p1, _⟩ := I.tuple ha
 obtain ⟨its2, r2, p2, _⟩ := I.tuple hb
 have e0 : its = [] := by cases r1; rfl
 subst e0
 obtain ⟨⟨cls, dd, data, sl⟩, ho, hc, n, hd⟩ := id p1
 obtain ⟨⟨cls2, dd2, data2, sl2⟩, ho2, hc2, n2, hd2⟩ := id p2
 simp only at hc hd hc2 hd2
 subst hc hd hc2 hd2
 exact concat_meets ⟨_, ho, rfl⟩ ⟨_, ho2, rfl⟩ noFill_tuple_add seq_tuple_add PySem.F.slot_tuple_add PySem.F.entry_tuple_add (PySem.F.args_tuple_add_2 _ _)
   (tuple_addW0 a b ([] : List Value).toArray its2.toArray n n2 dd dd2 sl sl2 rfl) ⟨ho, ho2, ⟨.ref b, H, I, rfl, q⟩⟩
noncomputable def dAdd : D → D → Option D
 | .int i, .int j => some (.int (i + j))
 | .tup a, .tup b => if a.length + b.length ≤ sizeLine then some (.tup (a ++ b)) else none
 | .lst a, .lst b => if a.length + b.length ≤ sizeLine then some (.lst (a ++ b)) else none
 | _, _ => none
theorem ZeK : OpD X G (binaryOp .Add) dAdd :=
 ⟨_, ZcT.or (Zm6.or (Zl9.or Zma)), fun Hf H s x y d e c Q e1 st rx ry q k => by
  match d, e, q, rx, ry with
  | .int i, .int j, q, rx, ry =>
   cases q
   exact .inl ⟨i, j, Rep.int_iff.mp rx, Rep.int_iff.mp ry, k _ Hf H (.refl e1) st (Rep.int_iff.mpr rfl) (.scal fun z => z)⟩
  | .lst a, .lst b, q, rx, ry =>
   have q : (if a.length + b.length ≤ sizeLine then some (D.lst (a ++ b)) else none) = some c := q
   split at q
   ·rename_i hz
    cases q
    obtain ⟨p, vs, rfl, np, hp, rp⟩ := Rep.lst_iff.mp rx
    obtain ⟨p2, vs2, rfl, np2, hp2, rp2⟩ := Rep.lst_iff.mp ry
    refine .inr (.inl ⟨p, p2, vs, vs2, rfl, rfl, e1 _ _ np hp, e1 _ _ np2 hp2, by rw [← rp.length, ← rp2.length]; exact hz, fun l hl => ?_⟩)
    have nf := Gh.nofp st hl
    have g2 := Gr.new (o := .lst (vs ++ vs2)) e1 hl nf
    have rr := rp.append rp2
    exact k (.ref l) _ _ g2 (Gh.grow st hl) (Rep.lst_iff.mpr ⟨l, _, rfl, nf, Zap, rr.ext g2.ff⟩) (Zax.mk e1 hl nf rr)
   ·cases q
  | .tup a, .tup b, q, rx, ry =>
   have q : (if a.length + b.length ≤ sizeLine then some (D.tup (a ++ b)) else none) = some c := q
   split at q
   ·rename_i hz
    cases q
    obtain ⟨p, vs, rfl, np, hp, rp⟩ := Rep.tup_iff.mp rx
    obtain ⟨p2, vs2, rfl, np2, hp2, rp2⟩ := Rep.tup_iff.mp ry
    by_cases hv : vs = []
    ·subst hv
     have ea : a = [] := List.length_eq_zero_iff.mp (by rw [rp.length]; rfl)
     subst ea
     exact .inr (.inr (.inr ⟨p, p2, vs2, rfl, rfl, SqT.of (e1 _ _ np hp), SqT.of (e1 _ _ np2 hp2), k _ Hf H (.refl e1) st ry (.scal fun z => z)⟩))
    ·refine .inr (.inr (.inl ⟨p, p2, vs, vs2, rfl, rfl, SqT.of (e1 _ _ np hp), SqT.of (e1 _ _ np2 hp2), hv, by rw [← rp.length, ← rp2.length]; exact hz, fun z => ?_, fun _ l hl => ?_⟩))
     ·subst z
      have eb : b = [] := List.length_eq_zero_iff.mp (by rw [rp2.length]; rfl)
      subst eb
      rw [List.append_nil] at k
      exact k _ Hf H (.refl e1) st rx (.scal fun z => z)
     ·have nf := Gh.nofp st hl
      have g2 := Gr.new (o := .tup (vs ++ vs2)) e1 hl nf
      exact k (.ref l) _ _ g2 (Gh.grow st hl) (Rep.tup_iff.mpr ⟨l, _, rfl, nf, Zap, (rp.append rp2).ext g2.ff⟩) (.scal fun z => z)
   ·cases q⟩
noncomputable def dIx : D → D → Option D
 | .lst ds, .int i => atI ds i
 | .tup ds, .int i => atI ds i
 | _, _ => none
theorem Zip {Hf : Hp} {ds : List D} {vs : List V} {i : Int} {c : D} (r : RepL G Hf ds vs) (h : atI ds i = some c) : ∃ v, atI vs i = some v ∧ Rep G Hf c v := by
 unfold atI at h ⊢
 rw [← r.length]
 cases e : ixN ds.length i with
 | none => rw [e] at h; cases h
 | some j =>
  rw [e] at h
  obtain ⟨v, h1, h2⟩ := r.get (i := j) (d := c) h
  exact ⟨v, h1, h2⟩
theorem ixd : IxD X G dIx :=
 ⟨_, ZeP.or Znh, fun Hf H s x y d e c Q e1 st rx ry q k => by
  match d, e, q, rx, ry with
  | .lst ds, .int i, q, rx, ry =>
   obtain ⟨p, vs, rfl, np, hp, rp⟩ := Rep.lst_iff.mp rx
   obtain ⟨v, h1, h2⟩ := Zip rp q
   exact .inl ⟨p, vs, i, v, rfl, Rep.int_iff.mp ry, SqL.of (e1 _ _ np hp), h1, k v h2⟩
  | .tup ds, .int i, q, rx, ry =>
   obtain ⟨p, vs, rfl, np, hp, rp⟩ := Rep.tup_iff.mp rx
   obtain ⟨v, h1, h2⟩ := Zip rp q
   exact .inr ⟨p, vs, i, v, rfl, Rep.int_iff.mp ry, SqT.of (e1 _ _ np hp), h1, k v h2⟩⟩
theorem RepL.one_inv {H : Hp} {d : D} {xs : List V} (h : RepL G H [d] xs) : ∃ v, xs = [v] ∧ Rep G H d v := by
 obtain ⟨v, r, rfl, h1, h2⟩ := RepL.cons_iff.mp h
 rw [RepL.nil_iff.mp h2]
 exact ⟨v, rfl, h1⟩
theorem RepL.two_inv {H : Hp} {d e : D} {xs : List V} (h : RepL G H [d, e] xs) : ∃ v w, xs = [v, w] ∧ Rep G H d v ∧ Rep G H e w := by
 obtain ⟨v, r, rfl, h1, h2⟩ := RepL.cons_iff.mp h
 obtain ⟨w, rfl, h3⟩ := RepL.one_inv h2
 exact ⟨v, w, rfl, h1, h3⟩
noncomputable def dLen : List D → Option D
 | [.lst ds] => some (.int ds.length)
 | [.tup ds] => some (.int ds.length)
 | _ => none
theorem Za5 : ZbJ X G (.builtin "len") dLen :=
 ⟨_, Zdg, fun Hf H s xs ds c Q e1 st r q k => by
  match ds, q, r with
  | [.lst es], q, r =>
   cases q
   obtain ⟨v, rfl, rv⟩ := RepL.one_inv r
   obtain ⟨p, vs, rfl, np, hp, rp⟩ := Rep.lst_iff.mp rv
   exact ⟨p, vs, rfl, .inl (SqL.of (e1 _ _ np hp)), k _ Hf H (.refl e1) st (Rep.int_iff.mpr (by rw [rp.length])) (.scal fun z => z)⟩
  | [.tup es], q, r =>
   cases q
   obtain ⟨v, rfl, rv⟩ := RepL.one_inv r
   obtain ⟨p, vs, rfl, np, hp, rp⟩ := Rep.tup_iff.mp rv
   exact ⟨p, vs, rfl, .inr (SqT.of (e1 _ _ np hp)), k _ Hf H (.refl e1) st (Rep.int_iff.mpr (by rw [rp.length])) (.scal fun z => z)⟩⟩
noncomputable def Zdf : List D → Option D
 | [.lst ds] => some (.tup ds)
 | [.tup ds] => some (.tup ds)
 | _ => none
theorem Zch : ZbJ X G (.type "tuple") Zdf :=
 ⟨_, ZgJ, fun Hf H s xs ds c Q e1 st r q k => by
  match ds, q, r with
  | [.lst es], q, r =>
   cases q
   obtain ⟨v, rfl, rv⟩ := RepL.one_inv r
   obtain ⟨p, vs, rfl, np, hp, rp⟩ := Rep.lst_iff.mp rv
   refine ⟨p, vs, rfl, .inl ⟨SqL.of (e1 _ _ np hp), fun l hl => ?_⟩⟩
   have nf := Gh.nofp st hl
   have g2 := Gr.new (o := .tup vs) e1 hl nf
   exact k (.ref l) _ _ g2 (Gh.grow st hl) (Rep.tup_iff.mpr ⟨l, _, rfl, nf, Zap, rp.ext g2.ff⟩) (.scal fun z => z)
  | [.tup es], q, r =>
   cases q
   obtain ⟨v, rfl, rv⟩ := RepL.one_inv r
   obtain ⟨p, vs, rfl, np, hp, rp⟩ := Rep.tup_iff.mp rv
   exact ⟨p, vs, rfl, .inr ⟨SqT.of (e1 _ _ np hp), k _ Hf H (.refl e1) st rv (.scal fun z => z)⟩⟩⟩
noncomputable def ZlG : List D → Option D
 | [.lst ds] => some (.lst ds)
 | [.tup ds] => some (.lst ds)
 | _ => none
theorem ZhW : ZbJ X G (.type "list") ZlG :=
 ⟨_, ZhA, fun Hf H s xs ds c Q e1 st r q k => by
  match ds, q, r with
  | [.lst es], q, r =>
   cases q
   obtain ⟨v, rfl, rv⟩ := RepL.one_inv r
   obtain ⟨p, vs, rfl, np, hp, rp⟩ := Rep.lst_iff.mp rv
   refine ⟨p, vs, rfl, .inl (SqL.of (e1 _ _ np hp)), fun l hl => ?_⟩
   have nf := Gh.nofp st hl
   have g2 := Gr.new (o := .lst vs) e1 hl nf
   exact k (.ref l) _ _ g2 (Gh.grow st hl) (Rep.lst_iff.mpr ⟨l, _, rfl, nf, Zap, rp.ext g2.ff⟩) (Zax.mk e1 hl nf rp)
  | [.tup es], q, r =>
   cases q
   obtain ⟨v, rfl, rv⟩ := RepL.one_inv r
   obtain ⟨p, vs, rfl, np, hp, rp⟩ := Rep.tup_iff.mp rv
   refine ⟨p, vs, rfl, .inr (SqT.of (e1 _ _ np hp)), fun l hl => ?_⟩
   have nf := Gh.nofp st hl
   have g2 := Gr.new (o := .lst vs) e1 hl nf
   exact k (.ref l) _ _ g2 (Gh.grow st hl) (Rep.lst_iff.mpr ⟨l, _, rfl, nf, Zap, rp.ext g2.ff⟩) (Zax.mk e1 hl nf rp)⟩
noncomputable def Zi7 : List D → Option D
 | [.int i, .int j] => some (.int (if j > i then j else i))
 | _ => none
noncomputable def Zdt : List D → Option D
 | [.int i, .int j] => some (.int (if j < i then j else i))
 | _ => none
theorem Zi8 (hc : X.calm = true) : ZbJ X G (.builtin "max") Zi7 :=
 ⟨_, Zko hc, fun Hf H s xs ds c Q e1 st r q k => by
  match ds, q, r with
  | [.int i, .int j], q, r =>
   cases q
   obtain ⟨v, w, rfl, rv, rw'⟩ := RepL.two_inv r
   rw [Rep.int_iff.mp rv, Rep.int_iff.mp rw']
   exact ⟨i, j, rfl, k _ Hf H (.refl e1) st (Rep.int_iff.mpr rfl) (.scal fun z => z)⟩⟩
theorem Zd0 (hc : X.calm = true) : ZbJ X G (.builtin "min") Zdt :=
 ⟨_, Zkn hc, fun Hf H s xs ds c Q e1 st r q k => by
  match ds, q, r with
  | [.int i, .int j], q, r =>
   cases q
   obtain ⟨v, w, rfl, rv, rw'⟩ := RepL.two_inv r
   rw [Rep.int_iff.mp rv, Rep.int_iff.mp rw']
   exact ⟨i, j, rfl, k _ Hf H (.refl e1) st (Rep.int_iff.mpr rfl) (.scal fun z => z)⟩⟩
noncomputable def ZaQ : List D → Option (List Bool)
 | [] => some []
 | .bl b :: ds => (ZaQ ds).map (b :: ·)
 | _ :: _ => none
theorem ZfN : ∀ {ds : List D} {ns : List Bool}, ZaQ ds = some ns → ds = ns.map D.bl
 | [], ns, h => by simp [ZaQ] at h; subst h; rfl
 | .bl i :: ds, ns, h => by
  cases e : ZaQ ds with
  | none => simp [ZaQ, e] at h
  | some ms => simp [ZaQ, e] at h; subst h; simp [ZfN e]
 | .non :: _, _, h => by simp [ZaQ] at h
 | .int _ :: _, _, h => by simp [ZaQ] at h
 | .str _ :: _, _, h => by simp [ZaQ] at h
 | .tup _ :: _, _, h => by simp [ZaQ] at h
 | .lst _ :: _, _, h => by simp [ZaQ] at h
 | .dk _ :: _, _, h => by simp [ZaQ] at h
 | .dt _ :: _, _, h => by simp [ZaQ] at h
 | .du _ :: _, _, h => by simp [ZaQ] at h
 | .df _ :: _, _, h => by simp [ZaQ] at h
 | .pen :: _, _, h => by simp [ZaQ] at h
 | .ty _ :: _, _, h => by simp [ZaQ] at h
theorem ZhX (ns : List Bool) : ZaQ (ns.map D.bl) = some ns := by
 induction ns with
 | nil => rfl
 | cons n ns ih => simp [ZaQ, ih]
theorem RepL.bools {H : Hp} : ∀ {ns : List Bool} {vs : List V}, RepL G H (ns.map D.bl) vs → vs = ns.map V.bl
 | [], vs, h => RepL.nil_iff.mp h
 | n :: ns, vs, h => by
  obtain ⟨v, r, rfl, h1, h2⟩ := RepL.cons_iff.mp h
  rw [Rep.bl_iff.mp h1, RepL.bools h2]
  rfl
theorem Zfi : ∀ {bs : List Bool} {us : List Value}, Vals (bs.map V.bl) us → us = bs.map Value.bool
 | [], _, .nil => rfl
 | b :: bs, _, .cons r t => by
  cases (show _ = Value.bool b from r)
  rw [Zfi t]
  rfl
theorem Ziu {hc : X.calm = true} {pins : List (Addr × Obj)} {s : Shared} {σ : St} {H : Hp} {p : Addr} {bs : List Bool} {Q : Value → Shared → Prop} {E : Value → Shared → Prop} (fin : Bool) (I : Inv X pins σ H s) (h : H p = some (.lst (bs.map V.bl)))
  (fn : (Nat → Bool) → List Nat → Bool) (hq : ∀ s', Inv X pins σ H s' → Q (.bool (fn (fun i => bs.getD i false) (List.range bs.length))) s') :
  wpAny (model X.prog X.w) X.A.in1 (pyIter (.ref p)) (fun it s₂ => ∃ I fp wr n P St tr, it = .ref I ∧ Walks X.prog X.w X.A.in1 I fp wr n P St ∧ St 0 s₂.heap ∧ TruthOf X.prog X.w X.A.in1 P tr ∧
   ∀ h' tk, (∀ b o, b ∉ wr → s₂.heap.get? b = some o → h'.get? b = some o) → Q (.bool (fn tr (List.range n))) { s₂ with heap := h', toks := tk }) E s := by
 obtain ⟨its, rv, pl, hz⟩ := I.list (SqL.of h)
 have eu := Zfi rv
 subst eu
 refine wpAny_pyIter_list pl.isList ?_
 have hne : p ≠ s.heap.objs.size := Nat.ne_of_lt (by
  obtain ⟨o, ho, _⟩ := pl.isList
  exact Heap.lt_size ho)
 refine ⟨s.heap.objs.size, _, _, _, _, _, fun i => bs.getD i false, rfl, Walks.list (A := X.A.in1) (I.ok.hd hc) s.heap.objs.size p hne _, ⟨⟨_, Heap.get?_push_size _ rfl, rfl, rfl⟩, pl.isList.at fun o e => Heap.get?_push_of_some _ e⟩, ?_, ?_⟩
 ·intro i v s' Q' E' hP hQ'
  have hv : v = .bool (bs.getD i false) := by
   have e : (bs.map Value.bool).toArray[i]? = some v := hP
   rw [List.getElem?_toArray, List.getElem?_map] at e
   cases q : bs[i]? with
   | none => rw [q] at e; cases e
   | some b => rw [q] at e; cases e; simp [List.getD, q]
  subst hv
  exact wpAny_truthy_bool hQ'
 ·intro h' tk hk
  have : (List.map Value.bool bs).toArray.size = bs.length := by simp
  rw [this]
  have I1 : Inv X pins σ H { s with heap := s.heap.push { cls := .type "list_iterator", data := .fields #[.ref p, .int 0 0] } } := I.kept (t' := s.toks) fun b o e => Heap.get?_push_of_some _ e
  refine hq _ (I.kept (t' := tk) fun b o e => hk b o ?_ (Heap.get?_push_of_some _ e))
  have := Nat.ne_of_lt (Heap.lt_size e)
  simpa using this
theorem Zlk (bs : List Bool) : (List.range bs.length).all (fun i => bs.getD i false) = bs.all id := by
 induction bs with
 | nil => rfl
 | cons b bs ih =>
  rw [List.length_cons, List.range_succ_eq_map, List.all_cons, List.all_map]
  show (b && (List.range bs.length).all fun i => bs.getD i false) = _
  rw [ih]; rfl
theorem Zkq (hc : X.calm = true) : ZbY X (.builtin "all") (fun xs H Q => ∃ (p : Addr) (bs : List Bool), xs = [.ref p] ∧ H p = some (.lst (bs.map V.bl)) ∧ Q (.bl (bs.all id)) H) := by
 intro pins s σ H xs us Q I r h
 obtain ⟨p, bs, rfl, hp, q⟩ := h
 obtain ⟨u, rfl, ru⟩ := Zdm r
 cases ru
 refine call_all_walk (Ziu (hc := hc) true I hp (fun t l => l.all t) fun s' I' => ⟨.bl (bs.all id), H, I', ?_, q⟩)
 show Value.bool _ = _
 rw [Zlk]
noncomputable def dAll : List D → Option D
 | [.lst ds] => (ZaQ ds).map fun bs => .bl (bs.all id)
 | _ => none
theorem Zkr (hc : X.calm = true) : ZbJ X G (.builtin "all") dAll :=
 ⟨_, Zkq hc, fun Hf H s xs ds c Q e1 st r q k => by
  match ds, q, r with
  | [.lst es], q, r =>
   obtain ⟨v, rfl, rv⟩ := RepL.one_inv r
   obtain ⟨p, vs, rfl, np, hp, rp⟩ := Rep.lst_iff.mp rv
   cases e : ZaQ es with
   | none => simp [dAll, e] at q
   | some bs =>
    simp [dAll, e] at q
    subst q
    rw [ZfN e] at rp
    rw [RepL.bools rp] at hp
    exact ⟨p, bs, rfl, e1 _ _ np hp, k _ Hf H (.refl e1) st (Rep.bl_iff.mpr rfl) (.scal fun z => z)⟩⟩
theorem ZcA {x : Str} {n : String} {pos : Pos} (hg : Gl X x) (hm : X.mg x = none) (hv : bootBuiltins x = some (.type n)) (hn : x ≠ "__name__" := by decide) (hd : (x == ("__debug__" : Str)) = false := by decide) : PD X G true (.Name x pos) (dC (.ty n)) := by
 refine ⟨_, Zl4 (v := .ty n) hg hm hv rfl hn hd, fun σ Hf H ρ s d s' Q e1 e2 e3 e4 k => ?_⟩
 obtain ⟨rfl, rfl⟩ := Zal e4
 exact k _ Hf H (.refl e1) e3 (Rep.ty_iff.mpr rfl) fun _ => .scal fun z => z
noncomputable def Zfk : D → Option String
 | .non => some "NoneType"
 | .bl _ => some "bool"
 | .int _ => some "int"
 | .str _ => some "str"
 | .tup _ => some "tuple"
 | .lst _ => some "list"
 | .dk _ => some "dict"
 | .dt _ => none
 | .du _ => none
 | .df _ => none
 | _ => none
noncomputable def ZfE : List String := ["int", "bool", "str", "tuple", "list", "dict"]
noncomputable def dIsi : List D → Option D
 | [d, .ty T] => match Zfk d with
  | some n => if ZfE.contains T then some (.bl (n == T || (n == "bool" && T == "int"))) else none
  | none => none
 | _ => none
theorem Zmf (K : PySem.W.Frag) : ∀ n ∈ ["NoneType", "bool", "int", "str", "tuple", "list", "dict"], ∀ T ∈ ZfE, PySem.W.kitOne K (.type n) (.type T) = some (n == T || (n == "bool" && T == "int")) := by
 intro n hn T hT
 simp only [ZfE, List.mem_cons, List.not_mem_nil, or_false] at hn hT
 rcases hn with rfl | rfl | rfl | rfl | rfl | rfl | rfl <;> rcases hT with rfl | rfl | rfl | rfl | rfl | rfl <;> rfl
theorem Zjj {Hf H : Hp} {d : D} {v : V} {n : String} (e1 : Ext G Hf H) (r : Rep G Hf d v) (h : Zfk d = some n) : TyOf X.K H v (.type n) ∧ n ∈ ["NoneType", "bool", "int", "str", "tuple", "list", "dict"] := by
 cases d with
 | non => cases h; rw [Rep.non_iff.mp r]; exact ⟨.non, by decide⟩
 | bl b => cases h; rw [Rep.bl_iff.mp r]; exact ⟨.bl b, by decide⟩
 | int b => cases h; rw [Rep.int_iff.mp r]; exact ⟨.int b, by decide⟩
 | str b => cases h; rw [Rep.str_iff.mp r]; exact ⟨.str b, by decide⟩
 | tup ds => cases h; obtain ⟨p, vs, rfl, np, hp, rp⟩ := Rep.tup_iff.mp r; exact ⟨.tup (e1 _ _ np hp), by decide⟩
 | lst ds => cases h; obtain ⟨p, vs, rfl, np, hp, rp⟩ := Rep.lst_iff.mp r; exact ⟨.lst (e1 _ _ np hp), by decide⟩
 | dk ds => cases h; obtain ⟨p, rfl, np, hp⟩ := Rep.dk_iff.mp r; exact ⟨.dK (e1 _ _ np hp), by decide⟩
 | dt ds => cases h
 | du ds => cases h
 | df ds => cases h
 | pen => cases h
 | ty _ => cases h
 | clo _ _ => cases h
theorem Zkp : ZbY X (.builtin "isinstance") (fun xs H Q => ∃ x n T, xs = [x, .ty T] ∧ TyOf X.K H x (.type n) ∧ n ∈ ["NoneType", "bool", "int", "str", "tuple", "list", "dict"] ∧ T ∈ ZfE ∧ Q (.bl (n == T || (n == "bool" && T == "int"))) H) := by
 intro pins s σ H xs us Q I r h
 obtain ⟨x, n, T, rfl, ty, hn, hT, q⟩ := h
 obtain ⟨u, w', rfl, ru, rw'⟩ := Ziv r
 cases (show w' = Value.type T from rw')
 exact Zj5 I ru ty (Zmf X.K n hn T hT) fun tk => ⟨.bl _, H, I.tok tk, rfl, q⟩
theorem Zbk : ZbJ X G (.builtin "isinstance") dIsi :=
 ⟨_, Zkp, fun Hf H s xs ds c Q e1 st r q k => by
  match ds, q, r with
  | [d, .ty T], q, r =>
   obtain ⟨v, w, rfl, rv, rw'⟩ := RepL.two_inv r
   rw [Rep.ty_iff.mp rw']
   have q : (match Zfk d with | some n => if ZfE.contains T then some (D.bl (n == T || (n == "bool" && T == "int"))) else none | none => none) = some c := q
   cases e : Zfk d with
   | none => rw [e] at q; cases q
   | some n =>
    rw [e] at q
    simp only at q
    split at q
    ·rename_i hk
     cases q
     obtain ⟨t1, t2⟩ := Zjj (X := X) e1 rv e
     exact ⟨v, n, T, rfl, t1, t2, by simpa using hk, k _ Hf H (.refl e1) st (Rep.bl_iff.mpr rfl) (.scal fun z => z)⟩
    ·cases q⟩
end
mutual
noncomputable def Zag : D → Bool
 | .non => true
 | .bl _ => true
 | .int _ => true
 | .str _ => true
 | .tup ds => ZaC ds
 | .lst ds => ZaC ds
 | _ => false
noncomputable def ZaC : List D → Bool
 | [] => true
 | d :: ds => Zag d && ZaC ds
end
mutual
noncomputable def dep : D → Nat
 | .tup ds => deps ds + 1
 | .lst ds => deps ds + 1
 | _ => 0
noncomputable def deps : List D → Nat
 | [] => 0
 | d :: ds => max (dep d) (deps ds)
end
theorem Zc8 : ∀ {ds : List D} {d : D}, d ∈ ds → dep d ≤ deps ds
 | e :: ds, d, h => by
  rcases List.mem_cons.mp h with rfl | h
  ·simp only [deps]; omega
  ·have := Zc8 h
   simp only [deps]; omega
theorem Zcd : ∀ {ds : List D} {d : D}, ZaC ds = true → d ∈ ds → Zag d = true
 | e :: ds, d, n, h => by
  have n' : Zag e = true ∧ ZaC ds = true := by simpa [ZaC] using n
  rcases List.mem_cons.mp h with rfl | h
  ·exact n'.1
  ·exact Zcd n'.2 h
mutual
noncomputable def dEq : D → D → Bool
 | .non, .non => true
 | .bl a, .bl b => a == b
 | .bl a, .int i => (if a then 1 else 0) == i
 | .int i, .bl b => i == (if b then 1 else 0)
 | .int i, .int j => i == j
 | .str x, .str y => x == y
 | .tup a, .tup b => dEqs a b
 | .lst a, .lst b => dEqs a b
 | _, _ => false
noncomputable def dEqs : List D → List D → Bool
 | [], [] => true
 | a :: as, b :: bs => dEq a b && dEqs as bs
 | _, _ => false
end
mutual
theorem Zff : ∀ d : D, Zag d = true → dEq d d = true
 | .non, _ => by simp [dEq]
 | .bl _, _ => by simp [dEq]
 | .int _, _ => by simp [dEq]
 | .str _, _ => by simp [dEq]
 | .tup ds, h => by simp only [dEq]; exact ZeB ds (by simpa [Zag] using h)
 | .lst ds, h => by simp only [dEq]; exact ZeB ds (by simpa [Zag] using h)
 | .dk _, h => by simp [Zag] at h
 | .dt _, h => by simp [Zag] at h
 | .du _, h => by simp [Zag] at h
 | .df _, h => by simp [Zag] at h
 | .pen, h => by simp [Zag] at h
 | .ty _, h => by simp [Zag] at h
 | .clo _ _, h => by simp [Zag] at h
theorem ZeB : ∀ ds : List D, ZaC ds = true → dEqs ds ds = true
 | [], _ => by simp [dEqs]
 | d :: ds, h => by
  have n' : Zag d = true ∧ ZaC ds = true := by simpa [ZaC] using h
  simp only [dEqs, Zff d n'.1, ZeB ds n'.2, Bool.and_self]
end
theorem Zfe : ∀ {a b : List D}, dEqs a b = true → a.length = b.length
 | [], [], _ => rfl
 | a :: as, b :: bs, h => by
  have : dEq a b = true ∧ dEqs as bs = true := by simpa [dEqs] using h
  simp [Zfe this.2]
 | [], _ :: _, h => by simp [dEqs] at h
 | _ :: _, [], h => by simp [dEqs] at h
theorem ZdZ : ∀ (a b : List D), a.length = b.length → (List.range a.length).all (fun j => dEq (a.getD j .non) (b.getD j .non)) = dEqs a b
 | [], [], _ => rfl
 | a :: as, b :: bs, h => by
  have h' : as.length = bs.length := by simpa using h
  rw [List.length_cons, List.range_succ_eq_map, List.all_cons, List.all_map, dEqs, ← ZdZ as bs h']
  rfl
 | [], _ :: _, h => by simp at h
 | _ :: _, [], h => by simp at h
theorem ZhU : ∀ (a b : List D), ((List.range (min a.length b.length)).all (fun j => dEq (a.getD j .non) (b.getD j .non)) && a.length == b.length) = dEqs a b := fun a b => by
 by_cases h : a.length = b.length
 ·rw [← ZdZ a b h, h]; simp
 ·have : dEqs a b = false := by
   cases e : dEqs a b with
   | false => rfl
   | true => exact absurd (Zfe e) h
  rw [this]; simp [h]
mutual
theorem Rep.inj {G : Gh} {H : Hp} : ∀ {d e : D} {v : V}, Zag d = true → Zag e = true → Rep G H d v → Rep G H e v → d = e
 | .non, e, v, _, pe, h, h' => by
  rw [Rep.non_iff.mp h] at h'
  cases e <;> first | rfl | (simp [Zag] at pe; done) | (simp [Rep] at h')
 | .bl b, e, v, _, pe, h, h' => by
  rw [Rep.bl_iff.mp h] at h'
  cases e <;> first | (simp [Zag] at pe; done) | (simp [Rep] at h'; rw [h']) | (simp [Rep] at h')
 | .int b, e, v, _, pe, h, h' => by
  rw [Rep.int_iff.mp h] at h'
  cases e <;> first | (simp [Zag] at pe; done) | (simp [Rep] at h'; rw [h']) | (simp [Rep] at h')
 | .str b, e, v, _, pe, h, h' => by
  rw [Rep.str_iff.mp h] at h'
  cases e <;> first | (simp [Zag] at pe; done) | (simp [Rep] at h'; rw [h']) | (simp [Rep] at h')
 | .tup ds, e, v, pd, pe, h, h' => by
  obtain ⟨a, vs, rfl, n, q, r⟩ := Rep.tup_iff.mp h
  cases e with
  | tup es =>
   obtain ⟨a', vs', e', n', q', r'⟩ := Rep.tup_iff.mp h'
   cases e'
   rw [q] at q'; cases q'
   rw [RepL.inj (by simpa [Zag] using pd) (by simpa [Zag] using pe) r r']
  | lst es =>
   obtain ⟨a', vs', e', n', q', r'⟩ := Rep.lst_iff.mp h'
   cases e'
   rw [q] at q'; cases q'
  | _ => first | (simp [Rep] at h'; done) | (simp [Zag] at pe; done)
 | .lst ds, e, v, pd, pe, h, h' => by
  obtain ⟨a, vs, rfl, n, q, r⟩ := Rep.lst_iff.mp h
  cases e with
  | lst es =>
   obtain ⟨a', vs', e', n', q', r'⟩ := Rep.lst_iff.mp h'
   cases e'
   rw [q] at q'; cases q'
   rw [RepL.inj (by simpa [Zag] using pd) (by simpa [Zag] using pe) r r']
  | tup es =>
   obtain ⟨a', vs', e', n', q', r'⟩ := Rep.tup_iff.mp h'
   cases e'
   rw [q] at q'; cases q'
  | _ => first | (simp [Rep] at h'; done) | (simp [Zag] at pe; done)
 | .dk _, _, _, pd, _, _, _ => by simp [Zag] at pd
 | .dt _, _, _, pd, _, _, _ => by simp [Zag] at pd
 | .du _, _, _, pd, _, _, _ => by simp [Zag] at pd
 | .df _, _, _, pd, _, _, _ => by simp [Zag] at pd
 | .pen, _, _, pd, _, _, _ => by simp [Zag] at pd
 | .ty _, _, _, pd, _, _, _ => by simp [Zag] at pd
 | .clo _ _, _, _, pd, _, _, _ => by simp [Zag] at pd
theorem RepL.inj {G : Gh} {H : Hp} : ∀ {ds es : List D} {vs : List V}, ZaC ds = true → ZaC es = true → RepL G H ds vs → RepL G H es vs → ds = es
 | [], es, vs, _, pe, h, h' => by
  rw [RepL.nil_iff.mp h] at h'
  cases es with
  | nil => rfl
  | cons e es => obtain ⟨v, r, e1, _⟩ := RepL.cons_iff.mp h'; cases e1
 | d :: ds, es, vs, pd, pe, h, h' => by
  obtain ⟨v, r, rfl, r1, r2⟩ := RepL.cons_iff.mp h
  have pd' : Zag d = true ∧ ZaC ds = true := by simpa [ZaC] using pd
  cases es with
  | nil => have := RepL.nil_iff.mp h'; cases this
  | cons e es =>
   obtain ⟨v', r', e1, r1', r2'⟩ := RepL.cons_iff.mp h'
   cases e1
   have pe' : Zag e = true ∧ ZaC es = true := by simpa [ZaC] using pe
   rw [Rep.inj pd'.1 pe'.1 r1 r1', RepL.inj pd'.2 pe'.2 r2 r2']
end
section
variable {X : Cx} {G : Gh} {pins : List (Addr × Obj)} {σ : St} {Hf H : Hp} {s : Shared}
theorem ZcW (A : Around) : A.in1.units = A.units + 1 := rfl
theorem ZeQ {ds : List D} {vs : List V} {us : List Value} (r : RepL G Hf ds vs) (rv : Vals vs us) {j : Nat} (h : j < us.toArray.size) : ∃ v, Rep G Hf (ds.getD j .non) v ∧ RelV v us.toArray[j] ∧ ds.getD j .non ∈ ds := by
 have hl : j < ds.length := by rw [r.length, rv.length]; simpa using h
 have e : ds[j]? = some (ds.getD j .non) := by simp [List.getD, hl]
 obtain ⟨v, h1, h2⟩ := r.get e
 obtain ⟨u, h3, h4⟩ := rv.get h1
 refine ⟨v, h2, ?_, ?_⟩
 ·have : us.toArray[j] = u := by
   have h' : j < us.length := by simpa using h
   have q : us[j]? = some us[j] := by simp [h']
   rw [h3] at q
   simpa using (Option.some.inj q).symm
  rw [this]; exact h4
 ·simp [List.getD, hl]
theorem Zi5 (I : Inv X pins σ H s) (e1 : Ext G Hf H) : ∀ (n : Nat) (A : Around) (d e : D) (x y : V) (u v : Value), dep d ≤ n → dep e ≤ n → A.units + n + 1 < cLine → Zag d = true → Zag e = true → Rep G Hf d x → Rep G Hf e y → RelV x u → RelV y v →
  SeqAt.EqAt A s u v (dEq d e) ∧ SeqAt.RcAt A s u v (dEq d e) ∧ SeqAt.RcNeAt A s u v (!dEq d e) := by
 intro n
 induction n with
 | zero =>
  intro A d e x y u v hd he hu pd pe rd re ru rv
  have hu' : A.units < cLine := by omega
  cases d with
  | tup ds => simp [dep] at hd
  | lst ds => simp [dep] at hd
  | dk _ => simp [Zag] at pd
  | dt _ => simp [Zag] at pd
  | du _ => simp [Zag] at pd
  | df _ => simp [Zag] at pd
  | pen => simp [Zag] at pd
  | ty _ => simp [Zag] at pd
  | clo _ _ => simp [Zag] at pd
  | non =>
   rw [Rep.non_iff.mp rd] at ru
   cases (show u = Value.none from ru)
   cases e with
   | tup ds => simp [dep] at he
   | lst ds => simp [dep] at he
   | dk _ => simp [Zag] at pe
   | dt _ => simp [Zag] at pe
   | du _ => simp [Zag] at pe
   | df _ => simp [Zag] at pe
   | pen => simp [Zag] at pe
   | ty _ => simp [Zag] at pe
   | clo _ _ => simp [Zag] at pe
   | non => rw [Rep.non_iff.mp re] at rv; cases (show v = Value.none from rv); simp only [dEq]; exact ⟨.same _, .none_none, .none_none⟩
   | bl b => rw [Rep.bl_iff.mp re] at rv; cases (show v = Value.bool b from rv); simp only [dEq]; exact ⟨.none_bool b, .none_bool b, .none_bool b⟩
   | int b => rw [Rep.int_iff.mp re] at rv; obtain ⟨t, rfl⟩ := rv; simp only [dEq]; exact ⟨.none_int b t, .none_int b t, .none_int b t⟩
   | str b => rw [Rep.str_iff.mp re] at rv; obtain ⟨t, rfl⟩ := rv; simp only [dEq]; exact ⟨.none_str b t, .none_str b t, .none_str b t⟩
  | bl a =>
   rw [Rep.bl_iff.mp rd] at ru
   cases (show u = Value.bool a from ru)
   cases e with
   | tup ds => simp [dep] at he
   | lst ds => simp [dep] at he
   | dk _ => simp [Zag] at pe
   | dt _ => simp [Zag] at pe
   | du _ => simp [Zag] at pe
   | df _ => simp [Zag] at pe
   | pen => simp [Zag] at pe
   | ty _ => simp [Zag] at pe
   | clo _ _ => simp [Zag] at pe
   | non => rw [Rep.non_iff.mp re] at rv; cases (show v = Value.none from rv); simp only [dEq]; exact ⟨.bool_none a, .bool_none a, .bool_none a⟩
   | bl b => rw [Rep.bl_iff.mp re] at rv; cases (show v = Value.bool b from rv); simp only [dEq]; exact ⟨.bool_bool a b, .bool_bool a b, .bool_bool a b⟩
   | int b => rw [Rep.int_iff.mp re] at rv; obtain ⟨t, rfl⟩ := rv; simp only [dEq]; exact ⟨.bool_int a b t, .bool_int a b t, .bool_int a b t⟩
   | str b => rw [Rep.str_iff.mp re] at rv; obtain ⟨t, rfl⟩ := rv; simp only [dEq]; exact ⟨.bool_str a b t, .bool_str a b t, .bool_str a b t⟩
  | int a =>
   rw [Rep.int_iff.mp rd] at ru
   obtain ⟨ta, rfl⟩ := ru
   cases e with
   | tup ds => simp [dep] at he
   | lst ds => simp [dep] at he
   | dk _ => simp [Zag] at pe
   | dt _ => simp [Zag] at pe
   | du _ => simp [Zag] at pe
   | df _ => simp [Zag] at pe
   | pen => simp [Zag] at pe
   | ty _ => simp [Zag] at pe
   | clo _ _ => simp [Zag] at pe
   | non => rw [Rep.non_iff.mp re] at rv; cases (show v = Value.none from rv); simp only [dEq]; exact ⟨.int_none a ta, .int_none a ta, .int_none a ta⟩
   | bl b => rw [Rep.bl_iff.mp re] at rv; cases (show v = Value.bool b from rv); simp only [dEq]; exact ⟨.int_bool a ta b, .int_bool a ta b, .int_bool a ta b⟩
   | int b => rw [Rep.int_iff.mp re] at rv; obtain ⟨t, rfl⟩ := rv; simp only [dEq]; exact ⟨.int_int a ta b t, .int_int a ta b t, .int_int a ta b t⟩
   | str b => rw [Rep.str_iff.mp re] at rv; obtain ⟨t, rfl⟩ := rv; simp only [dEq]; exact ⟨.int_str a ta b t, .int_str a ta b t, .int_str a ta b t⟩
  | str a =>
   rw [Rep.str_iff.mp rd] at ru
   obtain ⟨ta, rfl⟩ := ru
   cases e with
   | tup ds => simp [dep] at he
   | lst ds => simp [dep] at he
   | dk _ => simp [Zag] at pe
   | dt _ => simp [Zag] at pe
   | du _ => simp [Zag] at pe
   | df _ => simp [Zag] at pe
   | pen => simp [Zag] at pe
   | ty _ => simp [Zag] at pe
   | clo _ _ => simp [Zag] at pe
   | non => rw [Rep.non_iff.mp re] at rv; cases (show v = Value.none from rv); simp only [dEq]; exact ⟨.str_none a ta, .str_none a ta, .str_none a ta⟩
   | bl b => rw [Rep.bl_iff.mp re] at rv; cases (show v = Value.bool b from rv); simp only [dEq]; exact ⟨.str_bool a ta b, .str_bool a ta b, .str_bool a ta b⟩
   | int b => rw [Rep.int_iff.mp re] at rv; obtain ⟨t, rfl⟩ := rv; simp only [dEq]; exact ⟨.str_int a ta b t, .str_int a ta b t, .str_int a ta b t⟩
   | str b => rw [Rep.str_iff.mp re] at rv; obtain ⟨t, rfl⟩ := rv; simp only [dEq]; exact ⟨.str_str a ta b t, .str_str a ta b t, .str_str a ta b t⟩
 | succ n ih =>
  intro A d e x y u v hd he hu pd pe rd re ru rv
  have hu' : A.units < cLine := by omega
  by_cases hs : dep d ≤ n ∧ dep e ≤ n
  ·exact ih A d e x y u v hs.1 hs.2 (by omega) pd pe rd re ru rv
  -- two refs
  have same : ∀ {l b : Addr}, x = .ref l → y = .ref b → l = b → dEq d e = true := fun ex ey el => by
   subst ex ey el
   have := Rep.inj pd pe rd re
   subst this
   exact Zff d pd
  cases d with
  | dk _ => simp [Zag] at pd
  | dt _ => simp [Zag] at pd
  | du _ => simp [Zag] at pd
  | df _ => simp [Zag] at pd
  | pen => simp [Zag] at pd
  | ty _ => simp [Zag] at pd
  | clo _ _ => simp [Zag] at pd
  | tup ds =>
   obtain ⟨l, vs, rfl, nl, hl, rl⟩ := Rep.tup_iff.mp rd
   cases (show u = Value.ref l from ru)
   obtain ⟨its, rits, pits, _⟩ := I.tuple (SqT.of (K := X.K) (e1 _ _ nl hl))
   have il : s.heap.IsTuple l its.toArray := pits
   cases e with
   | dk _ => simp [Zag] at pe
   | dt _ => simp [Zag] at pe
   | du _ => simp [Zag] at pe
   | df _ => simp [Zag] at pe
   | pen => simp [Zag] at pe
   | ty _ => simp [Zag] at pe
   | clo _ _ => simp [Zag] at pe
   | non => rw [Rep.non_iff.mp re] at rv; cases (show v = Value.none from rv); simp only [dEq]; exact ⟨.tuple_none il hu', .tuple_none il hu', .tuple_none il hu'⟩
   | bl b => rw [Rep.bl_iff.mp re] at rv; cases (show v = Value.bool b from rv); simp only [dEq]; exact ⟨.tuple_bool b il hu', .tuple_bool b il hu', .tuple_bool b il hu'⟩
   | int b => rw [Rep.int_iff.mp re] at rv; obtain ⟨t, rfl⟩ := rv; simp only [dEq]; exact ⟨.tuple_int b t il hu', .tuple_int b t il hu', .tuple_int b t il hu'⟩
   | str b => rw [Rep.str_iff.mp re] at rv; obtain ⟨t, rfl⟩ := rv; simp only [dEq]; exact ⟨.tuple_str b t il hu', .tuple_str b t il hu', .tuple_str b t il hu'⟩
   | lst es =>
    obtain ⟨b, ws, rfl, nb, hb, rb⟩ := Rep.lst_iff.mp re
    cases (show v = Value.ref b from rv)
    obtain ⟨its2, rits2, pits2, _⟩ := I.list (SqL.of (K := X.K) (e1 _ _ nb hb))
    simp only [dEq]; exact ⟨.tuple_list il pits2.isList hu', .tuple_list il pits2.isList hu', .tuple_list il pits2.isList hu'⟩
   | tup es =>
    obtain ⟨b, ws, rfl, nb, hb, rb⟩ := Rep.tup_iff.mp re
    cases (show v = Value.ref b from rv)
    obtain ⟨its2, rits2, pits2, _⟩ := I.tuple (SqT.of (K := X.K) (e1 _ _ nb hb))
    have ib : s.heap.IsTuple b its2.toArray := pits2
    have hit : ∀ j (h1 : j < its.toArray.size) (h2 : j < its2.toArray.size), SeqAt.EqAt A.in1 s its.toArray[j] its2.toArray[j] ((fun j => dEq (ds.getD j .non) (es.getD j .non)) j) := fun j h1 h2 => by
     obtain ⟨v1, a1, a2, a3⟩ := ZeQ rl rits h1
     obtain ⟨v2, b1, b2, b3⟩ := ZeQ rb rits2 h2
     exact (ih A.in1 _ _ v1 v2 _ _ (Nat.le_trans (Zc8 a3) (by simp [dep] at hd; omega)) (Nat.le_trans (Zc8 b3) (by simp [dep] at he; omega)) (by rw [ZcW]; omega)
      (Zcd (by simpa [Zag] using pd) a3) (Zcd (by simpa [Zag] using pe) b3) a1 b1 a2 b2).1
    have sz1 : its.toArray.size = ds.length := by rw [rl.length, rits.length]; simp
    have sz2 : its2.toArray.size = es.length := by rw [rb.length, rits2.length]; simp
    have rc := SeqAt.RcAt.tuples (e := fun j => dEq (ds.getD j .non) (es.getD j .non)) il ib hu' hit
    have rn := SeqAt.RcNeAt.tuples (e := fun j => dEq (ds.getD j .non) (es.getD j .non)) il ib hu' hit
    rw [sz1, sz2, ZhU] at rc rn
    simp only [dEq]
    refine ⟨?_, rc, rn⟩
    by_cases hlb : l = b
    ·have q := same rfl rfl hlb
     simp only [dEq] at q
     subst hlb
     rw [q]; exact .same _
    ·exact .of_refs hlb rc
  | lst ds =>
   obtain ⟨l, vs, rfl, nl, hl, rl⟩ := Rep.lst_iff.mp rd
   cases (show u = Value.ref l from ru)
   obtain ⟨its, rits, pits, _⟩ := I.list (SqL.of (K := X.K) (e1 _ _ nl hl))
   have il := pits.isList
   cases e with
   | dk _ => simp [Zag] at pe
   | dt _ => simp [Zag] at pe
   | du _ => simp [Zag] at pe
   | df _ => simp [Zag] at pe
   | pen => simp [Zag] at pe
   | ty _ => simp [Zag] at pe
   | clo _ _ => simp [Zag] at pe
   | non => rw [Rep.non_iff.mp re] at rv; cases (show v = Value.none from rv); simp only [dEq]; exact ⟨.list_none il hu', .list_none il hu', .list_none il hu'⟩
   | bl b => rw [Rep.bl_iff.mp re] at rv; cases (show v = Value.bool b from rv); simp only [dEq]; exact ⟨.list_bool b il hu', .list_bool b il hu', .list_bool b il hu'⟩
   | int b => rw [Rep.int_iff.mp re] at rv; obtain ⟨t, rfl⟩ := rv; simp only [dEq]; exact ⟨.list_int b t il hu', .list_int b t il hu', .list_int b t il hu'⟩
   | str b => rw [Rep.str_iff.mp re] at rv; obtain ⟨t, rfl⟩ := rv; simp only [dEq]; exact ⟨.list_str b t il hu', .list_str b t il hu', .list_str b t il hu'⟩
   | tup es =>
    obtain ⟨b, ws, rfl, nb, hb, rb⟩ := Rep.tup_iff.mp re
    cases (show v = Value.ref b from rv)
    obtain ⟨its2, rits2, pits2, _⟩ := I.tuple (SqT.of (K := X.K) (e1 _ _ nb hb))
    have ib : s.heap.IsTuple b its2.toArray := pits2
    simp only [dEq]; exact ⟨.list_tuple il ib hu', .list_tuple il ib hu', .list_tuple il ib hu'⟩
   | lst es =>
    obtain ⟨b, ws, rfl, nb, hb, rb⟩ := Rep.lst_iff.mp re
    cases (show v = Value.ref b from rv)
    obtain ⟨its2, rits2, pits2, _⟩ := I.list (SqL.of (K := X.K) (e1 _ _ nb hb))
    have ib := pits2.isList
    have hit : ∀ j (h1 : j < its.toArray.size) (h2 : j < its2.toArray.size), SeqAt.EqAt A.in1 s its.toArray[j] its2.toArray[j] ((fun j => dEq (ds.getD j .non) (es.getD j .non)) j) := fun j h1 h2 => by
     obtain ⟨v1, a1, a2, a3⟩ := ZeQ rl rits h1
     obtain ⟨v2, b1, b2, b3⟩ := ZeQ rb rits2 h2
     exact (ih A.in1 _ _ v1 v2 _ _ (Nat.le_trans (Zc8 a3) (by simp [dep] at hd; omega)) (Nat.le_trans (Zc8 b3) (by simp [dep] at he; omega)) (by rw [ZcW]; omega)
      (Zcd (by simpa [Zag] using pd) a3) (Zcd (by simpa [Zag] using pe) b3) a1 b1 a2 b2).1
    have sz1 : its.toArray.size = ds.length := by rw [rl.length, rits.length]; simp
    have sz2 : its2.toArray.size = es.length := by rw [rb.length, rits2.length]; simp
    have key : SeqAt.RcAt A s (.ref l) (.ref b) (dEqs ds es) ∧ SeqAt.RcNeAt A s (.ref l) (.ref b) (!dEqs ds es) := by
     by_cases hsz : ds.length = es.length
     ·have rc := SeqAt.RcAt.lists (e := fun j => dEq (ds.getD j .non) (es.getD j .non)) il ib (by rw [sz1, sz2]; exact hsz) hu' hit
      have rn := SeqAt.RcNeAt.lists (e := fun j => dEq (ds.getD j .non) (es.getD j .non)) il ib (by rw [sz1, sz2]; exact hsz) hu' hit
      rw [sz1, ZdZ ds es hsz] at rc rn
      exact ⟨rc, rn⟩
     ·have hne : (its.toArray.size != its2.toArray.size) = true := by rw [sz1, sz2]; simpa using hsz
      have hf : dEqs ds es = false := by
       cases e : dEqs ds es with
       | false => rfl
       | true => exact absurd (Zfe e) hsz
      rw [hf]
      exact ⟨.lists_lengths il ib hne hu', .lists_lengths il ib hne hu'⟩
    simp only [dEq]
    refine ⟨?_, key.1, key.2⟩
    by_cases hlb : l = b
    ·have q := same rfl rfl hlb
     simp only [dEq] at q
     subst hlb
     rw [q]; exact .same _
    ·exact .of_refs hlb key.1
  | non =>
   rw [Rep.non_iff.mp rd] at ru
   cases (show u = Value.none from ru)
   cases e with
   | tup es =>
    obtain ⟨b, ws, rfl, nb, hb, rb⟩ := Rep.tup_iff.mp re
    cases (show v = Value.ref b from rv)
    obtain ⟨its2, rits2, pits2, _⟩ := I.tuple (SqT.of (K := X.K) (e1 _ _ nb hb))
    have ib : s.heap.IsTuple b its2.toArray := pits2
    simp only [dEq]; exact ⟨.none_tuple ib hu', .none_tuple ib hu', .none_tuple ib hu'⟩
   | lst es =>
    obtain ⟨b, ws, rfl, nb, hb, rb⟩ := Rep.lst_iff.mp re
    cases (show v = Value.ref b from rv)
    obtain ⟨its2, rits2, pits2, _⟩ := I.list (SqL.of (K := X.K) (e1 _ _ nb hb))
    have ib := pits2.isList
    simp only [dEq]; exact ⟨.none_list ib hu', .none_list ib hu', .none_list ib hu'⟩
   | _ => simp [dep] at hs
  | bl a =>
   rw [Rep.bl_iff.mp rd] at ru
   cases (show u = Value.bool a from ru)
   cases e with
   | tup es =>
    obtain ⟨b, ws, rfl, nb, hb, rb⟩ := Rep.tup_iff.mp re
    cases (show v = Value.ref b from rv)
    obtain ⟨its2, rits2, pits2, _⟩ := I.tuple (SqT.of (K := X.K) (e1 _ _ nb hb))
    have ib : s.heap.IsTuple b its2.toArray := pits2
    simp only [dEq]; exact ⟨.bool_tuple a ib hu', .bool_tuple a ib hu', .bool_tuple a ib hu'⟩
   | lst es =>
    obtain ⟨b, ws, rfl, nb, hb, rb⟩ := Rep.lst_iff.mp re
    cases (show v = Value.ref b from rv)
    obtain ⟨its2, rits2, pits2, _⟩ := I.list (SqL.of (K := X.K) (e1 _ _ nb hb))
    have ib := pits2.isList
    simp only [dEq]; exact ⟨.bool_list a ib hu', .bool_list a ib hu', .bool_list a ib hu'⟩
   | _ => simp [dep] at hs
  | int a =>
   rw [Rep.int_iff.mp rd] at ru
   obtain ⟨ta, rfl⟩ := ru
   cases e with
   | tup es =>
    obtain ⟨b, ws, rfl, nb, hb, rb⟩ := Rep.tup_iff.mp re
    cases (show v = Value.ref b from rv)
    obtain ⟨its2, rits2, pits2, _⟩ := I.tuple (SqT.of (K := X.K) (e1 _ _ nb hb))
    have ib : s.heap.IsTuple b its2.toArray := pits2
    simp only [dEq]; exact ⟨.int_tuple a ta ib hu', .int_tuple a ta ib hu', .int_tuple a ta ib hu'⟩
   | lst es =>
    obtain ⟨b, ws, rfl, nb, hb, rb⟩ := Rep.lst_iff.mp re
    cases (show v = Value.ref b from rv)
    obtain ⟨its2, rits2, pits2, _⟩ := I.list (SqL.of (K := X.K) (e1 _ _ nb hb))
    have ib := pits2.isList
    simp only [dEq]; exact ⟨.int_list a ta ib hu', .int_list a ta ib hu', .int_list a ta ib hu'⟩
   | _ => simp [dep] at hs
  | str a =>
   rw [Rep.str_iff.mp rd] at ru
   obtain ⟨ta, rfl⟩ := ru
   cases e with
   | tup es =>
    obtain ⟨b, ws, rfl, nb, hb, rb⟩ := Rep.tup_iff.mp re
    cases (show v = Value.ref b from rv)
    obtain ⟨its2, rits2, pits2, _⟩ := I.tuple (SqT.of (K := X.K) (e1 _ _ nb hb))
    have ib : s.heap.IsTuple b its2.toArray := pits2
    simp only [dEq]; exact ⟨.str_tuple a ta ib hu', .str_tuple a ta ib hu', .str_tuple a ta ib hu'⟩
   | lst es =>
    obtain ⟨b, ws, rfl, nb, hb, rb⟩ := Rep.lst_iff.mp re
    cases (show v = Value.ref b from rv)
    obtain ⟨its2, rits2, pits2, _⟩ := I.list (SqL.of (K := X.K) (e1 _ _ nb hb))
    have ib := pits2.isList
    simp only [dEq]; exact ⟨.str_list a ta ib hu', .str_list a ta ib hu', .str_list a ta ib hu'⟩
   | _ => simp [dep] at hs
end
section
variable {X : Cx} {G : Gh}
noncomputable def okEq (d e : D) : Bool := Zag d && Zag e && decide (dep d ≤ 60) && decide (dep e ≤ 60)
theorem Zgn {d e : D} (h : okEq d e = true) : Zag d = true ∧ Zag e = true ∧ dep d ≤ 60 ∧ dep e ≤ 60 := by
 simp only [okEq, Bool.and_eq_true, decide_eq_true_eq] at h
 exact ⟨h.1.1.1, h.1.1.2, h.1.2, h.2⟩
noncomputable def dEqO (d e : D) : Option D := if okEq d e = true then some (.bl (dEq d e)) else none
noncomputable def dNeO (d e : D) : Option D := if okEq d e = true then some (.bl (!dEq d e)) else none
noncomputable def rEqD (G : Gh) (neg : Bool) : R2 := fun x y H Q => ∃ Hf d e, Ext G Hf H ∧ okEq d e = true ∧ Rep G Hf d x ∧ Rep G Hf e y ∧ Q (.bl (if neg then !dEq d e else dEq d e)) H
theorem Zm4 (hu : X.A.units + 64 < cLine) : OpR X (compareOp .Eq) (rEqD G false) := by
 intro pins s σ H x y v u Q I rx ry h
 obtain ⟨Hf, d, e, e1, ok, rd, re, q⟩ := h
 obtain ⟨o1, o2, o3, o4⟩ := Zgn ok
 exact (Zi5 I e1 60 X.A d e x y v u o3 o4 (by omega) o1 o2 rd re rx ry).2.1 _ _ _ _ ⟨.bl (dEq d e), H, I, rfl, q⟩
theorem Zm0 (hu : X.A.units + 64 < cLine) : OpR X (compareOp .NotEq) (rEqD G true) := by
 intro pins s σ H x y v u Q I rx ry h
 obtain ⟨Hf, d, e, e1, ok, rd, re, q⟩ := h
 obtain ⟨o1, o2, o3, o4⟩ := Zgn ok
 exact (Zi5 I e1 60 X.A d e x y v u o3 o4 (by omega) o1 o2 rd re rx ry).2.2 _ _ _ _ ⟨.bl (!dEq d e), H, I, rfl, q⟩
theorem ZdC (hu : X.A.units + 64 < cLine) : OpD X G (compareOp .Eq) dEqO :=
 ⟨_, Zm4 (G := G) hu, fun Hf H s x y d e c Q e1 st rx ry q k => by
  unfold dEqO at q
  split at q
  ·rename_i ok
   cases q
   exact ⟨Hf, d, e, e1, ok, rx, ry, k _ Hf H (.refl e1) st (Rep.bl_iff.mpr rfl) (.scal fun z => z)⟩
  ·cases q⟩
theorem ZfB (hu : X.A.units + 64 < cLine) : OpD X G (compareOp .NotEq) dNeO :=
 ⟨_, Zm0 (G := G) hu, fun Hf H s x y d e c Q e1 st rx ry q k => by
  unfold dNeO at q
  split at q
  ·rename_i ok
   cases q
   exact ⟨Hf, d, e, e1, ok, rx, ry, k _ Hf H (.refl e1) st (Rep.bl_iff.mpr rfl) (.scal fun z => z)⟩
  ·cases q⟩
noncomputable def okIn (x : D) (ds : List D) : Bool := Zag x && ZaC ds && decide (dep x ≤ 60) && decide (deps ds ≤ 60)
noncomputable def inD (x : D) (ds : List D) : Bool := ds.any fun d => dEq d x
theorem ZjQ {x : D} {ds : List D} (h : okIn x ds = true) : Zag x = true ∧ ZaC ds = true ∧ dep x ≤ 60 ∧ deps ds ≤ 60 := by
 simp only [okIn, Bool.and_eq_true, decide_eq_true_eq] at h
 exact ⟨h.1.1.1, h.1.1.2, h.1.2, h.2⟩
open Classical in
noncomputable def ansU (G : Gh) (Hf : Hp) (x : D) (u : Value) : Bool := if h : ∃ d v, Zag d = true ∧ Rep G Hf d v ∧ RelV v u then dEq h.choose x else false
theorem Zis {Hf : Hp} {x d : D} {v : V} {u : Value} (pd : Zag d = true) (r : Rep G Hf d v) (ru : RelV v u) : ansU G Hf x u = dEq d x := by
 have h : ∃ d v, Zag d = true ∧ Rep G Hf d v ∧ RelV v u := ⟨d, v, pd, r, ru⟩
 unfold ansU
 rw [dif_pos h]
 obtain ⟨v', p', r', ru'⟩ := h.choose_spec
 have ev : v' = v := RelV.inj ru' ru
 subst ev
 rw [Rep.inj p' pd r' r]
theorem ZhE {Hf : Hp} {x : D} : ∀ {ds : List D} {vs : List V} {us : List Value}, ZaC ds = true → RepL G Hf ds vs → Vals vs us → us.any (ansU G Hf x) = inD x ds
 | [], vs, us, _, r, rv => by
  rw [RepL.nil_iff.mp r] at rv
  cases rv
  rfl
 | d :: ds, vs, us, p, r, rv => by
  obtain ⟨v, rr, rfl, r1, r2⟩ := RepL.cons_iff.mp r
  have p' : Zag d = true ∧ ZaC ds = true := by simpa [ZaC] using p
  cases rv with
  | cons a b =>
   rw [List.any_cons, Zis p'.1 r1 a, ZhE p'.2 r2 b]
   rfl
theorem Zhf {Hf : Hp} : ∀ {ds : List D} {vs : List V} {us : List Value} {u : Value}, RepL G Hf ds vs → Vals vs us → u ∈ us → ∃ d v, d ∈ ds ∧ Rep G Hf d v ∧ RelV v u
 | [], vs, us, u, r, rv, m => by
  rw [RepL.nil_iff.mp r] at rv
  cases rv
  simp at m
 | d :: ds, vs, us, u, r, rv, m => by
  obtain ⟨v, rr, rfl, r1, r2⟩ := RepL.cons_iff.mp r
  cases rv with
  | cons a b =>
   rcases List.mem_cons.mp m with e | m
   ·subst e; exact ⟨d, v, by simp, r1, a⟩
   ·obtain ⟨d', v', m', h1, h2⟩ := Zhf r2 b m
    exact ⟨d', v', by simp [m'], h1, h2⟩
noncomputable def rInD (G : Gh) (neg : Bool) : R2 := fun x y H Q => ∃ Hf d ds, Ext G Hf H ∧ okIn d ds = true ∧ Rep G Hf d x ∧ (Rep G Hf (.lst ds) y ∨ Rep G Hf (.tup ds) y) ∧ Q (.bl (if neg then !inD d ds else inD d ds)) H
theorem Zii {pins : List (Addr × Obj)} {s : Shared} {σ : St} {Hf H : Hp} {d : D} {ds : List D} {x : V} {v : Value} {vs : List V} {its : List Value} (hu : X.A.units + 64 < cLine) (I : Inv X pins σ H s) (e1 : Ext G Hf H) (ok : okIn d ds = true) (rd : Rep G Hf d x) (rx : RelV x v)
  (rl : RepL G Hf ds vs) (rv : Vals vs its) : (∀ y, y ∈ its.toArray → SeqAt.EqAt X.A.in1 s y v (ansU G Hf d y)) ∧ its.toArray.any (ansU G Hf d) = inD d ds := by
 obtain ⟨o1, o2, o3, o4⟩ := ZjQ ok
 refine ⟨fun y hy => ?_, ?_⟩
 ·obtain ⟨c, w, m, h1, h2⟩ := Zhf rl rv (by simpa using hy)
  rw [Zis (Zcd o2 m) h1 h2]
  exact (Zi5 I e1 60 X.A.in1 c d w x y v (Nat.le_trans (Zc8 m) o4) o3 (by rw [ZcW]; omega) (Zcd o2 m) o1 h1 rd h2 rx).1
 ·rw [show its.toArray.any (ansU G Hf d) = its.any (ansU G Hf d) by simp, ZhE o2 rl rv]
theorem Zm3 (hu : X.A.units + 64 < cLine) : OpR X (compareOp .In) (rInD G false) := by
 intro pins s σ H x y v u Q I rx ry h
 obtain ⟨Hf, d, ds, e1, ok, rd, hl, q⟩ := h
 rcases hl with hl | hl
 ·obtain ⟨p, vs, rfl, np, hp, rp⟩ := Rep.lst_iff.mp hl
  cases (show u = Value.ref p from ry)
  obtain ⟨its, rv, pl, hz⟩ := I.list (SqL.of (K := X.K) (e1 _ _ np hp))
  obtain ⟨c1, c2⟩ := Zii hu I e1 ok rd rx rp rv
  refine SeqAt.in_listAt _ pl.isList c1 ⟨.bl _, H, I, rfl, ?_⟩
  rw [c2]; exact q
 ·obtain ⟨p, vs, rfl, np, hp, rp⟩ := Rep.tup_iff.mp hl
  cases (show u = Value.ref p from ry)
  obtain ⟨its, rv, pl, hz⟩ := I.tuple (SqT.of (K := X.K) (e1 _ _ np hp))
  obtain ⟨c1, c2⟩ := Zii hu I e1 ok rd rx rp rv
  refine SeqAt.in_tupleAt _ pl c1 ⟨.bl _, H, I, rfl, ?_⟩
  rw [c2]; exact q
end
theorem Zj2 : typeLookup (.type "list") "keys" = pure none := by rw [typeLookup_type, builtinLookup_eq_fast]; kernel_rfl
theorem ZcY : entryFor table "dict.update.loop" = some Builtin.«dict.update.loop» := entryFor_of_tree (by kernel_rfl)
theorem ZbP : plainId "dict.update.loop" = true := by decide +kernel
set_option maxHeartbeats 4000000 in
theorem Zex {prog : Program} {w : World} {A : Around} {E : Value → Shared → Prop} {s : Shared} {a : Addr} {o : Obj} {xs : Array Value} {k : Nat} {Q : Option Value → Shared → Prop}
  (hx : s.heap.get? a = some o) (hc : o.cls = .type "list") (hdat : o.data = .seq xs k) (hd : o.dict = none) (hA : A.handled = none)
  (h : ∀ h' tk, (∀ b o, s.heap.get? b = some o → h'.get? b = some o) → Q none { s with heap := h', toks := tk }) :
  wpAny (model prog w) A (getAttr? (.ref a) "keys") Q E s := by
 have hmiss := Zj2
 have hname : (["__module__", "__name__", "__qualname__", "__doc__", "__annotations__"] : List Str).contains ("keys" : Str) = false := by decide +kernel
 have hsz : ("keys" : Str).length + 100 ≤ sizeLine := by decide +kernel
 obtain ⟨c, dct, dat, sl⟩ := o
 simp only at hc hdat hd
 subst hc hdat hd
 obtain ⟨hp, g, d, tk, os⟩ := s
 have hT : ∀ tk', (⟨hp, g, d, tk', os⟩ : Shared).TypeIs (.ref a) "list" := fun _ => ⟨_, hx, rfl⟩
 have f1 := sub_AttributeError
 have f3 := F.slot_list_getattribute.lookup
 have f4 := F.slot_list_getattribute.bind (.ref a)
 have f5 := am_list_getattr_none
 unfold getAttr? getAttrBy?
 refine wpAny_bind ?_
 refine wpAny_mkText ?_
 refine wpAny_bind (wpAny_attempt ?_)
 unfold getAttrBy
 repeat (any_goals (first | assumption | exact hT _ | ((with_reducible show wpAny _ _ (call (Value.builtin "list.__getattribute__") _ _) _ _ _); refine call_meets F.slot_list_getattribute (hT _) am_entry_list_getattribute (F.args_list_getattribute_2 _ _) (meets_getattribute_miss_list a xs k sl "keys" _ hmiss hname hsz) ⟨hx, hA, fun h' tk' e hx' => ?_⟩) | wp_step))
 obtain ⟨t', u', he⟩ := hx'.there
 have hTe : ∀ tk', (⟨h', g, d, tk', os⟩ : Shared).TypeIs (.ref e) "AttributeError" := fun _ => ⟨_, he, rfl⟩
 have fin : ∀ tk', wpAny (model prog w) A (do
   let b ← isInstance (.ref e) (.type "AttributeError")
   if b = true then pure none else throw (.ref e)) Q E ⟨h', g, d, tk', os⟩ := fun tk' => by
  refine wpAny_bind (wpAny_isInstance (hTe _) f1 ?_)
  simp only [if_true]
  exact wpAny_pure (h h' tk' hx'.of.keeps)
 show wpAny _ _ (getattributeRaised _ _ _ _ _ _ _) _ _ _
 unfold getattributeRaised
 repeat (any_goals (first | assumption | exact fin _ | wp_step))
section
variable {X : Cx} {pins : List (Addr × Obj)} {σ : St} {H : Hp} {s : Shared} {A : Around} {E : Value → Shared → Prop} {a : Addr} {y v : V} {u r : Value}
theorem Zki {H' : Hp} {Q : Unit → Shared → Prop} (hu : A.units < cLine) (I : Inv X pins σ H s) (g : DPut H a y v H') (ry : RelV y u) (rv : RelV v r) (h : ∀ s', Inv X pins σ H' s' → Q () s') :
  wpAny (model X.prog X.w) A (dictSet a u r) Q E s := by
 rcases g with ⟨kvs, k, e, ey, l, eH⟩ | ⟨kvs, k, b, e, ey, eb, l, eH⟩
 ·subst ey eH
  obtain ⟨z, hd, vs, rel, dd⟩ := Zi6 I.hok e
  have hz : vs.length ≤ sizeLine := by rw [← rel.length]; exact z
  have hl : (putK kvs k v).length ≤ sizeLine := by have := Zb4 kvs k v; omega
  refine wpAny_dictSet_pairs (hsz := hz) (ZeO ry) dd fun h' dd' hs => h _ ?_
  have he : ∃ q, h'.get? a = some q := let ⟨q, _, _, hq, _⟩ := dd'; ⟨q, hq⟩
  exact ZdK I (by rw [e]; exact True.intro) hs he (Zht hl hd (rel.put k rv) dd')
 ·subst ey eH
  cases (show u = Value.ref b from ry)
  obtain ⟨z, hd, xs, rel, dd⟩ := ZlC I.hok e
  have hz : xs.length ≤ sizeLine := by rw [← Paired.length rel]; exact z
  have hl : (putK kvs k v).length ≤ sizeLine := by have := Zb4 kvs k v; omega
  refine wpAny_dictSet_heap (hsz := hz) (knd := tupleKind (Zbd X.prog X.w)) hu (Zev I.hok eb) dd fun h' dd' hs => h _ ?_
  obtain ⟨q, es, ep, hq, h2, h3, h4, _, h5⟩ := dd'
  refine ZdK I (by rw [e]; exact True.intro) hs ⟨q, hq⟩ ⟨hl, hd, _, (rel.put k eb rv).keeps fun c ys ec => ?_, q, es, ep, hq, h2, h3, h4, h5⟩
  rw [Zaj (Zlz ec e (fun z => nomatch z))]
  exact ec
end
section
variable {X : Cx} {pins : List (Addr × Obj)} {σ : St}
inductive Puts (d : Addr) : Hp → List V → Hp → Prop
 | nil {H : Hp} : Puts d H [] H
 | cons {H H1 H2 : Hp} {b : Addr} {k v : V} {r : List V} : H b = some (.tup [k, v]) → DPut H d k v H1 → Puts d H1 r H2 → Puts d H (.ref b :: r) H2
theorem ZkF {d l it : Addr} {vs : List V} {E : Value → Shared → Prop} {Q : Shared → Prop} {H' : Hp} {A : Around} (hA : A.handled = none) (hu : A.units + 1 < cLine)
  (hQ : ∀ s', Inv X pins σ H' s' → Q s') (hfp : ∀ Hx : Hp, Hx it = none → FpOk X pins Hx it) :
  ∀ (k i : Nat) (s : Shared) (H : Hp), vs.length - i = k → i ≤ vs.length → Inv X pins σ H s → H it = none → s.heap.IsListIter it l i → H l = some (.lst vs) → l ≠ d → (∀ Hx Hy y v, DPut Hx d y v Hy → Hx l = some (.lst vs) → Hy l = some (.lst vs)) → Puts d H (vs.drop i) H' →
   codeAny (model X.prog X.w) A (.builtin "dict.update.loop" ⟨[.ref d, .ref it, rawInt i, .none], []⟩) (wants (fun r s₂ => r = .none ∧ Q s₂) E) s := by
 intro k
 induction k with
 | zero =>
  intro i s H hk hi I hit st hl hne hkeep hp
  have hil : i = vs.length := by omega
  obtain ⟨its, rv, pl, hz⟩ := I.list (SqL.of (K := X.K) hl)
  refine codeAny_builtin ZcY ?_
  rw [Around.under_plainId ZbP _]
  show wpAny _ A.in1 (pyNext (.ref it) >>= _) _ _ s
  obtain ⟨f0, f1, f2, f3, f4, f5⟩ := hfp H hit
  have hlen := rv.length
  refine wpAny_bind (wpAny_pyNext_list_end (A := A.in1) hA st pl.isList (by simp; omega) fun h' eb => ?_)
  have I2 : Inv X pins σ H { s with heap := h' } := I.turned (t' := s.toks) (fun b o hb e => eb b o hb e) f0 f1 f3 f4 f5
  have e0 : vs.drop i = [] := by rw [hil]; simp
  rw [e0] at hp
  cases hp
  show wpAny _ _ (Builtin.Dict.addKeywords d [] >>= _) _ _ _
  refine wpAny_bind (wpAny_pure ?_)
  exact wpAny_pure ⟨rfl, hQ _ I2⟩
 | succ k ih =>
  intro i s H hk hi I hit st hl hne hkeep hp
  have hlt : i < vs.length := by omega
  obtain ⟨its, rv, pl, hz⟩ := I.list (SqL.of (K := X.K) hl)
  have hlen := rv.length
  refine codeAny_builtin ZcY ?_
  rw [Around.under_plainId ZbP _]
  show wpAny _ A.in1 (pyNext (.ref it) >>= _) _ _ s
  obtain ⟨f0, f1, f2, f3, f4, f5⟩ := hfp H hit
  have hd : vs.drop i = vs[i] :: vs.drop (i + 1) := List.drop_eq_getElem_cons hlt
  rw [hd] at hp
  generalize hvi : vs[i] = x at hp
  generalize hrest : vs.drop (i + 1) = rest at hp
  cases hp with
  | @cons _ H1 _ b k0 v0 _ hb hput hrec =>
   have gx : vs[i]? = some (.ref b) := by rw [List.getElem?_eq_getElem hlt, hvi]
   obtain ⟨u, hu1, ru⟩ := rv.get gx
   cases (show u = Value.ref b from ru)
   refine wpAny_bind (wpAny_pyNext_list_item (A := A.in1) st pl.isList (x := .ref b) (by simpa using hu1) fun h' st' sb => ?_)
   have I1 : Inv X pins σ H { s with heap := h' } := I.turned (t' := s.toks) (fun c o hc e => (sb.2 c hc).trans e) f0 f1 f3 f4 f5
   obtain ⟨its2, rv2, pt, _⟩ := I1.tuple (SqT.of (K := X.K) hb)
   obtain ⟨ku, vu, e2, rk, rvv⟩ := rv2.two
   subst e2
   obtain ⟨o, ho, hoc, n, hod⟩ := id pt
   show wpAny _ _ (holding [Value.ref b] _ >>= _) _ _ _
   refine wpAny_bind (wpAny_holding ?_)
   refine wpAny_bind (wpAny_tryCatch ?_)
   unfold Builtin.Dict.pairItems
   refine wpAny_bind (wpAny_typeOf (T := "tuple") ⟨o, ho, hoc⟩ ?_)
   rw [if_pos (by decide)]
   refine wpAny_bind (wpAny_seqItems ho hod ?_)
   refine wpAny_pure ?_
   show wpAny _ _ (holding [ku, vu] (dictSet d ku vu)) _ _ _
   refine wpAny_holding ?_
   obtain ⟨oi, hoi, ci, di⟩ := id st'
   have Ip := I1.pinned (fp := [it]) (fun c hc => by
    have e : c = it := by simpa using hc
    subst e
    exact hfp H hit) (fun c hc => by
    have e : c = it := by simpa using hc
    subst e
    exact ⟨oi, hoi, fun w z => by rw [di] at z; cases z⟩)
   refine Zki (by rw [ZcW]; exact hu) Ip hput rk rvv fun s2 I2 => ?_
   have pit := I2.pin (it, oi) (List.mem_append_right _ (List.mem_append_right _ (Zcr (by simp) hoi)))
   have ec : ((i : Int) + 1) = ((i + 1 : Nat) : Int) := by push_cast; rfl
   show wpAny _ _ (again (.builtin "dict.update.loop" ⟨[.ref d, .ref it, rawInt ((i : Int) + 1), .none], []⟩)) _ _ _
   rw [ec]
   refine wpAny_pure ⟨plainId_quiet ZbP _, ?_⟩
   refine ih (i + 1) s2 H1 (by omega) hlt I2.unpinned pit.2.1 ⟨oi, pit.1, ci, di⟩ (hkeep _ _ _ _ hput hl) hne hkeep ?_
   rw [hrest]
   exact hrec
theorem Zi9 (hc : X.calm = true) (hu : X.A.units + 64 < cLine) (tk : Bool) : ZbY X (.type "dict") (fun xs H Q => ∃ l vs, xs = [.ref l] ∧ H l = some (.lst vs) ∧ ∀ p, H p = none → ∃ H', Puts p (upd H p (if tk then .dT [] else .dK [])) vs H' ∧ Q (.ref p) H') := by
 intro pins s σ H xs us Q I r h
 obtain ⟨l, vs, rfl, hl, q⟩ := h
 obtain ⟨u, rfl, ru⟩ := Zdm r
 cases (show u = Value.ref l from ru)
 obtain ⟨H', puts, q'⟩ := q s.heap.objs.size (I.hok.fresh (Nat.le_refl _))
 have hA := I.ok.hd hc
 refine callType_codes (Q₁ := fun obj s₁ => obj = .ref s.heap.objs.size ∧ s₁ = { s with heap := s.heap.push { cls := .type "dict", data := .dict #[] } }) F.kt_called_dict (F.kt_typeCall_dict_1 _) F.entry_dict_init (kt_code_dict_new _ ⟨rfl, rfl⟩) ?_
 rintro obj s₁ ⟨rfl, rfl⟩
 have hbig := I.big
 have I1 : Inv X pins σ (upd H s.heap.objs.size (if tk then .dT [] else .dK [])) { s with heap := s.heap.push { cls := .type "dict", data := .dict #[] } } :=
  I.laid (t' := s.toks) (fun b o e => Heap.get?_push_of_some _ e) (Nat.le_refl _) (by
   cases tk
   ·exact Zhu s.heap hbig
   ·exact Zle s.heap hbig)
 have hnew : (s.heap.push { cls := .type "dict", data := .dict #[] }).get? s.heap.objs.size = some { cls := .type "dict", data := .dict #[] } := Heap.get?_push_size _ rfl
 have hTd : ({ s with heap := s.heap.push { cls := .type "dict", data := .dict #[] } } : Shared).TypeIs (.ref s.heap.objs.size) "dict" := ⟨_, hnew, rfl⟩
 have hld : l ≠ s.heap.objs.size := Zam hl (I.hok.fresh (Nat.le_refl _))
 have hl1 : (upd H s.heap.objs.size (if tk then HO.dT [] else HO.dK [])) l = some (.lst vs) := by rw [Zaj hld]; exact hl
 obtain ⟨zz, its, n, rits, hlo⟩ := (show ZaM X.prog X.w _ _ l (.lst vs) from I1.hok l _ hl1)
 refine ⟨hTd, F.args_dict_init_2 _ _, ?_⟩
 unfold Builtin.«dict.__init__»
 refine wpAny_bind ?_
 unfold Builtin.Dict.selfAndRest
 refine wpAny_bind (wpAny_notOrdered_dict hTd ?_)
 show wpAny _ _ (pure (s.heap.objs.size, [Value.ref l])) _ _ _
 refine wpAny_pure ?_
 show wpAny _ _ (Builtin.Dict.updateFrom "dict.__init__" s.heap.objs.size (.ref l) [] .none) _ _ _
 unfold Builtin.Dict.updateFrom
 have hTl : ({ s with heap := s.heap.push { cls := .type "dict", data := .dict #[] } } : Shared).TypeIs (.ref l) "list" := ⟨_, hlo, rfl⟩
 refine wpAny_bind (wpAny_typeOf hTl ?_)
 rw [if_pos (by decide)]
 refine wpAny_bind (Zex hlo rfl rfl rfl hA fun h2 tk2 kp2 => ?_)
 simp only [Option.isNone_none, if_true]
 refine wpAny_bind (wpAny_rule ?_)
 have I2 : Inv X pins σ (upd H s.heap.objs.size (if tk then .dT [] else .dK [])) { s with heap := h2, toks := tk2 } := I1.kept kp2
 obtain ⟨its', rv', pl', hz'⟩ := I2.list (SqL.of (K := X.K) hl1)
 refine wpAny_bind (wpAny_pyIter_list pl'.isList ?_)
 refine wpAny_pure ⟨plainId_quiet ZbP _, ?_⟩
 have I3 : Inv X pins σ (upd H s.heap.objs.size (if tk then .dT [] else .dK [])) { s with heap := h2.push { cls := .type "list_iterator", data := .fields #[.ref l, .int 0 0] }, toks := tk2 } := I2.kept (t' := tk2) fun b o e => Heap.get?_push_of_some _ e
 have hfresh : (upd H s.heap.objs.size (if tk then HO.dT [] else HO.dK [])) h2.objs.size = none := I2.hok.fresh (Nat.le_refl _)
 have hst : (h2.push { cls := .type "list_iterator", data := .fields #[.ref l, .int 0 0] }).IsListIter h2.objs.size l 0 := ⟨_, Heap.get?_push_size _ rfl, rfl, rfl⟩
 refine ZkF (l := l) (vs := vs) (H' := H') (A := X.A.in1) (pins := pins) (σ := σ) hA (by rw [ZcW]; omega) (fun s' I' => ⟨.ref s.heap.objs.size, H', I', rfl, q'⟩) (fun Hx hn => I2.fpOk (Nat.le_refl _) hn) vs.length 0 _ _ rfl (Nat.zero_le _) I3 hfresh hst hl1 hld ?_ puts
 intro Hx Hy y v hput hxl
 rcases hput with ⟨kvs, k, e, ey, l', eH⟩ | ⟨kvs, k, b, e, ey, eb, l', eH⟩
 ·subst eH; rw [Zaj hld]; exact hxl
 ·subst eH; rw [Zaj hld]; exact hxl
end
section
variable {X : Cx} {G : Gh}
noncomputable def ZeM : D → Option Key
 | .int i => some (.inl i)
 | .str x => some (.inr x)
 | _ => none
noncomputable def ZbB : List D → Option (List Key)
 | [] => some []
 | d :: ds => match ZeM d, ZbB ds with | some k, some ks => some (k :: ks) | _, _ => none
noncomputable def Zfj : D → Option V
 | .int i => some (.int i)
 | .bl b => some (.bl b)
 | .str x => some (.str x)
 | .non => some .non
 | _ => none
theorem Zgr {H : Hp} {d : D} {v : V} {k : Key} (h : ZeM d = some k) (r : Rep G H d v) : v = kV k := by
 cases d with
 | int i => cases h; rw [Rep.int_iff.mp r]; rfl
 | str i => cases h; rw [Rep.str_iff.mp r]; rfl
 | _ => cases h
theorem Zc3 {H : Hp} : ∀ {ds : List D} {vs : List V} {ks : List Key}, ZbB ds = some ks → RepL G H ds vs → vs = ks.map kV
 | [], vs, ks, h, r => by cases h; exact RepL.nil_iff.mp r
 | d :: ds, vs, ks, h, r => by
  obtain ⟨v, rr, rfl, r1, r2⟩ := RepL.cons_iff.mp r
  unfold ZbB at h
  cases e1 : ZeM d with
  | none => rw [e1] at h; cases h
  | some k =>
   cases e2 : ZbB ds with
   | none => rw [e1, e2] at h; cases h
   | some ks' =>
    rw [e1, e2] at h
    cases h
    rw [Zgr e1 r1, Zc3 e2 r2]
    rfl
theorem Zji {H : Hp} {d : D} {v w : V} (h : Zfj d = some w) (r : Rep G H d v) : v = w := by
 cases d with
 | int i => cases h; exact Rep.int_iff.mp r
 | str i => cases h; exact Rep.str_iff.mp r
 | bl i => cases h; exact Rep.bl_iff.mp r
 | non => cases h; exact Rep.non_iff.mp r
 | _ => cases h
noncomputable def ZgN : D → Option (List Key × V)
 | .tup [.tup ks, v] => match ZbB ks, Zfj v with | some k, some w => some (k, w) | _, _ => none
 | _ => none
noncomputable def Zcn : List (List Key × V) → List D → Option (List (List Key × V))
 | acc, [] => some acc
 | acc, d :: ds => match ZgN d with | some (k, v) => Zcn (putK acc k v) ds | none => none
theorem ZiN {d : D} {k : List Key} {v : V} (h : ZgN d = some (k, v)) : ∃ ks w, d = .tup [.tup ks, w] ∧ ZbB ks = some k ∧ Zfj w = some v := by
 match d, h with
 | .tup [.tup ks, w], h =>
  have h' : (match ZbB ks, Zfj w with | some k, some w => some (k, w) | _, _ => none) = some (k, v) := h
  cases e1 : ZbB ks with
  | none => rw [e1] at h'; cases h'
  | some k' =>
   cases e2 : Zfj w with
   | none => rw [e1, e2] at h'; cases h'
   | some w' => rw [e1, e2] at h'; cases h'; exact ⟨ks, w, rfl, e1, e2⟩
theorem ZjA {Hf H : Hp} {p : Addr} (e1 : Ext G Hf H) (hp : H p = none) : ∀ {ds : List D} {vs : List V} {acc res : List (List Key × V)}, RepL G Hf ds vs → Zcn acc ds = some res → acc.length + ds.length ≤ sizeLine → Puts p (upd H p (.dT acc)) vs (upd H p (.dT res))
 | [], vs, acc, res, r, h, _ => by
  rw [RepL.nil_iff.mp r]
  cases h
  exact .nil
 | d :: ds, vs, acc, res, r, h, hl => by
  obtain ⟨v, rr, rfl, r1, r2⟩ := RepL.cons_iff.mp r
  unfold Zcn at h
  cases e : ZgN d with
  | none => rw [e] at h; cases h
  | some kv =>
   obtain ⟨k, w⟩ := kv
   rw [e] at h
   have h : Zcn (putK acc k w) ds = some res := h
   obtain ⟨ks, wd, rfl, q1, q2⟩ := ZiN e
   obtain ⟨b, ws, rfl, nb, hb, rb⟩ := Rep.tup_iff.mp r1
   obtain ⟨v1, v2, rfl, rk, rv⟩ := RepL.two_inv rb
   obtain ⟨c, cs, rfl, nc, hcx, rc⟩ := Rep.tup_iff.mp rk
   have ec := Zc3 q1 rc
   subst ec
   have ev := Zji q2 rv
   subst ev
   have hb' := e1 _ _ nb hb
   have hc' := e1 _ _ nc hcx
   have ll := Zb4 acc k v2
   have hl' : acc.length + (ds.length + 1) ≤ sizeLine := by simpa using hl
   refine .cons (by rw [Zaj (Zam hb' hp)]; exact hb') (DPut.t (k := k) Zap (by rw [Zaj (Zam hc' hp)]; exact hc') (by omega)) ?_
   rw [ZhZ]
   exact ZjA e1 hp r2 h (by omega)
noncomputable def ZdM : List D → Option D
 | [.lst ds] => if ds.length ≤ sizeLine then (Zcn [] ds).map .dt else none
 | _ => none
theorem Zja (hc : X.calm = true) (hu : X.A.units + 64 < cLine) : ZbY X (.type "dict") (fun xs H Q => ∃ l vs, xs = [.ref l] ∧ H l = some (.lst vs) ∧ ∀ p, H p = none → ∃ kvs, Puts p (upd H p (.dT [])) vs (upd H p (.dT kvs)) ∧ ∀ o, Q (.ref p) (upd H p (.frz o (.dT kvs)))) := by
 intro pins s σ H xs us Q I r h
 obtain ⟨l, vs, ex, hl, hp⟩ := h
 refine thn (Zi9 hc hu true pins s σ H xs us (fun v H' => ∃ p kvs, v = .ref p ∧ H' = upd H p (.dT kvs) ∧ ∀ o, Q (.ref p) (upd H p (.frz o (.dT kvs)))) I r ⟨l, vs, ex, hl, fun p hn => ?_⟩) fun u s1 ⟨v, H1, I1, r1, p, kvs, ev, eH, q⟩ => ?_
 ·obtain ⟨kvs, pu, q⟩ := hp p hn
  exact ⟨_, pu, p, kvs, rfl, rfl, q⟩
 ·subst ev eH
  have ok := I1.hok p (.dT kvs) Zap
  obtain ⟨_, _, xs', _, o, es, ep, h1, _⟩ := (show ZaM X.prog X.w _ s1.heap p (.dT kvs) from ok)
  have I2 := I1.write (x := p) (e := p) (o := .frz o (.dT kvs)) (h' := s1.heap) (t' := s1.toks) (by rw [Zap]; trivial) (.inl rfl) (fun _ _ _ e => e) ⟨o, h1⟩ ⟨h1, ok.stay (fun _ _ _ e => e) (fun b e => ?_) fun b xs e => ?_⟩
  ·rw [ZhZ] at I2
   exact ⟨.ref p, _, I2, r1, q o⟩
  ·have : b ≠ p := fun z => by rw [z, Zap] at e; cases e
   rw [Zaj this]; exact e
  ·have : b ≠ p := fun z => by rw [z, Zap] at e; cases e
   rw [Zaj this]; exact e
theorem Zd1 (hc : X.calm = true) (hu : X.A.units + 64 < cLine) : ZbJ X G (.type "dict") ZdM :=
 ⟨_, Zja hc hu, fun Hf H s xs ds c Q e1 st r q k => by
  match ds, q, r with
  | [.lst es], q, r =>
   have q : (if es.length ≤ sizeLine then (Zcn [] es).map D.dt else none) = some c := q
   split at q
   ·rename_i hz
    cases e : Zcn [] es with
    | none => rw [e] at q; cases q
    | some res =>
     rw [e] at q
     cases q
     obtain ⟨v, rfl, rv⟩ := RepL.one_inv r
     obtain ⟨l, vs, rfl, nl, hl, rl⟩ := Rep.lst_iff.mp rv
     refine ⟨l, vs, rfl, e1 _ _ nl hl, fun p hp => ⟨_, ZjA e1 hp rl e (by simpa using hz), fun o => ?_⟩⟩
     have nf := Gh.nofp st hp
     have g2 := Gr.new (o := .frz o (.dT res)) e1 hp nf
     exact k (.ref p) _ _ g2 (Gh.grow st hp) (Rep.dt_iff.mpr ⟨p, o, rfl, nf, Zap⟩) fun a ea _ => by cases ea; exact ⟨hp, fun ds ed => by cases ed⟩
   ·cases q⟩
theorem Zm5 (hu : X.A.units + 1 < cLine) : OpR X (compareOp .In) (fun x y H Q => ∃ a o, y = .ref a ∧ DGet H a x o ∧ Q (.bl o.isSome) H) := by
 intro pins s σ H x y v u Q I rx ry h
 obtain ⟨a, o, rfl, g, q⟩ := h
 cases (show u = Value.ref a from ry)
 exact d_in hu I g rx fun s' I' => ⟨.bl _, H, I', rfl, q⟩
noncomputable def dInB : D → D → Option Bool
 | x, .lst ds => if okIn x ds = true then some (inD x ds) else none
 | x, .tup ds => if okIn x ds = true then some (inD x ds) else none
 | .tup ks, .dt kvs => (ZbB ks).map fun k => (valV kvs k).isSome
 | .tup ks, .du kvs => (ZbB ks).map fun k => (valV kvs k).isSome
 | x, .dk kvs => (ZeM x).map fun k => (valV kvs k).isSome
 | _, _ => none
noncomputable def dIn (x y : D) : Option D := (dInB x y).map .bl
theorem Zj9 {Hf H : Hp} {x y : V} {d e : D} {b : Bool} (e1 : Ext G Hf H) (rx : Rep G Hf d x) (ry : Rep G Hf e y) (h : dInB d e = some b) :
  (∃ ds, okIn d ds = true ∧ (Rep G Hf (.lst ds) y ∨ Rep G Hf (.tup ds) y) ∧ b = inD d ds) ∨ ∃ a o, y = .ref a ∧ DGet H a x o ∧ b = o.isSome := by
 cases e with
 | lst ds =>
  have h : (if okIn d ds = true then some (inD d ds) else none) = some b := by cases d <;> exact h
  split at h
  ·rename_i ok; cases h; exact .inl ⟨ds, ok, .inl ry, rfl⟩
  ·cases h
 | tup ds =>
  have h : (if okIn d ds = true then some (inD d ds) else none) = some b := by cases d <;> exact h
  split at h
  ·rename_i ok; cases h; exact .inl ⟨ds, ok, .inr ry, rfl⟩
  ·cases h
 | dt kvs =>
  obtain ⟨a, o, rfl, na, ha⟩ := Rep.dt_iff.mp ry
  cases d with
  | tup ks =>
   have h : (ZbB ks).map (fun k => (valV kvs k).isSome) = some b := h
   cases q : ZbB ks with
   | none => rw [q] at h; cases h
   | some k =>
    rw [q] at h; cases h
    obtain ⟨c, cs, rfl, nc, hcx, rc⟩ := Rep.tup_iff.mp rx
    have ec := Zc3 q rc
    subst ec
    exact .inr ⟨a, _, rfl, .inr ⟨kvs, k, c, .inr ⟨o, e1 _ _ na ha⟩, rfl, e1 _ _ nc hcx, rfl⟩, rfl⟩
  | _ => cases h
 | du kvs =>
  obtain ⟨a, rfl, na, ha⟩ := Rep.du_iff.mp ry
  cases d with
  | tup ks =>
   have h : (ZbB ks).map (fun k => (valV kvs k).isSome) = some b := h
   cases q : ZbB ks with
   | none => rw [q] at h; cases h
   | some k =>
    rw [q] at h; cases h
    obtain ⟨c, cs, rfl, nc, hcx, rc⟩ := Rep.tup_iff.mp rx
    have ec := Zc3 q rc
    subst ec
    exact .inr ⟨a, _, rfl, DGet.t (e1 _ _ na ha) (e1 _ _ nc hcx), rfl⟩
  | _ => cases h
 | dk kvs =>
  obtain ⟨a, rfl, na, ha⟩ := Rep.dk_iff.mp ry
  have h : (ZeM d).map (fun k => (valV kvs k).isSome) = some b := by cases d <;> exact h
  cases q : ZeM d with
  | none => rw [q] at h; cases h
  | some k =>
   rw [q] at h; cases h
   have ek := Zgr q rx
   subst ek
   exact .inr ⟨a, _, rfl, DGet.k (e1 _ _ na ha), rfl⟩
 | _ => cases d <;> cases h
theorem ZfC (hu : X.A.units + 64 < cLine) : OpD X G (compareOp .In) dIn :=
 ⟨_, (Zm3 (G := G) hu).or (Zm5 (by omega)), fun Hf H s x y d e c Q e1 st rx ry q k => by
  unfold dIn at q
  cases h : dInB d e with
  | none => rw [h] at q; cases q
  | some b =>
   rw [h] at q; cases q
   have kk := k (.bl b) Hf H (.refl e1) st (Rep.bl_iff.mpr rfl) (.scal fun z => z)
   rcases Zj9 e1 rx ry h with ⟨ds, ok, hl, rfl⟩ | ⟨a, o, ey, g, rfl⟩
   ·exact .inl ⟨Hf, d, ds, e1, ok, rx, hl, kk⟩
   ·exact .inr ⟨a, o, ey, g, kk⟩⟩
end
section
variable {X : Cx} {G : Gh} {own ob : List Nat} {fr : Bool} {f : Rho → M D}
noncomputable def ZlN (ta : TA) : TE := fun σ H Q => ta σ H fun vs H1 => ∃ j : Int, vs = [.int j] ∧ ∀ p, H1 p = none → Q (.ref p) (upd H1 p (.rng 0 j))
theorem ZjI {a : Expr} {ta : TA} {p pos : Pos} (hg : Gl X "range") (hm : X.mg "range" = none) (ha : PA X [a] ta) (hs : starEach [a] X.env = [(false, eval a X.env)] := by rfl) : PE X (.Call (.Name "range" p) [a] [] pos) (ZlN ta) := by
 intro pins s σ H Q I h
 refine Call_ (ZcB I hg hm boot_range (PyProof.Rows.callWith_type1 (thn (ha pos pins s σ H _ I h) fun us s1 ⟨vs, H1, I1, r1, q1⟩ => ?_) hs rfl))
 obtain ⟨j, e, q⟩ := q1
 subst e
 cases r1 with
 | cons r rr =>
  cases rr
  obtain ⟨t, rfl⟩ := r
  refine call_range_1 ⟨.ref s1.heap.objs.size, upd H1 s1.heap.objs.size (.rng 0 j), I1.laid (t' := s1.toks + 1 + 1) (fun b o e => Heap.get?_push_of_some _ e) (Nat.le_refl _) ?_, rfl, q _ (I1.hok.fresh (Nat.le_refl _))⟩
  exact ⟨_, _, _, Heap.get?_push_size _ rfl⟩
theorem Zfh : ∀ (ys : List Value) (lo : Int), (∀ (j : Nat) v, ys[j]? = some v → ∃ t, v = .int (lo + j) t) → Vals ((List.range ys.length).map fun (i : Nat) => V.int (lo + i)) ys
 | [], lo, _ => .nil
 | y :: ys, lo, h => by
  obtain ⟨t, e⟩ := h 0 y rfl
  rw [List.length_cons, List.range_succ_eq_map, List.map_cons, List.map_map]
  refine .cons ⟨t, by rw [e]⟩ ?_
  have q := Zfh ys (lo + 1) fun j v hv => by
   obtain ⟨t, e⟩ := h (j + 1) v (by simpa using hv)
   exact ⟨t, by rw [e]; congr 1; push_cast; omega⟩
  have ee : ((fun (i : Nat) => V.int (lo + i)) ∘ Nat.succ) = fun (i : Nat) => V.int (lo + 1 + i) := by
   funext i
   show V.int (lo + (Nat.succ i : Nat)) = V.int (lo + 1 + i)
   congr 1; push_cast; omega
  rw [ee]; exact q
theorem ZhB (hc : X.calm = true) : ZbY X (.type "list") (fun xs H Q => ∃ r j, xs = [.ref r] ∧ H r = some (.rng 0 j) ∧ -(2 ^ 62) ≤ j ∧ j ≤ 2 ^ 24 ∧ ∀ l, H l = none → Q (.ref l) (upd H l (.lst ((List.range j.toNat).map fun (i : Nat) => V.int (0 + i))))) := by
 intro pins s σ H xs us Q I r h
 obtain ⟨rr, j, rfl, hr, h1, h2, q⟩ := h
 obtain ⟨u, rfl, ru⟩ := Zdm r
 cases (show u = Value.ref rr from ru)
 obtain ⟨t, u', v', hro⟩ := (show ZaM X.prog X.w H s.heap rr (.rng 0 j) from I.hok rr _ hr)
 have hn : Builtin.Range.rangeSize 0 j 1 = ((j.toNat : Nat) : Int) := by rw [rangeSize_one]; split <;> omega
 refine call_list_range (I.ok.hd hc) (show IsRange s.heap rr 0 j 1 t u' v' from hro) (small_one (by omega) (by omega) h1 (by omega)) hn (by omega) fun h' tk acc' c' hk hS hacc => ?_
 obtain ⟨sz, hit⟩ := hacc
 have rv := Zfh acc'.toList 0 fun i v hv => by
  obtain ⟨t, e⟩ := hit i v (by simpa using hv)
  exact ⟨t, by rw [e]; simp⟩
 have el : acc'.toList.length = j.toNat := by simpa using sz
 rw [el] at rv
 refine ⟨.ref s.heap.objs.size, upd H s.heap.objs.size (.lst ((List.range j.toNat).map fun (i : Nat) => V.int (0 + i))), I.laid hk (Nat.le_refl _) ?_, rfl, q _ (I.hok.fresh (Nat.le_refl _))⟩
 refine ⟨?_, acc'.toList, c', rv, ?_⟩
 ·rw [List.length_map, List.length_range]
  show j.toNat ≤ 2 ^ 24
  omega
 ·rw [Array.toArray_toList]
  exact hS
noncomputable def ZcD (f : Rho → M D) : Rho → M D := fun ρ => Zao (f ρ) fun d => match d with | .int j => if -(2 ^ 62) ≤ j ∧ j ≤ 2 ^ 24 then mret (.lst (ZaD 0 j.toNat)) else Zaz | _ => Zaz
theorem Zft {Hf : Hp} (lo : Int) : ∀ (l : List Nat), RepL G Hf (l.map fun (i : Nat) => D.int (lo + i)) (l.map fun (i : Nat) => V.int (lo + i))
 | [] => RepL.nil_iff.mpr rfl
 | i :: l => RepL.cons (Rep.int_iff.mpr rfl) (Zft lo l)
theorem Zem {a : Expr} {p1 p2 pos1 pos : Pos} {r1 : Bool} (hc : X.calm = true) (hg : Gl X "range") (hm : X.mg "range" = none) (hg2 : Gl X "list") (hm2 : X.mg "list" = none) (hv2 : bootBuiltins "list" = some (.type "list")) (ha : PD X G r1 a f)
  (hs : starEach [a] X.env = [(false, eval a X.env)] := by rfl)
  (he : starEach [.Call (.Name "range" p1) [a] [] pos1] X.env = (false, eval (.Call (.Name "range" p1) [a] [] pos1) X.env) :: starEach [] X.env := by rfl) : PD X G true (.Call (.Name "list" p2) [.Call (.Name "range" p1) [a] [] pos1] [] pos) (ZcD f) := by
 obtain ⟨t, pa, qa⟩ := ha.drop
 refine ⟨_, Zgl (ZhB hc) hg2 hm2 hv2 (ZaV (ZjI hg hm (ZaV pa Zbs (by rw [hs]; rfl)) hs) Zbs he) (by decide) (by decide) he rfl, fun σ Hf H ρ s d s' Q e1 e2 e3 e4 k => ?_⟩
 obtain ⟨dj, s1, a1, a2⟩ := Zai e4
 cases dj with
 | int j =>
  obtain ⟨c, a3⟩ := ZaL a2
  obtain ⟨rfl, rfl⟩ := Zal a3
  refine qa σ Hf H ρ s _ _ _ e1 e2 e3 a1 fun v Hf1 H1 g st r => ?_
  rw [Rep.int_iff.mp r]
  refine ⟨j, rfl, fun p hp => ⟨p, j, rfl, Zap, c.1, c.2, fun l hl => ?_⟩⟩
  have hlp : l ≠ p := fun z => by rw [z, Zap] at hl; cases hl
  have hl1 : H1 l = none := by rw [Zaj hlp] at hl; exact hl
  have st2 : G.st s' (upd H1 p (.rng 0 j)) := Gh.grow st hp
  have nf := Gh.nofp st2 hl
  have fp : Hf1 p = none := by
   cases q : Hf1 p with
   | none => rfl
   | some o => rw [g.fh p o (Gh.nofp st hp) q] at hp; cases hp
  have gA : Gr G Hf1 H1 Hf1 (upd H1 p (.rng 0 j)) := ⟨fun b o n q => by rw [Zaj (Zam q hp)]; exact q, .refl _ _, fun b o n q => by rw [Zaj (Zam q fp)]; exact g.fh b o n q, fun b n h1 h2 => h1⟩
  have gB := Gr.new (o := .lst ((List.range j.toNat).map fun (i : Nat) => V.int (0 + i))) gA.fh hl nf
  have rr : RepL G Hf1 (ZaD 0 j.toNat) ((List.range j.toNat).map fun (i : Nat) => V.int (0 + i)) := Zft 0 _
  refine k (.ref l) _ _ ((g.trans gA).trans gB) (Gh.grow st2 hl) (Rep.lst_iff.mpr ⟨l, _, rfl, nf, Zap, rr.ext gB.ff⟩) fun _ => ?_
  exact Zax.old (g.trans gA).hh (fun a ea _ => by cases ea; exact nf) (Zax.mk gA.fh hl nf rr)
 | _ => cases a2
noncomputable def sExt (i : Nat) (f : Rho → M D) : Rho → M Out := fun ρ => Zao (f ρ) fun d => match d, (ρ[i]?).bind id with
 | .lst es, some (.lst ds) => if ds.length + es.length ≤ sizeLine then mret (.nx (ρ.set i (some (.lst (ds ++ es))))) else Zaz
 | _, _ => Zaz
theorem Zmq {i : Nat} {te : TE} {r1 : Bool} (hi : i ∈ own) (hy : YldJ G own r1 te f) : Dos G ob own own fr (Zdn (tBM X.K "list" ZeH (tVar i) (Zc0 te tNil))) (sExt i f) := fun kn Hf0 H0 σ H ρ s out s' E ⟨Hf, j⟩ st e po => by
 obtain ⟨d, s1, a1, a2⟩ := Zai e
 match d, hb : (ρ[i]?).bind id, a2 with
 | .lst es, some (.lst ds), a2 =>
  have a2' : (if ds.length + es.length ≤ sizeLine then mret (.nx (ρ.set i (some (.lst (ds ++ es))))) else Zaz) s1 = some (out, s') := a2
  obtain ⟨c2, a3⟩ := ZaL a2'
  obtain ⟨rfl, rfl⟩ := Zal a3
  have ei := Zio hb
  obtain ⟨a, vs, h1, h2, h3, h4⟩ := ZeJ j hi ei
  refine ⟨_, h1, .inl ⟨rfl, vs, SqL.of h3⟩, ?_⟩
  refine hy kn Hf0 H0 σ Hf H ρ s _ s' _ j st a1 fun v Hf' H' j' e1 e2 st' r fz => ?_
  obtain ⟨a', vs', h1', h2', h3', h4'⟩ := ZeJ j' hi ei
  rw [h1] at h1'; cases h1'
  obtain ⟨b, ws, rfl, nb, hb2, rb⟩ := Rep.lst_iff.mp r
  refine ⟨a, b, vs', ws, rfl, rfl, h3', j'.gr.fh _ _ nb hb2, by rw [← h4'.length, ← rb.length]; exact c2, ?_⟩
  exact po σ _ ⟨Hf', j'.put hi ei h1 ⟨vs' ++ ws, Zap, h4'.append rb⟩⟩ (Gh.other st' h2)
 | .lst _, none, a2 => cases a2
 | .lst _, some .non, a2 => cases a2
 | .lst _, some (.bl _), a2 => cases a2
 | .lst _, some (.int _), a2 => cases a2
 | .lst _, some (.str _), a2 => cases a2
 | .lst _, some (.tup _), a2 => cases a2
 | .lst _, some (.dk _), a2 => cases a2
 | .lst _, some (.dt _), a2 => cases a2
 | .lst _, some (.du _), a2 => cases a2
 | .lst _, some (.df _), a2 => cases a2
 | .lst _, some .pen, a2 => cases a2
 | .lst _, some (.ty _), a2 => cases a2
 | .lst _, some (.clo _ _), a2 => cases a2
theorem ZjD {i : Nat} {x : Str} {e : Expr} {pos p1 p2 p3 : Pos} {te : TE} (hv : PE X (.Name x p1) (tVar i)) (p : PE X e te)
  (hbase : attributeBase (.Name x p1) "extend" X.env (eval (.Name x p1) X.env) = eval (.Name x p1) X.env := by rfl)
  (hfew : ((backTo p3 (starEach [e] X.env)).all (fun x => !x.1) && (backToKw p3 (keywordEach [] X.env)).all (fun x => x.1.isSome)
   && decide ([e].length + ([] : List Keyword).length + (if ([] : List Keyword).isEmpty then 0 else 1) < 30)) = true := by rfl)
  (hline : (p2.endLine == p3.line) = true := by rfl) (hs : starEach [e] X.env = (false, eval e X.env) :: starEach [] X.env := by rfl)
  (hsw : swapsWith (.Call (.Attribute (.Name x p1) "extend" p2) [e] [] p3) none pos.line X.env = pure false := by rfl) :
  PS X (.Expr (.Call (.Attribute (.Name x p1) "extend" p2) [e] [] p3) pos) (Zdn (tBM X.K "list" ZeH (tVar i) (Zc0 te tNil))) :=
 ZfT (ZiK PySem.F.plainAttrs_list PySem.F.slot_list_extend PySem.F.type_list_extend ZjW hv (ZaV p Zbs hs) hbase hfew hline hs rfl) hsw
theorem ZkU {i : Nat} {e : Expr} {r1 : Bool} {st : Stmt} (hi : i ∈ own) (he : PD X G r1 e f) (hp : ∀ te, PE X e te → PS X st (Zdn (tBM X.K "list" ZeH (tVar i) (Zc0 te tNil)))) : PDS X G ob own own fr st (sExt i (fun ρ => f (hide own ρ))) := by
 obtain ⟨t, p, q⟩ := he
 exact ⟨_, hp t p, Zmq hi (Yld.a q)⟩
end
structure BlkS (X : Cx) (XN : List Str) (NS : List (Str × NameKind)) (N' : List Str) (src : List (Option Nat)) (scope : Scope) : Prop where
 xn : X.N = XN
 ns : X.env.scope.names = NS
 nocell : ∀ y ∈ scope.names, y.2 ≠ .cell
 kind : scope.kind = .function
 names : ∀ y ∈ scope.names, y.2 = .local → scope.names.lookup y.1 = some .local
 len : src.length = N'.length
 free : ∀ y ∈ scope.names, y.2 = .free → NS.lookup y.1 = some .cell ∨ NS.lookup y.1 = some .free
 from_ : (src.zip N').all (fun p => match p.1 with | some j => decide (XN[j]? = some p.2) && (decide (NS.lookup p.2 = some .cell) || decide (NS.lookup p.2 = some .free)) && decide (scope.names.lookup p.2 = some .free) | none => true) = true
theorem ZcG {env : Env} : ∀ {names : List (Str × NameKind)} {x : Str}, names.lookup x = some .free →
  (names.map fun (n, k) => if (k == NameKind.free && env.scope.kind == .function && env.kindOf n == some .cell) then (n, NameKind.cell) else (n, k)).lookup x = some .cell ∨
  (names.map fun (n, k) => if (k == NameKind.free && env.scope.kind == .function && env.kindOf n == some .cell) then (n, NameKind.cell) else (n, k)).lookup x = some .free
 | [], _, h => by simp at h
 | (n, k) :: r, x, h => by
  have ih := @ZcG env r x
  show List.lookup x ((if (k == NameKind.free && env.scope.kind == .function && env.kindOf n == some .cell) = true then (n, NameKind.cell) else (n, k)) :: _) = _ ∨ List.lookup x ((if (k == NameKind.free && env.scope.kind == .function && env.kindOf n == some .cell) = true then (n, NameKind.cell) else (n, k)) :: _) = _
  cases hx : x == n with
  | true =>
   simp only [List.lookup_cons, hx] at h
   cases h
   by_cases hc : (NameKind.free == NameKind.free && env.scope.kind == .function && env.kindOf n == some .cell) = true
   ·rw [if_pos hc]; left; simp [List.lookup_cons, hx]
   ·rw [if_neg hc]; right; simp [List.lookup_cons, hx]
  | false =>
   simp only [List.lookup_cons, hx] at h
   by_cases hc : (k == NameKind.free && env.scope.kind == .function && env.kindOf n == some .cell) = true
   ·rw [if_pos hc]; simp only [List.lookup_cons, hx]; exact ih h
   ·rw [if_neg hc]; simp only [List.lookup_cons, hx]; exact ih h
theorem Zb7 {env : Env} : ∀ {names : List (Str × NameKind)} {x : Str} {k' : NameKind}, (∀ y ∈ names, y.2 ≠ .cell) → (k' = .cell ∨ k' = .free) →
  (names.map fun (n, k) => if (k == NameKind.free && env.scope.kind == .function && env.kindOf n == some .cell) then (n, NameKind.cell) else (n, k)).lookup x = some k' → names.lookup x = some .free
 | [], _, _, _, _, h => by simp at h
 | (n, k) :: r, x, k', nc, hk, h => by
  have ih := @Zb7 env r x k' (fun y hy => nc y (List.mem_cons_of_mem _ hy)) hk
  have h : List.lookup x ((if (k == NameKind.free && env.scope.kind == .function && env.kindOf n == some .cell) = true then (n, NameKind.cell) else (n, k)) :: _) = _ := h
  cases hx : x == n with
  | true =>
   by_cases hc : (k == NameKind.free && env.scope.kind == .function && env.kindOf n == some .cell) = true
   ·have : k = .free := by
     simp only [Bool.and_eq_true, beq_iff_eq] at hc
     exact hc.1.1
    subst this
    simp [List.lookup_cons, hx]
   ·rw [if_neg hc] at h
    simp only [List.lookup_cons, hx] at h ⊢
    cases h
    rcases hk with rfl | rfl
    ·exact absurd rfl (nc _ List.mem_cons_self)
    ·rfl
  | false =>
   by_cases hc : (k == NameKind.free && env.scope.kind == .function && env.kindOf n == some .cell) = true
   ·rw [if_pos hc] at h; simp only [List.lookup_cons, hx] at h ⊢; exact ih h
   ·rw [if_neg hc] at h; simp only [List.lookup_cons, hx] at h ⊢; exact ih h
theorem ZcE {env : Env} : ∀ (names : List (Str × NameKind)) (acc : List (Str × Addr)), (∀ y ∈ names, y.2 = .free → ∃ c, env.cells.lookup y.1 = some c) →
  (∀ x c, acc.lookup x = some c → env.cells.lookup x = some c) →
  ∃ cl, (forIn names acc fun (p : Str × NameKind) (cs : List (Str × Addr)) => (if (p.2 == NameKind.free) = true then do let a ← cellOf env p.1; pure (ForInStep.yield ((p.1, a) :: cs)) else pure (ForInStep.yield cs) : Sem (ForInStep (List (Str × Addr))))) = pure cl ∧
   (∀ x c, cl.lookup x = some c → env.cells.lookup x = some c) ∧ (∀ x c, acc.lookup x = some c → ∃ c', cl.lookup x = some c') ∧ ∀ y ∈ names, y.2 = .free → ∃ c, cl.lookup y.1 = some c
 | [], acc, _, h2 => ⟨acc, by simp, h2, fun x c h => ⟨c, h⟩, fun y hy => by simp at hy⟩
 | (n, k) :: r, acc, h1, h2 => by
  by_cases hk : k = .free
  ·subst hk
   obtain ⟨c, hc⟩ := h1 (n, .free) List.mem_cons_self rfl
   have hcell : cellOf env n = pure c := by unfold cellOf; rw [hc]
   obtain ⟨cl, q1, q2, q3, q4⟩ := ZcE (env := env) r ((n, c) :: acc) (fun y hy => h1 y (List.mem_cons_of_mem _ hy)) fun x c' h => by
    cases hx : x == n with
    | true =>
     simp only [List.lookup_cons, hx] at h
     cases h
     have : x = n := by simpa using hx
     rw [this]; exact hc
    | false => simp only [List.lookup_cons, hx] at h; exact h2 x c' h
   refine ⟨cl, ?_, q2, fun x c' h => ?_, fun y hy hf => ?_⟩
   ·rw [List.forIn_cons]
    simp only [beq_self_eq_true, if_true, hcell, pure_bind]
    exact q1
   ·cases hx : x == n with
    | true => exact q3 x c (by simp [List.lookup_cons, hx])
    | false => exact q3 x c' (by simp only [List.lookup_cons, hx]; exact h)
   ·rcases List.mem_cons.mp hy with e | hy
    ·subst e; exact q3 n c (by simp [List.lookup_cons])
    ·exact q4 y hy hf
  ·obtain ⟨cl, q1, q2, q3, q4⟩ := ZcE (env := env) r acc (fun y hy => h1 y (List.mem_cons_of_mem _ hy)) h2
   refine ⟨cl, ?_, q2, q3, fun y hy hf => ?_⟩
   ·rw [List.forIn_cons]
    have : (k == NameKind.free) = false := by simpa using hk
    simp only [this, Bool.false_eq_true, if_false, pure_bind]
    exact q1
   ·rcases List.mem_cons.mp hy with e | hy
    ·subst e; exact absurd hf hk
    ·exact q4 y hy hf
theorem BlkS.ok {X : Cx} {XN : List Str} {NS : List (Str × NameKind)} {N' : List Str} {src : List (Option Nat)} {scope : Scope} (B : BlkS X XN NS N' src scope) (ok : X.Ok) : ∃ cl, BlkOk X N' src scope cl := by
 have hcells : ∀ y ∈ scope.names, y.2 = .free → ∃ c, X.env.cells.lookup y.1 = some c := fun y hy hf => ok.has y.1 (by
  have := B.free y hy hf
  rw [← B.ns] at this
  exact this)
 obtain ⟨cl, q1, q2, q3, q4⟩ := ZcE (env := X.env) scope.names [] hcells (fun x c h => by simp at h)
 refine ⟨cl, ?_, B.nocell, B.kind, B.names, B.len, q2, fun x hx => ?_, fun i j x e1 e2 => ?_⟩
 ·unfold closureFor
  show (forIn scope.names [] _ >>= _) = _
  rw [show (forIn scope.names ([] : List (Str × Addr)) fun (x : Str × NameKind) (r : List (Str × Addr)) => _) = _ from q1]
  rfl
 ·have hf : scope.names.lookup x = some .free := by
   rcases hx with h | h
   ·exact Zb7 B.nocell (.inl rfl) h
   ·exact Zb7 B.nocell (.inr rfl) h
  exact q4 (x, .free) (PySem.mem_of_lookup hf) rfl
 ·have hm : (some j, x) ∈ src.zip N' := by
   have : (src.zip N')[i]? = some (some j, x) := by
    rw [List.getElem?_zip_eq_some]
    exact ⟨e1, e2⟩
   exact List.mem_of_getElem? this
  have q := List.all_eq_true.mp B.from_ _ hm
  simp only [Bool.and_eq_true, Bool.or_eq_true, decide_eq_true_eq] at q
  obtain ⟨⟨p1, p2⟩, p3⟩ := q
  refine ⟨by rw [B.xn]; exact p1, ?_, ZcG p3⟩
  show X.env.scope.names.lookup x = _ ∨ X.env.scope.names.lookup x = _
  rw [B.ns]
  exact p2
section
variable {X : Cx} {G : Gh} {elt tg iter : Expr} {ifs : List Expr} {scope : Scope} {pos pos' spos : Pos} {XN : List Str} {NS : List (Str × NameKind)} {N' : List Str} {src : List (Option Nat)} {fi : Rho → M (List D)} {τ : D → Rho → Option Rho} {ft : Rho → M Bool} {fe : Rho → M D} {r1 : Bool} {i : Nat} {x : Str}
theorem ZbN (hc : X.calm = true) (B : BlkS X XN NS N' src scope) (hi : PDI X G tg iter fi)
  (hg : ∀ cl pins C s H fp, PDG (blk X pins N' scope cl C s H fp) G tg (fun i => src[i]? = some none) τ) (ht : ∀ cl pins C s H fp, PIfs (blk X pins N' scope cl C s H fp) ifs (tOfT G ft)) (he : ∀ cl pins C s H fp, PD (blk X pins N' scope cl C s H fp) G r1 elt fe)
  (hs : ∀ x, foldedSetIterable iter X.env x = pure x := by intro _; rfl) : PD X G true (.ListComp elt [⟨tg, iter, ifs, 0⟩] scope pos) (Za9 src fi τ ft fe) := by
 obtain ⟨wi, pi, qi⟩ := hi
 refine ⟨_, fun pins s σ H Q I h => ?_, Zhw (r1 := r1) qi⟩
 obtain ⟨cl, B'⟩ := B.ok I.ok
 exact Zh5 hc B' pi (fun pins C s H fp => (hg cl pins C s H fp).canon) (ht cl) (fun pins C s H fp => (he cl pins C s H fp).canon) hs pins s σ H Q I h
theorem Zfz (hN : X.N.Nodup) (hi' : X.N[i]? = some x) (hx : Loc X.env.scope x)
  (hc : X.calm = true) (B : BlkS X XN NS N' src scope) (hi : PDI X G tg iter fi)
  (hg : ∀ cl pins C s H fp, PDG (blk X pins N' scope cl C s H fp) G tg (fun i => src[i]? = some none) τ) (ht : ∀ cl pins C s H fp, PIfs (blk X pins N' scope cl C s H fp) ifs (tOfT G ft)) (he : ∀ cl pins C s H fp, PD (blk X pins N' scope cl C s H fp) G r1 elt fe)
  (hsw : swapsWith (.ListComp elt [⟨tg, iter, ifs, 0⟩] scope pos) (some (.Name x pos')) spos.line X.env = pure true := by rfl)
  (hs : ∀ x, foldedSetIterable iter X.env x = pure x := by intro _; rfl)
  (hf : X.fn x = true ∨ X.env.scope.names.lookup x = some .local := by first | exact .inl rfl | exact .inr rfl | assumption) :
  PAsg X G true i (.Assign [.Name x pos'] (.ListComp elt [⟨tg, iter, ifs, 0⟩] scope pos) spos) (Za9 src fi τ ft fe) := by
 obtain ⟨wi, pi, qi⟩ := hi
 refine ⟨_, fun pins s σ H D I h => ?_, Zhw (r1 := r1) qi⟩
 obtain ⟨cl, B'⟩ := B.ok I.ok
 exact ZlU hN hi' hx hc B' pi (fun pins C s H fp => (hg cl pins C s H fp).canon) (ht cl) (fun pins C s H fp => (he cl pins C s H fp).canon) hsw hs hf pins s σ H D I h
end
noncomputable def Cal (P : Program) (w : World) (K : PySem.W.Frag) (mg : Str → Option Value) (base : Heap) (k : Nat) (x : Str) (n : Nat) (fr : Bool) (GG : Gh → Prop) (F : List D → M D) : Prop :=
 ∃ f fd ps, FnOk P w K mg base CX0 k f fd ps (spD n fr GG F) ∧ mg x = some (.ref f) ∧ PySem.W.keepIn K (.ref f) = true ∧ ZbR K fd ps []
theorem Cal.mono {P : Program} {w : World} {K : PySem.W.Frag} {mg : Str → Option Value} {base : Heap} {j k : Nat} {x : Str} {n : Nat} {fr : Bool} {GG : Gh → Prop} {F : List D → M D} (c : Cal P w K mg base j x n fr GG F) (h : j ≤ k := by decide) : Cal P w K mg base k x n fr GG F :=
 let ⟨f, fd, ps, a, b, c, d⟩ := c
 ⟨f, fd, ps, a.mono h, b, c, d⟩
theorem ZaS {X : Cx} {G : Gh} {k : Nat} {x : Str} {n : Nat} {fr : Bool} {GG : Gh → Prop} {F : List D → M D} {p pos : Pos} {e : Expr} {es : List Expr} {fs : Rho → M (List D)} (c : Cal X.prog X.w X.K X.mg X.base k x n fr GG F) (hG : GG G) (hr : Room k X.A) (hg : Gl X x)
  (ha : PDA X G (e :: es) fs) (hal : ∀ ρ s ds s', fs ρ s = some (ds, s') → ds.length = (e :: es).length) (hlen : (e :: es).length = n := by rfl)
  (hdb : (x == ("__debug__" : Str)) = false := by decide) (he : starEach (e :: es) X.env = (false, eval e X.env) :: starEach es X.env := by rfl) (hpl : (backTo pos (starEach es X.env)).any (·.1) = false := by rfl) :
  PD X G fr (.Call (.Name x p) (e :: es) [] pos) (dFn F fs) := by
 obtain ⟨f, fd, ps, a, b, c, d⟩ := c
 exact Zl7 a hG hr hg b c d ZiM ha hlen hal hdb he hpl
noncomputable def hidB (h base : Heap) (as : List Addr) : Heap := PySem.W.hideAll h ((List.range h.objs.size).filter fun a => !((base.get? a).isSome || decide (a ∈ as)))
theorem Zkb {h base : Heap} {as : List Addr} : (hidB h base as).objs.size = h.objs.size := PySem.W.hideAll_size _ _
theorem Zho {h base : Heap} {as : List Addr} {b : Addr} {o : Obj} (e : h.get? b = some o) (n : (∃ u, base.get? b = some u) ∨ b ∈ as) : (hidB h base as).get? b = some o :=
 PySem.W.hideAll_get _ e fun hm => by
  have q := (List.mem_filter.mp hm).2
  rcases n with ⟨u, n⟩ | n
  ·simp [n] at q
  ·simp [n] at q
theorem Zib {h base : Heap} {as : List Addr} {b : Addr} {o : Obj} (e : (hidB h base as).get? b = some o) : h.get? b = some o ∧ ((∃ u, base.get? b = some u) ∨ b ∈ as) := by
 have e' : h.get? b = some o := PySem.W.of_hideAll _ e
 refine ⟨e', ?_⟩
 by_cases c : ((base.get? b).isSome || decide (b ∈ as)) = true
 ·rcases Bool.or_eq_true_iff.mp c with c | c
  ·exact .inl (Option.isSome_iff_exists.mp c)
  ·exact .inr (of_decide_eq_true c)
 ·have z : (hidB h base as).get? b = none := PySem.W.hideAll_none _ (List.mem_filter.mpr ⟨List.mem_range.mpr (Heap.lt_size e'), by simpa using c⟩)
  rw [z] at e; cases e
theorem Env0.more {P : Program} {w : World} {K : PySem.W.Frag} {mg : Str → Option Value} {base : Heap} {A : Around} {outer : List Env} {s : Shared} {H : Hp} {as : List Addr} (e : Env0 P w K mg base A outer s H) (ha : ∀ b ∈ as, H b = none) (hf : ∀ b ∈ as, b ∉ frs outer) :
  Env0 P w K mg (hidB s.heap base as) A outer s H := by
 have up : ∀ b o, base.get? b = some o → (hidB s.heap base as).get? b = some o := fun b o q => Zho (e.bs b o q).1 (.inl ⟨o, q⟩)
 refine ⟨e.frames, ⟨e.mod.kin.keeps up, e.mod.glob.keeps up, let ⟨mb, h1, h2⟩ := e.mod.blt; ⟨mb, h1.keeps up, h2⟩, e.mod.nolimit.keeps up⟩, fun b o q => ?_, Nat.le_of_eq Zkb, ?_, e.frf, e.hok, e.bare⟩
 ·obtain ⟨q1, q2⟩ := Zib q
  refine ⟨q1, ?_⟩
  rcases q2 with ⟨u, q2⟩ | q2
  ·exact (e.bs b u q2).2
  ·exact ha b q2
 ·have all : ∀ l : List Env, (∀ b ∈ frs l, b ∈ frs outer) → s.heap.FunFrames base l → s.heap.FunFrames (hidB s.heap base as) l := by
   intro l
   induction l with
   | nil => intro _ _; trivial
   | cons env r ih =>
    intro hs hl
    obtain ⟨hk, ⟨L, o, hf', hn, ho, hd⟩, hr⟩ := hl
    have hL : L ∈ frs outer := hs L (by unfold frs; rw [List.filterMap_cons, hf']; exact List.mem_cons_self)
    refine ⟨hk, ⟨L, o, hf', ?_, ho, hd⟩, ih (fun b hb => hs b (by unfold frs; rw [List.filterMap_cons, hf']; exact List.mem_cons_of_mem _ hb)) hr⟩
    cases q : (hidB s.heap base as).get? L with
    | none => rfl
    | some u =>
     rcases (Zib q).2 with ⟨u', q'⟩ | q'
     ·rw [hn] at q'; cases q'
     ·exact absurd hL (hf L q')
  exact all outer (fun _ h => h) e.funs
noncomputable def fnφ (p : Addr) (fd : FuncData) : Heap → Prop := fun h => ∃ oc od sl, h.get? p = some ⟨oc, od, .func fd, sl⟩
noncomputable def codeφ (c : Addr) (q : Str) : Heap → Prop := fun h => h.CodeRec (.ref c) q
theorem fnφ_at {P : Program} {w : World} {H : Hp} {h : Heap} {p : Addr} {fd : FuncData} (ok : HOk P w H h) (e : H p = some (.ext (fnφ p fd))) : fnφ p fd h := (ok p _ e).1
theorem codeφ_at {P : Program} {w : World} {H : Hp} {h : Heap} {c : Addr} {q : Str} (ok : HOk P w H h) (e : H c = some (.ext (codeφ c q))) : h.CodeRec (.ref c) q := (ok c _ e).1
structure CloScope (N ps : List Str) (sc : Scope) : Prop where
 kind : sc.kind = .function
 co : sc.isCoroutine = false
 gen : sc.isGenerator = false
 nd : N.Nodup
 pre : N.take ps.length = ps
 par : ∀ x ∈ ps, sc.names.lookup x = some .local
 nocell : ∀ y ∈ sc.names, y.2 ≠ .cell
noncomputable def cxC (CX : CXT) (P : Program) (w : World) (K : PySem.W.Frag) (mg : Str → Option Value) (base : Heap) (N : List Str) (qual : Str) (scope : Scope) (f : Addr) (cd : Value) (cl : List (Str × Addr)) (A : Around) (outer : List Env) (s : Shared) (H : Hp) (E : XK) : Cx where
 prog := P
 w := w
 K := K
 mg := mg
 base := base
 A := A.deeper (PySem.W.envX qual scope s.heap.objs.size f cd cl)
 N := N
 s₀ := s
 H₀ := H
 env := PySem.W.envX qual scope s.heap.objs.size f cd cl
 outer := outer
 stack := PySem.W.envX qual scope s.heap.objs.size f cd cl :: outer
 ex := []
 calm := true
 fn := fun _ => false
 pn := []
 xe := fun e s' => wpAny (model P w) (A.deeper (PySem.W.envX qual scope s.heap.objs.size f cd cl)) (leaving (PySem.W.envX qual scope s.heap.objs.size f cd cl) e) (fun _ s'' => CX outer H s E e s'') (fun e' s'' => CX outer H s E e' s'') s'
structure CloAt (base : Heap) (cl : List (Str × Addr)) (sc : Scope) (N ps : List Str) (cvs : List V) : Prop where
 inj : ∀ x y c, cl.lookup x = some c → cl.lookup y = some c → x = y
 cell : ∀ x c, cl.lookup x = some c → ∃ v, base.IsCell c v
 has : ∀ x, sc.names.lookup x = some .free → ∃ c, cl.lookup x = some c
 cap : ∀ (i : Nat) (x : Str) (v : V), N[ps.length + i]? = some x → cvs[i]? = some v → sc.names.lookup x = some .free ∧ ∃ c u, cl.lookup x = some c ∧ base.IsCell c (some u) ∧ RelV v u
 len : N.length = ps.length + cvs.length
theorem Zet {α : Type} : ∀ {l : List (Str × α)} {x : Str} {u : α}, (l.map (·.1)).Nodup → (x, u) ∈ l → l.lookup x = some u
 | [], _, _, _, h => by simp at h
 | (y, w) :: l, x, u, nd, h => by
  rw [List.map_cons, List.nodup_cons] at nd
  rcases List.mem_cons.mp h with e | hm
  ·cases e; simp [List.lookup_cons]
  ·have hne : (x == y) = false := by
    simp only [beq_eq_false_iff_ne]
    rintro rfl
    exact nd.1 (List.mem_map_of_mem (f := (·.1)) hm)
   rw [List.lookup_cons, hne]
   exact Zet nd.2 hm
theorem ZeX : ∀ (ps : List Str) (us : List Value), ((ps.zip us).map (·.1)).Sublist ps
 | [], _ => by simp
 | _ :: _, [] => by simp
 | p :: ps, u :: us => by simpa using ZeX ps us
theorem ZfP {ps : List Str} {us : List Value} {i : Nat} {x : Str} {u : Value} (nd : ps.Nodup) (h1 : ps[i]? = some x) (h2 : us[i]? = some u) : (ps.zip us).reverse.lookup x = some u := by
 refine Zet ?_ ?_
 ·rw [List.map_reverse]
  refine List.pairwise_reverse.mpr ?_
  exact (nd.sublist (ZeX _ _)).imp Ne.symm
 ·rw [List.mem_reverse]
  exact List.mem_of_getElem? (i := i) (List.getElem?_zip_eq_some.mpr ⟨h1, h2⟩)
theorem Zih {CX : CXT} {P : Program} {w : World} {K : PySem.W.Frag} {mg : Str → Option Value} {base : Heap} {N ps : List Str} {qual : Str} {scope : Scope} {f : Addr} {cd : Value} {cl : List (Str × Addr)} {A : Around} {outer : List Env} {s : Shared} {H : Hp} {E : XK} {us : List Value} {vs cvs : List V} {h' : Heap} {tk : Nat}
  (S : CloScope N ps scope) (C : CloAt base cl scope N ps cvs) (hd : A.handled = none) (e0 : Env0 P w K mg base A outer s H) (hl : vs.length = ps.length) (r : Vals vs us)
  (hns : h'.Ns s.heap.objs.size (fun x => (ps.zip us).reverse.lookup x)) (hk : ∀ b o, s.heap.get? b = some o → h'.get? b = some o) :
  Inv (cxC CX P w K mg base N qual scope f cd cl A outer s H E) [] (vs.map some ++ cvs.map some) H { s with heap := h', toks := tk } := by
 have noA : ∀ b : Addr, b ∉ (cxC CX P w K mg base N qual scope f cd cl A outer s H E).ex := fun b z => absurd (show b ∈ ([] : List Addr) from z) (by simp)
 have up : ∀ b o, base.get? b = some o → h'.get? b = some o := fun b o q => hk b o (e0.bs b o q).1
 have cellAt : ∀ x c, cl.lookup x = some c → ∃ v, base.IsCell c v := C.cell
 refine ⟨⟨e0.mod, S.kind, rfl, rfl, Nat.le_refl _, fun y z c h1 h2 => C.inj y z c h1 h2, fun y hy => ?_, fun y c z _ => (by cases z), fun _ => hd, Around.frames_deeper e0.frames, .inr ⟨rfl, rfl⟩, fun b z => absurd z (noA b), e0.bs, e0.bsz, fun b _ _ => noA b, fun b z => absurd z (noA b), e0.funs, e0.frf⟩,
  rfl, e0.bare, Un.kept hk, ⟨_, hns, fun i y v h1 h2 h3 => ?_⟩, fun y c h => ?_, e0.hok.fresh (Nat.le_refl _), fun y c h => ?_, fun p hp => absurd (show p ∈ ([] : List (Addr × Obj)) from hp) (by simp), e0.hok.kept hk, ?_⟩
 ·have hy : scope.names.lookup y = some .cell ∨ scope.names.lookup y = some .free := hy
  rcases hy with hy | hy
  ·exact absurd rfl (S.nocell _ (PySem.mem_of_lookup hy))
  ·exact C.has y hy
 ·have h1 : N[i]? = some y := h1
  by_cases hi : i < vs.length
  ·have ha : vs[i]? = some v := by
    rw [List.getElem?_append_left (by simpa using hi), List.getElem?_map] at h2
    cases e : vs[i]? with
    | none => rw [e] at h2; cases h2
    | some a => rw [e] at h2; cases h2; rfl
   obtain ⟨u, hu, rv⟩ := r.get ha
   have hp : ps[i]? = some y := by
    rw [← S.pre, List.getElem?_take_of_lt (by omega)]; exact h1
   have ndP : ps.Nodup := by rw [← S.pre]; exact S.nd.sublist (List.take_sublist _ _)
   exact ⟨u, rv, .inl ⟨S.par y (List.mem_of_getElem? hp), ZfP ndP hp hu⟩⟩
  ·rw [List.getElem?_append_right (by simpa using hi), List.getElem?_map, List.length_map] at h2
   have hc : cvs[i - vs.length]? = some v := by
    cases e : cvs[i - vs.length]? with
    | none => rw [e] at h2; cases h2
    | some a => rw [e] at h2; cases h2; rfl
   obtain ⟨q1, c, u, q2, q3, q4⟩ := C.cap (i - vs.length) y v (by rw [show ps.length + (i - vs.length) = i by omega]; exact h1) hc
   exact ⟨u, q4, .inr ⟨.inr q1, c, q2, q3.keeps up⟩⟩
 ·obtain ⟨v, q⟩ := C.cell y c h
  exact ⟨v, q.keeps up⟩
 ·obtain ⟨v, o, q, _⟩ := C.cell y c h
  exact (e0.bs c o q).2
 ·show _ = N.length
  rw [C.len]; simp [hl]
theorem Zmo {CX : CXT} {P : Program} {w : World} {K : PySem.W.Frag} {mg : Str → Option Value} {base : Heap} {k : Nat} {f : Addr} {name qual : Str} {params : Arguments} {body : Expr} {scope : Scope} {cl : List (Str × Addr)} {pm ct : Value} {c' : Addr} {N ps : List Str} {cvs : List V} {sp : Sp}
  (S : CloScope N ps scope) (C : CloAt base cl scope N ps cvs) (len : ∀ vs H Q E, sp vs H Q E → vs.length = ps.length)
  (at_ : ∀ vs H Q E, sp vs H Q E → H f = some (.ext (fnφ f (PySem.W.kla_fn name qual params body scope cl pm (.ref c') ct))) ∧ H c' = some (.ext (codeφ c' qual)))
  (hbody : ∀ (A : Around) (outer : List Env) (s : Shared) (H : Hp) (vs : List V) (Q : VK) (E : XK), Room k (A.deeper (PySem.W.envX qual scope s.heap.objs.size f (.ref c') cl)) → sp vs H Q E →
   ∃ t, PE (cxC CX P w K mg base N qual scope f (.ref c') cl A outer s H E) body t ∧ t (vs.map some ++ cvs.map some) H Q) :
  FnOk P w K mg base CX (k + 1) f (PySem.W.kla_fn name qual params body scope cl pm (.ref c') ct) ps sp := by
 refine ⟨len, fun A outer s H args us vs Q E hr e0 hb r hsp => ?_⟩
 have hl := len _ _ _ _ hsp
 obtain ⟨a1, a2⟩ := at_ _ _ _ _ hsp
 obtain ⟨oc, od, sl, ho⟩ := fnφ_at e0.hok a1
 have lim : s.heap.NoLimit := e0.mod.nolimit.keeps fun b o e => (e0.bs b o e).1
 have hkind : ∀ y ∈ ps.zip us, scope.names.lookup y.1 = some .local := fun ⟨n, v⟩ hy => S.par n (List.of_mem_zip hy).1
 refine PySem.W.kla_callFunE hr.depth ho rfl S.co S.gen rfl (codeφ_at e0.hok a2) (hb _ _ _ _ ?_)
 refine wpAny_newFunctionEnv S.nocell hkind (fun h' hns hsb => ?_) S.kind
 have hk : ∀ b o, s.heap.get? b = some o → h'.get? b = some o := fun b o e => hsb.extBut b o (Nat.ne_of_lt (Heap.lt_size e)) (Heap.get?_push_of_some _ e)
 refine ⟨lim.keeps hk, ?_⟩
 show codeAny _ _ (.expr body (PySem.W.envX qual scope s.heap.objs.size f (.ref c') cl)) _ _
 obtain ⟨t, ht, hq⟩ := hbody A outer s H vs Q E (hr.deeper _) hsp
 refine PySem.W.kla_codeExpr (wpAny_mono (ht [] _ _ H Q (Zih S C hr.hd e0 hl r hns hk) hq) (fun u s' hs => ?_) fun e s' hs => hs)
 obtain ⟨v, H', J, rv, q⟩ := hs
 exact ⟨v, H', J.os, J.bare, J.base, J.hok, rv, q⟩
theorem Zmn {CX : CXT} {P : Program} {w : World} {K : PySem.W.Frag} {mg : Str → Option Value} {base : Heap} {k : Nat} {f : Addr} {name qual : Str} {params : Arguments} {body : List Stmt} {scope : Scope} {cl : List (Str × Addr)} {doc pm ct : Value} {c' : Addr} {N ps : List Str} {cvs : List V} {sp : Sp}
  (S : CloScope N ps scope) (C : CloAt base cl scope N ps cvs) (len : ∀ vs H Q E, sp vs H Q E → vs.length = ps.length)
  (at_ : ∀ vs H Q E, sp vs H Q E → H f = some (.ext (fnφ f (PySem.W.fnX name qual params body scope cl .none .none doc pm none (.ref c') ct))) ∧ H c' = some (.ext (codeφ c' qual)))
  (hbody : ∀ (A : Around) (outer : List Env) (s : Shared) (H : Hp) (vs : List V) (Q : VK) (E : XK), Room k (A.deeper (PySem.W.envX qual scope s.heap.objs.size f (.ref c') cl)) → sp vs H Q E →
   ∃ t, PSs (cxC CX P w K mg base N qual scope f (.ref c') cl A outer s H E) body t ∧ t { nx := fun _ H' => Q .non H', rt := Q } (vs.map some ++ cvs.map some) H) :
  FnOk P w K mg base CX (k + 1) f (PySem.W.fnX name qual params body scope cl .none .none doc pm none (.ref c') ct) ps sp := by
 refine ⟨len, fun A outer s H args us vs Q E hr e0 hb r hsp => ?_⟩
 have hl := len _ _ _ _ hsp
 obtain ⟨a1, a2⟩ := at_ _ _ _ _ hsp
 obtain ⟨oc, od, sl, ho⟩ := fnφ_at e0.hok a1
 have lim : s.heap.NoLimit := e0.mod.nolimit.keeps fun b o e => (e0.bs b o e).1
 have hkind : ∀ y ∈ ps.zip us, scope.names.lookup y.1 = some .local := fun ⟨n, v⟩ hy => S.par n (List.of_mem_zip hy).1
 refine codeAny_call_function hr.depth ho rfl S.co S.gen rfl (codeφ_at e0.hok a2) (hb _ _ _ _ ?_)
 refine wpAny_newFunctionEnv S.nocell hkind (fun h' hns hsb => ?_) S.kind
 have hk : ∀ b o, s.heap.get? b = some o → h'.get? b = some o := fun b o e => hsb.extBut b o (Nat.ne_of_lt (Heap.lt_size e)) (Heap.get?_push_of_some _ e)
 refine ⟨lim.keeps hk, ?_⟩
 show codeAny _ _ (.func body (PySem.W.envX qual scope s.heap.objs.size f (.ref c') cl)) _ _
 obtain ⟨t, ht, hq⟩ := hbody A outer s H vs Q E (hr.deeper _) hsp
 refine codeAny_func (wpAny_mono (ht [] _ _ H _ (Zih S C hr.hd e0 hl r hns hk) hq) (fun fl s' hs => ?_) fun e s' hs => hs)
 cases fl with
 | ret u =>
  obtain ⟨v, σ', H', J, rv, q⟩ := hs
  exact ⟨v, H', J.os, J.bare, J.base, J.hok, rv, q⟩
 | next =>
  obtain ⟨σ', H', J, q⟩ := hs
  exact ⟨.non, H', J.os, J.bare, J.base, J.hok, rfl, q⟩
 | brk =>
  obtain ⟨_, _, _, q⟩ := hs
  exact False.elim q
 | cont =>
  obtain ⟨_, _, _, q⟩ := hs
  exact False.elim q
structure Mk0 (X : Cx) (c P : Addr) : Prop where
 code : X.env.code = .ref c
 hd : PySem.W.CodeHd X.base c P
 bm : ∃ bm o, X.mg "__builtins__" = some (.ref bm) ∧ bm ≠ builtinsNs ∧ bm ≠ mainGlobals ∧ X.base.get? bm = some o ∧ o.cls = .type "module" ∧ o.dict = some builtinsNs ∧ o.data = .plain
noncomputable def Slot (P : Addr) (q : Str) (lpos : Pos) (ps : Array Value) (H Hm : Hp) (c' : Addr) : Prop :=
 (Hm = H ∧ codeAmong lpos ps.toList = some (.ref c') ∧ H c' = some (.ext (codeφ c' q))) ∨ (codeAmong lpos ps.toList = none ∧ H c' = none ∧ c' ≠ P ∧ Hm = upd (upd H P (.tbl (ps ++ #[rawInt lpos.line, rawInt lpos.col, .ref c']))) c' (.ext (codeφ c' q)))
noncomputable def ZlI (P : Addr) (q : Str) (lpos : Pos) (isFd : FuncData → Addr → Prop) (H : Hp) (R : Addr → Addr → FuncData → Hp → Prop) : Prop :=
 ∃ ps, H P = some (.tbl ps) ∧ TriplesOk ps.toList ∧ (∀ cv, codeAmong lpos ps.toList = some cv → ∃ c', cv = .ref c' ∧ H c' = some (.ext (codeφ c' q))) ∧
  ∀ p c' fd Hm, isFd fd c' → Slot P q lpos ps H Hm c' → Hm p = none → R p c' fd (upd Hm p (.ext (fnφ p fd)))
section
variable {X : Cx} {pins : List (Addr × Obj)} {σ : St} {H : Hp} {s : Shared} {c P : Addr} {ps : Array Value}
theorem Mk0.bat (M : Mk0 X c P) (I : Inv X pins σ H s) (hP : H P = some (.tbl ps)) : s.heap.BuiltinsAt X.mg P := by
 obtain ⟨bm, o, e1, e2, e3, e4, e5⟩ := M.bm
 refine ⟨bm, o, e1, e2, e3, fun z => ?_, I.bk _ _ e4, e5⟩
 have := (I.bs _ _ e4).2
 rw [z, hP] at this; cases this
theorem gne (I : Inv X pins σ H s) (hP : H P = some (.tbl ps)) : mainGlobals ≠ P := fun z => by
 obtain ⟨o, es, ep, e, _⟩ := I.mod.glob
 have := (I.bs _ _ e).2
 rw [z, hP] at this; cases this
theorem Zez {P0 : Program} {w : World} {H' : Hp} {h : Heap} {a : Addr} {φ : Heap → Prop} (h1 : φ h) (h2 : ∃ o, h.get? a = some o) (h3 : ∀ h1 h2 : Heap, φ h1 → (∀ o, h1.get? a = some o → h2.get? a = some o) → φ h2) : ZaM P0 w H' h a (.ext φ) := ⟨h1, h2, h3⟩
theorem fnφ_keep {p : Addr} {fd : FuncData} : ∀ h1 h2 : Heap, fnφ p fd h1 → (∀ o, h1.get? p = some o → h2.get? p = some o) → fnφ p fd h2 := fun h1 h2 ⟨oc, od, sl, e⟩ k => ⟨oc, od, sl, k _ e⟩
theorem codeφ_keep {p : Addr} {q : Str} : ∀ h1 h2 : Heap, codeφ p q h1 → (∀ o, h1.get? p = some o → h2.get? p = some o) → codeφ p q h2 := fun h1 h2 ⟨a, o, vs, t, e, e1, r⟩ k => by
 cases e
 exact ⟨p, o, vs, t, rfl, k _ e1, r⟩
theorem codeφ_there {p : Addr} {q : Str} {h : Heap} (x : codeφ p q h) : ∃ o, h.get? p = some o := by
 obtain ⟨a, o, vs, t, e, e1, r⟩ := x
 cases e
 exact ⟨o, e1⟩
theorem Zig {h' : Heap} {tk : Nat} {c' : Addr} {more : Array Value} {q : Str} (I : Inv X pins σ H s) (hP : H P = some (.tbl ps)) (hx : Heap.ExtBut P s.heap h') (hge : s.heap.objs.size ≤ c') (hc : h'.CodeRec (.ref c') q) (ht : h'.get? P = some (PySem.W.tabObj (ps ++ more))) :
  Inv X pins σ (upd (upd H P (.tbl (ps ++ more))) c' (.ext (codeφ c' q))) { s with heap := h', toks := tk } ∧ H c' = none ∧ c' ≠ P := by
 have hc0 : H c' = none := I.hok.fresh hge
 have hcP : c' ≠ P := fun z => by rw [z, hP] at hc0; cases hc0
 have old : ∀ {b : Addr} {u : HO}, H b = some u → b ≠ c' := fun e z => by rw [z, hc0] at e; cases e
 have get : ∀ {b : Addr} {u : HO}, H b = some u → b ≠ P → upd (upd H P (.tbl (ps ++ more))) c' (.ext (codeφ c' q)) b = some u := fun {b u} e n => by rw [Zaj (old e), Zaj n]; exact e
 refine ⟨I.call (g' := s.gens) (d' := s.drawn) (ch := []) ?_ ?_ I.bare (fun b hb => absurd hb (by simp)), hc0, hcP⟩
 ·refine ⟨fun b o e n _ _ => hx b o (fun z => by rw [z, hP] at n; cases n) e, fun b o e n _ _ => ⟨o.slots, hx b o (fun z => by rw [z, hP] at n; cases n) e⟩, fun b o e n _ => ?_, fun b o e _ => ?_, fun b xs e => get e (fun z => by rw [z, hP] at e; cases e), fun b o u e => get e (fun z => by rw [z, hP] at e; cases e), fun b ps' e => ?_⟩
  ·rw [Zaj (Nat.ne_of_lt (Nat.lt_of_lt_of_le (Heap.lt_size e) hge)), Zaj (fun z => by rw [z, hP] at n; cases n)]; exact n
  ·by_cases hb : b = P
   ·exact ⟨_, hb ▸ ht⟩
   ·exact ⟨o, hx b o hb e⟩
  ·by_cases hb : b = P
   ·subst hb
    rw [hP] at e; cases e
    exact ⟨more, by rw [Zaj (old hP), Zap]⟩
   ·exact ⟨#[], by rw [get e hb]; simp⟩
 ·intro a o e
  by_cases ha : a = c'
  ·subst ha
   rw [Zap] at e; cases e
   exact Zez hc (codeφ_there hc) codeφ_keep
  ·rw [Zaj ha] at e
   by_cases hb : a = P
   ·subst hb
    rw [Zap] at e; cases e
    exact ht
   ·rw [Zaj hb] at e
    refine (I.hok a o e).stay (fun b u hb' r => hx b u ?_ r) (fun b r => get r (fun z => by rw [z, hP] at r; cases r)) fun b xs r => get r (fun z => by rw [z, hP] at r; cases r)
    rcases hb' with rfl | hb'
    ·exact hb
    ·intro z; rw [z, hP] at hb'; cases hb'
structure CloOf (X : Cx) (scope : Scope) (cl : List (Str × Addr)) : Prop where
 of : ∀ x c, cl.lookup x = some c → X.env.cells.lookup x = some c
 has : ∀ y ∈ scope.names, y.2 = .free → ∃ c, cl.lookup y.1 = some c
theorem Zin {scope : Scope} (ok : X.Ok) (hfree : ∀ y ∈ scope.names, y.2 = .free → X.env.kindOf y.1 = some .cell ∨ X.env.kindOf y.1 = some .free) : ∃ cl, closureFor scope X.env = pure cl ∧ CloOf X scope cl := by
 obtain ⟨cl, q1, q2, q3, q4⟩ := ZcE (env := X.env) scope.names [] (fun y hy hf => ok.has y.1 (hfree y hy hf)) (fun x c h => by simp at h)
 refine ⟨cl, ?_, q2, q4⟩
 unfold closureFor
 show (forIn scope.names [] _ >>= _) = _
 rw [show (forIn scope.names ([] : List (Str × Addr)) fun (x : Str × NameKind) (r : List (Str × Addr)) => _) = _ from q1]
 rfl
theorem ZmR {params : Arguments} {body : Expr} {scope : Scope} {lpos : Pos} {q : Str} (M : Mk0 X c P) (hq : X.env.qual ++ "<lambda>" = q) (hfree : ∀ y ∈ scope.names, y.2 = .free → X.env.kindOf y.1 = some .cell ∨ X.env.kindOf y.1 = some .free) (hdef : defaultsOf params X.env = ([], []) := by rfl) :
  PE X (.Lambda params body scope lpos) (fun σ H Q => ZlI P q lpos (fun fd c' => ∃ cl pm ctv, CloOf X scope cl ∧ fd = PySem.W.kla_fn "<lambda>" q params body scope cl pm (.ref c') ctv) H fun p _ _ H' => Q (.ref p) H') := by
 intro pins s σ H Q I ⟨ps, hP, ht, hhit, h⟩
 obtain ⟨cl, hcl, co⟩ := Zin I.ok hfree
 have hP' : s.heap.get? P = some (PySem.W.tabObj ps) := I.hok P _ hP
 have hg : s.heap.Ns mainGlobals X.mg := I.mod.glob.keeps I.bk
 have hb := M.bat I hP
 refine PySem.W.kla_eval hdef ?_
 rw [hq]
 cases hc : codeAmong lpos ps.toList with
 | some cv =>
  obtain ⟨c', rfl, hc'⟩ := hhit cv hc
  refine PySem.W.kla_makeFunctionHit hcl I.ok.glob hg M.code (M.hd.keeps I.bk) hP' ht hc hb fun ctv h' tk hk hsz => ?_
  refine ⟨.ref h'.objs.size, upd H h'.objs.size (.ext (fnφ _ _)), I.laid (t' := tk) (fun b u e => Heap.get?_push_of_some _ (hk b u e)) hsz (Zez ⟨_, _, _, Heap.get?_push_size _ rfl⟩ ⟨_, Heap.get?_push_size _ rfl⟩ fnφ_keep), rfl, h _ c' _ H ⟨cl, _, _, co, rfl⟩ (.inl ⟨rfl, hc, hc'⟩) (I.hok.fresh hsz)⟩
 | none =>
  refine PySem.W.kla_makeFunction hcl I.ok.glob hg M.code (M.hd.keeps I.bk) hP' ht hc (gne I hP) hb fun c' ctv h' tk hx hge hlt hrec htb => ?_
  obtain ⟨I1, hc0, hcP⟩ := Zig (tk := tk) I hP hx hge hrec htb
  refine ⟨.ref h'.objs.size, upd _ h'.objs.size (.ext (fnφ _ _)), I1.laid (t' := tk) (fun b u e => Heap.get?_push_of_some _ e) (Nat.le_refl _) (Zez ⟨_, _, _, Heap.get?_push_size _ rfl⟩ ⟨_, Heap.get?_push_size _ rfl⟩ fnφ_keep), rfl, h _ c' _ _ ⟨cl, _, _, co, rfl⟩ (.inr ⟨hc, hc0, hcP, rfl⟩) (I1.hok.fresh (Nat.le_refl _))⟩
theorem ZmF {name : Str} {params : Arguments} {body : List Stmt} {scope : Scope} {lpos : Pos} {q : Str} {i : Nat} (M : Mk0 X c P) (hN : X.N.Nodup) (hi : X.N[i]? = some name) (hx : Loc X.env.scope name) (hq : qualnameIn X.env name name = q) (hfree : ∀ y ∈ scope.names, y.2 = .free → X.env.kindOf y.1 = some .cell ∨ X.env.kindOf y.1 = some .free)
  (hd0 : params.defaults = [] := by rfl) (hk0 : params.kw_defaults = [] := by rfl) (ha : annTrees params none X.env = [] := by rfl)
  (hf : X.fn name = true ∨ X.env.scope.names.lookup name = some .local := by first | exact .inl rfl | exact .inr rfl | assumption) :
  PS X (.FunctionDef name params body [] none [] scope none name lpos) (fun D σ H => ZlI P q lpos (fun fd c' => ∃ cl doc pm ctv, CloOf X scope cl ∧ fd = PySem.W.fnX name q params body scope cl .none .none doc pm none (.ref c') ctv) H fun p _ _ H' => D.nx (σ.set i (some (.ref p))) H') := by
 intro pins s σ H D I ⟨ps, hP, ht, hhit, h⟩
 obtain ⟨cl, hcl, co⟩ := Zin I.ok hfree
 have hP' : s.heap.get? P = some (PySem.W.tabObj ps) := I.hok P _ hP
 have hg : s.heap.Ns mainGlobals X.mg := I.mod.glob.keeps I.bk
 have hb := M.bat I hP
 refine PySem.W.nestDef_K hd0 hk0 ha ?_
 rw [hq]
 cases hc : codeAmong lpos ps.toList with
 | some cv =>
  obtain ⟨c', rfl, hc'⟩ := hhit cv hc
  refine PySem.W.makeFunction_hit hcl I.ok.glob hg M.code (M.hd.keeps I.bk) hP' ht hc hb fun ctv doc h' tk hk hsz => ?_
  have I1 := I.laid (t' := tk) (o := .ext (fnφ h'.objs.size (PySem.W.fnX name q params body scope cl .none .none doc ((X.mg "__name__").getD .none) none (.ref c') ctv))) (h' := h'.push { cls := .type "function", data := .func (PySem.W.fnX name q params body scope cl .none .none doc ((X.mg "__name__").getD .none) none (.ref c') ctv) }) (fun b u e => Heap.get?_push_of_some _ (hk b u e)) hsz (Zez ⟨_, _, _, Heap.get?_push_size _ rfl⟩ ⟨_, Heap.get?_push_size _ rfl⟩ fnφ_keep)
  exact Zeb I1 hN hi hx (v := .ref h'.objs.size) rfl (fun s' I' _ => ⟨_, _, I', h _ c' _ H ⟨cl, _, _, _, co, rfl⟩ (.inl ⟨rfl, hc, hc'⟩) (I.hok.fresh hsz)⟩) hf
 | none =>
  refine PySem.W.makeFunction_K hcl I.ok.glob hg M.code (M.hd.keeps I.bk) hP' ht hc (gne I hP) hb fun c' ctv doc h' tk hx' hge hlt hrec htb => ?_
  obtain ⟨I1, hc0, hcP⟩ := Zig (tk := tk) I hP hx' hge hrec htb
  have I2 := I1.laid (t' := tk) (o := .ext (fnφ h'.objs.size (PySem.W.fnX name q params body scope cl .none .none doc ((X.mg "__name__").getD .none) none (.ref c') ctv))) (h' := h'.push (PySem.W.fnMade name q params body scope cl doc ((X.mg "__name__").getD .none) c' ctv)) (fun b u e => Heap.get?_push_of_some _ e) (Nat.le_refl _) (Zez ⟨_, _, _, Heap.get?_push_size _ rfl⟩ ⟨_, Heap.get?_push_size _ rfl⟩ fnφ_keep)
  exact Zeb I2 hN hi hx (v := .ref h'.objs.size) rfl (fun s' I' _ => ⟨_, _, I', h _ c' _ _ ⟨cl, _, _, _, co, rfl⟩ (.inr ⟨hc, hc0, hcP, rfl⟩) (I1.hok.fresh (Nat.le_refl _))⟩) hf
end
structure Cells (X : Cx) (σ : St) (base' : Heap) : Prop where
 inj : ∀ x y c, X.env.cells.lookup x = some c → X.env.cells.lookup y = some c → x = y
 cell : ∀ x c, X.env.cells.lookup x = some c → ∃ v, base'.IsCell c v
 has : ∀ x, (X.env.kindOf x = some .cell ∨ X.env.kindOf x = some .free) → ∃ c, X.env.cells.lookup x = some c
 val : ∀ (i : Nat) (x : Str) (v : V), X.N[i]? = some x → σ[i]? = some (some v) → X.env.kindOf x = some .cell → ∃ c u, X.env.cells.lookup x = some c ∧ base'.IsCell c (some u) ∧ RelV v u
section
variable {X : Cx} {pins : List (Addr × Obj)} {σ : St} {H : Hp} {s : Shared}
noncomputable def ZfK (X : Cx) : List Addr := X.env.cells.filterMap fun p => X.env.cells.lookup p.1
theorem Zkl {x : Str} {c : Addr} (e : X.env.cells.lookup x = some c) : c ∈ ZfK X := List.mem_filterMap.mpr ⟨(x, c), PySem.mem_of_lookup e, e⟩
theorem Zhy {c : Addr} (h : c ∈ ZfK X) : ∃ x, X.env.cells.lookup x = some c := by
 obtain ⟨p, _, e⟩ := List.mem_filterMap.mp h
 exact ⟨p.1, e⟩
theorem Zj8 (I : Inv X pins σ H s) (hfn : ∀ x, X.fn x = true) : Env0 X.prog X.w X.K X.mg (hidB s.heap X.base (ZfK X)) X.A X.stack s H ∧ Cells X σ (hidB s.heap X.base (ZfK X)) := by
 have cellK : ∀ x c v, X.env.cells.lookup x = some c → s.heap.IsCell c v → (hidB s.heap X.base (ZfK X)).IsCell c v := fun x c v e ⟨o, ho, hd⟩ => ⟨o, Zho ho (.inr (Zkl e)), hd⟩
 refine ⟨Env0.more I.env0 (fun b hb => ?_) fun b hb hf => ?_, ⟨I.ok.inj, fun x c e => ?_, I.ok.has, fun i x v h1 h2 h3 => ?_⟩⟩
 ·obtain ⟨x, e⟩ := Zhy hb
  exact I.freeC x b e
 ·obtain ⟨x, e⟩ := Zhy hb
  rcases List.mem_cons.mp (I.stkSub b hf) with z | z
  ·exact I.cne x b e z
  ·obtain ⟨_, o, ho, _⟩ := I.ok.funs.mem z
   exact absurd (Nat.lt_of_lt_of_le (Heap.lt_size ho) (I.ok.cab x b (hfn x) e)) (Nat.lt_irrefl _)
 ·obtain ⟨v, q⟩ := I.cell x c e
  exact ⟨v, cellK x c v e q⟩
 ·obtain ⟨m, _, hl⟩ := I.loc
  obtain ⟨u, r, l⟩ := hl i x v h1 h2 (.inr (.inl h3))
  rcases l with ⟨hk, _⟩ | ⟨_, c, hc, hcell⟩
  ·rw [h3] at hk; cases hk
  ·exact ⟨c, u, hc, cellK x c _ hc hcell, r⟩
theorem Zg6 {x : Str} {p pos : Pos} {e : Expr} {es : List Expr} {t : TA} {k : Nat} {f : Addr} {fd : FuncData} {ps : List Str} {sp : Heap → Sp} (F : ∀ base, FnOk X.prog X.w X.K X.mg base CX0 k f fd ps (sp base)) (hfn : ∀ x, X.fn x = true) (hr : Room k X.A) (hg : Gl X x) (hm : X.mg x = some (.ref f)) (hk : PySem.W.keepIn X.K (.ref f) = true) (hb : ZbR X.K fd ps [])
  (ha : PA X (e :: es) t) (hdb : (x == ("__debug__" : Str)) = false := by decide) (he : starEach (e :: es) X.env = (false, eval e X.env) :: starEach es X.env := by rfl) (hpl : (backTo pos (starEach es X.env)).any (·.1) = false := by rfl) :
  PE X (.Call (.Name x p) (e :: es) [] pos) (fun σ H Q => t σ H fun vs H1 => ∀ base', Cells X σ base' → sp base' vs H1 Q E0) := by
 intro pins s σ H Q I h
 refine wpAny_Call_Name_kw (Zf2 I hg hm ?_ hdb)
 refine PySem.W.callWith_K (h₀ := X.base) I.ok.mod.kin hk (thn (ha pos pins s σ H _ I h) fun us s1 ⟨vs, H1, I1, r, q⟩ => ⟨I1.kIn, ?_⟩) he hpl
 obtain ⟨e0, cs⟩ := Zj8 I1 hfn
 have q' := q _ cs
 have hl : (us ++ []).length = ps.length := by rw [List.append_nil, ← r.length]; exact (F _).len _ _ _ _ q'
 refine wpAny_call (codeAny_mono ((F _).run X.A X.stack s1 H1 ⟨us, []⟩ us vs Q E0 hr e0 (by have := hb s1 us I1.kIn hl; rw [List.append_nil] at this; exact this) r q') fun r s' hq => ?_)
 cases r with
 | error e => exact hq.elim
 | ok fl =>
  cases fl with
  | ret u => exact I1.after hq
  | next => exact False.elim hq
  | brk => exact False.elim hq
  | cont => exact False.elim hq
theorem ZkR {x : Str} {p pos : Pos} {e : Expr} {es : List Expr} {t : TA} {k i : Nat} (hf : PE X (.Name x p) (tVar i)) (hr : Room k X.A) (ha : PA X (e :: es) t)
  (he : starEach (e :: es) X.env = (false, eval e X.env) :: starEach es X.env := by rfl) (hpl : (backTo pos (starEach es X.env)).any (·.1) = false := by rfl) :
  PE X (.Call (.Name x p) (e :: es) [] pos) (fun σ H Q => ∃ f fd ps sp, σ[i]? = some (some (.ref f)) ∧ ZbR X.K fd ps [] ∧ FnOk X.prog X.w X.K X.mg X.base CX0 k f fd ps sp ∧ (∀ h : Heap, HOk X.prog X.w H h → X.K.In h → fnφ f fd h) ∧
   t σ H fun vs H1 => (∀ h : Heap, HOk X.prog X.w H1 h → X.K.In h → fnφ f fd h) ∧ sp vs H1 Q E0) := by
 intro pins s σ H Q I ⟨f, fd, ps, sp, e, hb, F, h0, h⟩
 refine wpAny_Call_Name_kw (thn (hf pins s σ H (fun v H' => v = .ref f ∧ H' = H) I ⟨_, e, rfl, rfl⟩) fun u s1 ⟨v, H1, I1, rv, ev, eH⟩ => ?_)
 subst ev eH
 cases (show u = Value.ref f from rv)
 have at1 : ∀ {pins σ H s}, Inv X pins σ H s → (∀ h : Heap, HOk X.prog X.w H h → X.K.In h → fnφ f fd h) → PySem.W.FnAt f s.heap := fun I z => by
  obtain ⟨oc, od, sl, q⟩ := z _ I.hok I.kIn
  exact ⟨oc, od, fd, sl, q⟩
 refine PySem.W.callWith_F (at1 I1 h0) (thn (ha pos pins s1 σ _ _ I1 h) fun us s2 ⟨vs, H2, I2, r, h2, q⟩ => ⟨at1 I2 h2, ?_⟩) he hpl
 exact Zjx F hr hb .nil ZiM I2 r (by rw [List.append_nil]; exact q)
end
mutual
noncomputable def ZaN : D → Bool
 | .tup ds => ZaU ds
 | .lst ds => ZaU ds
 | .clo _ _ => false
 | _ => true
noncomputable def ZaU : List D → Bool
 | [] => true
 | d :: ds => ZaN d && ZaU ds
end
mutual
theorem Rep.re {G G' : Gh} {H : Hp} (hf : G'.fp = G.fp) (hp : G'.pen = G.pen) : ∀ {d : D} {v : V}, ZaN d = true → Rep G H d v → Rep G' H d v
 | .non, _, _, h => Rep.non_iff.mpr (Rep.non_iff.mp h)
 | .bl _, _, _, h => Rep.bl_iff.mpr (Rep.bl_iff.mp h)
 | .int _, _, _, h => Rep.int_iff.mpr (Rep.int_iff.mp h)
 | .str _, _, _, h => Rep.str_iff.mpr (Rep.str_iff.mp h)
 | .tup ds, v, n, h => by
  obtain ⟨a, vs, e1, nf, e2, r⟩ := Rep.tup_iff.mp h
  exact Rep.tup_iff.mpr ⟨a, vs, e1, by rw [hf]; exact nf, e2, RepL.re hf hp (by simpa [ZaN] using n) r⟩
 | .lst ds, v, n, h => by
  obtain ⟨a, vs, e1, nf, e2, r⟩ := Rep.lst_iff.mp h
  exact Rep.lst_iff.mpr ⟨a, vs, e1, by rw [hf]; exact nf, e2, RepL.re hf hp (by simpa [ZaN] using n) r⟩
 | .dk _, _, _, h => by
  obtain ⟨a, e1, nf, e2⟩ := Rep.dk_iff.mp h
  exact Rep.dk_iff.mpr ⟨a, e1, by rw [hf]; exact nf, e2⟩
 | .dt _, _, _, h => by
  obtain ⟨a, o, e1, nf, e2⟩ := Rep.dt_iff.mp h
  exact Rep.dt_iff.mpr ⟨a, o, e1, by rw [hf]; exact nf, e2⟩
 | .du _, _, _, h => by
  obtain ⟨a, e1, nf, e2⟩ := Rep.du_iff.mp h
  exact Rep.du_iff.mpr ⟨a, e1, by rw [hf]; exact nf, e2⟩
 | .df _, _, _, h => by
  obtain ⟨a, o, e1, nf, e2⟩ := Rep.df_iff.mp h
  exact Rep.df_iff.mpr ⟨a, o, e1, by rw [hf]; exact nf, e2⟩
 | .pen, _, _, h => Rep.pen_iff.mpr ((Rep.pen_iff.mp h).trans hp.symm)
 | .ty _, _, _, h => Rep.ty_iff.mpr (Rep.ty_iff.mp h)
 | .clo _ _, _, n, _ => by simp [ZaN] at n
theorem RepL.re {G G' : Gh} {H : Hp} (hf : G'.fp = G.fp) (hp : G'.pen = G.pen) : ∀ {ds : List D} {vs : List V}, ZaU ds = true → RepL G H ds vs → RepL G' H ds vs
 | [], _, _, h => RepL.nil_iff.mpr (RepL.nil_iff.mp h)
 | d :: ds, vs, n, h => by
  obtain ⟨v, r, e, h1, h2⟩ := RepL.cons_iff.mp h
  have n' : ZaN d = true ∧ ZaU ds = true := by simpa [ZaU] using n
  exact RepL.cons_iff.mpr ⟨v, r, e, Rep.re hf hp n'.1 h1, RepL.re hf hp n'.2 h2⟩
end
theorem Gr.re {G G' : Gh} {Hf H Hf' H' : Hp} (hf : G'.fp = G.fp) (g : Gr G Hf H Hf' H') : Gr G' Hf H Hf' H' :=
 ⟨fun b o n => g.hh b o (by rw [← hf]; exact n), fun b o n => g.ff b o (by rw [← hf]; exact n), fun b o n => g.fh b o (by rw [← hf]; exact n), fun b n => g.nw b (by rw [← hf]; exact n)⟩
theorem Ext.re {G G' : Gh} {H H' : Hp} (hf : G'.fp = G.fp) (g : Ext G H H') : Ext G' H H' := fun b o n => g b o (by rw [← hf]; exact n)
theorem Zax.re {G G' : Gh} {H Hf' : Hp} {d : D} {v : V} (hf : G'.fp = G.fp) (hp : G'.pen = G.pen) (n : ZaN d = true) (h : Zax G H Hf' d v) : Zax G' H Hf' d v := fun a e m => by
 obtain ⟨h1, h2⟩ := h a e m
 refine ⟨h1, fun ds ed => ?_⟩
 obtain ⟨vs, Hm, q1, q2, q3, q4⟩ := h2 ds ed
 subst ed
 exact ⟨vs, Hm, q1, q2, q3.re hf, q4.re hf hp (by simpa [ZaN] using n)⟩
noncomputable def spK (n : Nat) (G : Gh) (cvs : List V) (F : List D → M D) : Sp := fun us H Q _ => ∃ (Hf : Hp) (ds cds : List D) (s : Pn) (d : D) (s' : Pn), us.length = n ∧ Ext G Hf H ∧ RepL G Hf ds us ∧ RepL G Hf cds cvs ∧ G.st s H ∧ F (ds ++ cds) s = some (d, s') ∧
 ∀ v Hf' H', Gr G Hf H Hf' H' → G.st s' H' → Rep G Hf' d v → Q v H'
noncomputable def CloG (P : Program) (w : World) (K : PySem.W.Frag) (mg : Str → Option Value) (k n : Nat) (T : Nat → List D → M D) (base : Heap) (G : Gh) : Prop :=
 ∀ t v cvs, G.clo t v cvs → ∃ f fd ps, v = .ref f ∧ ps.length = n ∧ ZbR K fd ps [] ∧ (∀ s H, G.st s H → ∀ h : Heap, HOk P w H h → K.In h → fnφ f fd h) ∧ FnOk P w K mg base CX0 k f fd ps (spK n G cvs (T t))
noncomputable def dApp (T : Nat → List D → M D) (i : Nat) (fs : Rho → M (List D)) : Rho → M D := fun ρ => Zao (dVar i ρ) fun c => Zao (fs ρ) fun ds => match c with | .clo t cds => T t (ds ++ cds) | _ => Zaz
theorem Zkj {i : Nat} {ρ : Rho} {s s' : Pn} {d : D} (h : dVar i ρ s = some (d, s')) : ρ[i]? = some (some d) ∧ s' = s := by
 obtain ⟨e, rfl⟩ := ZbA h
 refine ⟨?_, rfl⟩
 cases q : ρ[i]? with
 | none => rw [q] at e; cases e
 | some o => rw [q] at e; simp at e; rw [e]
section
variable {X : Cx} {G : Gh}
theorem Zg8 {T : Nat → List D → M D} {k n i : Nat} {x : Str} {p pos : Pos} {e : Expr} {es : List Expr} {fs : Rho → M (List D)} (hG : CloG X.prog X.w X.K X.mg k n T X.base G) (hr : Room k X.A) (hf : PE X (.Name x p) (tVar i)) (ha : PDA X G (e :: es) fs)
  (hal : ∀ ρ s ds s', fs ρ s = some (ds, s') → ds.length = (e :: es).length) (hlen : (e :: es).length = n := by rfl)
  (he : starEach (e :: es) X.env = (false, eval e X.env) :: starEach es X.env := by rfl) (hpl : (backTo pos (starEach es X.env)).any (·.1) = false := by rfl) :
  PD X G false (.Call (.Name x p) (e :: es) [] pos) (dApp T i fs) := by
 obtain ⟨t, pa, qa⟩ := ha
 refine ⟨_, ZkR hf hr pa he hpl, fun σ Hf H ρ s d s' Q e1 e2 e3 e4 k => ?_⟩
 obtain ⟨c, s0, b0, b1⟩ := Zai e4
 obtain ⟨a0, rfl⟩ := Zkj b0
 obtain ⟨ds, s1, a1, a2⟩ := Zai b1
 cases c with
 | clo t cds =>
  obtain ⟨v, hσ, r⟩ := e2 i _ a0
  obtain ⟨cvs, hc, rc⟩ := Rep.clo_iff.mp r
  obtain ⟨f, fd, ps, rfl, hl, hb, hat, F⟩ := hG t v cvs hc
  refine ⟨f, fd, ps, _, hσ, hb, F, hat _ H e3, qa σ Hf H ρ _ ds s1 _ e1 e2 e3 a1 fun vs Hf1 H1 g1 st1 r1 => ⟨hat _ H1 st1, Hf1, ds, cds, s1, d, s', ?_, g1.fh, r1, rc.ext g1.ff, st1, a2, fun v Hf2 H2 g2 st2 r2 => k v Hf2 H2 (g1.trans g2) st2 r2 (fun z => by cases z)⟩⟩
  rw [← r1.length, hal _ _ _ _ a1]; exact hlen
 | _ => cases a2
end
noncomputable def runE (n : Nat) (f : Rho → M D) : List D → M D := fun ds => if ds.length = n then f (ds.map some) else Zaz
theorem Zik {G : Gh} {Hf : Hp} {ds : List D} {vs : List V} (r : RepL G Hf ds vs) : EnvR G Hf (vs.map some) (ds.map some) := fun i d e => by
 rw [List.getElem?_map] at e
 cases q : ds[i]? with
 | none => rw [q] at e; cases e
 | some d' =>
  rw [q] at e; cases e
  obtain ⟨v, h1, h2⟩ := r.get q
  exact ⟨v, by rw [List.getElem?_map, h1]; rfl, h2⟩
theorem fnKE {P : Program} {w : World} {K : PySem.W.Frag} {mg : Str → Option Value} {base : Heap} {k : Nat} {f : Addr} {name qual : Str} {params : Arguments} {body : Expr} {scope : Scope} {cl : List (Str × Addr)} {pm ct : Value} {c' : Addr} {N ps : List Str} {cvs : List V} {G : Gh} {fr : Bool} {fe : Rho → M D}
  (S : CloScope N ps scope) (C : CloAt base cl scope N ps cvs) (hG : ∀ s H, G.st s H → H f = some (.ext (fnφ f (PySem.W.kla_fn name qual params body scope cl pm (.ref c') ct))) ∧ H c' = some (.ext (codeφ c' qual)))
  (hb : ∀ (A : Around) (outer : List Env) (s : Shared) (H : Hp) (E : XK), Room k (A.deeper (PySem.W.envX qual scope s.heap.objs.size f (.ref c') cl)) → PD (cxC CX0 P w K mg base N qual scope f (.ref c') cl A outer s H E).nox G fr body fe) :
  FnOk P w K mg base CX0 (k + 1) f (PySem.W.kla_fn name qual params body scope cl pm (.ref c') ct) ps (spK ps.length G cvs (runE N.length fe)) := by
 refine Zmo (cvs := cvs) S C (fun vs H Q E ⟨_, _, _, _, _, _, h, _⟩ => h) (fun vs H Q E ⟨_, _, _, s, _, _, _, _, _, _, st, _⟩ => hG s H st) fun A outer s H vs Q E hr h => ?_
 obtain ⟨Hf, ds, cds, pn, d, pn', el, e1, r1, r2, st, eF, k'⟩ := h
 obtain ⟨t, p, q⟩ := hb A outer s H E hr
 refine ⟨t, p.nox, ?_⟩
 obtain ⟨hl, a0⟩ := ZaL eF
 have env := Zik (r1.append r2)
 rw [List.map_append] at env
 exact q _ Hf H _ pn d pn' Q e1 env st a0 fun v Hf' H' g st' r _ => k' v Hf' H' g st' r
theorem fnKS {P : Program} {w : World} {K : PySem.W.Frag} {mg : Str → Option Value} {base : Heap} {k : Nat} {f : Addr} {name qual : Str} {params : Arguments} {body : List Stmt} {scope : Scope} {cl : List (Str × Addr)} {doc pm ct : Value} {c' : Addr} {N ps : List Str} {cvs : List V} {G : Gh} {fr : Bool} {g : Rho → M Out}
  (S : CloScope N ps scope) (C : CloAt base cl scope N ps cvs) (hG : ∀ s H, G.st s H → H f = some (.ext (fnφ f (PySem.W.fnX name qual params body scope cl .none .none doc pm none (.ref c') ct))) ∧ H c' = some (.ext (codeφ c' qual)))
  (hb : ∀ (A : Around) (outer : List Env) (s : Shared) (H : Hp) (E : XK), Room k (A.deeper (PySem.W.envX qual scope s.heap.objs.size f (.ref c') cl)) → PDSs (cxC CX0 P w K mg base N qual scope f (.ref c') cl A outer s H E).nox G [] [] [] fr body g) :
  FnOk P w K mg base CX0 (k + 1) f (PySem.W.fnX name qual params body scope cl .none .none doc pm none (.ref c') ct) ps (spK ps.length G cvs (runB N.length N.length g)) := by
 refine Zmn (cvs := cvs) S C (fun vs H Q E ⟨_, _, _, _, _, _, h, _⟩ => h) (fun vs H Q E ⟨_, _, _, s, _, _, _, _, _, _, st, _⟩ => hG s H st) fun A outer s H vs Q E hr h => ?_
 obtain ⟨Hf, ds, cds, pn, d, pn', el, e1, r1, r2, st, eF, k'⟩ := h
 obtain ⟨t, p, q⟩ := hb A outer s H E hr
 refine ⟨t, p.nox, ?_⟩
 obtain ⟨hl, a0⟩ := ZaL eF
 obtain ⟨o, s1, a1, a2⟩ := Zai a0
 have env := Zik (r1.append r2)
 rw [List.map_append, List.map_append] at env
 rw [Nat.sub_self, List.replicate_zero, List.append_nil, List.map_append] at a1
 have j0 : Jf G [] Hf Hf H (vs.map some ++ cvs.map some) Hf H (ds.map some ++ cds.map some) := by
  refine ⟨?_, .refl _ _, .refl e1, fun i d n e => env i d e, fun i d m e => absurd m (by simp), fun i j a di dj mi mj n e => absurd mi (by simp)⟩
  simp [r1.length, r2.length]
 refine q Hf Hf H _ H _ pn o s1 _ ⟨Hf, j0⟩ st a1 ?_
 cases o with
 | rt c =>
  obtain ⟨rfl, rfl⟩ := Zal a2
  exact fun v Hf' H' g' st2 r2 fz => k' v Hf' H' g' st2 r2
 | nx ρ' =>
  obtain ⟨rfl, rfl⟩ := Zal a2
  exact fun σ' H' ⟨Hf', j'⟩ st2 => k' .non Hf' H' j'.gr st2 (Rep.non_iff.mpr rfl)
 | bk ρ' => cases a2
 | ct ρ' => cases a2
structure TabG (P : Addr) (q : Str) (G : Gh) : Prop where
 get : ∀ s H, G.st s H → ∃ ps, H P = some (.tbl ps) ∧ TriplesOk ps.toList ∧ ∀ pos cv, codeAmong pos ps.toList = some cv → ∃ c', cv = .ref c' ∧ H c' = some (.ext (codeφ c' q)) ∧ ¬ G.fp c'
 fp : G.fp P
 put : ∀ s H ps (pos : Pos) c', G.st s H → H P = some (.tbl ps) → H c' = none → codeAmong pos ps.toList = none → G.st s (upd (upd H P (.tbl (ps ++ #[rawInt pos.line, rawInt pos.col, .ref c']))) c' (.ext (codeφ c' q)))
noncomputable def cloG (G : Gh) (t : Nat) (p c' : Addr) (fd : FuncData) (q : Str) (cvs : List V) : Gh where
 fp := G.fp
 rd := G.rd
 pen := G.pen
 st := fun s H => G.st s H ∧ H p = some (.ext (fnφ p fd)) ∧ H c' = some (.ext (codeφ c' q))
 mono := fun s H H' ⟨h1, h2, h3⟩ k1 k2 => ⟨G.mono s H H' h1 k1 k2, k2 _ _ h2, k2 _ _ h3⟩
 sub := G.sub
 dom := fun s H b h => G.dom s H b h.1
 ntp := fun s H b vs h => G.ntp s H b vs h.1
 clo := fun t' v cs => t' = t ∧ v = .ref p ∧ cs = cvs
noncomputable def CalA (P : Program) (w : World) (K : PySem.W.Frag) (mg : Str → Option Value) (k : Nat) (x : Str) (n : Nat) (fr : Bool) (GG : Heap → Gh → Prop) (F : List D → M D) : Prop :=
 ∃ f fd ps, (∀ base, FnOk P w K mg base CX0 k f fd ps (spD n fr (GG base) F)) ∧ mg x = some (.ref f) ∧ PySem.W.keepIn K (.ref f) = true ∧ ZbR K fd ps []
theorem CalA.mono {P : Program} {w : World} {K : PySem.W.Frag} {mg : Str → Option Value} {j k : Nat} {x : Str} {n : Nat} {fr : Bool} {GG : Heap → Gh → Prop} {F : List D → M D} (c : CalA P w K mg j x n fr GG F) (h : j ≤ k := by decide) : CalA P w K mg k x n fr GG F :=
 let ⟨f, fd, ps, a, b, c, d⟩ := c
 ⟨f, fd, ps, fun base => (a base).mono h, b, c, d⟩
structure CapS (X : Cx) (XN : List Str) (NS : List (Str × NameKind)) (N ps : List Str) (cix : List Nat) (scope : Scope) : Prop where
 xn : X.N = XN
 ns : X.env.scope.names = NS
 len : N.length = ps.length + cix.length
 at_ : (cix.zip (N.drop ps.length)).all (fun p => decide (XN[p.1]? = some p.2) && decide (NS.lookup p.2 = some .cell) && decide (scope.names.lookup p.2 = some .free)) = true
 free : ∀ y ∈ scope.names, y.2 = .free → NS.lookup y.1 = some .cell ∨ NS.lookup y.1 = some .free
theorem CapS.hfree {X : Cx} {XN : List Str} {NS : List (Str × NameKind)} {N ps : List Str} {cix : List Nat} {scope : Scope} (B : CapS X XN NS N ps cix scope) : ∀ y ∈ scope.names, y.2 = .free → X.env.kindOf y.1 = some .cell ∨ X.env.kindOf y.1 = some .free := fun y hy hf => by
 have := B.free y hy hf
 rw [← B.ns] at this
 exact this
theorem CapS.cloAt {X : Cx} {XN : List Str} {NS : List (Str × NameKind)} {N ps : List Str} {cix : List Nat} {scope : Scope} {σ : St} {base' : Heap} {cl : List (Str × Addr)} {cvs : List V} (B : CapS X XN NS N ps cix scope) (cs : Cells X σ base') (co : CloOf X scope cl) (hl : cvs.length = cix.length)
  (hv : ∀ (i j : Nat) (v : V), cix[i]? = some j → cvs[i]? = some v → σ[j]? = some (some v)) : CloAt base' cl scope N ps cvs := by
 refine ⟨fun x y c h1 h2 => cs.inj x y c (co.of x c h1) (co.of y c h2), fun x c h => cs.cell x c (co.of x c h), fun x h => co.has (x, .free) (PySem.mem_of_lookup h) rfl, fun i x v h1 h2 => ?_, by rw [B.len, hl]⟩
 have hi : i < cix.length := by rw [← hl]; exact (List.getElem?_eq_some_iff.mp h2).1
 have hj : cix[i]? = some cix[i] := List.getElem?_eq_getElem hi
 have hx : (N.drop ps.length)[i]? = some x := by rw [List.getElem?_drop]; exact h1
 have q := List.all_eq_true.mp B.at_ (cix[i], x) (List.mem_of_getElem? (i := i) (List.getElem?_zip_eq_some.mpr ⟨hj, hx⟩))
 simp only [Bool.and_eq_true, decide_eq_true_eq] at q
 obtain ⟨⟨q1, q2⟩, q3⟩ := q
 refine ⟨q3, ?_⟩
 obtain ⟨c, u, e1, e2, e3⟩ := cs.val cix[i] x v (by rw [B.xn]; exact q1) (hv i _ v hj h2) (by show X.env.scope.names.lookup x = _; rw [B.ns]; exact q2)
 obtain ⟨c2, e4⟩ := co.has (x, .free) (PySem.mem_of_lookup q3) rfl
 have e5 := co.of x c2 e4
 rw [e1] at e5; cases e5
 exact ⟨c, u, e4, e2, e3⟩
noncomputable def ZeU (ρ : Rho) : List Nat → Option (List D)
 | [] => some []
 | i :: r => ((ρ[i]?).bind id).bind fun d => (ZeU ρ r).map (d :: ·)
theorem Zfg {G : Gh} {Hf : Hp} {σ : St} {ρ : Rho} (e : EnvR G Hf σ ρ) : ∀ {cix : List Nat} {cds : List D}, ZeU ρ cix = some cds → ∃ cvs, cvs.length = cix.length ∧ RepL G Hf cds cvs ∧ ∀ (i j : Nat) (v : V), cix[i]? = some j → cvs[i]? = some v → σ[j]? = some (some v)
 | [], cds, h => by cases h; exact ⟨[], rfl, RepL.nil_iff.mpr rfl, fun i j v h1 => by simp at h1⟩
 | a :: r, cds, h => by
  unfold ZeU at h
  cases q : (ρ[a]?).bind id with
  | none => rw [q] at h; cases h
  | some d =>
   rw [q] at h
   cases q2 : ZeU ρ r with
   | none => rw [q2] at h; cases h
   | some ds =>
    rw [q2] at h; cases h
    obtain ⟨v, h1, h2⟩ := e a d (by
     cases q3 : ρ[a]? with
     | none => rw [q3] at q; cases q
     | some o => rw [q3] at q; simp at q; rw [q])
    obtain ⟨cvs, l1, l2, l3⟩ := Zfg e q2
    refine ⟨v :: cvs, by simp [l1], RepL.cons h2 l2, fun i j u e1 e2 => ?_⟩
    cases i with
    | zero => simp at e1 e2; subst e1; subst e2; exact h1
    | succ i => exact l3 i j u (by simpa using e1) (by simpa using e2)
noncomputable def dFnC (F : List D → M D) (t : Nat) (cix : List Nat) (f : Rho → M D) : Rho → M D := fun ρ => Zao (f ρ) fun d => Zao (mOf (ZeU ρ cix)) fun cds => if (ZaN d && ZaU cds) = true then Zao (F [d, .clo t cds]) fun c => if ZaN c = true then mret c else Zaz else Zaz
section
variable {X : Cx} {G : Gh} {P c : Addr} {q : Str}
theorem Zh2 {lpos : Pos} {ps : Array Value} {H Hm : Hp} {c' : Addr} {s : Pn} (TG : TabG P q G) (st : G.st s H) (hP : H P = some (.tbl ps)) (sl : Slot P q lpos ps H Hm c') : G.st s Hm ∧ Hm c' = some (.ext (codeφ c' q)) ∧ Ext G H Hm := by
 rcases sl with ⟨rfl, h1, h2⟩ | ⟨h1, h2, h3, rfl⟩
 ·exact ⟨st, h2, .refl _ _⟩
 ·refine ⟨TG.put s H ps lpos c' st hP h2 h1, Zap, fun b o n e => ?_⟩
  rw [Zaj (Zam e h2), Zaj (fun z => n (by rw [z]; exact TG.fp))]
  exact e
theorem Zid {Hf H Hm : Hp} {p : Addr} {o : HO} (e1 : Ext G Hf H) (ex : Ext G H Hm) (hp : Hm p = none) : Gr G Hf H Hf (upd Hm p o) := by
 have hh : Ext G H (upd Hm p o) := fun b u n e => by
  have := ex b u n e
  rw [Zaj (Zam this hp)]; exact this
 exact ⟨hh, .refl _ _, e1.trans hh, fun _ _ h _ => h⟩
theorem Zkk {base' : Heap} {k : Nat} {T : Nat → List D → M D} {t : Nat} {p c' : Addr} {fd : FuncData} {cvs : List V} {ps : List Str} {F : List D → M D} (hb : ZbR X.K fd ps []) (hF : FnOk X.prog X.w X.K X.mg base' CX0 k p fd ps (spK ps.length (cloG G t p c' fd q cvs) cvs F)) (hT : T t = F) :
  CloG X.prog X.w X.K X.mg k ps.length T base' (cloG G t p c' fd q cvs) := by
 rintro t' v cs ⟨rfl, rfl, rfl⟩
 exact ⟨p, fd, ps, rfl, rfl, hb, fun s H st h ok _ => fnφ_at ok st.2.1, by rw [hT]; exact hF⟩
variable {k kl : Nat} {x : Str} {fr frb : Bool} {F : List D → M D} {T : Nat → List D → M D} {t : Nat} {e1 : Expr} {f1 : Rho → M D} {r1 : Bool} {params : Arguments} {scope : Scope} {lpos ppos pos : Pos} {XN N ps : List Str} {NS : List (Str × NameKind)} {cix : List Nat}
theorem ofC {t : Nat} {p c' : Addr} {fd : FuncData} {cvs : List V} {H : Hp} {d : D} {v : V} (n : ZaN d = true) (r : Rep (cloG G t p c' fd q cvs) H d v) : Rep G H d v := Rep.re (G := cloG G t p c' fd q cvs) (G' := G) rfl rfl n r
theorem toC {t : Nat} {p c' : Addr} {fd : FuncData} {cvs : List V} {H : Hp} {d : D} {v : V} (n : ZaN d = true) (r : Rep G H d v) : Rep (cloG G t p c' fd q cvs) H d v := Rep.re (G := G) (G' := cloG G t p c' fd q cvs) rfl rfl n r
theorem toCL {t : Nat} {p c' : Addr} {fd : FuncData} {cvs : List V} {H : Hp} {d : List D} {v : List V} (n : ZaU d = true) (r : RepL G H d v) : RepL (cloG G t p c' fd q cvs) H d v := RepL.re (G := G) (G' := cloG G t p c' fd q cvs) rfl rfl n r
theorem grC {t : Nat} {p c' : Addr} {fd : FuncData} {cvs : List V} {Hf H Hf' H' : Hp} (g : Gr (cloG G t p c' fd q cvs) Hf H Hf' H') : Gr G Hf H Hf' H' := Gr.re (G := cloG G t p c' fd q cvs) (G' := G) rfl g
theorem frC {t : Nat} {p c' : Addr} {fd : FuncData} {cvs : List V} {H Hf' : Hp} {d : D} {v : V} (n : ZaN d = true) (h : Zax (cloG G t p c' fd q cvs) H Hf' d v) : Zax G H Hf' d v := Zax.re (G := cloG G t p c' fd q cvs) (G' := G) rfl rfl n h
theorem ZiL {body : Expr} {fe : Rho → M D} (M : Mk0 X c P) (TG : TabG P q G) (hW : CalA X.prog X.w X.K X.mg k x 2 fr (CloG X.prog X.w X.K X.mg (kl + 1) ps.length T) F) (hfn : ∀ x, X.fn x = true) (hr : Room k X.A) (hg : Gl X x) (h1 : PD X G r1 e1 f1)
  (hq : X.env.qual ++ "<lambda>" = q) (S : CloScope N ps scope) (B : CapS X XN NS N ps cix scope) (hT : T t = runE N.length fe)
  (hbind : ∀ (cl : List (Str × Addr)) (pm cd ct : Value) (us : List Value), us.length = ps.length → bindArgs (PySem.W.kla_fn "<lambda>" q params body scope cl pm cd ct) ⟨us, []⟩ = pure (ps.zip us))
  (hb : ∀ (base : Heap) (f c' : Addr) (cl : List (Str × Addr)) (G : Gh) (A : Around) (outer : List Env) (s : Shared) (H : Hp) (E : XK), Room kl (A.deeper (PySem.W.envX q scope s.heap.objs.size f (.ref c') cl)) → PD (cxC CX0 X.prog X.w X.K X.mg base N q scope f (.ref c') cl A outer s H E).nox G frb body fe)
  (hdef : defaultsOf params X.env = ([], []) := by rfl) (hdb : (x == ("__debug__" : Str)) = false := by decide)
  (he : starEach [e1, .Lambda params body scope lpos] X.env = (false, eval e1 X.env) :: starEach [.Lambda params body scope lpos] X.env := by rfl) (he2 : starEach [Expr.Lambda params body scope lpos] X.env = (false, eval (.Lambda params body scope lpos) X.env) :: starEach [] X.env := by rfl)
  (hpl : (backTo pos (starEach [Expr.Lambda params body scope lpos] X.env)).any (·.1) = false := by rfl) :
  PD X G fr (.Call (.Name x ppos) [e1, .Lambda params body scope lpos] [] pos) (dFnC F t cix f1) := by
 obtain ⟨t1, p1, q1⟩ := h1.drop
 obtain ⟨f, fd0, ps0, FN, hm, hk, hbd⟩ := hW
 refine ⟨_, Zg6 FN hfn hr hg hm hk hbd (ZaV p1 (ZaV (ZmR M hq B.hfree hdef) Zbs he2) he) hdb he hpl, fun σ Hf H ρ s d s' Q x1 x2 x3 x4 k => ?_⟩
 obtain ⟨d1, s1, a1, a2⟩ := Zai x4
 obtain ⟨cds, s2, b3, a4⟩ := Zai a2
 obtain ⟨a3, rfl⟩ := ZbA b3
 obtain ⟨hn, a5⟩ := ZaL a4
 obtain ⟨cc, s3, a6, a7⟩ := Zai a5
 obtain ⟨hn2, a8⟩ := ZaL a7
 obtain ⟨rfl, rfl⟩ := Zal a8
 obtain ⟨hn0, hn1⟩ := Bool.and_eq_true_iff.mp hn
 refine q1 σ Hf H ρ s d1 _ _ x1 x2 x3 a1 fun v1 Hf1 H1 g1 st1 rv1 => ?_
 obtain ⟨tp, hP, htr, hhit⟩ := TG.get _ H1 st1
 refine ⟨tp, hP, htr, fun cv h => let ⟨c', z1, z2, _⟩ := hhit lpos cv h; ⟨c', z1, z2⟩, fun p c' fd Hm ⟨cl, pm, ctv, co, efd⟩ sl hp => ?_⟩
 subst efd
 obtain ⟨stm, hc', ex⟩ := Zh2 TG st1 hP sl
 have gr := Zid (o := .ext (fnφ p (PySem.W.kla_fn "<lambda>" q params body scope cl pm (.ref c') ctv))) g1.fh ex hp
 have hcp : c' ≠ p := fun z => by rw [z, hp] at hc'; cases hc'
 obtain ⟨cvs, l1, l2, l3⟩ := Zfg (x2.ext g1.ff) a3
 intro base' cs
 have C : CloAt base' cl scope N ps cvs := B.cloAt cs co l1 l3
 refine ⟨cloG G t p c' (PySem.W.kla_fn "<lambda>" q params body scope cl pm (.ref c') ctv) q cvs, Hf1, [d1, .clo t cds], _, d, _, Zkk (X := X) (.all (hbind cl pm (.ref c') ctv)) (fnKE S C (fun s H st => st.2) fun A outer s H E hr => hb base' p c' cl _ A outer s H E hr) hT, rfl, gr.fh, ?_, ⟨Gh.grow stm hp, Zap, by rw [Zaj hcp]; exact hc'⟩, a6, fun v Hf3 H3 g3 st3 r3 fz => ?_⟩
 ·refine .cons (toC hn0 rv1) (.one (Rep.clo_iff.mpr ⟨cvs, ⟨rfl, rfl, rfl⟩, toCL hn1 l2⟩))
 ·have g3' : Gr G Hf1 _ Hf3 H3 := grC g3
  have gg := (g1.trans gr).trans g3'
  have rr : Rep G Hf3 d v := ofC hn2 r3
  refine k v Hf3 H3 gg st3.1 rr fun z => ?_
  exact Zax.old (g1.hh.trans gr.hh) rr.nofp (frC hn2 (fz z))
end
theorem boot_len : bootBuiltins "len" = some (.builtin "len") := by decide +kernel
theorem boot_isinstance : bootBuiltins "isinstance" = some (.builtin "isinstance") := by decide +kernel
theorem boot_all : bootBuiltins "all" = some (.builtin "all") := by decide +kernel
theorem boot_max : bootBuiltins "max" = some (.builtin "max") := by decide +kernel
theorem boot_min : bootBuiltins "min" = some (.builtin "min") := by decide +kernel
theorem boot_sorted : bootBuiltins "sorted" = some (.builtin "sorted") := by decide +kernel
theorem boot_tuple : bootBuiltins "tuple" = some (.type "tuple") := by decide +kernel
theorem boot_list : bootBuiltins "list" = some (.type "list") := by decide +kernel
theorem boot_int : bootBuiltins "int" = some (.type "int") := by decide +kernel
theorem boot_bool : bootBuiltins "bool" = some (.type "bool") := by decide +kernel
theorem boot_str : bootBuiltins "str" = some (.type "str") := by decide +kernel
theorem boot_dict : bootBuiltins "dict" = some (.type "dict") := by decide +kernel
noncomputable abbrev AnyG : Gh → Prop := fun _ => True
noncomputable def ZlF (G : Gh) (ob own own' : List Nat) (fr : Bool) (g : Rho → M Out) : TS := fun E σ H => ∃ kn Hf0 H0 ρ s out s', J G own kn Hf0 H0 σ H ρ ∧ G.st s H ∧ g ρ s = some (out, s') ∧ Post G ob own' kn Hf0 H0 fr out s' E
end TF
namespace TF
open PySem L2
noncomputable def Ok {α : Type} (m : M α) (s : Pn) (Q : α → Pn → Prop) : Prop := ∃ a s', m s = some (a, s') ∧ Q a s'
theorem Ok.bind {α β : Type} {m : M α} {k : α → M β} {s : Pn} {Q : β → Pn → Prop} (h : Ok m s fun a s1 => Ok (k a) s1 Q) : Ok (Zao m k) s Q := by
 obtain ⟨a, s1, e, b, s2, e2, q⟩ := h
 exact ⟨b, s2, by unfold Zao; rw [e]; exact e2, q⟩
theorem Ok.ret {α : Type} {a : α} {s : Pn} {Q : α → Pn → Prop} (h : Q a s) : Ok (mret a) s Q := ⟨a, s, rfl, h⟩
theorem Ok.eq {α : Type} {m : M α} {s s' : Pn} {a : α} {Q : α → Pn → Prop} (e : m s = some (a, s')) (h : Q a s') : Ok m s Q := ⟨a, s', e, h⟩
theorem Ok.mono {α : Type} {m : M α} {s : Pn} {Q Q' : α → Pn → Prop} (h : Ok m s Q) (k : ∀ a s', Q a s' → Q' a s') : Ok m s Q' := let ⟨a, s', e, q⟩ := h; ⟨a, s', e, k a s' q⟩
theorem Ok.of {α : Type} {o : Option α} {a : α} {s : Pn} {Q : α → Pn → Prop} (e : o = some a) (h : Q a s) : Ok (mOf o) s Q := ⟨a, s, by unfold mOf; rw [e], h⟩
theorem Ok.ite {α : Type} {c : Prop} [Decidable c] {m : M α} {s : Pn} {Q : α → Pn → Prop} (hc : c) (h : Ok m s Q) : Ok (if c then m else Zaz) s Q := by rw [if_pos hc]; exact h
section
variable {ρ : Rho} {s : Pn} {Q : Out → Pn → Prop} {f : Rho → M D} {g1 g2 : Rho → M Out}
theorem Ok.seq (h : Ok (g1 ρ) s fun o s1 => match o with | .nx ρ' => Ok (g2 ρ') s1 Q | .rt d => Q (.rt d) s1 | .bk ρ' => Q (.bk ρ') s1 | .ct ρ' => Q (.ct ρ') s1) : Ok (sSeq g1 g2 ρ) s Q := by
 refine Ok.bind (h.mono fun o s1 q => ?_)
 cases o with
 | nx ρ' => exact q
 | rt d => exact .ret q
 | bk ρ' => exact .ret q
 | ct ρ' => exact .ret q
theorem Ok.next (h : Q (.nx ρ) s) : Ok (Zas ρ) s Q := .ret h
theorem Ok.sset {i : Nat} (h : Ok (f ρ) s fun d s1 => Q (.nx (ρ.set i (some d))) s1) : Ok (sSet i f ρ) s Q := .bind (h.mono fun _ _ q => .ret q)
theorem Ok.sown {i : Nat} (h : Ok (f ρ) s fun d s1 => Zew d = true ∧ Q (.nx (ρ.set i (some d))) s1) : Ok (sOwn i f ρ) s Q := .bind (h.mono fun _ _ q => .ite q.1 (.ret q.2))
theorem Ok.sret (h : Ok (f ρ) s fun d s1 => Q (.rt d) s1) : Ok (sRet f ρ) s Q := .bind (h.mono fun _ _ q => .ret q)
theorem Ok.sif {c : Rho → M Bool} (h : Ok (c ρ) s fun b s1 => if b = true then Ok (g1 ρ) s1 Q else Ok (g2 ρ) s1 Q) : Ok (sIf c g1 g2 ρ) s Q := by
 refine .bind (h.mono fun b s1 q => ?_)
 cases b with
 | true => simpa using q
 | false => simpa using q
theorem Ok.sapp {i : Nat} {ds : List D} (hi : (ρ[i]?).bind id = some (.lst ds)) (hl : ds.length < sizeLine) (h : Ok (f ρ) s fun d s1 => Q (.nx (ρ.set i (some (.lst (ds ++ [d]))))) s1) : Ok (sApp i f ρ) s Q := by
 refine .bind (h.mono fun d s1 q => ?_)
 simp only [hi]
 exact .ite hl (.ret q)
theorem Ok.sext {i : Nat} {ds : List D} (hi : (ρ[i]?).bind id = some (.lst ds)) (h : Ok (f ρ) s fun d s1 => ∃ es, d = .lst es ∧ ds.length + es.length ≤ sizeLine ∧ Q (.nx (ρ.set i (some (.lst (ds ++ es))))) s1) : Ok (sExt i f ρ) s Q := by
 refine .bind (h.mono fun d s1 q => ?_)
 obtain ⟨es, rfl, hl, q⟩ := q
 simp only [hi]
 exact .ite hl (.ret q)
theorem Ok.spar {i j : Nat} {fs : Rho → M (List D)} (h : Ok (fs ρ) s fun ds s1 => ∃ a b, ds = [a, b] ∧ Zbm a = true ∧ Zbm b = true ∧ Q (.nx ((ρ.set i (some a)).set j (some b))) s1) : Ok (sPar i j fs ρ) s Q := by
 refine .bind (h.mono fun d s1 q => ?_)
 obtain ⟨a, b, rfl, n1, n2, q⟩ := q
 exact .ite (by simp [n1, n2]) (.ret q)
theorem Ok.loop {τ : D → Rho → Option Rho} {body : Rho → M Out} (I : Nat → Rho → Pn → Prop) : ∀ (ds : List D) (k : Nat) (ρ : Rho) (s : Pn), I k ρ s →
  (∀ i d ρ s, ds[i]? = some d → I (k + i) ρ s → ∃ ρ1, τ d ρ = some ρ1 ∧ Ok (body ρ1) s fun o s' => ∃ ρ', o = .nx ρ' ∧ I (k + i + 1) ρ' s') → Ok (mFor τ body ds ρ) s fun o s' => ∃ ρ', o = .nx ρ' ∧ I (k + ds.length) ρ' s'
 | [], k, ρ, s, h0, _ => .ret ⟨ρ, rfl, h0⟩
 | d :: ds, k, ρ, s, h0, h => by
  obtain ⟨ρ1, e1, ok⟩ := h 0 d ρ s rfl h0
  refine Ok.bind (.of e1 (.bind (ok.mono fun o s' q => ?_)))
  obtain ⟨ρ', rfl, q⟩ := q
  refine (Ok.loop I ds (k + 1) ρ' s' q fun i d' ρ2 s2 e2 q2 => ?_).mono fun o s2 q2 => ?_
  ·have := h (i + 1) d' ρ2 s2 (by simpa using e2) (by rw [show k + (i + 1) = k + 1 + i by omega]; exact q2)
   rw [show k + (i + 1) + 1 = k + 1 + i + 1 by omega] at this
   exact this
  ·rw [show k + (d :: ds).length = k + 1 + ds.length by simp; omega]
   exact q2
theorem Ok.sfor {fi : Rho → M (List D)} {τ : D → Rho → Option Rho} {body : Rho → M Out} (I : Nat → Rho → Pn → Prop) (h : Ok (fi ρ) s fun ds s1 => I 0 ρ s1 ∧ (∀ i d ρ s, ds[i]? = some d → I i ρ s → ∃ ρ1, τ d ρ = some ρ1 ∧ Ok (body ρ1) s fun o s' => ∃ ρ', o = .nx ρ' ∧ I (i + 1) ρ' s') ∧
  ∀ ρ' s', I ds.length ρ' s' → Q (.nx ρ') s') : Ok (sFor fi τ body ρ) s Q := by
 refine .bind (h.mono fun ds s1 q => ?_)
 obtain ⟨q0, q1, q2⟩ := q
 refine (Ok.loop I ds 0 ρ s1 q0 fun i d ρ s e => ?_).mono fun o s' q => ?_
 ·rw [Nat.zero_add]; exact q1 i d ρ s e
 ·obtain ⟨ρ', rfl, q⟩ := q
  rw [Nat.zero_add] at q
  exact q2 ρ' s' q
end
section
variable {ρ ρ' : Rho} {s s1 s2 : Pn} {f f2 : Rho → M D} {g1 g2 : Rho → M Out} {d e c : D} {r : Option (Out × Pn)}
theorem Zbl {n k : Nat} {g : Rho → M Out} {ds : List D} (hl : ds.length = k) (h : g (ds.map some ++ List.replicate (n - k) none) s = some (.rt d, s1)) : runB n k g ds s = some (d, s1) := by
 unfold runB
 rw [if_pos hl]
 unfold Zao
 rw [h]
 rfl
theorem ZbU (h : f ρ s = some (d, s1)) : sRet f ρ s = some (.rt d, s1) := by unfold sRet Zao; rw [h]; rfl
theorem ZbF (h : g1 ρ s = some (.rt d, s1)) : sSeq g1 g2 ρ s = some (.rt d, s1) := by unfold sSeq Zao; rw [h]; rfl
theorem Za7 (h : g1 ρ s = some (.nx ρ', s1)) (h2 : g2 ρ' s1 = r) : sSeq g1 g2 ρ s = r := by unfold sSeq Zao; rw [h]; exact h2
theorem ZeG {i : Nat} (h : f ρ s = some (d, s1)) : sSet i f ρ s = some (.nx (ρ.set i (some d)), s1) := by unfold sSet Zao; rw [h]; rfl
theorem Zar {g : D → D → Option D} (h1 : f ρ s = some (d, s1)) (h2 : f2 ρ s1 = some (e, s2)) (h : g d e = some c) : dOp g f f2 ρ s = some (c, s2) := by
 unfold dOp Zao; rw [h1]; simp only; rw [h2]; simp only; unfold mOf; rw [h]
theorem Zau {g : List D → Option D} {fs : Rho → M (List D)} {ds : List D} (h1 : fs ρ s = some (ds, s1)) (h : g ds = some c) : Zaw g fs ρ s = some (c, s1) := by
 unfold Zaw Zao; rw [h1]; simp only; unfold mOf; rw [h]
theorem ZbD {F : List D → M D} {fs : Rho → M (List D)} {ds : List D} {q : Option (D × Pn)} (h1 : fs ρ s = some (ds, s1)) (h : F ds s1 = q) : dFn F fs ρ s = q := by
 unfold dFn Zao; rw [h1]; exact h
theorem Zac {fs : Rho → M (List D)} {ds : List D} (h1 : f ρ s = some (d, s1)) (h2 : fs ρ s1 = some (ds, s2)) : Zab f fs ρ s = some (d :: ds, s2) := by
 unfold Zab Zao; rw [h1]; simp only; rw [h2]; rfl
theorem Zm8 : dNil ρ s = some ([], s) := rfl
theorem Zbg {fs : Rho → M (List D)} {ds : List D} (h1 : fs ρ s = some (ds, s1)) (hl : ds.length ≤ sizeLine) : dTup fs ρ s = some (.tup ds, s1) := by
 unfold dTup Zao; rw [h1]; simp only; rw [if_pos hl]; rfl
theorem Zhh {fs : Rho → M (List D)} {ds : List D} (h1 : fs ρ s = some (ds, s1)) (hl : ds.length ≤ sizeLine) : dLst fs ρ s = some (.lst ds, s1) := by
 unfold dLst Zao; rw [h1]; simp only; rw [if_pos hl]; rfl
theorem ZaX {b : Bool} (h : f ρ s = some (.bl b, s1)) : asB f ρ s = some (b, s1) := by unfold asB Zao; rw [h]; rfl
theorem Zmd {fb : Rho → M Bool} {b : Bool} (h : fb ρ s = some (b, s1)) : bNot fb ρ s = some (!b, s1) := by unfold bNot Zao; rw [h]; rfl
end
theorem Zgu {τ : D → Rho → Option Rho} {ft : Rho → M Bool} {fe : Rho → M D} {ρ : Rho} {s : Pn} (r : D → Rho) (b : D → Bool) (c : D → D) : ∀ (ds : List D), (∀ d ∈ ds, τ d ρ = some (r d) ∧ ft (r d) s = some (b d, s) ∧ (b d = true → fe (r d) s = some (c d, s))) →
  Zdq τ ft fe ρ ds s = some ((ds.filter b).map c, s)
 | [], _ => rfl
 | d :: ds, h => by
  obtain ⟨h1, h2, h3⟩ := h d (by simp)
  have ih := Zgu r b c ds fun d' m => h d' (by simp [m])
  unfold Zdq
  simp only [Zao, mOf, h1, h2]
  cases hb : b d with
  | true => simp [Zao, h3 hb, ih, hb, mret]
  | false => simp [ih, hb]
end TF
namespace TP
open PySem L2 TF
noncomputable def Zi1 : Rho → M Out := (sSeq (sOwn 1 (dLst dNil))
 (sSeq (sFor (Za3 (Zaw dLen (Zab (dVar 0) dNil))) (gOne 2)
 (sSeq (sFor (ZdI (dOp dAdd (dVar 2) (dC (.int 1))) (Zaw dLen (Zab (dVar 0) dNil))) (gOne 3)
 (sSeq (sApp 1 (fun ρ => (dTup (Zab (dOp dIx (dVar 0) (dVar 2)) (Zab (dOp dIx (dVar 0) (dVar 3)) dNil))) (hide [1] ρ)))
 Zas))
 Zas))
 (sSeq (sRet (dVar 1))
 Zas)))
noncomputable def Zcv : List D → M D := runB 4 1 Zi1
noncomputable def ZfG : Rho → M Out := (sSeq (sRet (dOp dIn (dTup (Zab (Zaw Zdt (Zab (dVar 1) (Zab (dVar 2) dNil))) (Zab (Zaw Zi7 (Zab (dVar 1) (Zab (dVar 2) dNil))) dNil))) (dVar 0)))
 Zas)
noncomputable def Zbc : List D → M D := runB 3 3 ZfG
noncomputable def ZgG : Rho → M Out := (sSeq (sRet (Zaw ZdM (Zab (Za9 [none] (Zcs (dOp dIx (dVar 0) (dC (.int 1)))) (gOne 0) ZaW (dTup (Zab (dVar 0) (Zab (dC (.bl true)) dNil)))) dNil)))
 Zas)
noncomputable def Za6 : List D → M D := runB 1 1 ZgG
end TP
namespace TP
open PySem L2 TF
local macro_rules | `(tactic| walk_at "ev") => `(tactic| simp [runB, sSeq, sRet, sSet, Zas, sIf, asB, dOp, Zaw, Zab, dNil, dTup, dLst, dVar, dC, dFn, Zao, mret, mOf, dAdd, dSub, dI, hide, ZbC, vOr, vAnd, vNot, bAnd, bOr, bNot])
noncomputable def Zah (p : Nat × Nat) : D := .tup [.int p.1, .int p.2]
noncomputable def webD (n : Nat) (ties : List (Nat × Nat)) : D := .tup [.int n, .tup (ties.map Zah)]
noncomputable def tied (ties : List (Nat × Nat)) (a b : Nat) : Bool := decide ((min a b, max a b) ∈ ties)
theorem Ze1 : ∀ ties : List (Nat × Nat), ZaC (ties.map Zah) = true
 | [] => by simp [ZaC]
 | t :: ts => by simp [ZaC, Zah, Zag, Ze1 ts]
theorem ZfJ : ∀ ties : List (Nat × Nat), deps (ties.map Zah) ≤ 1
 | [] => by simp [deps]
 | t :: ts => by
  have := ZfJ ts
  simp only [List.map_cons, deps, Zah, dep]
  omega
theorem Zm9 (a b : Nat) : (if (b : Int) < a then (b : Int) else a) = ((min a b : Nat) : Int) := by split <;> omega
theorem Zcu {α : Type} (x : α) (xs : List α) : atI (x :: xs) 0 = some x := Zb6 (j := 0) rfl
theorem Zdu {α : Type} (x y : α) (xs : List α) : atI (x :: y :: xs) 1 = some y := Zb6 (j := 1) rfl
theorem two_le : 2 ≤ sizeLine := by decide
theorem ZiR (a b : Nat) : D.tup [.int (if b < a then (b : Int) else a), .int (if a < b then (b : Int) else a)] = Zah (min a b, max a b) := by
 unfold Zah
 congr 2
 ·congr 1; split <;> omega
 ·congr 2; split <;> omega
theorem Zb5 {src : List (Option Nat)} {fi : Rho → M (List D)} {τ : D → Rho → Option Rho} {ft : Rho → M Bool} {fe : Rho → M D} {ρ : Rho} {s : Pn} {ds : List D} (r : D → Rho) (b : D → Bool) (c : D → D) (hi : fi ρ s = some (ds, s)) (hl : ds.length ≤ sizeLine)
  (h : ∀ d ∈ ds, τ d (ZbC src ρ) = some (r d) ∧ ft (r d) s = some (b d, s) ∧ (b d = true → fe (r d) s = some (c d, s))) : Za9 src fi τ ft fe ρ s = some (.lst ((ds.filter b).map c), s) := by
 unfold Za9
 simp only [Zao, hi, hl, if_true, Zgu r b c ds h, mret]
theorem Zju (n : Nat) (h : n ≤ 100000) : -(2 ^ 62) ≤ (n : Int) ∧ (n : Int) < 2 ^ 62 := by omega
theorem ZaF : sizeLine = 16777216 := by decide
theorem Zbj {f : Rho → M D} {ρ : Rho} {s : Pn} {n : Nat} (h : f ρ s = some (.int n, s)) (hn : n ≤ 100000) : Za3 f ρ s = some (ZaD 0 n, s) := by
 unfold Za3
 simp only [Zao, h]
 show (if -(2 ^ 62) ≤ (n : Int) ∧ (n : Int) < 2 ^ 62 then mret (ZaD 0 (n : Int).toNat) else Zaz) s = _
 rw [if_pos (Zju n hn)]
 rfl
theorem Zgt {f g : Rho → M D} {ρ : Rho} {s : Pn} {a n : Nat} (h : f ρ s = some (.int a, s)) (h2 : g ρ s = some (.int n, s)) (ha : a ≤ 100000) (hn : n ≤ 100000) : ZdI f g ρ s = some (ZaD a (n - a), s) := by
 unfold ZdI
 simp only [Zao, h, h2]
 show (if -(2 ^ 62) ≤ (a : Int) ∧ (a : Int) < 2 ^ 62 ∧ -(2 ^ 62) ≤ (n : Int) ∧ (n : Int) < 2 ^ 62 then mret (ZaD a ((n : Int) - a).toNat) else Zaz) s = _
 rw [if_pos (by omega), show ((n : Int) - (a : Int)).toNat = n - a by omega]
 rfl
theorem ZaJ (lo : Int) (n : Nat) : (ZaD lo n).length = n := by simp [ZaD]
theorem Zc5 {lo n i : Nat} {d : D} (h : (ZaD lo n)[i]? = some d) : i < n ∧ d = .int ((lo + i : Nat) : Int) := by
 have hi : i < n := by
  have := (List.getElem?_eq_some_iff.mp h).1
  simpa [ZaD] using this
 refine ⟨hi, ?_⟩
 unfold ZaD at h
 rw [List.getElem?_map, List.getElem?_range hi] at h
 simp at h
 rw [← h]; simp
theorem ZdY {n : Nat} {d : D} (h : d ∈ ZaD 0 n) : ∃ i : Nat, i < n ∧ d = .int (i : Int) := by
 unfold ZaD at h
 obtain ⟨i, hi, e⟩ := List.mem_map.mp h
 exact ⟨i, by simpa using hi, by rw [← e]; simp⟩
theorem ZdL (n : Nat) : ZaD 0 n = (List.range n).map fun (i : Nat) => D.int (i : Int) := by
 unfold ZaD
 simp
noncomputable def nat0 : D → Nat
 | .int i => i.toNat
 | _ => 0
end TP
namespace TP
open PySem L2 TF
theorem Ok.toEq {α : Type} {m : M α} {s s' : Pn} {a : α} (h : Ok m s fun b t => b = a ∧ t = s') : m s = some (a, s') := by
 obtain ⟨b, t, e, rfl, rfl⟩ := h
 exact e
noncomputable def SeqD (row : D) (ds : List D) : Prop := row = .lst ds ∨ row = .tup ds
theorem SeqD.len {row : D} {ds : List D} (h : SeqD row ds) : dLen [row] = some (.int ds.length) := by
 rcases h with rfl | rfl <;> rfl
theorem SeqD.ix {row : D} {ds : List D} (h : SeqD row ds) {i : Nat} (hi : i < ds.length) : dIx row (.int (i : Int)) = some (ds.getD i .non) := by
 have e : ds[i]? = some (ds.getD i .non) := by simp [List.getD, hi]
 rcases h with rfl | rfl <;> exact Zb6 e
noncomputable def preP (n i : Nat) : List (Nat × Nat) := (List.range i).flatMap fun a => (List.range (n - (a + 1))).map fun k => (a, a + 1 + k)
noncomputable def allP (n : Nat) : List (Nat × Nat) := preP n n
theorem ZcR (n i : Nat) : preP n (i + 1) = preP n i ++ (List.range (n - (i + 1))).map fun k => (i, i + 1 + k) := by
 unfold preP
 rw [List.range_succ, List.flatMap_append]
 simp
theorem Zdb (n : Nat) : ∀ i, (preP n i).length ≤ i * n
 | 0 => by simp [preP]
 | i + 1 => by
  have := Zdb n i
  rw [ZcR, List.length_append, List.length_map, List.length_range]
  have e : (i + 1) * n = i * n + n := Nat.succ_mul i n
  omega
noncomputable def prD (ds : List D) (p : Nat × Nat) : D := .tup [ds.getD p.1 .non, ds.getD p.2 .non]
theorem Zir (n i j : Nat) (hn : n ≤ 1000) (hi : i < n) (hj : j ≤ n) : (preP n i).length + j < sizeLine := by
 have h1 := Zdb n i
 have h2 : i * n ≤ 1000 * 1000 := Nat.mul_le_mul (by omega) hn
 rw [ZaF]; omega
theorem ZhL (row : D) (ds : List D) (h : SeqD row ds) (hn : ds.length ≤ 1000) (s : Pn) : Zcv [row] s = some (.lst ((allP ds.length).map (prD ds)), s) := by
 refine Zbl rfl (Ok.toEq ?_)
 refine Ok.seq (.sown (.eq (a := .lst []) rfl ⟨rfl, ?_⟩))
 show Ok _ s _
 refine Ok.seq (.sfor (fun i ρ s' => s = s' ∧ ∃ o2 o3, ρ = [some row, some (.lst ((preP ds.length i).map (prD ds))), o2, o3]) (.eq (Zbj (Zau (Zac rfl rfl) h.len) (by omega)) ⟨⟨rfl, none, none, rfl⟩, fun i d ρ s' hd hI => ?_, fun ρ' s' hI => ?_⟩))
 ·obtain ⟨rfl, o2, o3, rfl⟩ := hI
  obtain ⟨hi, rfl⟩ := Zc5 hd
  refine ⟨_, rfl, ?_⟩
  refine Ok.seq (.sfor (fun j ρ s' => s = s' ∧ ∃ o3, ρ = [some row, some (.lst ((preP ds.length i).map (prD ds) ++ (List.range j).map fun k => prD ds (i, i + 1 + k))), some (.int ((0 + i : Nat) : Int)), o3]) (.eq (Zgt (a := i + 1) (Zar (d := .int ((0 + i : Nat) : Int)) (e := .int 1) (c := .int ((i + 1 : Nat) : Int)) rfl rfl (by simp [dAdd])) (Zau (Zac rfl rfl) h.len) (by omega) (by omega)) ⟨⟨rfl, o3, by simp⟩, fun j d ρ s' hd hJ => ?_, fun ρ' s' hJ => ?_⟩))
  ·obtain ⟨rfl, o3, rfl⟩ := hJ
   obtain ⟨hj, rfl⟩ := Zc5 hd
   refine ⟨_, rfl, ?_⟩
   refine Ok.seq (.sapp (ds := (preP ds.length i).map (prD ds) ++ (List.range j).map fun k => prD ds (i, i + 1 + k)) rfl (by simp only [List.length_append, List.length_map, List.length_range]; exact Zir _ _ _ hn hi (by omega)) (.eq (Zbg (Zac (Zar (d := row) (e := .int ((0 + i : Nat) : Int)) rfl rfl (by rw [Nat.zero_add]; exact h.ix hi)) (Zac (Zar (d := row) (e := .int ((i + 1 + j : Nat) : Int)) rfl rfl (h.ix (by omega))) rfl)) two_le) ?_))
   refine Ok.next ⟨_, rfl, rfl, some (.int ((i + 1 + j : Nat) : Int)), ?_⟩
   rw [List.range_succ, List.map_append, ← List.append_assoc]
   rfl
  ·obtain ⟨rfl, o3', rfl⟩ := hJ
   refine Ok.next ⟨_, rfl, rfl, some (.int ((0 + i : Nat) : Int)), o3', ?_⟩
   rw [ZcR, List.map_append, List.map_map, ZaJ]
   rfl
 ·obtain ⟨rfl, o2, o3, rfl⟩ := hI
  refine Ok.seq (.sret (.eq rfl ⟨?_, rfl⟩))
  rw [ZaJ]; rfl
end TP
namespace TP
open PySem L2 TF
noncomputable def keyP (p : Nat × Nat) : List Key := [.inl (p.1 : Int), .inl (p.2 : Int)]
theorem Zk4 {p q : Nat × Nat} (h : keyP p = keyP q) : p = q := by
 simp only [keyP, List.cons.injEq, Sum.inl.injEq, and_true] at h
 obtain ⟨a, b⟩ := p
 obtain ⟨c, d⟩ := q
 simp only at h
 have h1 : a = c := by omega
 have h2 : b = d := by omega
 rw [h1, h2]
noncomputable def kvT (acc : List (List Key × V)) (ties : List (Nat × Nat)) : List (List Key × V) := ties.foldl (fun acc p => putK acc (keyP p) (.bl true)) acc
theorem Zl8 (p : Nat × Nat) : ZgN (.tup [Zah p, .bl true]) = some (keyP p, .bl true) := rfl
theorem Zei : ∀ (ties : List (Nat × Nat)) (acc : List (List Key × V)), Zcn acc (ties.map fun p => D.tup [Zah p, .bl true]) = some (kvT acc ties)
 | [], acc => rfl
 | t :: ts, acc => by
  rw [List.map_cons]
  unfold Zcn
  rw [Zl8]
  exact Zei ts _
theorem Zhl (p : Nat × Nat) : ∀ (ties : List (Nat × Nat)) (acc : List (List Key × V)), (valV (kvT acc ties) (keyP p)).isSome = (decide (p ∈ ties) || (valV acc (keyP p)).isSome)
 | [], acc => by simp [kvT]
 | t :: ts, acc => by
  have ih := Zhl p ts (putK acc (keyP t) (.bl true))
  have e : kvT acc (t :: ts) = kvT (putK acc (keyP t) (.bl true)) ts := rfl
  rw [e, ih, ZkD]
  by_cases h : p = t
  ·subst h; simp
  ·have hk : ¬ keyP p = keyP t := fun z => h (Zk4 z)
   rw [if_neg hk]
   simp [h]
theorem Zer (n : Nat) (ties : List (Nat × Nat)) (s : Pn) (hl : ties.length ≤ 100000) : Za6 [webD n ties] s = some (.dt (kvT [] ties), s) := by
 have hc : Za9 [none] (Zcs (dOp dIx (dVar 0) (dC (.int 1)))) (gOne 0) ZaW (dTup (Zab (dVar 0) (Zab (dC (.bl true)) dNil))) [some (webD n ties)] s = some (.lst ((ties.map Zah).map fun d => D.tup [d, .bl true]), s) := by
  have q := Zb5 (src := [none]) (fi := Zcs (dOp dIx (dVar 0) (dC (.int 1)))) (τ := gOne 0) (ft := ZaW) (fe := dTup (Zab (dVar 0) (Zab (dC (.bl true)) dNil))) (ρ := [some (webD n ties)]) (s := s) (ds := ties.map Zah) (fun d => [some d]) (fun _ => true) (fun d => D.tup [d, .bl true])
   (by unfold Zcs Zao; rw [Zar (d := webD n ties) (e := .int 1) (c := .tup (ties.map Zah)) rfl rfl (by unfold webD; exact Zdu _ _ _)]; rfl) (by rw [List.length_map, ZaF]; omega)
   (fun d hd => ⟨rfl, rfl, fun _ => Zbg (Zac rfl (Zac rfl rfl)) two_le⟩)
  have q2 : (ties.map Zah).filter (fun _ => true) = ties.map Zah := List.filter_eq_self.mpr (by simp)
  rw [q, q2]
 refine Zbl rfl (ZbF (ZbU (Zau (Zac hc rfl) ?_)))
 rw [List.map_map]
 show (if ((ties.map ((fun d => D.tup [d, .bl true]) ∘ Zah)).length ≤ sizeLine) then (Zcn [] _).map D.dt else none) = _
 rw [if_pos (by rw [List.length_map, ZaF]; omega)]
 have e := Zei ties []
 show (Zcn [] (ties.map fun p => D.tup [Zah p, .bl true])).map D.dt = _
 rw [e]; rfl
theorem ZdU {n i : Nat} {p : Nat × Nat} (h : p ∈ preP n i) : p.1 < i ∧ p.1 < p.2 ∧ p.2 < n := by
 unfold preP at h
 obtain ⟨a, ha, h⟩ := List.mem_flatMap.mp h
 obtain ⟨k, hk, rfl⟩ := List.mem_map.mp h
 simp at ha hk
 exact ⟨ha, by simp; omega, by simp; omega⟩
theorem ZjE {n : Nat} {p : Nat × Nat} (h : p ∈ allP n) : prD (ZaD 0 n) p = Zah p := by
 obtain ⟨h1, h2, h3⟩ := ZdU h
 have g : ∀ i, i < n → (ZaD 0 n).getD i .non = .int (i : Int) := fun i hi => by
  rw [ZdL]
  simp [List.getD, hi]
 unfold prD Zah
 rw [g _ h1, g _ h3]
theorem ZhK {n : Nat} (s : Pn) (hn : n ≤ 1000) : Zcv [.lst (ZaD 0 n)] s = some (.lst ((allP n).map Zah), s) := by
 rw [ZhL _ _ (.inl rfl) (by rw [ZaJ]; exact hn) s, ZaJ]
 congr 3
 exact List.map_congr_left fun p hp => ZjE hp
theorem Zeu {f : Rho → M D} {ρ : Rho} {s : Pn} {n : Nat} (h : f ρ s = some (.int n, s)) (hn : n ≤ 1000) : ZcD f ρ s = some (.lst (ZaD 0 n), s) := by
 unfold ZcD Zao
 rw [h]
 show (if -(2 ^ 62) ≤ (n : Int) ∧ (n : Int) ≤ 2 ^ 24 then mret (D.lst (ZaD 0 (n : Int).toNat)) else Zaz) s = _
 rw [if_pos (by omega)]
 rfl
theorem ZhF (n : Nat) (hn : n ≤ 1000) : (allP n).length ≤ 1000000 := by
 have h1 := Zdb n n
 have h2 : n * n ≤ 1000 * 1000 := Nat.mul_le_mul hn hn
 unfold allP
 omega
theorem Zhr (l : List (Nat × Nat)) (b : D → Bool) (q : Nat × Nat → Bool) (h : ∀ p, b (Zah p) = q p) : ((l.map Zah).filter b).map (fun d => d) = (l.filter q).map Zah := by
 rw [List.filter_map, List.map_id']
 congr 1
 exact List.filter_congr fun p _ => h p
noncomputable def nat2 : D → Nat × Nat
 | .tup [a, b] => (nat0 a, nat0 b)
 | _ => (0, 0)
theorem ZjV (p : Nat × Nat) : nat2 (Zah p) = p := rfl
end TP
namespace TF
open PySem L2
theorem Zim {n : Nat} : ∀ (l : List D), (∀ d ∈ l, dep d ≤ n) → deps l ≤ n
 | [], _ => by simp [deps]
 | d :: l, h => by
  have := h d (by simp)
  have := Zim l fun x m => h x (by simp [m])
  simp only [deps]; omega
theorem Ok.runB {n k : Nat} {g : Rho → M Out} {ds : List D} {s : Pn} {Q : D → Pn → Prop} (hl : ds.length = k) (h : Ok (g (ds.map some ++ List.replicate (n - k) none)) s fun o s' => match o with | .rt d => Q d s' | .nx _ => Q .non s' | _ => False) : Ok (runB n k g ds) s Q := by
 unfold TF.runB
 rw [if_pos hl]
 refine .bind (h.mono fun o s' q => ?_)
 cases o with
 | rt d => exact .ret q
 | nx ρ => exact .ret q
 | bk ρ => exact q.elim
 | ct ρ => exact q.elim
theorem Ok.fn {F : List D → M D} {fs : Rho → M (List D)} {ρ : Rho} {s s1 : Pn} {ds : List D} {Q : D → Pn → Prop} (h1 : fs ρ s = some (ds, s1)) (h : Ok (F ds) s1 Q) : Ok (dFn F fs ρ) s Q := by
 obtain ⟨a, s', e, q⟩ := h
 exact ⟨a, s', ZbD h1 e, q⟩
theorem Ok.op {g : D → D → Option D} {f f2 : Rho → M D} {ρ : Rho} {s : Pn} {Q : D → Pn → Prop} (h : Ok (f ρ) s fun d s1 => Ok (f2 ρ) s1 fun e s2 => ∃ c, g d e = some c ∧ Q c s2) : Ok (dOp g f f2 ρ) s Q :=
 .bind (h.mono fun d s1 q => .bind (q.mono fun e s2 q => let ⟨c, e1, q⟩ := q; .of e1 q))
theorem Ok.cons {f : Rho → M D} {fs : Rho → M (List D)} {ρ : Rho} {s : Pn} {Q : List D → Pn → Prop} (h : Ok (f ρ) s fun d s1 => Ok (fs ρ) s1 fun ds s2 => Q (d :: ds) s2) : Ok (Zab f fs ρ) s Q :=
 .bind (h.mono fun d s1 q => .bind (q.mono fun e s2 q => .ret q))
theorem Ok.nil {ρ : Rho} {s : Pn} {Q : List D → Pn → Prop} (h : Q [] s) : Ok (dNil ρ) s Q := .ret h
end TF
namespace TP
open PySem L2 TF
theorem Zfv (n : Nat) : ∀ i, (preP n i).Nodup
 | 0 => by simp [preP]
 | i + 1 => by
  rw [ZcR, List.nodup_append]
  refine ⟨Zfv n i, ?_, ?_⟩
  ·refine List.pairwise_map.mpr (List.Pairwise.imp ?_ List.nodup_range)
   intro a b h e
   have := congrArg Prod.snd e
   simp at this
   exact h this
  ·intro a ha b hb e
   have h1 := (ZdU ha).1
   obtain ⟨k, _, rfl⟩ := List.mem_map.mp hb
   rw [e] at h1
   simp at h1
theorem Zje (n : Nat) : (allP n).Nodup := Zfv n n
theorem Zde {n : Nat} {p : Nat × Nat} : p ∈ allP n ↔ p.1 < p.2 ∧ p.2 < n := by
 constructor
 ·intro h; exact (ZdU h).2
 ·intro ⟨h1, h2⟩
  unfold allP preP
  refine List.mem_flatMap.mpr ⟨p.1, by simp; omega, List.mem_map.mpr ⟨p.2 - (p.1 + 1), by simp; omega, ?_⟩⟩
  obtain ⟨a, b⟩ := p
  simp only at h1 h2 ⊢
  rw [show a + 1 + (b - (a + 1)) = b by omega]
theorem ZbO {n i : Nat} {d : D} (h : (ZaD 0 n)[i]? = some d) : i < n ∧ d = .int (i : Int) := by
 have := Zc5 (lo := 0) h
 rw [Nat.zero_add] at this
 exact this
noncomputable def Zb9 (n : Nat) (ties : List (Nat × Nat)) : Prop := ties.Sublist (allP n)
theorem Zb9.len {n : Nat} {ties : List (Nat × Nat)} (h : Zb9 n ties) (hn : n ≤ 24) : ties.length ≤ 576 := by
 have h1 := h.length_le
 have h2 := Zdb n n
 have h3 : n * n ≤ 24 * 24 := Nat.mul_le_mul hn hn
 unfold allP at h1
 omega
theorem Zb9.filter {n : Nat} (f : Nat × Nat → Bool) : Zb9 n ((allP n).filter f) := List.filter_sublist
theorem ZfQ {ties : List (Nat × Nat)} {a b : Nat} (h : a < b) : tied ties a b = decide ((a, b) ∈ ties) := by
 unfold tied
 rw [show min a b = a by omega, show max a b = b by omega]
theorem Zms (n : Nat) (ties : List (Nat × Nat)) : dep (webD n ties) ≤ 3 := by
 have := ZfJ ties
 simp only [webD, dep, deps]
 omega
theorem web0 {n : Nat} {ties : List (Nat × Nat)} : dIx (webD n ties) (.int 0) = some (.int n) := by unfold webD; exact Zcu _ _
theorem web1 {n : Nat} {ties : List (Nat × Nat)} : dIx (webD n ties) (.int 1) = some (.tup (ties.map Zah)) := by unfold webD; exact Zdu _ _ _
end TP
namespace TP
open PySem L2 TF
theorem ZlO {n i j : Nat} {l : List (Nat × Nat)} (h : l.Sublist (preP n i ++ (List.range j).map fun k => (i, i + 1 + k))) (hn : n ≤ 1000) (hi : i < n) (hj : j ≤ n) : (l.map Zah).length < sizeLine := by
 have h1 := h.length_le
 rw [List.length_append, List.length_map, List.length_range] at h1
 have h2 := Zir n i j hn hi hj
 rw [List.length_map]; omega
end TP
namespace HT
open PySem PySem.Spec PyProof.Rows
section
variable {prog : Program} {w : World} {A : Around} {E : Value → Shared → Prop} {s : Shared}
end
end HT
namespace TF
open PySem PySem.Spec PyProof.Rows L2
section
variable {X : Cx} {G : Gh}
theorem Cal.none {P : Program} {w : World} {K : PySem.W.Frag} {mg : Str → Option Value} {base : Heap} {k : Nat} {x : Str} {n : Nat} {fr : Bool} {GG : Gh → Prop} {f : Addr} {fd : FuncData} {ps : List Str} (hm : mg x = some (.ref f)) (hk : PySem.W.keepIn K (.ref f) = true) (hb : ZbR K fd ps []) :
  Cal P w K mg base k x n fr GG (fun _ => Zaz) := by
 refine ⟨f, fd, ps, ⟨fun vs H Q E h => ?_, fun A outer s H args us vs Q E _ _ _ _ h => ?_⟩, hm, hk, hb⟩
 ·obtain ⟨G, Hf, ds, s, d, s', _, _, _, _, _, h, _⟩ := h
  cases h
 ·obtain ⟨G, Hf, ds, s, d, s', _, _, _, _, _, h, _⟩ := h
  cases h
end
end TF
namespace TF
open PySem PySem.Spec PyProof.Rows L2 PySem.SeqAt
open AutoSeq1 (wpAny_loadPart')
section
variable {X : Cx} {G : Gh}
end
end TF
namespace TF
open PySem PySem.Spec PyProof.Rows L2
section
variable {X : Cx} {G : Gh}
theorem ZmT {i : Int} {j p pos} : PD X G true (.UnaryOp .USub (.Constant (.int i) j p) pos) (dC (.int (-i))) := by
 refine ⟨_, ZnB Zmv ZaR, fun σ Hf H ρ s d s' Q e1 e2 e3 e4 k => ?_⟩
 obtain ⟨rfl, rfl⟩ := Zal e4
 exact ⟨i, rfl, k _ Hf H (.refl e1) e3 (Rep.int_iff.mpr rfl) fun _ => .scal fun z => z⟩
end
end TF
namespace TF
open PySem L2
section
variable {f g : Rho → M D} {ρ : Rho} {s s1 : Pn} {a b : Bool} {r : Option (D × Pn)}
theorem ZgU (h : f ρ s = some (.bl true, s1)) (h2 : g ρ s1 = r) : vAnd f g ρ s = r := by unfold vAnd Zao; rw [h]; exact h2
theorem ZhY (h : f ρ s = some (.bl a, s1)) : vNot f ρ s = some (.bl (!a), s1) := by unfold vNot Zao; rw [h]; rfl
end
section
variable {f g : Rho → M Bool} {ρ : Rho} {s s1 : Pn} {a b : Bool} {r : Option (Bool × Pn)}
theorem Zjb (h : f ρ s = some (false, s1)) (h2 : g ρ s1 = r) : bOr f g ρ s = r := by unfold bOr Zao; rw [h]; exact h2
end
section
variable {c : Rho → M Bool} {g1 g2 : Rho → M Out} {ρ : Rho} {s s1 : Pn} {r : Option (Out × Pn)}
theorem Zlu (h : c ρ s = some (true, s1)) (h2 : g1 ρ s1 = r) : sIf c g1 g2 ρ s = r := by unfold sIf Zao; rw [h]; exact h2
theorem Zcm (h : c ρ s = some (false, s1)) (h2 : g2 ρ s1 = r) : sIf c g1 g2 ρ s = r := by unfold sIf Zao; rw [h]; exact h2
end
section
variable {fa fb : Rho → M D} {f : D → Rho → M Bool} {g : D → D → Option D} {ρ : Rho} {s s1 s2 : Pn} {d e : D} {k : Bool} {r : Option (Bool × Pn)}
end
theorem eqi (a b : Int) : dEqO (.int a) (.int b) = some (.bl (a == b)) := by
 unfold dEqO
 rw [if_pos (by simp [okEq, Zag, dep])]
 simp [dEq]
theorem nei (a b : Int) : dNeO (.int a) (.int b) = some (.bl (!(a == b))) := by
 unfold dNeO
 rw [if_pos (by simp [okEq, Zag, dep])]
 simp [dEq]
theorem neb (a b : Bool) : dNeO (.bl a) (.bl b) = some (.bl (!(a == b))) := by
 unfold dNeO
 rw [if_pos (by simp [okEq, Zag, dep])]
 simp [dEq]
theorem Zh4 {ds : List D} {r : Nat} (h : r < ds.length) : ∃ d ∈ ds, dIx (.lst ds) (.int (r : Int)) = some d :=
 ⟨ds[r], List.getElem_mem h, Zb6 (List.getElem?_eq_getElem h)⟩
theorem ZlR {f : Rho → M D} {ρ : Rho} {s s1 : Pn} {ds : List D} (h : f ρ s = some (.tup ds, s1)) : Zcs f ρ s = some (ds, s1) := by unfold Zcs Zao; rw [h]; rfl
theorem Zdw {f : Rho → M D} {ρ : Rho} {s s1 : Pn} {ds : List D} (h : f ρ s = some (.lst ds, s1)) : Zcx f ρ s = some (ds, s1) := by unfold Zcx Zao; rw [h]; rfl
end TF
namespace TP
open PySem L2 TF
theorem ZbW {α : Type} (l : List α) : l.filter (fun _ => true) = l := List.filter_eq_self.mpr (by simp)
end TP
namespace TF
open PySem L2
section
variable {f : Rho → M D} {fs : Rho → M (List D)} {ρ : Rho} {s : Pn}
theorem Ok.fn' {F : List D → M D} {Q : D → Pn → Prop} (h : Ok (fs ρ) s fun ds s1 => Ok (F ds) s1 Q) : Ok (dFn F fs ρ) s Q := .bind h
end
theorem Zh0 {f g : Rho → M D} {ρ : Rho} {s : Pn} {x y : D} (h1 : f ρ s = some (x, s)) (h2 : g ρ s = some (y, s)) : dTup (Zab f (Zab g dNil)) ρ s = some (.tup [x, y], s) := Zbg (Zac h1 (Zac h2 rfl)) TP.two_le
noncomputable def LT (P : D → Prop) (m : Nat) (d : D) : Prop := ∃ L, d = .lst L ∧ L.length = m ∧ ∀ x ∈ L, P x
theorem LT.pick {P : D → Prop} {m r : Nat} {d : D} (h : LT P m d) (hr : r < m) : ∃ x, dIx d (.int (r : Int)) = some x ∧ P x := by
 obtain ⟨L, rfl, l1, p1⟩ := h
 obtain ⟨x, hx, e⟩ := Zh4 (ds := L) (r := r) (by omega)
 exact ⟨x, e, p1 x hx⟩
theorem LT.nil (P : D → Prop) : LT P 0 (.lst []) := ⟨[], rfl, rfl, by simp⟩
theorem LT.cons {P : D → Prop} {m : Nat} {x : D} {L : List D} (hx : P x) (h : LT P m (.lst L)) : LT P (m + 1) (.lst (x :: L)) := by
 obtain ⟨L', e, l1, p1⟩ := h
 cases e
 exact ⟨x :: L, rfl, by simp [l1], fun y hy => by
  rcases List.mem_cons.mp hy with h | h
  ·rw [h]; exact hx
  ·exact p1 y h⟩
end TF
namespace TF
open PySem PySem.Spec PyProof.Rows L2
noncomputable def Za4 (m t : Int) (wa : Addr) : List (Key × V) := [(.inr (Str.ofString "mixed"), .int m), (.inr (Str.ofString "turn"), .int t), (.inr (Str.ofString "wide"), .ref wa)]
theorem k_mt : ¬ ((Sum.inr (Str.ofString "mixed") : Key) = Sum.inr (Str.ofString "turn")) := by decide
theorem k_mw : ¬ ((Sum.inr (Str.ofString "mixed") : Key) = Sum.inr (Str.ofString "wide")) := by decide
theorem k_tw : ¬ ((Sum.inr (Str.ofString "turn") : Key) = Sum.inr (Str.ofString "wide")) := by decide
theorem ZnA (m t : Int) (wa : Addr) : valV (Za4 m t wa) (.inr (Str.ofString "mixed")) = some (.int m) := Zba rfl
theorem Znz (m t : Int) (wa : Addr) : valV (Za4 m t wa) (.inr (Str.ofString "turn")) = some (.int t) := (Zbb k_mt).trans (Zba rfl)
theorem Zny (m t : Int) (wa : Addr) : valV (Za4 m t wa) (.inr (Str.ofString "wide")) = some (.ref wa) := (Zbb k_mw).trans ((Zbb k_tw).trans (Zba rfl))
theorem Zl0 (m t t' : Int) (wa : Addr) : putK (Za4 m t wa) (.inr (Str.ofString "turn")) (.int t') = Za4 m t' wa := by
 have h2 : ¬ ((Sum.inr (Str.ofString "wide") : Key) = Sum.inr (Str.ofString "turn")) := fun z => k_tw z.symm
 unfold putK Za4
 rw [if_pos (by simp)]
 have h3 : ¬ (Str.ofString "mixed" = Str.ofString "turn") := by decide
 have h4 : ¬ (Str.ofString "wide" = Str.ofString "turn") := by decide
 simp [h3, h4]
noncomputable def stD (p wa : Addr) (s : Pn) (H : Hp) : Prop := ∃ m t, s.1 = [m, t] ∧ H p = some (.dK (Za4 m t wa)) ∧ H wa = some (.lst (s.2.map V.int)) ∧ p ≠ wa
noncomputable def penD (p wa : Addr) : Gh where
 fp := fun b => b = p ∨ b = wa
 rd := fun b => b = p ∨ b = wa
 pen := .ref p
 st := stD p wa
 mono := fun s H H' ⟨m, t, e0, e1, e2, ne⟩ k _ => ⟨m, t, e0, k p _ (.inl rfl) e1, k wa _ (.inr rfl) e2, ne⟩
 sub := fun b h => h
 dom := fun s H b ⟨m, t, e0, e1, e2, ne⟩ hb => by
  rcases hb with rfl | rfl
  ·exact ⟨_, e1⟩
  ·exact ⟨_, e2⟩
 ntp := fun s H b vs ⟨m, t, e0, e1, e2, ne⟩ hb z => by
  rcases hb with r | r
  ·rw [r, e1] at z; cases z
  ·rw [r, e2] at z; cases z
noncomputable def PenD : Gh → Prop := fun G => ∃ p wa, G = penD p wa
noncomputable def ZlE (k : Int) : List Int → List Int
 | c :: r => if c < k then r else c :: r
 | [] => []
noncomputable def ZgO (m t : Int) : Int :=
 let one := (m + 7919 * t * t) % 2147483629
 let two := (one * one + 40692 * t + 3) % 998244353
 (two * two + one) % 2147483587 / 16
noncomputable def ZcO (k m t : Int) (w : List Int) : D × Pn := match ZlE k w with
 | c :: r => (.int (c % k), ([m, t], (c / k) :: r))
 | [] => (.int (ZgO m (t + 1) % k), ([m, t + 1], []))
noncomputable def Zbe : List D → M D := fun ds s => match ds, s with
 | [.pen, .int k], ([m, t], w) => if 0 < k ∧ k < 1073741824 ∧ 0 ≤ t ∧ t < 2 ^ 60 then some (ZcO k m t w) else none
 | _, _ => none
theorem ZfI {ds : List D} {s s' : Pn} {d : D} (h : Zbe ds s = some (d, s')) : ∃ k m t w, ds = [.pen, .int k] ∧ s = ([m, t], w) ∧ 0 < k ∧ k < 1073741824 ∧ 0 ≤ t ∧ t < 2 ^ 60 ∧ ZcO k m t w = (d, s') := by
 unfold Zbe at h
 split at h
 ·split at h
  ·rename_i k m t w c
   exact ⟨k, m, t, w, rfl, rfl, c.1, c.2.1, c.2.2.1, c.2.2.2, Option.some.inj h⟩
  ·cases h
 ·cases h
noncomputable def okD (T : Nat) (s : Pn) : Prop := ∃ m t : Int, s.1 = [m, t] ∧ 0 ≤ t ∧ t ≤ T
theorem okD.mono {T T' : Nat} {s : Pn} (h : okD T s) (hT : T ≤ T') : okD T' s := by
 obtain ⟨m, t, e, h1, h2⟩ := h
 exact ⟨m, t, e, h1, by omega⟩
theorem Zil {T : Nat} {s : Pn} {k : Int} (ok : okD T s) (hT : T < 1000000000) (h1 : 0 < k) (h2 : k < 1073741824) : ∃ r s', Zbe [.pen, .int k] s = some (.int r, s') ∧ 0 ≤ r ∧ r < k ∧ okD (T + 1) s' := by
 obtain ⟨l, w⟩ := s
 obtain ⟨m, t, e, t0, tT⟩ := ok
 simp only at e
 subst e
 have hd : Zbe [.pen, .int k] ([m, t], w) = some (ZcO k m t w) := if_pos ⟨h1, h2, t0, by omega⟩
 unfold ZcO at hd
 split at hd
 ·exact ⟨_, _, hd, Int.emod_nonneg _ (by omega), Int.emod_lt_of_pos _ h1, m, t, rfl, t0, by omega⟩
 ·exact ⟨_, _, hd, Int.emod_nonneg _ (by omega), Int.emod_lt_of_pos _ h1, m, t + 1, rfl, by omega, by omega⟩
theorem Ok.drawD {fs : Rho → M (List D)} {ρ : Rho} {s : Pn} {m T : Nat} {Q : D → Pn → Prop} (ok : okD T s) (hT : T < 1000000000) (h1 : fs ρ s = some ([.pen, .int (m : Int)], s)) (hm : 0 < m) (hm2 : m < 1073741824) (h : ∀ (r : Nat) s', r < m → okD (T + 1) s' → Q (.int (r : Int)) s') : Ok (dFn Zbe fs ρ) s Q := by
 obtain ⟨r, s1, e, r0, r1, ok1⟩ := Zil ok hT (show 0 < (m : Int) by omega) (show (m : Int) < 1073741824 by omega)
 obtain ⟨n, rfl⟩ := Int.eq_ofNat_of_zero_le r0
 exact .fn h1 (.eq e (h n s1 (by omega) ok1))
theorem ZkM {X : Cx} {GG : Gh → Prop} {ob own own' : List Nat} {fr : Bool} {sts : List Stmt} {g : Rho → M Out} (h : ∀ G, GG G → PDSs X G ob own own' fr sts g) : PSs X sts (fun E σ H => ∃ G, GG G ∧ ZlF G ob own own' fr g E σ H) := by
 intro pins s σ H D I ⟨G, hG, kn, Hf0, H0, ρ, pn, out, pn', j, st, e, po⟩
 obtain ⟨t, p, q⟩ := h G hG
 exact p pins s σ H D I (q kn Hf0 H0 σ H ρ pn out pn' D j st e po)
noncomputable def Zcb (ns : List Int) : List Int := ns.filter fun c => decide (10 ^ 15 ≤ c)
noncomputable def Zlt (K : PySem.W.Frag) : Sp := fun vs H Q _ => ∃ (a : Addr) (ns : List Int), vs = [.ref a] ∧ SqL K H a (ns.map V.int) ∧ ns.length ≤ 63 ∧
 ∀ (p wa : Addr) (m : Int) (H' : Hp), stD p wa ([m, 0], Zcb ns) H' → (∀ b u, H b = some u → H' b = some u) → H p = none → H wa = none → Q (.ref p) H'
noncomputable def tW : TE := ZgL (tVar 0) (tC (.str (Str.ofString "wide")))
noncomputable def tTn : TE := ZgL (tVar 0) (tC (.str (Str.ofString "turn")))
noncomputable def tMx : TE := ZgL (tVar 0) (tC (.str (Str.ofString "mixed")))
noncomputable def Zlr (K : PySem.W.Frag) : TE := tCB (fun xs H Q => ∃ p ys, xs = [.ref p] ∧ (SqL K H p ys ∨ SqT K H p ys) ∧ Q (.int ys.length) H) (Zc0 tW tNil)
noncomputable def tW0 (K : PySem.W.Frag) : TE := tOp (rIxL K) tW (tC (.int 0))
noncomputable def Zlq : TS := tSeq (Zlv (tVar 0) (tC (.str (Str.ofString "turn"))) (tOp (rI0 fun i j => .int (i + j)) tTn (tC (.int 1))))
 (tSeq (tAsg (tOp (rI (fun _ j => 0 < j) fun i j => .int (i % j)) (tOp (rI0 fun i j => .int (i + j)) tMx (tOp (rI CMul fun i j => .int (i * j)) (tOp (rI CMul fun i j => .int (i * j)) (tC (.int 7919)) tTn) tTn)) (tC (.int 2147483629))) (ZcC 3))
 (tSeq (tAsg (tOp (rI (fun _ j => 0 < j) fun i j => .int (i % j)) (tOp (rI0 fun i j => .int (i + j)) (tOp (rI0 fun i j => .int (i + j)) (tOp (rI CMul fun i j => .int (i * j)) (tVar 3) (tVar 3)) (tOp (rI CMul fun i j => .int (i * j)) (tC (.int 40692)) tTn)) (tC (.int 3))) (tC (.int 998244353))) (ZcC 4))
 (tRet (tOp (rI (fun _ j => 0 < j) fun i j => .int (i % j)) (tOp (rI CDiv fun i j => .int (i / j)) (tOp (rI (fun _ j => 0 < j) fun i j => .int (i % j)) (tOp (rI0 fun i j => .int (i + j)) (tOp (rI CMul fun i j => .int (i * j)) (tVar 4) (tVar 4)) (tVar 3)) (tC (.int 2147483587))) (tC (.int 16))) (tVar 1)))))
noncomputable def ZiB (K : PySem.W.Frag) : TS := tSeq (tIfS (Zfm (tOp (rI0 fun i j => .bl (decide (j < i))) (Zlr K) (tC (.int 0))))
  (tSeq (tAsg (tOp (rI (fun _ j => 0 < j) fun i j => .int (i % j)) (tW0 K) (tVar 1)) (ZcC 2)) (tSeq (tAsg (tOp (rI CDiv fun i j => .int (i / j)) (tW0 K) (tVar 1)) (gSub tW (tC (.int 0)) Zlx)) (tRet (tVar 2)))) ZiC) Zlq
noncomputable def Zjo (K : PySem.W.Frag) : TS := tSeq (tIfS (tAnd (Zfm (tOp (rI0 fun i j => .bl (decide (j < i))) (Zlr K) (tC (.int 0)))) (Zfm (tOp (rI0 fun i j => .bl (decide (i < j))) (tW0 K) (tVar 1))))
  (Zdn (tBM K "list" Zjz tW (Zc0 (tC (.int 0)) tNil))) ZiC) (ZiB K)
theorem dg_w {H : Hp} {p wa : Addr} {m t : Int} (h : H p = some (.dK (Za4 m t wa))) : DGet H p (.str (Str.ofString "wide")) (some (.ref wa)) := by have := DGet.k (k := .inr (Str.ofString "wide")) h; rwa [Zny] at this
theorem dg_t {H : Hp} {p wa : Addr} {m t : Int} (h : H p = some (.dK (Za4 m t wa))) : DGet H p (.str (Str.ofString "turn")) (some (.int t)) := by have := DGet.k (k := .inr (Str.ofString "turn")) h; rwa [Znz] at this
theorem dg_m {H : Hp} {p wa : Addr} {m t : Int} (h : H p = some (.dK (Za4 m t wa))) : DGet H p (.str (Str.ofString "mixed")) (some (.int m)) := by have := DGet.k (k := .inr (Str.ofString "mixed")) h; rwa [ZnA] at this
theorem dp_t {H : Hp} {p wa : Addr} {m t t' : Int} (h : H p = some (.dK (Za4 m t wa))) : DPut H p (.str (Str.ofString "turn")) (.int t') (upd H p (.dK (Za4 m t' wa))) := by
 have := DPut.k (k := .inr (Str.ofString "turn")) (v := .int t') h (by show 3 < sizeLine; decide)
 rwa [Zl0] at this
theorem Zjp {p wa : Addr} {m x t : Int} {Q : VK} {N : St → Hp → Prop} {H : Hp} {o2 : Option V} (m0 : 0 < m) (m1 : m < 1073741824) (t0 : 0 ≤ t) (t1 : t < 2 ^ 60) (hp : H p = some (.dK (Za4 x t wa)))
  (k : Q (.int (ZgO x (t + 1) % m)) (upd H p (.dK (Za4 x (t + 1) wa)))) : Zlq { nx := N, rt := Q } [some (.ref p), some (.int m), o2, none, none] H := by
 have hp2 : upd H p (.dK (Za4 x (t + 1) wa)) p = some (.dK (Za4 x (t + 1) wa)) := Zap
 generalize hT : t + 1 = T at hp2 k
 have b1 : ∀ z : Int, 0 ≤ z % 2147483629 ∧ z % 2147483629 < 2147483629 := fun z => ⟨Int.emod_nonneg _ (by decide), Int.emod_lt_of_pos _ (by decide)⟩
 have b2 : ∀ z : Int, 0 ≤ z % 998244353 ∧ z % 998244353 < 998244353 := fun z => ⟨Int.emod_nonneg _ (by decide), Int.emod_lt_of_pos _ (by decide)⟩
 refine ⟨.ref p, rfl, p, .int t, rfl, dg_t hp, t, 1, rfl, rfl, .ref p, rfl, p, upd H p (.dK (Za4 x T wa)), rfl, by rw [← hT]; exact dp_t hp, ?_⟩
 refine ⟨.ref p, rfl, p, .int x, rfl, dg_m hp2, .ref p, rfl, p, .int T, rfl, dg_t hp2, 7919, T, rfl, rfl, .inl ⟨by decide, by decide⟩, .ref p, rfl, p, .int T, rfl, dg_t hp2, 7919 * T, T, rfl, rfl, .inr ⟨by omega, by omega⟩, x, 7919 * T * T, rfl, rfl, x + 7919 * T * T, 2147483629, rfl, rfl, (by show (0 : Int) < 2147483629; decide), ?_⟩
 have h1 := b1 (x + 7919 * T * T)
 have h2 := b2 (((x + 7919 * T * T) % 2147483629) * ((x + 7919 * T * T) % 2147483629) + 40692 * T + 3)
 refine ⟨.int ((x + 7919 * T * T) % 2147483629), rfl, .int ((x + 7919 * T * T) % 2147483629), rfl, ((x + 7919 * T * T) % 2147483629), ((x + 7919 * T * T) % 2147483629), rfl, rfl, .inl ⟨by omega, by omega⟩, .ref p, rfl, p, .int T, rfl, dg_t hp2, 40692, T, rfl, rfl, .inl ⟨by decide, by decide⟩, ((x + 7919 * T * T) % 2147483629) * ((x + 7919 * T * T) % 2147483629), 40692 * T, rfl, rfl, ((x + 7919 * T * T) % 2147483629) * ((x + 7919 * T * T) % 2147483629) + 40692 * T, 3, rfl, rfl, ((x + 7919 * T * T) % 2147483629) * ((x + 7919 * T * T) % 2147483629) + 40692 * T + 3, 998244353, rfl, rfl, (by show (0 : Int) < 998244353; decide), ?_⟩
 refine ⟨.int ((((x + 7919 * T * T) % 2147483629) * ((x + 7919 * T * T) % 2147483629) + 40692 * T + 3) % 998244353), rfl, .int ((((x + 7919 * T * T) % 2147483629) * ((x + 7919 * T * T) % 2147483629) + 40692 * T + 3) % 998244353), rfl, ((((x + 7919 * T * T) % 2147483629) * ((x + 7919 * T * T) % 2147483629) + 40692 * T + 3) % 998244353), ((((x + 7919 * T * T) % 2147483629) * ((x + 7919 * T * T) % 2147483629) + 40692 * T + 3) % 998244353), rfl, rfl, .inl ⟨by omega, by omega⟩, .int ((x + 7919 * T * T) % 2147483629), rfl, ((((x + 7919 * T * T) % 2147483629) * ((x + 7919 * T * T) % 2147483629) + 40692 * T + 3) % 998244353) * ((((x + 7919 * T * T) % 2147483629) * ((x + 7919 * T * T) % 2147483629) + 40692 * T + 3) % 998244353), ((x + 7919 * T * T) % 2147483629), rfl, rfl, ((((x + 7919 * T * T) % 2147483629) * ((x + 7919 * T * T) % 2147483629) + 40692 * T + 3) % 998244353) * ((((x + 7919 * T * T) % 2147483629) * ((x + 7919 * T * T) % 2147483629) + 40692 * T + 3) % 998244353) + ((x + 7919 * T * T) % 2147483629), 2147483587, rfl, rfl, (by show (0 : Int) < 2147483587; decide), (((((x + 7919 * T * T) % 2147483629) * ((x + 7919 * T * T) % 2147483629) + 40692 * T + 3) % 998244353) * ((((x + 7919 * T * T) % 2147483629) * ((x + 7919 * T * T) % 2147483629) + 40692 * T + 3) % 998244353) + ((x + 7919 * T * T) % 2147483629)) % 2147483587, 16, rfl, rfl, (by show (0 : Int) < 16 ∧ (16 : Int) < 1073741824; decide), .int m, rfl, (((((x + 7919 * T * T) % 2147483629) * ((x + 7919 * T * T) % 2147483629) + 40692 * T + 3) % 998244353) * ((((x + 7919 * T * T) % 2147483629) * ((x + 7919 * T * T) % 2147483629) + 40692 * T + 3) % 998244353) + ((x + 7919 * T * T) % 2147483629)) % 2147483587 / 16, m, rfl, rfl, m0, ?_⟩
 exact k
theorem ZcN (w : List Int) : ((w.map V.int).length : Int) = (w.length : Int) := by simp
theorem ix0 (c : Int) (r : List Int) : ixN ((c :: r).map V.int).length 0 = some 0 := by
 unfold ixN
 rw [if_pos (by decide), if_pos (by rw [ZcN]; simp)]
 rfl
theorem Zjq {K : PySem.W.Frag} {p wa : Addr} {m x t : Int} {w1 : List Int} {Q : VK} {N : St → Hp → Prop} {H : Hp} (m0 : 0 < m) (m1 : m < 1073741824) (t0 : 0 ≤ t) (t1 : t < 2 ^ 60) (hp : H p = some (.dK (Za4 x t wa))) (hw : H wa = some (.lst (w1.map V.int))) (ne : p ≠ wa)
  (k1 : ∀ c r, w1 = c :: r → Q (.int (c % m)) (upd H wa (.lst (((c / m) :: r).map V.int)))) (k2 : w1 = [] → Q (.int (ZgO x (t + 1) % m)) (upd H p (.dK (Za4 x (t + 1) wa)))) :
  ZiB K { nx := N, rt := Q } [some (.ref p), some (.int m), none, none, none] H := by
 refine ⟨.ref p, rfl, p, .ref wa, rfl, dg_w hp, wa, w1.map V.int, rfl, .inl (SqL.of hw), _, 0, rfl, rfl, _, rfl, ?_⟩
 cases w1 with
 | nil =>
  refine iteF ?_
  exact Zjp m0 m1 t0 t1 hp (k2 rfl)
 | cons c r =>
  have e : decide ((0 : Int) < (((c :: r).map V.int).length : Int)) = true := by rw [decide_eq_true_eq, ZcN]; simp
  rw [e]
  refine iteT ?_
  have hi : atI ((c :: r).map V.int) 0 = some (.int c) := Zb6 (j := 0) rfl
  refine ⟨.ref p, rfl, p, .ref wa, rfl, dg_w hp, wa, _, 0, .int c, rfl, rfl, SqL.of hw, hi, .int m, rfl, c, m, rfl, rfl, m0, ?_⟩
  refine ⟨.ref p, rfl, p, .ref wa, rfl, dg_w hp, wa, _, 0, .int c, rfl, rfl, SqL.of hw, hi, .int m, rfl, c, m, rfl, rfl, ⟨m0, m1⟩, .ref p, rfl, p, .ref wa, rfl, dg_w hp, wa, (c :: r).map V.int, 0, 0, rfl, rfl, hw, ix0 c r, ?_⟩
  exact ⟨_, rfl, k1 c r rfl⟩
theorem Zlf {K : PySem.W.Frag} {p wa : Addr} {m x t : Int} {ww : List Int} {d : D} {pn' : Pn} {Q : VK} {N : St → Hp → Prop} {H : Hp} (m0 : 0 < m) (m1 : m < 1073741824) (t0 : 0 ≤ t) (t1 : t < 2 ^ 60) (eS : ZcO m x t ww = (d, pn')) (hp : H p = some (.dK (Za4 x t wa))) (hw : H wa = some (.lst (ww.map V.int))) (ne : p ≠ wa)
  (k : ∀ (i : Int) (H' : Hp), d = .int i → (∀ b, b ≠ p → b ≠ wa → H' b = H b) → stD p wa pn' H' → Q (.int i) H') :
  Zjo K { nx := N, rt := Q } [some (.ref p), some (.int m), none, none, none] H := by
 have fin : ∀ (H1 : Hp) (w1 : List Int), w1 = ZlE m ww → H1 p = some (.dK (Za4 x t wa)) → H1 wa = some (.lst (w1.map V.int)) → (∀ b, b ≠ p → b ≠ wa → H1 b = H b) → ZiB K { nx := N, rt := Q } [some (.ref p), some (.int m), none, none, none] H1 := by
  intro H1 w1 e1 hp1 hw1 ag
  refine Zjq m0 m1 t0 t1 hp1 hw1 ne (fun c r ec => ?_) fun ec => ?_
  ·have : ZcO m x t ww = (.int (c % m), ([x, t], (c / m) :: r)) := by unfold ZcO; rw [← e1, ec]
   rw [this] at eS
   cases eS
   refine k _ _ rfl (fun b h1 h2 => by rw [Zaj h2]; exact ag b h1 h2) ⟨x, t, rfl, by rw [Zaj ne]; exact hp1, Zap, ne⟩
  ·have : ZcO m x t ww = (.int (ZgO x (t + 1) % m), ([x, t + 1], [])) := by unfold ZcO; rw [← e1, ec]
   rw [this] at eS
   cases eS
   subst ec
   refine k _ _ rfl (fun b h1 h2 => by rw [Zaj h1]; exact ag b h1 h2) ⟨x, t + 1, rfl, Zap, by rw [Zaj (Ne.symm ne)]; exact hw1, ne⟩
 refine ⟨.ref p, rfl, p, .ref wa, rfl, dg_w hp, wa, ww.map V.int, rfl, .inl (SqL.of hw), _, 0, rfl, rfl, _, rfl, ?_⟩
 cases ww with
 | nil =>
  refine iteF ?_
  refine iteF ?_
  exact fin H [] rfl hp hw fun _ _ _ => rfl
 | cons c r =>
  have e : decide ((0 : Int) < (((c :: r).map V.int).length : Int)) = true := by rw [decide_eq_true_eq, ZcN]; simp
  rw [e]
  refine iteT ?_
  have hi : atI ((c :: r).map V.int) 0 = some (.int c) := Zb6 (j := 0) rfl
  refine ⟨.ref p, rfl, p, .ref wa, rfl, dg_w hp, wa, _, 0, .int c, rfl, rfl, SqL.of hw, hi, .int m, rfl, c, m, rfl, rfl, _, rfl, ?_⟩
  by_cases hc : c < m
  ·rw [decide_eq_true hc]
   refine iteT ?_
   refine ⟨.ref p, rfl, p, .ref wa, rfl, dg_w hp, .inl ⟨rfl, _, SqL.of hw⟩, wa, (c :: r).map V.int, 0, 0, .int c, rfl, rfl, hw, by decide, by decide, seqIndex_of (by decide) (by rw [ZcN]; simp), rfl, ?_⟩
   refine fin _ r (by show r = if c < m then r else c :: r; rw [if_pos hc]) (by rw [Zaj ne]; exact hp) (by rw [Zap]; rfl) fun b h1 h2 => by rw [Zaj h2]
  ·rw [decide_eq_false hc]
   refine iteF ?_
   exact fin H (c :: r) (by show c :: r = if c < m then r else c :: r; rw [if_neg hc]) hp hw fun _ _ _ => rfl
theorem Znj {p wa : Addr} {Hf H H' : Hp} (e1 : Ext (penD p wa) Hf H) (ag : ∀ b, b ≠ p → b ≠ wa → H' b = H b) : Gr (penD p wa) Hf H Hf H' :=
 have no : ∀ b, ¬ (penD p wa).fp b → b ≠ p ∧ b ≠ wa := fun b n => ⟨fun z => n (.inl z), fun z => n (.inr z)⟩
 ⟨fun b u n q => by rw [ag b (no b n).1 (no b n).2]; exact q, .refl _ _, fun b u n q => by rw [ag b (no b n).1 (no b n).2]; exact e1 b u n q, fun b n h1 h2 => h1⟩
theorem Zkf {K : PySem.W.Frag} {vs : List V} {H : Hp} {Q : VK} {E : XK} {N : St → Hp → Prop} (h : spD 2 true PenD Zbe vs H Q E) : ∃ p m, vs = [.ref p, .int m] ∧ Zjo K { nx := N, rt := Q } [some (.ref p), some (.int m), none, none, none] H := by
 obtain ⟨G, Hf, ds, pn, d, pn', hG, el, e1, r, st', eF, k'⟩ := h
 obtain ⟨p, wa, rfl⟩ := hG
 obtain ⟨m, x, t, ww, rfl, rfl, m0, m1, t0, t1, eS⟩ := ZfI eF
 obtain ⟨v1, v2, rfl, r1, r2⟩ := RepL.two_inv r
 cases (Rep.pen_iff.mp r1)
 cases (Rep.int_iff.mp r2)
 obtain ⟨x', t', ea, hp, hw, ne⟩ := st'
 simp only [List.cons.injEq, and_true] at ea
 obtain ⟨rfl, rfl⟩ := ea
 refine ⟨p, m, rfl, Zlf m0 m1 t0 t1 eS hp hw ne fun i H' ed ag st => ?_⟩
 exact k' _ Hf H' (Znj e1 ag) st (by rw [ed]; exact Rep.int_iff.mpr rfl) fun _ => .scal fun z => by rw [ed] at z; exact z
theorem ZkQ {X : Cx} {XN : List Str} {NS : List (Str × NameKind)} {elt tg iter : Expr} {ifs : List Expr} {scope : Scope} {pos : Pos} {N' : List Str} {src : List (Option Nat)} {wi : TI} {g : TG} {tt : TT} {te : TE} (hc : X.calm = true) (B : BlkS X XN NS N' src scope) (hi : PI X tg iter wi)
  (hg : ∀ cl pins C s H fp, PG (L2.blk X pins N' scope cl C s H fp) tg g) (ht : ∀ cl pins C s H fp, PIfs (L2.blk X pins N' scope cl C s H fp) ifs tt) (he : ∀ cl pins C s H fp, PE (L2.blk X pins N' scope cl C s H fp) elt te)
  (hs : ∀ x, foldedSetIterable iter X.env x = pure x := by intro _; rfl) : PE X (.ListComp elt [⟨tg, iter, ifs, 0⟩] scope pos) (Zfn src wi g tt te) := by
 intro pins s σ H Q I h
 obtain ⟨cl, B'⟩ := B.ok I.ok
 exact Zh5 hc B' hi (hg cl) (ht cl) (he cl) hs pins s σ H Q I h
noncomputable def Ziz (K : PySem.W.Frag) : TE := Zfn [none] (ZiZ K (tVar 0)) (ZcC 0) (Zfm (tOp (rI0 fun i j => .bl (decide (j ≤ i))) (tVar 0) (tOp (rI CPow fun i j => .int (i ^ j.toNat)) (tC (.int 10)) (tC (.int 15))))) (tVar 0)
noncomputable def Znp (K : PySem.W.Frag) : TS := tSeq (tAsg (tC (.int 7)) (ZcC 1))
 (tSeq (tFor (ZiZ K (tVar 0)) (ZcC 2) (tAsg (tOp (rI (fun _ j => 0 < j) fun i j => .int (i % j)) (tOp (rI0 fun i j => .int (i + j)) (tOp (rI0 fun i j => .int (i + j)) (tOp (rI CMul fun i j => .int (i * j)) (tVar 1) (tC (.int 48271))) (tOp (rI (fun _ j => 0 < j) fun i j => .int (i % j)) (tVar 2) (tC (.int 1000000007)))) (tC (.int 11))) (tC (.int 2147483629))) (ZcC 1)))
 (tRet (Zls [(tC (.str (Str.ofString "mixed")), tVar 1), (tC (.str (Str.ofString "turn")), tC (.int 0)), (tC (.str (Str.ofString "wide")), Ziz K)])))
theorem Zjr {K : PySem.W.Frag} {H : Hp} {a p : Addr} {xs : List V} {o : HO} (sq : SqL K H a xs) (hp : H p = none) : SqL K (upd H p o) a xs := by
 have hne : ∀ u, H a = some u → a ≠ p := fun u e z => by rw [z, hp] at e; cases e
 rcases sq with (q | ⟨o', q⟩) | q
 ·exact .inl (.inl (by rw [Zaj (hne _ q)]; exact q))
 ·exact .inl (.inr ⟨o', by rw [Zaj (hne _ q)]; exact q⟩)
 ·exact .inr q
theorem ZkE {H : Hp} {p : Addr} {o o' : HO} : upd (upd H p o) p o' = upd H p o' := by
 funext b
 by_cases h : b = p
 ·subst h; rw [Zap, Zap]
 ·rw [Zaj h, Zaj h, Zaj h]
theorem ZjX (m t : Int) (wa : Addr) : ZcV [] (Za4 m t wa) = Za4 m t wa := by
 have h3 : ¬ (Str.ofString "mixed" = Str.ofString "turn") := by decide
 have h4 : ¬ (Str.ofString "mixed" = Str.ofString "wide") := by decide
 have h5 : ¬ (Str.ofString "turn" = Str.ofString "wide") := by decide
 simp [ZcV, Za4, putK, h3, h4, h5]
theorem Zjg (ns : List Int) (i : Nat) (c : Int) (h : ns[i]? = some c) : Zcb (ns.take (i + 1)) = Zcb (ns.take i) ++ (if decide (10 ^ 15 ≤ c) = true then [c] else []) := by
 unfold Zcb
 rw [List.take_succ, h, List.filter_append]
 congr 1
 by_cases hc : (10 : Int) ^ 15 ≤ c
 ·rw [if_pos (decide_eq_true hc)]
  exact List.filter_cons_of_pos (decide_eq_true hc)
 ·rw [if_neg (by simpa using hc)]
  exact List.filter_cons_of_neg (by simpa using hc)
theorem ZkP {K : PySem.W.Frag} {a : Addr} {ns : List Int} {H : Hp} {Q : VK} {o1 o2 : Option V} (sq : SqL K H a (ns.map V.int)) (hl : ns.length ≤ 63) (k : ∀ p, H p = none → Q (.ref p) (upd H p (.lst ((Zcb ns).map V.int)))) : Ziz K [some (.ref a), o1, o2] H Q := by
 refine ⟨.ref a, rfl, a, rfl, ⟨_, sq⟩, fun p hp => ?_⟩
 refine ⟨fun i n σ2 H2 => i ≤ ns.length ∧ n = ns.length - i ∧ (∃ o, σ2 = [o]) ∧ H2 = upd H p (.lst ((Zcb (ns.take i)).map V.int)), ⟨ns.length, Nat.zero_le _, by omega, ⟨none, rfl⟩, rfl⟩, fun i n σ2 H2 ⟨hi, hn, ⟨o, hσ⟩, hH⟩ => ?_⟩
 subst hσ hH
 have sq2 : SqL K (upd H p (.lst ((Zcb (ns.take i)).map V.int))) a (ns.map V.int) := Zjr sq hp
 by_cases he : i = ns.length
 ·refine .inl ⟨⟨_, sq2, by rw [List.length_map]; omega⟩, ?_⟩
  subst he
  rw [List.take_length]
  exact k p hp
 ·have hlt : i < ns.length := by omega
  have gi : (ns.map V.int)[i]? = some (.int ns[i]) := by rw [List.getElem?_map, List.getElem?_eq_getElem hlt]; rfl
  refine .inr ⟨⟨_, _, sq2, gi⟩, fun x H3 ⟨y1, y2⟩ => ?_⟩
  subst y1
  have ex := y2 _ sq2
  rw [gi] at ex
  cases ex
  refine ⟨.int ns[i], rfl, 10, 15, rfl, rfl, ⟨by decide, by decide, by decide⟩, ns[i], 10 ^ (15 : Int).toNat, rfl, rfl, _, rfl, ?_⟩
  have ew := Zjg ns i ns[i] (List.getElem?_eq_getElem hlt)
  by_cases hc : (10 : Int) ^ 15 ≤ ns[i]
  ·have hd : decide ((10 : Int) ^ (15 : Int).toNat ≤ ns[i]) = true := decide_eq_true hc
   rw [hd]
   refine iteT ?_
   refine ⟨.int ns[i], rfl, (Zcb (ns.take i)).map V.int, Zap, ?_, n - 1, by omega, by omega, by omega, ⟨_, rfl⟩, ?_⟩
   ·have : (Zcb (ns.take i)).length ≤ (ns.take i).length := List.length_filter_le ..
    rw [List.length_map, sizeLine_eq]
    have := List.length_take_le i ns
    omega
   ·rw [ZkE, ew, if_pos (decide_eq_true hc), List.map_append]
    rfl
  ·have hd : decide ((10 : Int) ^ (15 : Int).toNat ≤ ns[i]) = false := decide_eq_false hc
   rw [hd]
   refine iteF ?_
   refine ⟨n - 1, by omega, by omega, by omega, ⟨_, rfl⟩, ?_⟩
   rw [ew, if_neg (by simpa using hc), List.append_nil]
theorem ZlZ {K : PySem.W.Frag} {a : Addr} {ns : List Int} {H : Hp} {Q : VK} {N : St → Hp → Prop} (sq : SqL K H a (ns.map V.int)) (hl : ns.length ≤ 63) (k : ∀ (p wa : Addr) (m : Int) (H' : Hp), stD p wa ([m, 0], Zcb ns) H' → (∀ b u, H b = some u → H' b = some u) → H p = none → H wa = none → Q (.ref p) H') :
  Znp K { nx := N, rt := Q } [some (.ref a), none, none] H := by
 refine ⟨.ref a, rfl, a, rfl, ⟨_, sq⟩, ?_⟩
 refine ⟨fun i n σ2 H2 => i ≤ ns.length ∧ n = ns.length - i ∧ (∃ x o2, σ2 = [some (.ref a), some (.int x), o2]) ∧ H2 = H, ⟨ns.length, Nat.zero_le _, by omega, ⟨7, none, rfl⟩, rfl⟩, fun i n σ2 H2 ⟨hi, hn, ⟨x, o2, hσ⟩, hH⟩ => ?_⟩
 subst hσ hH
 by_cases he : i = ns.length
 ·refine .inl ⟨⟨_, sq, by rw [List.length_map]; omega⟩, ?_⟩
  intro p hp
  refine ⟨.int x, rfl, ?_⟩
  have hp2 : (upd H2 p (.dK [])) p = some (.dK []) := Zap
  show Ziz K [some (.ref a), some (.int x), o2] (upd H2 p (.dK [])) (fun y H3 => H3 p = some (.dK []) ∧ ∃ kvs : List (Key × V), [(V.str (Str.ofString "mixed"), V.int x), (V.str (Str.ofString "turn"), V.int 0), (V.str (Str.ofString "wide"), y)] = kvs.map (fun kv => (kV kv.1, kv.2)) ∧ kvs.length ≤ 15 ∧ Q (.ref p) (upd H3 p (.dK (ZcV [] kvs))))
  refine ZkP (Zjr sq hp) hl fun wa hwa => ?_
  have ne : p ≠ wa := fun z => by rw [← z, Zap] at hwa; cases hwa
  refine ⟨by rw [Zaj ne]; exact hp2, Za4 x 0 wa, rfl, by show 3 ≤ 15; decide, ?_⟩
  rw [ZjX]
  have hwa0 : H2 wa = none := by rw [Zaj (Ne.symm ne)] at hwa; exact hwa
  exact k p wa x _ ⟨x, 0, rfl, Zap, by rw [Zaj (Ne.symm ne)]; exact Zap, ne⟩ (fun b u e => by rw [Zaj (Zam e hp), Zaj (Zam e hwa0), Zaj (Zam e hp)]; exact e) hp hwa0
 ·have hlt : i < ns.length := by omega
  have gi : (ns.map V.int)[i]? = some (.int ns[i]) := by rw [List.getElem?_map, List.getElem?_eq_getElem hlt]; rfl
  refine .inr ⟨⟨_, _, sq, gi⟩, fun σ' H' => (∃ x o2, σ' = [some (.ref a), some (.int x), o2]) ∧ H' = H2, fun σ' H' h => ⟨n - 1, by omega, by omega, by omega, h.1, h.2⟩, fun x' H' ⟨y1, y2⟩ => ?_⟩
  subst y1
  have ex := y2 _ sq
  rw [gi] at ex
  cases ex
  refine ⟨.int x, rfl, x, 48271, rfl, rfl, .inr ⟨by decide, by decide⟩, .int ns[i], rfl, ns[i], 1000000007, rfl, rfl, (by show (0 : Int) < 1000000007; decide), x * 48271, ns[i] % 1000000007, rfl, rfl, x * 48271 + ns[i] % 1000000007, 11, rfl, rfl, x * 48271 + ns[i] % 1000000007 + 11, 2147483629, rfl, rfl, (by show (0 : Int) < 2147483629; decide), ⟨_, _, rfl⟩, rfl⟩
noncomputable def inT (L : List (Addr × Str)) (b : Addr) : Prop := ∃ q, (b, q) ∈ L
noncomputable def ZlH (G0 : Gh) (L : List (Addr × Str)) (P : Addr) (q : Str) (H : Hp) : Prop := ∃ ps, H P = some (.tbl ps) ∧ TriplesOk ps.toList ∧ ∀ pos cv, codeAmong pos ps.toList = some cv → ∃ c', cv = .ref c' ∧ H c' = some (.ext (codeφ c' q)) ∧ ¬ G0.fp c' ∧ ¬ inT L c'
noncomputable def ZdQ (G0 : Gh) (L : List (Addr × Str)) : Gh where
 fp := fun b => G0.fp b ∨ inT L b
 rd := fun b => G0.rd b ∨ inT L b
 pen := G0.pen
 st := fun s H => G0.st s H ∧ ∀ P q, (P, q) ∈ L → ZlH G0 L P q H
 mono := fun s H H' ⟨h1, h2⟩ k1 k2 => ⟨G0.mono s H H' h1 (fun b o r => k1 b o (.inl r)) k2, fun P q m => by
  obtain ⟨ps, e, t, h⟩ := h2 P q m
  refine ⟨ps, k1 P _ (.inr ⟨q, m⟩) e, t, fun pos cv hc => ?_⟩
  obtain ⟨c', z1, z2, z3⟩ := h pos cv hc
  exact ⟨c', z1, k2 _ _ z2, z3⟩⟩
 sub := fun b h => h.elim (fun z => .inl (G0.sub b z)) .inr
 dom := fun s H b ⟨h1, h2⟩ hb => by
  rcases hb with z | ⟨q, m⟩
  ·exact G0.dom s H b h1 z
  ·obtain ⟨ps, e, _⟩ := h2 b q m
   exact ⟨_, e⟩
 ntp := fun s H b vs ⟨h1, h2⟩ hb => by
  rcases hb with z | ⟨q, m⟩
  ·exact G0.ntp s H b vs h1 z
  ·obtain ⟨ps, e, _⟩ := h2 b q m
   rw [e]; intro z; cases z
theorem ZgI {pos pos' : Pos} {c : Value} (l : List Value) (h : TriplesOk l) {cv : Value} (hc : codeAmong pos' (l ++ [rawInt pos.line, rawInt pos.col, c]) = some cv) : codeAmong pos' l = some cv ∨ cv = c := by
 fun_induction TriplesOk l with
 | case1 =>
  simp only [List.nil_append, rawInt, codeAmong] at hc
  split at hc
  ·exact .inr (Option.some.inj hc).symm
  ·cases hc
 | case2 a b d e f rest ih =>
  simp only [List.cons_append, codeAmong] at hc ⊢
  split at hc
  ·rename_i h1; rw [if_pos h1]; exact .inl hc
  ·rename_i h1; rw [if_neg h1]; exact ih h hc
 | case3 => cases h
theorem ZhH {pos : Pos} {c : Value} (l : List Value) (h : TriplesOk l) : TriplesOk (l ++ [rawInt pos.line, rawInt pos.col, c]) := by
 fun_induction TriplesOk l with
 | case1 => simp [TriplesOk, rawInt]
 | case2 a b d e f rest ih => simp only [List.cons_append, TriplesOk]; exact ih h
 | case3 => cases h
noncomputable def LOk (L : List (Addr × Str)) : Prop := ∀ P q q', (P, q) ∈ L → (P, q') ∈ L → q = q'
noncomputable def PenT (GG0 : Gh → Prop) (L : List (Addr × Str)) (G : Gh) : Prop := ∃ G0, GG0 G0 ∧ (∀ b, inT L b → ¬ G0.rd b) ∧ G = ZdQ G0 L
theorem ZlM {G0 : Gh} {L : List (Addr × Str)} {P : Addr} {q : Str} (lo : LOk L) (hrd : ∀ b, inT L b → ¬ G0.rd b) (m : (P, q) ∈ L) : TabG P q (ZdQ G0 L) := by
 refine ⟨fun s H st => ?_, .inr ⟨q, m⟩, fun s H ps pos c' st hP hc hn => ?_⟩
 ·obtain ⟨ps, e, t, h⟩ := st.2 P q m
  refine ⟨ps, e, t, fun pos cv hc => ?_⟩
  obtain ⟨c', z1, z2, z3, z4⟩ := h pos cv hc
  exact ⟨c', z1, z2, fun z => z.elim z3 z4⟩
 ·have hcP : c' ≠ P := fun z => by rw [z, hP] at hc; cases hc
  have notL : ¬ inT L c' := fun ⟨q', m'⟩ => by
   obtain ⟨_, e, _⟩ := st.2 c' q' m'
   rw [hc] at e; cases e
  have k2 : ∀ b φ, H b = some (.ext φ) → upd (upd H P (.tbl (ps ++ #[rawInt pos.line, rawInt pos.col, .ref c']))) c' (.ext (codeφ c' q)) b = some (.ext φ) := fun b φ e => by
   rw [Zaj (Zam e hc), Zaj (fun z => by rw [z, hP] at e; cases e)]; exact e
  refine ⟨G0.mono s H _ st.1 (fun b o r e => ?_) k2, fun P' q' m' => ?_⟩
  ·rw [Zaj (Zam e hc), Zaj (fun z => hrd P ⟨q, m⟩ (by rw [← z]; exact r))]; exact e
  ·by_cases hb : P' = P
   ·subst hb
    have := lo P' q q' m m'
    subst this
    obtain ⟨ps', e, t, h⟩ := st.2 P' q m
    rw [hP] at e; cases e
    refine ⟨_, by rw [Zaj (Ne.symm hcP), Zap], ?_, fun pos' cv hcv => ?_⟩
    ·rw [Array.toList_append]; exact ZhH _ t
    ·rw [Array.toList_append] at hcv
     rcases ZgI (pos := pos) _ t hcv with z | z
     ·obtain ⟨c2, z1, z2, z3⟩ := h pos' cv z
      exact ⟨c2, z1, k2 _ _ z2, z3⟩
     ·exact ⟨c', z, Zap, Gh.nofp st.1 hc, notL⟩
   ·obtain ⟨ps', e, t, h⟩ := st.2 P' q' m'
    refine ⟨ps', by rw [Zaj (Zam e hc), Zaj hb]; exact e, t, fun pos' cv hcv => ?_⟩
    obtain ⟨c2, z1, z2, z3⟩ := h pos' cv hcv
    exact ⟨c2, z1, k2 _ _ z2, z3⟩
noncomputable def Zbf (L : List (Addr × Str)) (G : Gh) : Prop := ∀ P q, (P, q) ∈ L → TabG P q G
theorem PenT.tabs {GG0 : Gh → Prop} {L : List (Addr × Str)} {G : Gh} (lo : LOk L) (h : PenT GG0 L G) : Zbf L G := by
 obtain ⟨G0, _, hrd, rfl⟩ := h
 exact fun P q m => ZlM lo hrd m
mutual
theorem Rep.tr {G G' : Gh} {H H' : Hp} (h : ∀ a o, ¬ G.fp a → H a = some o → (∀ ps, o ≠ .tbl ps) → ¬ G'.fp a ∧ H' a = some o) (hp : G'.pen = G.pen) : ∀ {d : D} {v : V}, ZaN d = true → Rep G H d v → Rep G' H' d v
 | .non, _, _, r => Rep.non_iff.mpr (Rep.non_iff.mp r)
 | .bl _, _, _, r => Rep.bl_iff.mpr (Rep.bl_iff.mp r)
 | .int _, _, _, r => Rep.int_iff.mpr (Rep.int_iff.mp r)
 | .str _, _, _, r => Rep.str_iff.mpr (Rep.str_iff.mp r)
 | .tup ds, v, n, r => by
  obtain ⟨a, vs, e1, nf, e2, r⟩ := Rep.tup_iff.mp r
  obtain ⟨z1, z2⟩ := h a _ nf e2 (fun _ z => by cases z)
  exact Rep.tup_iff.mpr ⟨a, vs, e1, z1, z2, RepL.tr h hp (by simpa [ZaN] using n) r⟩
 | .lst ds, v, n, r => by
  obtain ⟨a, vs, e1, nf, e2, r⟩ := Rep.lst_iff.mp r
  obtain ⟨z1, z2⟩ := h a _ nf e2 (fun _ z => by cases z)
  exact Rep.lst_iff.mpr ⟨a, vs, e1, z1, z2, RepL.tr h hp (by simpa [ZaN] using n) r⟩
 | .dk _, _, _, r => by
  obtain ⟨a, e1, nf, e2⟩ := Rep.dk_iff.mp r
  obtain ⟨z1, z2⟩ := h a _ nf e2 (fun _ z => by cases z)
  exact Rep.dk_iff.mpr ⟨a, e1, z1, z2⟩
 | .dt _, _, _, r => by
  obtain ⟨a, o, e1, nf, e2⟩ := Rep.dt_iff.mp r
  obtain ⟨z1, z2⟩ := h a _ nf e2 (fun _ z => by cases z)
  exact Rep.dt_iff.mpr ⟨a, o, e1, z1, z2⟩
 | .du _, _, _, r => by
  obtain ⟨a, e1, nf, e2⟩ := Rep.du_iff.mp r
  obtain ⟨z1, z2⟩ := h a _ nf e2 (fun _ z => by cases z)
  exact Rep.du_iff.mpr ⟨a, e1, z1, z2⟩
 | .df _, _, _, r => by
  obtain ⟨a, o, e1, nf, e2⟩ := Rep.df_iff.mp r
  obtain ⟨z1, z2⟩ := h a _ nf e2 (fun _ z => by cases z)
  exact Rep.df_iff.mpr ⟨a, o, e1, z1, z2⟩
 | .pen, _, _, r => Rep.pen_iff.mpr ((Rep.pen_iff.mp r).trans hp.symm)
 | .ty _, _, _, r => Rep.ty_iff.mpr (Rep.ty_iff.mp r)
 | .clo _ _, _, n, _ => by simp [ZaN] at n
theorem RepL.tr {G G' : Gh} {H H' : Hp} (h : ∀ a o, ¬ G.fp a → H a = some o → (∀ ps, o ≠ .tbl ps) → ¬ G'.fp a ∧ H' a = some o) (hp : G'.pen = G.pen) : ∀ {ds : List D} {vs : List V}, ZaU ds = true → RepL G H ds vs → RepL G' H' ds vs
 | [], _, _, r => RepL.nil_iff.mpr (RepL.nil_iff.mp r)
 | d :: ds, vs, n, r => by
  obtain ⟨v, rr, e, h1, h2⟩ := RepL.cons_iff.mp r
  have n' : ZaN d = true ∧ ZaU ds = true := by simpa [ZaU] using n
  exact RepL.cons_iff.mpr ⟨v, rr, e, Rep.tr h hp n'.1 h1, RepL.tr h hp n'.2 h2⟩
end
open Classical in
noncomputable def hidL (L : List (Addr × Str)) (H H2 : Hp) : Hp := fun b => if inT L b then H2 b else H b
theorem Zmi {L : List (Addr × Str)} {H H2 : Hp} {b : Addr} (h : inT L b) : hidL L H H2 b = H2 b := by unfold hidL; rw [if_pos h]
theorem Zbq {L : List (Addr × Str)} {H H2 : Hp} {b : Addr} (h : ¬ inT L b) : hidL L H H2 b = H b := by unfold hidL; rw [if_neg h]
theorem Zmm {P : Program} {w : World} {K : PySem.W.Frag} {mg : Str → Option Value} {base : Heap} {k : Nat} {f : Addr} {fd : FuncData} {ps : List Str} {n : Nat} {fr : Bool} {GG0 : Gh → Prop} {L : List (Addr × Str)} {F : List D → M D} (FN : FnOk P w K mg base CX0 k f fd ps (spD n fr GG0 F))
  (hF : ∀ ds s d s', F ds s = some (d, s') → ZaU ds = true ∧ ZaN d = true) : FnOk P w K mg base CX0 k f fd ps (spD n fr (PenT GG0 L) F) := by
 refine FN.imp fun vs H Q E h => ?_
 obtain ⟨G, Hf, ds, s, d, s', ⟨G0, hG0, hrd, rfl⟩, hl, e1, r, st, eF, k⟩ := h
 obtain ⟨n1, n2⟩ := hF _ _ _ _ eF
 have nfp : ∀ b, inT L b → ¬ G0.fp b := fun b m z => hrd b m (G0.sub b z)
 have e1' : Ext G0 (hidL L Hf fun _ => none) H := fun b o nb q => by
  by_cases m : inT L b
  ·rw [Zmi m] at q; cases q
  ·rw [Zbq m] at q; exact e1 b o (fun z => z.elim nb m) q
 refine ⟨G0, hidL L Hf fun _ => none, ds, s, d, s', hG0, hl, e1', RepL.tr (G := ZdQ G0 L) (G' := G0) (fun a o na q _ => ?_) rfl n1 r, st.1, eF, fun v Hf' H' g st' r' fz => ?_⟩
 ·have m : ¬ inT L a := fun z => na (.inr z)
  exact ⟨fun z => na (.inl z), by rw [Zbq m]; exact q⟩
 ·have tab : ∀ b, inT L b → ∃ ps, H' b = some (.tbl ps) := fun b ⟨q, m⟩ => by
   obtain ⟨ps, e, _⟩ := st.2 b q m
   exact ⟨ps, g.hh b _ (nfp b ⟨q, m⟩) e⟩
  have out : ∀ a o, ¬ G0.fp a → Hf' a = some o → (∀ ps, o ≠ .tbl ps) → ¬ inT L a := fun a o na q no m => by
   obtain ⟨ps, e⟩ := tab a m
   rw [g.fh a o na q] at e
   exact no ps (Option.some.inj e)
  have tr : ∀ a o, ¬ G0.fp a → Hf' a = some o → (∀ ps, o ≠ .tbl ps) → ¬ (ZdQ G0 L).fp a ∧ hidL L Hf' Hf a = some o := fun a o na q no => by
   have m := out a o na q no
   exact ⟨fun z => z.elim na m, by rw [Zbq m]; exact q⟩
  refine k v (hidL L Hf' Hf) H' ⟨fun b o nb q => g.hh b o (fun z => nb (.inl z)) q, fun b o nb q => ?_, fun b o nb q => ?_, fun b nb q1 q2 => ?_⟩ ⟨st', fun P q m => ?_⟩ (Rep.tr (G := G0) (G' := ZdQ G0 L) tr rfl n2 r') fun z a ea mu => ?_
  ·have m : ¬ inT L b := fun z => nb (.inr z)
   rw [Zbq m]
   exact g.ff b o (fun z => nb (.inl z)) (by rw [Zbq m]; exact q)
  ·have m : ¬ inT L b := fun z => nb (.inr z)
   rw [Zbq m] at q
   exact g.fh b o (fun z => nb (.inl z)) q
  ·have m : ¬ inT L b := fun z => nb (.inr z)
   rw [Zbq m]
   exact g.nw b (fun z => nb (.inl z)) (by rw [Zbq m]; exact q1) q2
  ·obtain ⟨ps, e, t, h⟩ := st.2 P q m
   refine ⟨ps, g.hh P _ (nfp P ⟨q, m⟩) e, t, fun pos cv hc => ?_⟩
   obtain ⟨c', z1, z2, z3, z4⟩ := h pos cv hc
   exact ⟨c', z1, g.hh c' _ z3 z2, z3, z4⟩
  ·obtain ⟨h1, h2⟩ := fz z a ea mu
   refine ⟨h1, fun xs ed => ?_⟩
   obtain ⟨us, Hm, q1, q2, q3, q4⟩ := h2 xs ed
   have na : ¬ inT L a := fun m => by
    obtain ⟨q, m⟩ := m
    obtain ⟨ps, e, _⟩ := st.2 a q m
    rw [h1] at e; cases e
   refine ⟨us, hidL L Hm fun _ => none, by rw [Zbq na]; exact q1, by rw [Zbq na]; exact q2, fun b o nb q => ?_, ?_⟩
   ·have m : ¬ inT L b := fun z => nb (.inr z)
    rw [Zbq m] at q ⊢
    exact q3 b o (fun z => nb (.inl z)) q
   ·subst ed
    refine RepL.tr (G := G0) (G' := ZdQ G0 L) (fun b o nb q no => ?_) rfl (by simpa [ZaN] using n2) q4
    have m := out b o nb (q3 b o nb q) no
    exact ⟨fun z => z.elim nb m, by rw [Zbq m]; exact q⟩
theorem Zlg : ∀ ds s d s', Zbe ds s = some (d, s') → ZaU ds = true ∧ ZaN d = true := fun ds s d s' h => by
 obtain ⟨k, m, t, w, rfl, rfl, _, _, _, _, e⟩ := ZfI h
 refine ⟨rfl, ?_⟩
 unfold ZcO at e
 split at e <;> (cases e; rfl)
theorem Zla {N ps : List Str} {own : List Nat} {fr : Bool} {G : Gh} {t : TS} {g : Rho → M Out} {vs : List V} {ds : List D} {Hf H : Hp} {pn pn' : Pn} {d : D} {Q : VK} (hpl : ps.length ≤ N.length) (q : Dos G [] [] own fr t g) (e1 : Ext G Hf H) (r : RepL G Hf ds vs) (st' : G.st pn H) (eF : runB N.length ps.length g ds pn = some (d, pn'))
  (k' : ∀ v Hf' H', Gr G Hf H Hf' H' → G.st pn' H' → Rep G Hf' d v → (fr = true → Zax G H Hf' d v) → Q v H') : t { nx := fun _ H' => Q .non H', rt := Q } (L2.start N vs) H := by
 obtain ⟨hl, a0⟩ := ZaL eF
 obtain ⟨o, s1, a1, a2⟩ := Zai a0
 have j0 : Jf G [] Hf Hf H (L2.start N vs) Hf H (ds.map some ++ List.replicate (N.length - ps.length) none) := by
  refine ⟨?_, .refl _ _, .refl e1, fun i d n e => ?_, fun i d m e => absurd m (by simp), fun i j a di dj mi mj n e => absurd mi (by simp)⟩
  ·have := r.length
   unfold L2.start; simp; omega
  ·have hi : i < ds.length := by
    by_cases hi : i < ds.length
    ·exact hi
    ·rw [List.getElem?_append_right (by simpa using hi), List.getElem?_replicate] at e
     split at e <;> cases e
   have e' : ds[i]? = some d := by
    rw [List.getElem?_append_left (by simpa using hi), List.getElem?_map] at e
    cases q : ds[i]? with
    | none => rw [q] at e; cases e
    | some c => rw [q] at e; simp at e; rw [e]
   obtain ⟨v, h1, h2⟩ := r.get e'
   refine ⟨v, ?_, h2⟩
   unfold L2.start
   rw [List.getElem?_append_left (by simp; rw [← r.length]; exact hi), List.getElem?_map, h1]
   rfl
 refine q Hf Hf H (L2.start N vs) H _ pn o s1 _ ⟨Hf, j0⟩ st' a1 ?_
 cases o with
 | rt c =>
  obtain ⟨rfl, rfl⟩ := Zal a2
  exact fun v Hf' H' g' st2 r2 fz => k' v Hf' H' g' st2 r2 fz
 | nx ρ' =>
  obtain ⟨rfl, rfl⟩ := Zal a2
  exact fun σ' H' ⟨Hf', j'⟩ st2 => k' .non Hf' H' j'.gr st2 (Rep.non_iff.mpr rfl) fun _ => .scal fun z => z
 | bk ρ' => cases a2
 | ct ρ' => cases a2
theorem fnDC {P : Program} {w : World} {K : PySem.W.Frag} {mg : Str → Option Value} {base : Heap} {x qual : Str} {st : Stmt} {f : Addr} {fd : FuncData} {N ps : List Str} {k : Nat} {own : List Nat} {fr : Bool} {GG : Gh → Prop} {g : Rho → M Out}
  (F : Fun K x qual st f fd) (S : FnScope N ps (Zak st))
  (hb : ∀ (A : Around) (outer : List Env) (s : Shared) (H : Hp) (E : XK), Room k (A.deeper (envOfC qual (Zak st) s.heap.objs.size f fd.code)) → ∀ G, GG G → PDSs (cxOf CX0 P w K mg base N qual (Zak st) f fd.code A outer s H E).nox G [] [] own fr (ZaH st) g) :
  FnOk P w K mg base CX0 (k + 1) f fd ps (spD ps.length fr GG (runB N.length ps.length g)) := by
 obtain ⟨oc, od, kV, doc, pm, an, cdv, ct, osl, rfl, lk, hcd⟩ := F.ex
 refine ZlB lk hcd S (fun vs H Q E ⟨_, _, _, _, _, _, _, e, _⟩ => e) fun A outer s H vs Q E hr h => ?_
 obtain ⟨G, Hf, ds, pn, d, pn', hG, el, e1, r, st', eF, k'⟩ := h
 obtain ⟨t, p, q⟩ := hb A outer s H E hr G hG
 exact ⟨t, p.nox, Zla (by have := congrArg List.length S.pre; rw [List.length_take] at this; omega) q e1 r st' eF k'⟩
section
variable {X : Cx} {G : Gh} {P c : Addr} {q : Str} {k kl n : Nat} {x : Str} {fr frb : Bool} {F : List D → M D} {T : Nat → List D → M D} {t : Nat} {e1 : Expr} {f1 : Rho → M D} {r1 : Bool} {params : Arguments} {scope : Scope} {lpos ppos pos : Pos} {XN N ps : List Str} {NS : List (Str × NameKind)} {cix : List Nat}
noncomputable def ZfR (i : Nat) (f : Rho → M D) : Rho → M Out := fun ρ => if i < ρ.length then sRet f (ρ.set i none) else Zaz
theorem ZhJ {name : Str} {body : List Stmt} {ob own own' : List Nat} {i : Nat} {g : Rho → M Out} {npos rpos : Pos} (M : Mk0 X c P) (TG : TabG P q G) (hW : CalA X.prog X.w X.K X.mg k x 2 fr (CloG X.prog X.w X.K X.mg (kl + 1) ps.length T) F) (hfn : ∀ x, X.fn x = true) (hr : Room k X.A) (hg : Gl X x)
  (hN : X.N.Nodup) (hi : X.N[i]? = some name) (hx : Loc X.env.scope name) (hpv : PE X (.Name name npos) (tVar i)) (h1 : PD X G r1 e1 f1)
  (hq : qualnameIn X.env name name = q) (S : CloScope N ps scope) (B : CapS X XN NS N ps cix scope) (hT : T t = runB N.length N.length g)
  (hbind : ∀ (cl : List (Str × Addr)) (doc pm cd ct : Value) (us : List Value), us.length = ps.length → bindArgs (PySem.W.fnX name q params body scope cl .none .none doc pm none cd ct) ⟨us, []⟩ = pure (ps.zip us))
  (hb : ∀ (base : Heap) (f c' : Addr) (cl : List (Str × Addr)) (G : Gh) (A : Around) (outer : List Env) (s : Shared) (H : Hp) (E : XK), Room kl (A.deeper (PySem.W.envX q scope s.heap.objs.size f (.ref c') cl)) → PDSs (cxC CX0 X.prog X.w X.K X.mg base N q scope f (.ref c') cl A outer s H E).nox G [] [] [] frb body g)
  (hd0 : params.defaults = [] := by rfl) (hk0 : params.kw_defaults = [] := by rfl) (ha : annTrees params none X.env = [] := by rfl) (hdb : (x == ("__debug__" : Str)) = false := by decide)
  (he : starEach [e1, .Name name npos] X.env = (false, eval e1 X.env) :: starEach [.Name name npos] X.env := by rfl) (he2 : starEach [Expr.Name name npos] X.env = (false, eval (.Name name npos) X.env) :: starEach [] X.env := by rfl)
  (hpl : (backTo pos (starEach [Expr.Name name npos] X.env)).any (·.1) = false := by rfl) :
  PDSs X G ob own own' fr [.FunctionDef name params body [] none [] scope none name lpos, .Return (some (.Call (.Name x ppos) [e1, .Name name npos] [] pos)) rpos] (ZfR i (dFnC F t cix f1)) := by
 obtain ⟨t1, p1, q1⟩ := h1.drop
 obtain ⟨f, fd0, ps0, FN, hm, hk, hbd⟩ := hW
 refine ⟨_, Zbp (ZmF M hN hi hx hq B.hfree hd0 hk0 ha (.inl (hfn name))) (Zc6 (ZdB (Zg6 FN hfn hr hg hm hk hbd (ZaV p1 (ZaV hpv Zbs he2) he) hdb he hpl))), fun kn Hf0 H0 σ H ρ s out s' E ⟨Hf, j⟩ st e po => ?_⟩
 obtain ⟨hilt, e⟩ := ZaL e
 obtain ⟨d, s9, x4, x5⟩ := Zai e
 obtain ⟨rfl, rfl⟩ := Zal x5
 obtain ⟨d1, s1, a1, a2⟩ := Zai x4
 obtain ⟨cds, s2, b3, a4⟩ := Zai a2
 obtain ⟨a3, rfl⟩ := ZbA b3
 obtain ⟨hn, a5⟩ := ZaL a4
 obtain ⟨cc, s3, a6, a7⟩ := Zai a5
 obtain ⟨hn2, a8⟩ := ZaL a7
 obtain ⟨rfl, rfl⟩ := Zal a8
 obtain ⟨hn0, hn1⟩ := Bool.and_eq_true_iff.mp hn
 obtain ⟨tp, hP, htr, hhit⟩ := TG.get _ H st
 refine ⟨tp, hP, htr, fun cv h => let ⟨c', z1, z2, _⟩ := hhit lpos cv h; ⟨c', z1, z2⟩, fun p c' fd Hm ⟨cl, doc, pm, ctv, co, efd⟩ sl hp => ?_⟩
 subst efd
 obtain ⟨stm, hc', ex⟩ := Zh2 TG st hP sl
 have nfc : ¬ G.fp c' := by
  rcases sl with ⟨_, z1, _⟩ | ⟨_, z2, _⟩
  ·obtain ⟨c2, e1, _, e3⟩ := hhit lpos _ z1
   cases e1; exact e3
  ·exact Gh.nofp st z2
 have nfp : ¬ G.fp p := Gh.nofp stm hp
 have hcp : c' ≠ p := fun z => by rw [z, hp] at hc'; cases hc'
 have gr := Zid (Hf := wide Hf0 H0 H) (o := .ext (fnφ p (PySem.W.fnX name q params body scope cl .none .none doc pm none (.ref c') ctv))) Zca ex hp
 have env : EnvR G (wide Hf0 H0 H) (σ.set i (some (.ref p))) (ρ.set i none) := fun l d' e' => by
  by_cases hl : l = i
  ·subst hl
   rw [List.getElem?_set_self hilt] at e'; cases e'
  ·rw [List.getElem?_set_ne (Ne.symm hl)] at e' ⊢
   exact j.envB l d' e'
 refine q1 (σ.set i (some (.ref p))) _ _ (ρ.set i none) s d1 _ _ gr.fh env (Gh.grow stm hp) a1 fun v1 Hf1 H1 g1 st1 rv1 => ?_
 refine ⟨.ref p, by rw [List.getElem?_set_self (by rw [j.len]; exact hilt)], ?_⟩
 obtain ⟨cvs, l1, l2, l3⟩ := Zfg (env.ext g1.ff) a3
 intro base' cs
 have C : CloAt base' cl scope N ps cvs := B.cloAt cs co l1 l3
 have hp1 : H1 p = some (.ext (fnφ p (PySem.W.fnX name q params body scope cl .none .none doc pm none (.ref c') ctv))) := g1.hh p _ nfp Zap
 have hc1 : H1 c' = some (.ext (codeφ c' q)) := g1.hh c' _ nfc (by rw [Zaj hcp]; exact hc')
 refine ⟨cloG G t p c' (PySem.W.fnX name q params body scope cl .none .none doc pm none (.ref c') ctv) q cvs, Hf1, [d1, .clo t cds], _, d, _, Zkk (X := X) (.all (hbind cl doc pm (.ref c') ctv)) (fnKS S C (fun s H st => st.2) fun A outer s H E hr => hb base' p c' cl _ A outer s H E hr) hT, rfl, g1.fh, ?_, ⟨st1, hp1, hc1⟩, a6, fun v Hf3 H3 g3 st3 r3 fz => ?_⟩
 ·exact .cons (toC hn0 rv1) (.one (Rep.clo_iff.mpr ⟨cvs, ⟨rfl, rfl, rfl⟩, toCL hn1 l2⟩))
 ·have gg := (gr.trans g1).trans (grC g3)
  have rr : Rep G Hf3 d v := ofC hn2 r3
  exact po v Hf3 H3 (j.grW gg) st3.1 rr fun z => Zax.old ((j.gr.hh.trans gr.hh).trans g1.hh) rr.nofp (frC hn2 (fz z))
end
noncomputable def BMn (mg : Str → Option Value) (h : Heap) : Prop := ∃ bm o, mg "__builtins__" = some (.ref bm) ∧ bm ≠ builtinsNs ∧ bm ≠ mainGlobals ∧ h.get? bm = some o ∧ o.cls = .type "module" ∧ o.dict = some builtinsNs ∧ o.data = .plain
theorem Zj0 {P : Program} {w : World} {K : PySem.W.Frag} {mg mb : Str → Option Value} {CX : CXT} {k : Nat} {fa a : Addr} {fd : FuncData} {x : Str} {sp : Sp} {s₁ : Shared} {vs : List Value} {ns : List Int} {tb : List (Addr × Addr)}
  (KX : K.In s₁.heap) (hns : s₁.heap.Ns mainGlobals mg) (hb : s₁.heap.Ns builtinsNs mb) (hbb : ∀ x : Str, x ≠ "__name__" → mb x = bootBuiltins x) (hlim : s₁.heap.NoLimit) (hg : s₁.gens = #[])
  (hT : ∀ e ∈ tb, PySem.W.CodeHd s₁.heap e.1 e.2 ∧ s₁.heap.get? e.2 = some (PySem.W.tabObj #[])) (hKt : PySem.W.noTabs K = true) (hbm : BMn mg s₁.heap)
  (ha : s₁.heap.get? a = some { cls := .type "list", data := .seq vs.toArray }) (hi : IntsAre vs ns) (hl : ns.length ≤ sizeLine) (hr : Room k callerA)
  (F : ∀ base : Heap, K.In base → base.Ns mainGlobals mg → (∀ e ∈ tb, PySem.W.CodeHd base e.1 e.2) → BMn mg base → FnOk P w K mg base CX k fa fd [x] sp) (hbind : ∀ (s : Shared) (u : Value), BindsTo s fd ⟨[u], []⟩ [(x, u)])
  (hsp : ∀ H : Hp, SqL K H a (ns.map V.int) → (∀ e ∈ tb, H e.2 = some (.tbl #[])) → sp [.ref a] H (fun v _ => v = .bl true) fun _ _ _ => False)
  (hCX : ∀ H e s', CX [] H s₁ (fun _ _ _ => False) e s' → False) :
  codeAny (model P w) callerA (.call (.ref fa) ⟨[.ref a], []⟩) (fun r s' => r = .ok (.ret (.bool true)) ∧ OldK s₁.heap s'.heap ∧ s'.os = s₁.os ∧ AllBare s'.gens) s₁ := by
 have rv := Zgb hi
 have lenV := hi.length
 have tabne : ∀ e ∈ tb, e.2 ≠ a := fun e he z => by
  have := (hT e he).2
  rw [z, ha] at this; cases this
 have noK : ∀ e ∈ tb, K.lookup e.2 = none := fun e he => by
  cases q : K.lookup e.2 with
  | none => rfl
  | some o =>
   have h2 := List.all_eq_true.mp hKt (e.2, o) (PySem.W.mem_of_lookupK q)
   have e1 := KX _ _ q
   rw [(hT e he).2] at e1
   cases e1
   exact absurd (show false = true from h2) Bool.false_ne_true
 have core : ∀ H : Hp, (∀ b u, H b = some u → (b = a ∧ u = .frz { cls := .type "list", data := .seq vs.toArray } (.lst (ns.map V.int)) ∧ K.lookup a = none) ∨ (u = .tbl #[] ∧ ∃ e ∈ tb, e.2 = b)) → SqL K H a (ns.map V.int) → (∀ e ∈ tb, H e.2 = some (.tbl #[])) →
   codeAny (model P w) callerA (.call (.ref fa) ⟨[.ref a], []⟩) (fun r s' => r = .ok (.ret (.bool true)) ∧ OldK s₁.heap s'.heap ∧ s'.os = s₁.os ∧ AllBare s'.gens) s₁ := by
  intro H hO hS hTb
  have hok : HOk P w H s₁.heap := fun b u e => by
   rcases hO b u e with ⟨rfl, rfl, _⟩ | ⟨rfl, e', he, rfl⟩
   ·exact ⟨ha, by rw [List.length_map]; exact hl, vs, _, rv, ha⟩
   ·exact (hT e' he).2
  have base_of : ∀ {b : Addr} {o : Obj}, s₁.heap.get? b = some o → H b = none → (hidT s₁.heap H).get? b = some o := fun e n => Zk6 e n
  have noA : ∀ {b : Addr} {o : Obj}, s₁.heap.get? b = some o → (∀ vs n, o.data ≠ .seq vs n) → (∀ vs, o.data ≠ .fields vs ∨ o.cls ≠ .none) → H b = none := fun {b o} e d1 d2 => by
   cases q : H b with
   | none => rfl
   | some u =>
    rcases hO b u q with ⟨rfl, _, _⟩ | ⟨_, e', he, rfl⟩
    ·rw [ha] at e; cases e; exact absurd rfl (d1 _ _)
    ·rw [(hT e' he).2] at e; cases e
     rcases d2 #[] with z | z
     ·exact absurd rfl z
     ·exact absurd rfl z
  have nsK : ∀ {b : Addr} {m : Str → Option Value}, s₁.heap.Ns b m → (hidT s₁.heap H).Ns b m := fun {b m} ⟨o, es, ep, e, d, r⟩ => ⟨o, es, ep, base_of e (noA e (fun _ _ z => by rw [d] at z; cases z) fun _ => .inl fun z => by rw [d] at z; cases z), d, r⟩
  have hKb : K.In (hidT s₁.heap H) := fun b o e => base_of (KX b o e) (by
   cases q : H b with
   | none => rfl
   | some u =>
    rcases hO b u q with ⟨rfl, _, z⟩ | ⟨_, e', he, rfl⟩
    ·rw [z] at e; cases e
    ·rw [noK e' he] at e; cases e)
  have hM : Mod K mg (hidT s₁.heap H) := ⟨hKb, nsK hns, ⟨mb, nsK hb, hbb⟩, let ⟨mc, h1, h2⟩ := hlim; ⟨mc, nsK h1, h2⟩⟩
  have e0 : Env0 P w K mg (hidT s₁.heap H) callerA [] s₁ H := ⟨rfl, hM, fun b o e => Zmc e, Nat.le_of_eq (Zka _ _), trivial, fun b hb => absurd (show b ∈ ([] : List Addr) from hb) (by simp), hok, .of_eq hg⟩
  have hCd : ∀ e ∈ tb, PySem.W.CodeHd (hidT s₁.heap H) e.1 e.2 := fun e he => by
   obtain ⟨o, vs', file, tf, flags, tg, inF, text, tt, e1, r1, r2, r3⟩ := (hT e he).1
   exact ⟨o, vs', file, tf, flags, tg, inF, text, tt, base_of e1 (noA e1 (fun _ _ z => by rw [r2] at z; cases z) fun _ => .inr (by rw [r1]; nofun)), r1, r2, r3⟩
  have hBm : BMn mg (hidT s₁.heap H) := by
   obtain ⟨bm, o, e1, e2, e3, e4, e5, e6, e7⟩ := hbm
   exact ⟨bm, o, e1, e2, e3, base_of e4 (noA e4 (fun _ _ z => by rw [e7] at z; cases z) fun _ => .inl fun z => by rw [e7] at z; cases z), e5, e6, e7⟩
  refine codeAny_mono ((F _ hKb (nsK hns) hCd hBm).run callerA [] s₁ H ⟨[.ref a], []⟩ [.ref a] [.ref a] _ _ hr e0 (hbind s₁ (.ref a)) (.cons rfl .nil) (hsp H hS hTb)) fun r s' h => ?_
  cases r with
  | error e => exact (hCX H e s' h).elim
  | ok fl =>
   cases fl with
   | next => exact False.elim h
   | brk => exact False.elim h
   | cont => exact False.elim h
   | ret u =>
    obtain ⟨v, H', os, bare, un, hok', r', q⟩ := h
    have q' : v = .bl true := q
    subst q'
    obtain rfl : u = Value.bool true := r'
    refine ⟨rfl, ⟨fun b o e => ?_, fun b o e => un.there b o e (by simp)⟩, os, bare⟩
    cases q : H b with
    | none => exact .inl (un.keep b o e q (by intro z; exact absurd (show b ∈ ([] : List Addr) from z) (by simp)) (by simp))
    | some u =>
     rcases hO b u q with ⟨rfl, rfl, _⟩ | ⟨rfl, e', he, rfl⟩
     ·have z2 := un.frzs b _ _ q
      obtain ⟨e1, _⟩ := hok b _ q
      obtain ⟨e2, _⟩ := hok' b _ z2
      rw [e] at e1; cases e1
      exact .inl e2
     ·obtain ⟨more, z⟩ := un.tbls _ _ q
      have z2 : s'.heap.get? e'.2 = some (PySem.W.tabObj (#[] ++ more)) := hok' _ _ z
      have e1 := (hT e' he).2
      rw [e] at e1; cases e1
      exact .inr (.inl ⟨((hT e' he).1.tab (hT e' he).2).isCodeTable, rfl, #[], more, rfl, z2⟩)
 cases hk : K.lookup a with
 | some o =>
  have e := KX a o hk
  rw [ha] at e
  cases e
  refine core (fun b => open Classical in if ∃ e ∈ tb, e.2 = b then some (.tbl #[]) else none) (fun b u z => ?_) (.inr ⟨_, vs.toArray, _, hk, rfl, rfl, rfl, by rw [List.size_toArray, lenV]; exact hl, by simpa using rv⟩) (fun e he => if_pos ⟨e, he, rfl⟩)
  by_cases h : ∃ e ∈ tb, e.2 = b
  ·rw [if_pos h] at z; cases z; exact .inr ⟨rfl, h⟩
  ·rw [if_neg h] at z; cases z
 | none =>
  refine core (fun b => open Classical in if ∃ e ∈ tb, e.2 = b then some (.tbl #[]) else if b = a then some (.frz { cls := .type "list", data := .seq vs.toArray } (.lst (ns.map V.int))) else none) (fun b u z => ?_) (.inl (.inr ⟨{ cls := .type "list", data := .seq vs.toArray }, ?_⟩)) (fun e he => if_pos ⟨e, he, rfl⟩)
  ·by_cases h : ∃ e ∈ tb, e.2 = b
   ·rw [if_pos h] at z; cases z; exact .inr ⟨rfl, h⟩
   ·rw [if_neg h] at z
    by_cases hb : b = a
    ·rw [if_pos hb] at z; cases z; exact .inl ⟨hb, rfl, hk⟩
    ·rw [if_neg hb] at z; cases z
  ·show (if ∃ e ∈ tb, e.2 = a then _ else _) = _
   rw [if_neg (fun ⟨e, he, z⟩ => tabne e he z), if_pos rfl]
theorem ZkC {l : PySem.W.OpenLaw} {n k : Nat} {q : Program} {loose : List Str} {XP : (Str → Option Value) → Heap → Prop} {YP : World → Heap → Prop} {d : DefRec} {K : Params → PySem.W.Frag} {CX : World → CXT} {sp : World → Sp} {x : Str} {tb : List (Str × Addr × Addr)}
    (hn : l.most = some n) (hn2 : n ≤ sizeLine) (hdf : d.params.defaults = []) (hr : Room k callerA)
    (hY : ∀ (w : World) (h : Heap), YP w h → (K w.params).In h)
    (hrec : ∀ e ∈ tb, ∃ d, (recsOf q).find? (fun r => r.name == e.1) = some d) (htab : ∀ w : World, ∀ e ∈ tb, PySem.W.tabIn (K w.params) e.1 = some e.2) (hno : ∀ w : World, PySem.W.noTabs (K w.params) = true)
    (F : ∀ (w : World) (mg : Str → Option Value) (fa : Addr) (h : Heap), (K w.params).In h → h.Ns mainGlobals mg → mg d.name = some (.ref fa) →
      ∃ fd : FuncData, (∀ (s : Shared) (u : Value), BindsTo s fd ⟨[u], []⟩ [(x, u)]) ∧
        ∀ base : Heap, (K w.params).In base → base.Ns mainGlobals mg → (∀ e ∈ tb, PySem.W.CodeHd base e.2.1 e.2.2) → BMn mg base → FnOk l.prog w (K w.params) mg base (CX w) k fa fd [x] (sp w))
    (hsp : ∀ (w : World) (H : Hp) (a : Addr) (ns : List Int), ns.length ≤ n → SqL (K w.params) H a (ns.map V.int) → (∀ e ∈ tb, H e.2.2 = some (.tbl #[])) → sp w [.ref a] H (fun v _ => v = .bl true) fun _ _ _ => False)
    (hCX : ∀ (w : World) (H : Hp) (s : Shared) (e : Value) (s' : Shared), CX w [] H s (fun _ _ _ => False) e s' → False) :
    PySem.W.WalkO q loose XP YP l.row.toRowW d [] (fun f vs => PySem.call f vs) := by
  refine Att.attach_call hn hdf fun w s₀ s₁ mg mb fa o pm cd doc a vs ns G Y ho hd hcd hmg hobj hints hlen hg => ?_
  have KX := hY w _ Y
  obtain ⟨fd, hb, hF⟩ := F w mg fa _ KX G.T.g hmg
  have hT : ∀ e ∈ tb.map (·.2), PySem.W.CodeHd s₁.heap e.1 e.2 ∧ s₁.heap.get? e.2 = some (PySem.W.tabObj #[]) := fun e he => by
    obtain ⟨e', he', rfl⟩ := List.mem_map.mp he
    obtain ⟨d', hd'⟩ := hrec e' he'
    exact PySem.W.tab_of G.T KX hd' (htab w e' he')
  exact Zj0 (tb := tb.map (·.2)) KX G.T.g G.T.b G.T.builtins G.T.nolimit hg hT (hno w) (let ⟨bm, ob, a, b, c, d, e, f⟩ := G.T.bmain; ⟨bm, ob, a, b, (fun z => by
      obtain ⟨o, es, ep, e', hd', _⟩ := G.T.g
      rw [z, e'] at c; cases c; rw [hd'] at f; cases f), c, d, e, f⟩) hobj hints (Nat.le_trans hlen hn2) hr
    (fun base h1 h2 h3 h4 => hF base h1 h2 (fun e he => h3 e.2 (List.mem_map_of_mem (f := (·.2)) he)) h4) hb (fun H hS hTb => hsp w H a ns hlen hS fun e he => hTb e.2 (List.mem_map_of_mem (f := (·.2)) he)) fun H e s' => hCX w H s₁ e s'
end TF
namespace L2
open PySem PySem.Spec PyProof.Rows
section
variable {X : Cx} {pins : List (Addr × Obj)} {σ : St} {H : Hp} {s : Shared} {h' : Heap}
theorem Inv.turnedN {t' : Nat} {fp : List Addr} (I : Inv X pins σ H s) (k : ∀ b o, b ∉ fp → s.heap.get? b = some o → h'.get? b = some o) (hf : ∀ b ∈ fp, FpOk X pins H b) : Inv X pins σ H { s with heap := h', toks := t' } := by
 have nit : ∀ b u, H b = some u → b ∉ fp := fun b u e z => by rw [(hf b z).1] at e; cases e
 refine I.step (g' := s.gens) (d' := s.drawn) (ch := fp) (fun b hb => ?_) (fun b o _ _ hc e _ => k b o hc e) (fun b o _ _ hc e _ => ⟨o.slots, k b o hc e⟩) (fun _ _ _ _ n => n)
  (fun b o hc e => ⟨o, k b o hc e⟩) (fun _ _ e => e) (fun _ _ _ e => e) (fun b ps e => ⟨#[], by rw [e]; simp⟩) (fun m hm => ?_) (fun b u e => ?_) I.bare
 ·obtain ⟨f0, f1, f2, f3, f4, f5⟩ := hf b hb
  exact ⟨f3, f1, f4, f5⟩
 ·obtain ⟨o, es, ep, ho, r⟩ := hm
  exact ⟨o, es, ep, k _ o (fun z => (hf _ z).2.1 rfl) ho, r⟩
 ·refine (I.hok b u e).stay (fun c v hc q => k c v ?_ q) (fun _ q => q) fun _ _ q => q
  rcases hc with z | z
  ·rw [z]; exact nit b u e
  ·exact nit c _ z
theorem Inv.turnedT {t' : Nat} {fp : List Addr} {T : Addr} {o : HO} (I : Inv X pins σ H s) (k : ∀ b o, b ∉ fp → s.heap.get? b = some o → h'.get? b = some o) (hf : ∀ b ∈ fp, FpOk X pins H b) (hT : s.heap.objs.size ≤ T) (new : ZaM X.prog X.w (upd H T o) h' T o) : Inv X pins σ (upd H T o) { s with heap := h', toks := t' } := by
 have hn := I.hok.fresh hT
 have nit : ∀ b u, H b = some u → b ∉ fp := fun b u e z => by rw [(hf b z).1] at e; cases e
 refine I.step (g' := s.gens) (d' := s.drawn) (ch := fp) (fun b hb => ?_) (fun b o _ _ hc e _ => k b o hc e) (fun b o _ _ hc e _ => ⟨o.slots, k b o hc e⟩) (fun b u _ q n => by rw [Zaj (Nat.ne_of_lt (Nat.lt_of_lt_of_le (Heap.lt_size q) hT))]; exact n)
  (fun b o hc e => ⟨o, k b o hc e⟩) (fun b xs q => by rw [Zaj (Zam q hn)]; exact q) (fun b u xs q => by rw [Zaj (Zam q hn)]; exact q) (fun b ps q => ⟨#[], by rw [Zaj (Zam q hn), q]; simp⟩) (fun m hm => ?_) (fun b u e => ?_) I.bare
 ·obtain ⟨f0, f1, f2, f3, f4, f5⟩ := hf b hb
  exact ⟨f3, f1, f4, f5⟩
 ·obtain ⟨o, es, ep, ho, r⟩ := hm
  exact ⟨o, es, ep, k _ o (fun z => (hf _ z).2.1 rfl) ho, r⟩
 ·by_cases hb : b = T
  ·subst hb; rw [Zap] at e; cases e; exact new
  ·rw [Zaj hb] at e
   refine (I.hok b u e).stay (fun c v hc q => k c v ?_ q) (fun c q => by rw [Zaj (Zam q hn)]; exact q) fun c xs q => by rw [Zaj (Zam q hn)]; exact q
   rcases hc with z | z
   ·rw [z]; exact nit b u e
   ·exact nit c _ z
end
noncomputable def Itz (K : PySem.W.Frag) (a b : Addr) : It where
 go := fun i H => ∃ xs ys x y, SqL K H a xs ∧ SqL K H b ys ∧ xs[i]? = some x ∧ ys[i]? = some y
 yld := fun i H v H' => ∃ T x y, H T = none ∧ v = .ref T ∧ H' = upd H T (.tup [x, y]) ∧ (∀ xs, SqL K H a xs → xs[i]? = some x) ∧ (∀ ys, SqL K H b ys → ys[i]? = some y)
 stop := fun i H => ∃ xs ys, SqL K H a xs ∧ SqL K H b ys ∧ i = min xs.length ys.length
structure ZDist (z TI TO i1 i2 : Addr) : Prop where
 TIz : TI ≠ z
 TOz : TO ≠ z
 i1z : i1 ≠ z
 i2z : i2 ≠ z
 TITO : TI ≠ TO
 TIi1 : TI ≠ i1
 TIi2 : TI ≠ i2
 TOi1 : TO ≠ i1
 TOi2 : TO ≠ i2
 i12 : i1 ≠ i2
theorem Zln (n : Nat) : ZDist (n + 4) (n + 2) (n + 3) n (n + 1) := by
 have h : ∀ a b : Nat, a ≠ b → (a : Addr) ≠ (b : Addr) := fun _ _ h => h
 exact ⟨h _ _ (by omega), h _ _ (by omega), h _ _ (by omega), h _ _ (by omega), h _ _ (by omega), h _ _ (by omega), h _ _ (by omega), h _ _ (by omega), h _ _ (by omega), h _ _ (by omega)⟩
noncomputable def Zll (z TI TO i1 i2 a b : Addr) (i : Nat) (h : Heap) : Prop := IsZip h z TI TO .none ∧ IsPair h TI (.ref i1) (.ref i2) ∧ (∃ x y, IsPair h TO x y) ∧ h.IsListIter i1 a i ∧ h.IsListIter i2 b i
theorem ZcX {h : Heap} {a b : Addr} {o : Obj} {T : String} (ha : ∃ oa, h.get? a = some oa ∧ oa.cls = .type "list") (hb : h.get? b = some o) (hc : o.cls = .type T) (hT : T ≠ "list") : a ≠ b := fun z => by
 obtain ⟨oa, e, c⟩ := ha
 rw [z, hb] at e
 cases e
 rw [hc] at c
 exact hT (Value.type.inj c)
theorem Zga {h : Heap} {z TI TO i1 i2 a b : Addr} {i : Nat} {xs ys : Array Value} (D : ZDist z TI TO i1 i2) (st : Zll z TI TO i1 i2 a b i h) (ha : h.IsList a xs) (hb : h.IsList b ys) : ZipApart z TI TO i1 i2 a b := by
 obtain ⟨hz, hTI, ⟨x, y, hTO⟩, h1, h2⟩ := st
 obtain ⟨o1, e1, c1, d1⟩ := h1
 obtain ⟨o2, e2, c2, d2⟩ := h2
 have la : ∃ oa, h.get? a = some oa ∧ oa.cls = .type "list" := let ⟨o, e, c, _⟩ := ha; ⟨o, e, c⟩
 have lb : ∃ oa, h.get? b = some oa ∧ oa.cls = .type "list" := let ⟨o, e, c, _⟩ := hb; ⟨o, e, c⟩
 exact ⟨D.TIz, D.TOz, D.i1z, D.i2z, D.TITO, D.TIi1, D.TIi2, D.TOi1, D.TOi2, D.i12, ZcX la hz rfl (by decide), ZcX la hTO rfl (by decide), ZcX la e1 c1 (by decide), ZcX la e2 c2 (by decide), ZcX lb hz rfl (by decide), ZcX lb hTO rfl (by decide), ZcX lb e1 c1 (by decide), ZcX lb e2 c2 (by decide)⟩
theorem ZkH {P : Program} {w : World} {K : PySem.W.Frag} {elts : List Expr} {k : Nat} {pos : Pos} (a b z TI TO i1 i2 : Addr) (D : ZDist z TI TO i1 i2) : Turn P w K (.Tuple elts k pos) (Itz K a b) [z, TI, TO, i1, i2] z (Zll z TI TO i1 i2 a b) where
 mem := by simp
 obj := fun i h st c hc => by
  obtain ⟨hz, hTI, ⟨x, y, hTO⟩, ⟨o1, e1, c1, d1⟩, ⟨o2, e2, c2, d2⟩⟩ := st
  simp only [List.mem_cons, List.not_mem_nil, or_false] at hc
  rcases hc with rfl | rfl | rfl | rfl | rfl
  ·exact ⟨_, hz, fun v q => by cases q⟩
  ·exact ⟨_, hTI, fun v q => by cases q⟩
  ·exact ⟨_, hTO, fun v q => by cases q⟩
  ·exact ⟨_, e1, fun v q => by rw [d1] at q; cases q⟩
  ·exact ⟨_, e2, fun v q => by rw [d2] at q; cases q⟩
 keep := fun i h h' st kk => by
  obtain ⟨hz, hTI, ⟨x, y, hTO⟩, h1, h2⟩ := st
  exact ⟨kk z (by simp) _ hz, kk TI (by simp) _ hTI, ⟨x, y, kk TO (by simp) _ hTO⟩, h1.at fun o e => kk i1 (by simp) o e, h2.at fun o e => kk i2 (by simp) o e⟩
 item := by
  intro X hP hw hK hc i pins s σ H E I hf st hg
  subst hP hw hK
  obtain ⟨xs, ys, x, y, hq, hq2, hx, hy⟩ := hg
  obtain ⟨its, rv, p, hz⟩ := I.list hq
  obtain ⟨its2, rv2, p2, hz2⟩ := I.list hq2
  obtain ⟨u, hu, ru⟩ := rv.get hx
  obtain ⟨u2, hu2, ru2⟩ := rv2.get hy
  have A := Zga D st p.isList p2.isList
  have W := WalksT.zip2 (prog := X.prog) (w := X.w) (I.ok.hd hc) z TI TO i1 i2 a b A its.toArray its2.toArray
  obtain ⟨t1, t2, t3, t4, t5⟩ := st
  have hl1 : i < its.length := (List.getElem?_eq_some_iff.mp hu).1
  have hl2 : i < its2.length := (List.getElem?_eq_some_iff.mp hu2).1
  refine W.item i s _ _ (by simp only [List.size_toArray]; omega) ⟨t1, t2, t3, t4, t5, p.isList, p2.isList⟩ fun T vals h1 tk hp hT hI hM kk => ⟨_, rfl, ?_⟩
  obtain ⟨v1, v2, g1, g2, rfl⟩ := hp
  have e1 : v1 = u := by simpa [hu] using g1.symm
  have e2 : v2 = u2 := by simpa [hu2] using g2.symm
  subst e1 e2
  have hap := W.apart i T h1 hM
  refine W.go elts k pos i T _ _ _ hM fun h2 hS kk2 => ?_
  have hI2 : h2.IsTuple T #[v1, v2] := hI.at fun o e => kk2 T o hap e
  have hfw : ∀ c, c ∉ [z, TI, TO, i1, i2] → c ∉ [z, TO, i1, i2] := fun c hc hm => hc (by
   simp only [List.mem_cons, List.not_mem_nil, or_false] at hm ⊢
   rcases hm with r | r | r | r <;> simp [r])
  have I1 : Inv X pins σ (upd H T (.tup [x, y])) { s with heap := h2, toks := tk } := I.turnedT (fp := [z, TI, TO, i1, i2]) (fun c o hc e => kk2 c o (hfw c hc) (kk c o (hfw c hc) e)) hf hT ⟨by show 2 ≤ sizeLine; decide, [v1, v2], .cons ru (.cons ru2 .nil), hI2⟩
  have hTn : H T = none := I.hok.fresh hT
  refine ⟨.ref T, _, I1, rfl, ⟨T, x, y, hTn, rfl, rfl, fun xs' h => by rw [I.list_inj h hq]; exact hx, fun ys' h => by rw [I.list_inj h hq2]; exact hy⟩, ⟨hS.1, hS.2.1, hS.2.2.1, hS.2.2.2.1, hS.2.2.2.2.1⟩, fun c hc => ?_⟩
  rw [Zaj ?_]
  ·exact (hf c hc).1
  ·intro zc
   subst zc
   have old : ∃ o, s.heap.get? c = some o := by
    obtain ⟨o1, e1, _⟩ := t4
    obtain ⟨o2, e2, _⟩ := t5
    obtain ⟨q1, q2, q3⟩ := t3
    simp only [List.mem_cons, List.not_mem_nil, or_false] at hc
    rcases hc with r | r | r | r | r
    ·rw [r]; exact ⟨_, t1⟩
    ·rw [r]; exact ⟨_, t2⟩
    ·rw [r]; exact ⟨_, q3⟩
    ·rw [r]; exact ⟨_, e1⟩
    ·rw [r]; exact ⟨_, e2⟩
   obtain ⟨o, e⟩ := old
   exact absurd (Heap.lt_size e) (Nat.not_lt.mpr hT)
 done := by
  intro X hP hw hK hc i pins s σ H E I hf st hg
  subst hP hw hK
  obtain ⟨xs, ys, hq, hq2, rfl⟩ := hg
  obtain ⟨its, rv, p, hz⟩ := I.list hq
  obtain ⟨its2, rv2, p2, hz2⟩ := I.list hq2
  have A := Zga D st p.isList p2.isList
  have W := WalksT.zip2 (prog := X.prog) (w := X.w) (I.ok.hd hc) z TI TO i1 i2 a b A its.toArray its2.toArray
  obtain ⟨t1, t2, t3, t4, t5⟩ := st
  have e : min its.toArray.size its2.toArray.size = min xs.length ys.length := by rw [List.size_toArray, List.size_toArray, rv.length, rv2.length]
  refine W.done s _ _ (by rw [e]; exact ⟨t1, t2, t3, t4, t5, p.isList, p2.isList⟩) fun h1 tk kk => ⟨rfl, ?_⟩
  exact I.turnedN (fp := [z, TI, TO, i1, i2]) (fun c o hc e => kk c o (fun hm => hc (by
   simp only [List.mem_cons, List.not_mem_nil, or_false] at hm ⊢
   rcases hm with r | r | r | r <;> simp [r])) e) hf
 self := fun A i s Q E st h => wpAny_pyIter_zip st.1 h
noncomputable def iZip (K : PySem.W.Frag) (ta : TA) : TI := fun σ H R => ta σ H fun vs H1 => ∃ a b, vs = [.ref a, .ref b] ∧ (∃ xs, SqL K H1 a xs) ∧ (∃ ys, SqL K H1 b ys) ∧ R (Itz K a b) H1
theorem ZhC : bootBuiltins "zip" = some (.type "zip") := by decide +kernel
theorem ZmH {X : Cx} {elts : List Expr} {k : Nat} {tp : Pos} {a b : Expr} {ta : TA} {p pos : Pos} (hg : Gl X "zip") (hm : X.mg "zip" = none) (ha : PA X [a, b] ta) (hs : starEach [a, b] X.env = [(false, eval a X.env), (false, eval b X.env)] := by rfl) (hs2 : starEach [b] X.env = [(false, eval b X.env)] := by rfl) :
  PI X (.Tuple elts k tp) (.Call (.Name "zip" p) [a, b] [] pos) (iZip X.K ta) := by
 intro pins s σ H R I h
 refine Call_ (ZcB I hg hm ZhC (PyProof.Rows.callWith_type1 (thn (ha pos pins s σ H _ I h) fun us s1 ⟨vs, H1, I1, r1, q1⟩ => ?_) (by rw [hs, hs2]) (by rw [hs2]; rfl)))
 obtain ⟨a', b', e, ⟨xs, hq⟩, ⟨ys, hq2⟩, q⟩ := q1
 subst e
 cases r1 with
 | cons r rr =>
  cases rr with
  | cons r' rr =>
   cases rr
   cases r
   cases r'
   obtain ⟨its, rv, p1, hz⟩ := I1.list hq
   obtain ⟨its2, rv2, p2, hz2⟩ := I1.list hq2
   refine call_zip_2 p1.isList p2.isList fun h' g1 g2 g3 g4 g5 g6 g7 => ?_
   refine wpAny_pyIter_zip g1 ?_
   have I2 : Inv X pins σ H1 { s1 with heap := h' } := I1.kept (t' := s1.toks) g7
   refine ⟨s1.heap.objs.size + 4, [s1.heap.objs.size + 4, s1.heap.objs.size + 2, s1.heap.objs.size + 3, s1.heap.objs.size, s1.heap.objs.size + 1], _, _, H1, rfl, I2, ZkH a' b' (s1.heap.objs.size + 4) (s1.heap.objs.size + 2) (s1.heap.objs.size + 3) s1.heap.objs.size (s1.heap.objs.size + 1) (Zln _), ⟨g1, g2, ⟨_, _, g3⟩, g4, g5⟩, fun c hc => ?_, q⟩
   simp only [List.mem_cons, List.not_mem_nil, or_false] at hc
   have hle : s1.heap.objs.size ≤ c := by rcases hc with r | r | r | r | r <;> rw [r] <;> first | exact Nat.le_refl _ | exact Nat.le_add_right _ _
   exact I1.fpOk hle (I1.hok.fresh hle)
end L2
namespace TF
open PySem PySem.Spec PyProof.Rows L2
section
variable {X : Cx} {G : Gh}
noncomputable def zipD (xs ys : List D) : List D := List.zipWith (fun x y => D.tup [x, y]) xs ys
theorem ItOk.zip {K : PySem.W.Frag} {a b : Addr} {vs us : List V} {Hf : Hp} {ds es : List D} (na : ¬ G.fp a) (h : Hf a = some (.lst vs)) (r : RepL G Hf ds vs) (nb : ¬ G.fp b) (h' : Hf b = some (.lst us)) (r' : RepL G Hf es us) : ItOk G (Itz K a b) Hf (zipD ds es) := fun i Hf2 H2 s e1 e2 st => by
 have h2 : SqL K H2 a vs := SqL.of (e2 _ _ na (e1 _ _ na h))
 have h3 : SqL K H2 b us := SqL.of (e2 _ _ nb (e1 _ _ nb h'))
 refine ⟨fun d q => ?_, fun q => ⟨vs, us, h2, h3, by rw [q]; unfold zipD; rw [List.length_zipWith, r.length, r'.length]⟩⟩
 unfold zipD at q
 rw [List.getElem?_zipWith] at q
 cases qa : ds[i]? with
 | none => rw [qa] at q; simp at q
 | some x =>
  cases qb : es[i]? with
  | none => rw [qa, qb] at q; simp at q
  | some y =>
   rw [qa, qb] at q
   simp at q
   subst q
   obtain ⟨v, q1, q2⟩ := r.get qa
   obtain ⟨u, q3, q4⟩ := r'.get qb
   refine ⟨⟨vs, us, v, u, h2, h3, q1, q3⟩, fun z H3 ⟨T, v', u', hT, y0, y1, y2, y3⟩ => ?_⟩
   have ev := y2 vs h2
   have eu := y3 us h3
   rw [q1] at ev; cases ev
   rw [q3] at eu; cases eu
   subst y0 y1
   have nf := Gh.nofp st hT
   have g2 := Gr.new (o := .tup [v, u]) e2 hT nf
   refine ⟨upd Hf2 T (.tup [v, u]), g2, Gh.grow st hT, Rep.tup_iff.mpr ⟨T, _, rfl, nf, Zap, ?_⟩⟩
   exact .cons ((q2.ext e1).ext g2.ff) (.one ((q4.ext e1).ext g2.ff))
end
section
variable {X : Cx} {G : Gh}
noncomputable def ZgQ : D → Option Bool
 | .non => some true
 | .pen => none
 | .ty _ => none
 | .clo _ _ => none
 | _ => some false
noncomputable def dIsN (d e : D) : Option D := match e with | .non => (ZgQ d).map .bl | _ => none
theorem Zj6 {Hf : Hp} {d : D} {v : V} {b : Bool} (h : ZgQ d = some b) (r : Rep G Hf d v) : decide (v = .non) = b := by
 cases d with
 | non => cases h; rw [Rep.non_iff.mp r]; rfl
 | bl _ => cases h; rw [Rep.bl_iff.mp r]; rfl
 | int _ => cases h; rw [Rep.int_iff.mp r]; rfl
 | str _ => cases h; rw [Rep.str_iff.mp r]; rfl
 | tup _ => cases h; obtain ⟨p, vs, rfl, _⟩ := Rep.tup_iff.mp r; rfl
 | lst _ => cases h; obtain ⟨p, vs, rfl, _⟩ := Rep.lst_iff.mp r; rfl
 | dk _ => cases h; obtain ⟨p, rfl, _⟩ := Rep.dk_iff.mp r; rfl
 | dt _ => cases h; obtain ⟨p, _, rfl, _⟩ := Rep.dt_iff.mp r; rfl
 | du _ => cases h; obtain ⟨p, rfl, _⟩ := Rep.du_iff.mp r; rfl
 | df _ => cases h; obtain ⟨p, _, rfl, _⟩ := Rep.df_iff.mp r; rfl
 | pen => cases h
 | ty _ => cases h
 | clo _ _ => cases h
theorem Zh9 : OpD X G (compareOp .Is) dIsN :=
 ⟨_, Zm2, fun Hf H s x y d e c Q e1 st rx ry q k => by
  cases e with
  | non =>
   have q : (ZgQ d).map D.bl = some c := q
   cases hb : ZgQ d with
   | none => rw [hb] at q; cases q
   | some b =>
    rw [hb] at q
    cases q
    refine ⟨Rep.non_iff.mp ry, ?_⟩
    rw [Zj6 hb rx]
    exact k _ Hf H (.refl e1) st (Rep.bl_iff.mpr rfl) (.scal fun z => z)
  | _ => cases q⟩
end
section
variable {X : Cx} {G : Gh}
end
end TF
namespace HT
open PySem PySem.Spec PyProof.Rows
section
variable {prog : Program} {w : World} {A : Around} {E : Value → Shared → Prop} {s : Shared}
end
end HT
namespace TF
open PySem PySem.Spec PyProof.Rows L2
section
variable {X : Cx} {G : Gh}
end
end TF
namespace L2
open PySem PySem.Spec PyProof.Rows
open AutoSeq1 (wpAny_loadPart')
section
variable {prog : Program} {w : World} {A : Around} {E : Value → Shared → Prop} {s : Shared}
theorem ZiQ {q t : Addr} {i : Nat} {ys : Array Value} {x : Value} {Q : Value → Shared → Prop} (hq : s.heap.IsTupleIter q t i) (ht : s.heap.IsTuple t ys) (hx : ys[i]? = some x)
  (k : ∀ h', h'.IsTupleIter q t (i + 1) → Heap.SameBut q s.heap h' → Q x { s with heap := h' }) : wpAny (model prog w) A (Builtin.SmallTypes.nextOf (.ref q)) Q E s := by
 obtain ⟨o, ho, hc, hd⟩ := id hq; obtain ⟨ol, hol, _, nl, hdl⟩ := ht
 unfold Builtin.SmallTypes.nextOf; refine wpAny_bind (wpAny_callSpecial?_slot (name := Str.ofString "__next__") hq.typeIs F.slot_tuple_iterator_next (wpAny_call_entry F.slot_tuple_iterator_next hq.typeIs F.entry_tuple_iterator_next ?_ (F.args_tuple_iterator_next_1 _)))
 show wpAny _ _ (field (.ref q) 0 >>= _) _ _ s; refine wpAny_bind (wpAny_field ho hd (x := .ref t) rfl ?_); show wpAny _ _ (if (Value.ref t == Value.none) = true then _ else _) _ _ s; rw [if_neg (show ¬ ((Value.ref t == Value.none) = true) from Bool.false_ne_true)]
 show wpAny _ _ (field (.ref q) 1 >>= _) _ _ s; refine wpAny_bind (wpAny_field ho hd (x := .int i 0) rfl ?_); show wpAny _ _ (seqItems? (.ref t) >>= _) _ _ s; refine wpAny_bind (wpAny_seqItems hol hdl ?_); simp only [Int.toNat_natCast, hx]
 exact wpAny_bind (wpAny_setField ho hd (by simp) (wpAny_pure ⟨x, rfl, wpAny_pure (k _ ⟨_, Heap.get?_update_self _ ho (Obj.isFreed_of_fields (Obj.data_mapFields hd _)), (Obj.cls_mapFields ..).trans hc, by rw [Obj.data_mapFields hd]; simp [rawInt]⟩ (Heap.SameBut.update ..))⟩))
theorem ZjU {q t : Addr} {i : Nat} {ys : Array Value} {Q : Value → Shared → Prop} (hh : A.handled = none) (hq : s.heap.IsTupleIter q t i) (ht : s.heap.IsTuple t ys) (hx : ys[i]? = none)
  (hE : ∀ h' e, Heap.ExtBut q s.heap h' → (∃ o, h'.get? e = some o ∧ o.cls = .type "StopIteration") → E (.ref e) { s with heap := h' }) : wpAny (model prog w) A (Builtin.SmallTypes.nextOf (.ref q)) Q E s := by
 obtain ⟨o, ho, hc, hd⟩ := id hq; obtain ⟨ol, hol, _, nl, hdl⟩ := ht
 unfold Builtin.SmallTypes.nextOf; refine wpAny_bind (wpAny_callSpecial?_slot (name := Str.ofString "__next__") hq.typeIs F.slot_tuple_iterator_next (wpAny_call_entry F.slot_tuple_iterator_next hq.typeIs F.entry_tuple_iterator_next ?_ (F.args_tuple_iterator_next_1 _)))
 show wpAny _ _ (field (.ref q) 0 >>= _) _ _ s; refine wpAny_bind (wpAny_field ho hd (x := .ref t) rfl ?_); show wpAny _ _ (if (Value.ref t == Value.none) = true then _ else _) _ _ s; rw [if_neg (show ¬ ((Value.ref t == Value.none) = true) from Bool.false_ne_true)]
 show wpAny _ _ (field (.ref q) 1 >>= _) _ _ s; refine wpAny_bind (wpAny_field ho hd (x := .int i 0) rfl ?_); show wpAny _ _ (seqItems? (.ref t) >>= _) _ _ s; refine wpAny_bind (wpAny_seqItems hol hdl ?_); simp only [Int.toNat_natCast, hx]
 refine wpAny_bind (wpAny_rule (wpAny_bind (wpAny_setField ho hd (by simp) ?_))); show wpAny _ _ (newExc (.type "StopIteration") [] >>= _) _ _ _; refine wpAny_bind ?_; simp only [newExc, newTuple]; refine wpAny_bind (wpAny_newObj_type ?_ (by size_fits))
 refine wpAny_bind (m := firstArgMember _ _) (wpAny_of_eq (a := Value.none) (by first | rfl | (simp only [firstArgMember]; rfl)) ?_); refine wpAny_newObj_type ?_ (by size_fits); simp only [raiseNew]; refine wpAny_bind (wpAny_handled ?_)
 first | rw [show A.in1.handled = none from hh]; refine wpAny_bind (wpAny_pure (wpAny_throw ?_)) | rw [hh]; refine wpAny_bind (wpAny_pure (wpAny_throw ?_))
 exact hE _ _ (((Heap.SameBut.update ..).extBut.push _).push _) ⟨_, Heap.get?_push_size _ rfl, rfl⟩
end
theorem ZfH {prog : Program} {w : World} {A : Around} (hh : A.handled = none) (q t : Addr) (hne : t ≠ q) (ys : Array Value) : Draws prog w A q [q, t] ys.size (fun i v => ys[i]? = some v) (fun i h => h.IsTupleIter q t i ∧ h.IsTuple t ys) where
 live := fun _ _ st => let ⟨o, ho, _⟩ := st.1; ⟨o, ho⟩
 frame := fun _ _ _ st k => ⟨st.1.at fun o e => k q (by simp) o e, st.2.at fun o e => k t (by simp) o e⟩
 item := fun i s Q E hi st k => ZiQ st.1 st.2 (x := ys[i]) (by simp [hi]) fun h' g sb => k _ h' s.toks (by simp [hi]) ⟨g, st.2.at fun o e => (sb.2 t hne).trans e⟩ sb
 done := fun s Q E st hE => ZjU hh st.1 st.2 (by simp) hE
theorem Zf7 : bootBuiltins "enumerate" = some (.type "enumerate") := by decide +kernel
end L2
namespace TF
open PySem PySem.Spec PyProof.Rows L2
section
variable {X : Cx} {G : Gh}
noncomputable def Zc4 (ds : List D) : List D := ds.mapIdx fun i d => D.tup [.int (i : Int), d]
end
section
variable {X : Cx} {G : Gh}
theorem ZkV {i : Nat} {x : Str} {e : Expr} {pos p1 p2 p3 : Pos} {r1 fr : Bool} {ob own : List Nat} {f : Rho → M D} (hi : i ∈ own) (hv : PE X (.Name x p1) (tVar i)) (he : PD X G r1 e f)
  (hbase : attributeBase (.Name x p1) "append" X.env (eval (.Name x p1) X.env) = eval (.Name x p1) X.env := by rfl)
  (hfew : ((backTo p3 (starEach [e] X.env)).all (fun x => !x.1) && (backToKw p3 (keywordEach [] X.env)).all (fun x => x.1.isSome)
   && decide ([e].length + ([] : List Keyword).length + (if ([] : List Keyword).isEmpty then 0 else 1) < 30)) = true := by rfl)
  (hline : (p2.endLine == p3.line) = true := by rfl) (hs : starEach [e] X.env = (false, eval e X.env) :: starEach [] X.env := by rfl)
  (hsw : swapsWith (.Call (.Attribute (.Name x p1) "append" p2) [e] [] p3) none pos.line X.env = pure false := by rfl) :
  PDS X G ob own own fr (.Expr (.Call (.Attribute (.Name x p1) "append" p2) [e] [] p3) pos) (sApp i (fun ρ => f (hide own ρ))) :=
 ZdS hi he fun te p => Zdo hv p hbase hfew hline hs hsw
end
noncomputable def Zfp (K : PySem.W.Frag) (L : List (Addr × Str)) : Sp := fun vs H Q _ => ∃ (a : Addr) (ns : List Int), vs = [.ref a] ∧ SqL K H a (ns.map V.int) ∧ ns.length ≤ 63 ∧ (∀ P q, (P, q) ∈ L → H P = some (.tbl #[])) ∧ ∀ H', Q (.bl true) H'
theorem ZiD {L : List (Addr × Str)} {tb : List (Str × Addr × Addr)} {H : Hp} (h : ∀ P q, (P, q) ∈ L → ∃ x c, (x, c, P) ∈ tb) (hT : ∀ e ∈ tb, H e.2.2 = some (.tbl #[])) : ∀ P q, (P, q) ∈ L → H P = some (.tbl #[]) := fun P q m => by
 obtain ⟨x, c, z⟩ := h P q m
 exact hT _ z
theorem Znq {G0 : Gh} {L : List (Addr × Str)} {H : Hp} (h : ∀ P q, (P, q) ∈ L → H P = some (.tbl #[])) : ∀ P q, (P, q) ∈ L → ZlH G0 L P q H := fun P q m => ⟨#[], h P q m, trivial, fun pos cv hc => by cases hc⟩
theorem lok_nd : ∀ {L : List (Addr × Str)}, (L.map (·.1)).Nodup → LOk L
 | [], _ => fun P q q' h => by simp at h
 | (a, b) :: L, nd => fun P q q' h1 h2 => by
  rw [List.map_cons, List.nodup_cons] at nd
  rcases List.mem_cons.mp h1 with e1 | m1
  ·cases e1
   rcases List.mem_cons.mp h2 with e2 | m2
   ·cases e2; rfl
   ·exact absurd (List.mem_map_of_mem (f := (·.1)) m2) nd.1
  ·rcases List.mem_cons.mp h2 with e2 | m2
   ·cases e2; exact absurd (List.mem_map_of_mem (f := (·.1)) m1) nd.1
   ·exact lok_nd nd.2 P q q' m1 m2
end TF
namespace TT
open PySem PyProof.Rows
noncomputable def ZdJ : Bool → Keyed → Array Keyed → Nat → Nat → Nat → StateT SortSt Sem (Option Nat) := sortPriv% PySem.Builtin.gallop
noncomputable def ZdN (left : Bool) (key : Keyed) (arr : Array Keyed) (base : Nat) (i : Nat) : StateT SortSt Sem (Option Bool) := do
 let x ← elem' arr (base + i)
 if left then lt' x key else return (← lt' key x).map (!·)
section
variable {M : Model} {A : Around} {E : Value → Shared → Prop} {s : Shared}
set_option hygiene false in
local macro_rules | `(tactic| walk_at "galBin") => `(tactic| (
  refine wpS_bind (wpS_mono (wpS_forRange (I := fun x c st' => st' = st ∧ ∃ l h, c = (none, l, h) ∧ l ≤ h ∧ h ≤ n ∧ h - l ≤ n - x ∧ (∀ i, i < l → B i = true) ∧ (∀ i, h ≤ i → i < n → B i = false))
   (Q := fun c st' => st' = st ∧ ∃ h, c = (none, h, h) ∧ h ≤ n ∧ (∀ i, i < h → B i = true) ∧ (∀ i, h ≤ i → i < n → B i = false)) ?stepB ?finB ⟨rfl, lo, hi, rfl, h1, h2, by omega, h3, h4⟩) ?postB)
  case postB =>
   rintro c st' ⟨rfl, h, rfl, a1, a2, a3⟩
   exact wpS_pure (k h a1 a2 a3)
  case finB =>
   rintro c st' ⟨rfl, l, h, rfl, a1, a2, a3, a4, a5⟩
   have : l = h := by omega
   subst this
   exact ⟨rfl, l, rfl, a2, a4, a5⟩
  case stepB =>
   rintro x c st' _ hx ⟨rfl, l, h, rfl, a1, a2, a3, a4, a5⟩
   dsimp only
   by_cases e : l ≥ h
   ·rw [if_pos e]
    have : l = h := by omega
    subst this
    exact wpS_pure ⟨rfl, l, rfl, a2, a4, a5⟩
   ·rw [if_neg e]
    have hm : l + (h - l) / 2 < n := by omega
    refine wpS_bind (hB _ hm _ ?_)
    dsimp only
    cases q : B (l + (h - l) / 2) with
    | true =>
     rw [if_pos rfl]
     exact wpS_pure ⟨rfl, _, _, rfl, by omega, a2, by omega, fun i hi => low (by omega) hm q, a5⟩
    | false =>
     rw [if_neg (by decide)]
     exact wpS_pure ⟨rfl, _, _, rfl, by omega, by omega, by omega, a4, fun i hi hn => upp hi hn q⟩))
theorem Zds {left : Bool} {key : Keyed} {arr : Array Keyed} {base n hint : Nat} {st : SortSt} {Q : Option Nat → SortSt → Prop} (B : Nat → Bool) (hh : hint < n) (mono : ∀ i j, i < j → j < n → B j = true → B i = true)
  (hB : ∀ i, i < n → ∀ F : Option Bool → SortSt → Prop, F (some (B i)) st → wpS M A E s (ZdN left key arr base i) F st)
  (k : ∀ r, r ≤ n → (∀ i, i < r → B i = true) → (∀ i, r ≤ i → i < n → B i = false) → Q (some r) st) : wpS M A E s (ZdJ left key arr base n hint) Q st := by
 have low : ∀ {i j : Nat}, i ≤ j → j < n → B j = true → B i = true := fun {i j} h1 h2 h3 => by
  rcases Nat.lt_or_eq_of_le h1 with h | h
  ·exact mono i j h h2 h3
  ·rw [h]; exact h3
 have upp : ∀ {i j : Nat}, i ≤ j → j < n → B i = false → B j = false := fun {i j} h1 h2 h3 => by
  cases e : B j with
  | false => rfl
  | true => rw [low h1 h2 e] at h3; cases h3
 refine wpS_bind (hB hint hh _ ?_)
 cases hr : B hint with
 | true =>
  dsimp only
  rw [if_pos rfl]
  refine wpS_bind (wpS_mono (wpS_forRange (I := fun x c st' => st' = st ∧ ∃ l f, c = (none, l, f) ∧ l < f ∧ x + 1 ≤ f ∧ hint + l < n ∧ B (hint + l) = true)
   (Q := fun c st' => st' = st ∧ ∃ l f, c = (none, l, f) ∧ l < f ∧ hint + l < n ∧ B (hint + l) = true ∧ (f ≥ n - hint ∨ hint + f < n ∧ B (hint + f) = false)) ?step ?fin ⟨rfl, 0, 1, rfl, by omega, by omega, hh, hr⟩) ?post)
  case post =>
   rintro c st2 ⟨e0, l, f, rfl, a1, a2, a3, a4⟩
   rw [e0]
   have h1 : hint + l + 1 ≤ hint + min f (n - hint) := by omega
   have h2 : hint + min f (n - hint) ≤ n := by omega
   have h3 : ∀ i, i < hint + l + 1 → B i = true := fun i hi => low (by omega) a2 a3
   have h4 : ∀ i, hint + min f (n - hint) ≤ i → i < n → B i = false := fun i hi hn => by
    rcases a4 with a4 | a4
    ·omega
    ·exact upp (by omega) hn a4.2
   dsimp only
   generalize hint + l + 1 = lo at h1 h3 ⊢
   generalize hint + min f (n - hint) = hi at h1 h2 h4 ⊢
   walk_at "galBin"
  case fin =>
   rintro c st' ⟨rfl, l, f, rfl, a1, a2, a3, a4⟩
   exact ⟨rfl, l, f, rfl, a1, a3, a4, .inl (by omega)⟩
  case step =>
   rintro x c st' _ hx ⟨rfl, l, f, rfl, a1, a2, a3, a4⟩
   dsimp only
   by_cases e : f ≥ n - hint
   ·rw [if_pos e]
    exact wpS_pure ⟨rfl, l, f, rfl, a1, a3, a4, .inl e⟩
   ·rw [if_neg e]
    refine wpS_bind (hB _ (by omega) _ ?_)
    dsimp only
    cases q : B (hint + f) with
    | true =>
     rw [if_neg (by decide)]
     exact wpS_pure ⟨rfl, f, 2 * f + 1, rfl, by omega, by omega, by omega, q⟩
    | false =>
     rw [if_pos (by decide)]
     exact wpS_pure ⟨rfl, l, f, rfl, a1, a3, a4, .inr ⟨by omega, q⟩⟩
 | false =>
  dsimp only
  rw [if_neg (by decide)]
  refine wpS_bind (wpS_mono (wpS_forRange (I := fun x c st' => st' = st ∧ ∃ l f, c = (none, l, f) ∧ l < f ∧ x + 1 ≤ f ∧ l ≤ hint ∧ B (hint - l) = false)
   (Q := fun c st' => st' = st ∧ ∃ l f, c = (none, l, f) ∧ l < f ∧ l ≤ hint ∧ B (hint - l) = false ∧ (f ≥ hint + 1 ∨ f ≤ hint ∧ B (hint - f) = true)) ?step ?fin ⟨rfl, 0, 1, rfl, by omega, by omega, by omega, hr⟩) ?post)
  case post =>
   rintro c st2 ⟨e0, l, f, rfl, a1, a2, a3, a4⟩
   rw [e0]
   have h1 : hint + 1 - min f (hint + 1) ≤ hint - l := by omega
   have h2 : hint - l ≤ n := by omega
   have h3 : ∀ i, i < hint + 1 - min f (hint + 1) → B i = true := fun i hi => by
    rcases a4 with a4 | a4
    ·omega
    ·exact low (j := hint - f) (by omega) (by omega) a4.2
   have h4 : ∀ i, hint - l ≤ i → i < n → B i = false := fun i hi hn => upp hi hn a3
   dsimp only
   generalize hint + 1 - min f (hint + 1) = lo at h1 h3 ⊢
   generalize hint - l = hi at h1 h2 h4 ⊢
   walk_at "galBin"
  case fin =>
   rintro c st' ⟨rfl, l, f, rfl, a1, a2, a3, a4⟩
   exact ⟨rfl, l, f, rfl, a1, a3, a4, .inl (by omega)⟩
  case step =>
   rintro x c st' _ hx ⟨rfl, l, f, rfl, a1, a2, a3, a4⟩
   dsimp only
   by_cases e : f ≥ hint + 1
   ·rw [if_pos e]
    exact wpS_pure ⟨rfl, l, f, rfl, a1, a3, a4, .inl e⟩
   ·rw [if_neg e]
    refine wpS_bind (hB _ (by omega) _ ?_)
    dsimp only
    cases q : B (hint - f) with
    | true =>
     rw [if_pos rfl]
     exact wpS_pure ⟨rfl, l, f, rfl, a1, a3, a4, .inr ⟨by omega, q⟩⟩
    | false =>
     rw [if_neg (by decide)]
     exact wpS_pure ⟨rfl, f, 2 * f + 1, rfl, by omega, by omega, by omega, q⟩
end
end TT
namespace TT
open PySem PyProof.Rows
noncomputable abbrev setG (st : SortSt) (g : Nat) : SortSt := SortSt.mk' (kindOf st) (arrOf st) (pendingOf st) g (failedOf st)
noncomputable def ZkZ : Array Keyed → Array Keyed → StateT SortSt Sem (Array Keyed) := sortPriv% PySem.Builtin.mergeLo
noncomputable def Zk0 : Array Keyed → Array Keyed → StateT SortSt Sem (Array Keyed) := sortPriv% PySem.Builtin.mergeHi
section
variable (rk : Keyed → Int)
noncomputable def SL (l : List Keyed) : Prop := l.Pairwise fun x y => rk x ≤ rk y
structure Jm (a b out : Array Keyed) (ia ib : Nat) : Prop where
 la : ia ≤ a.size
 lb : ib ≤ b.size
 pm : out.toList.Perm (a.toList.take ia ++ b.toList.take ib)
 so : SL rk out.toList
 ga : ∀ x ∈ out.toList, ∀ y ∈ a.toList.drop ia, rk x ≤ rk y
 gb : ∀ x ∈ out.toList, ∀ y ∈ b.toList.drop ib, rk x ≤ rk y
variable {rk} {a b out : Array Keyed} {ia ib : Nat}
theorem Zct {l : List Keyed} {i : Nat} {x : Keyed} (h : l[i]? = some x) : l.drop i = x :: l.drop (i + 1) := by
 obtain ⟨hl, e⟩ := List.getElem?_eq_some_iff.mp h
 rw [List.drop_eq_getElem_cons hl, e]
theorem Zcj {l : List Keyed} {i : Nat} {x : Keyed} (h : l[i]? = some x) : l.take (i + 1) = l.take i ++ [x] := by
 obtain ⟨hl, e⟩ := List.getElem?_eq_some_iff.mp h
 rw [List.take_succ_eq_append_getElem hl, e]
theorem SL.drop {l : List Keyed} (h : SL rk l) (i : Nat) : SL rk (l.drop i) := h.sublist (List.drop_sublist _ _)
theorem SL.head {l : List Keyed} (h : SL rk l) {i : Nat} {x : Keyed} (hx : l[i]? = some x) : ∀ y ∈ l.drop i, rk x ≤ rk y := fun y hy => by
 have := h.drop i
 rw [Zct hx] at this hy
 rcases List.mem_cons.mp hy with rfl | hy
 ·exact Int.le_refl _
 ·exact (List.pairwise_cons.mp this).1 y hy
theorem toL {l : Array Keyed} {i : Nat} {x : Keyed} (h : l[i]? = some x) : l.toList[i]? = some x := by rw [Array.getElem?_toList]; exact h
theorem Jm.pushB (h : Jm rk a b out ia ib) (hb : SL rk b.toList) {x : Keyed} (hx : b[ib]? = some x) (hle : ∀ y ∈ a.toList.drop ia, rk x ≤ rk y) : Jm rk a b (out.push x) ia (ib + 1) := by
 have hx' := toL hx
 have hl : ib < b.size := by
  have := (List.getElem?_eq_some_iff.mp hx').1
  simpa using this
 have hd := hb.head hx'
 refine ⟨h.la, hl, ?_, ?_, fun o ho y hy => ?_, fun o ho y hy => ?_⟩
 ·rw [Array.toList_push, Zcj hx', ← List.append_assoc]
  exact h.pm.append_right _
 ·rw [Array.toList_push]
  refine List.pairwise_append.mpr ⟨h.so, List.pairwise_singleton _ _, fun o ho y hy => ?_⟩
  rw [List.mem_singleton.mp hy]
  exact h.gb o ho x (by rw [Zct hx']; simp)
 ·rw [Array.toList_push] at ho
  rcases List.mem_append.mp ho with ho | ho
  ·exact h.ga o ho y hy
  ·rw [List.mem_singleton.mp ho]; exact hle y hy
 ·rw [Array.toList_push] at ho
  have hy' : y ∈ b.toList.drop ib := by rw [Zct hx']; exact List.mem_cons_of_mem _ hy
  rcases List.mem_append.mp ho with ho | ho
  ·exact h.gb o ho y hy'
  ·rw [List.mem_singleton.mp ho]; exact hd y hy'
theorem Jm.pushA (h : Jm rk a b out ia ib) (ha : SL rk a.toList) {x : Keyed} (hx : a[ia]? = some x) (hle : ∀ y ∈ b.toList.drop ib, rk x ≤ rk y) : Jm rk a b (out.push x) (ia + 1) ib := by
 have hx' := toL hx
 have hl : ia < a.size := by
  have := (List.getElem?_eq_some_iff.mp hx').1
  simpa using this
 have hd := ha.head hx'
 refine ⟨hl, h.lb, ?_, ?_, fun o ho y hy => ?_, fun o ho y hy => ?_⟩
 ·rw [Array.toList_push, Zcj hx']
  refine (h.pm.append_right _).trans ?_
  rw [List.append_assoc, List.append_assoc]
  exact List.Perm.append_left _ List.perm_append_comm
 ·rw [Array.toList_push]
  refine List.pairwise_append.mpr ⟨h.so, List.pairwise_singleton _ _, fun o ho y hy => ?_⟩
  rw [List.mem_singleton.mp hy]
  exact h.ga o ho x (by rw [Zct hx']; simp)
 ·rw [Array.toList_push] at ho
  have hy' : y ∈ a.toList.drop ia := by rw [Zct hx']; exact List.mem_cons_of_mem _ hy
  rcases List.mem_append.mp ho with ho | ho
  ·exact h.ga o ho y hy'
  ·rw [List.mem_singleton.mp ho]; exact hd y hy'
 ·rw [Array.toList_push] at ho
  rcases List.mem_append.mp ho with ho | ho
  ·exact h.gb o ho y hy
  ·rw [List.mem_singleton.mp ho]; exact hle y hy
theorem Zhs {xs : Array Keyed} {i k : Nat} (h : i + k < xs.size) (out : Array Keyed) : out ++ xs.extract i (i + (k + 1)) = (out ++ xs.extract i (i + k)).push xs[i + k] := by
 apply Array.ext'
 simp only [Array.toList_append, Array.toList_extract, Array.toList_push, List.extract_eq_take_drop, List.append_assoc]
 congr 1
 have e1 : i + (k + 1) - i = k + 1 := by omega
 have e2 : i + k - i = k := by omega
 rw [e1, e2]
 have hg : (xs.toList.drop i)[k]? = some xs[i + k] := by rw [List.getElem?_drop, Array.getElem?_toList, Array.getElem?_eq_getElem h]
 exact Zcj hg
theorem Jm.bulkA (ha : SL rk a.toList) : ∀ (k : Nat), Jm rk a b out ia ib → ia + k ≤ a.size → (∀ i x, i < k → a[ia + i]? = some x → ∀ y ∈ b.toList.drop ib, rk x ≤ rk y) → Jm rk a b (out ++ a.extract ia (ia + k)) (ia + k) ib
 | 0, h, _, _ => by
  have : out ++ a.extract ia (ia + 0) = out := by simp; omega
  rw [this]; exact h
 | k + 1, h, hk, hle => by
  have hi : ia + k < a.size := by omega
  have ih := Jm.bulkA ha k h (by omega) fun i x hi => hle i x (by omega)
  rw [Zhs hi]
  exact ih.pushA ha (Array.getElem?_eq_getElem hi) (hle k _ (by omega) (Array.getElem?_eq_getElem hi))
theorem Jm.bulkB (hb : SL rk b.toList) : ∀ (k : Nat), Jm rk a b out ia ib → ib + k ≤ b.size → (∀ i x, i < k → b[ib + i]? = some x → ∀ y ∈ a.toList.drop ia, rk x ≤ rk y) → Jm rk a b (out ++ b.extract ib (ib + k)) ia (ib + k)
 | 0, h, _, _ => by
  have : out ++ b.extract ib (ib + 0) = out := by simp; omega
  rw [this]; exact h
 | k + 1, h, hk, hle => by
  have hi : ib + k < b.size := by omega
  have ih := Jm.bulkB hb k h (by omega) fun i x hi => hle i x (by omega)
  rw [Zhs hi]
  exact ih.pushB hb (Array.getElem?_eq_getElem hi) (hle k _ (by omega) (Array.getElem?_eq_getElem hi))
noncomputable def Mg (rk : Keyed → Int) (a b r : Array Keyed) : Prop := r.toList.Perm (a.toList ++ b.toList) ∧ SL rk r.toList
theorem Zcg (xs : Array Keyed) (i : Nat) : (xs.extract i xs.size).toList = xs.toList.drop i := by
 rw [Array.toList_extract, List.extract_eq_take_drop, List.take_of_length_le]
 rw [List.length_drop, Array.length_toList]
 exact Nat.le_refl _
theorem Jm.done (h : Jm rk a b out ia ib) (ha : SL rk a.toList) (hb : SL rk b.toList) (e : ib = b.size ∨ ia = a.size) : Mg rk a b (out ++ a.extract ia a.size ++ b.extract ib b.size) := by
 refine ⟨?_, ?_⟩
 ·rw [Array.toList_append, Array.toList_append, Zcg, Zcg]
  refine ((h.pm.append_right _).append_right _).trans ?_
  rw [List.append_assoc, List.append_assoc]
  have : (b.toList.take ib ++ (a.toList.drop ia ++ b.toList.drop ib)).Perm (a.toList.drop ia ++ (b.toList.take ib ++ b.toList.drop ib)) := by
   rw [← List.append_assoc, ← List.append_assoc]
   exact List.perm_append_comm.append_right _
  refine (this.append_left _).trans ?_
  rw [List.take_append_drop, ← List.append_assoc, List.take_append_drop]
 ·rw [SL, Array.toList_append, Array.toList_append, Zcg, Zcg]
  rcases e with e | e
  ·have z : b.toList.drop ib = [] := by rw [e]; exact List.drop_of_length_le (by simp)
   rw [z, List.append_nil]
   exact List.pairwise_append.mpr ⟨h.so, ha.drop ia, fun x hx y hy => h.ga x hx y hy⟩
  ·have z : a.toList.drop ia = [] := by rw [e]; exact List.drop_of_length_le (by simp)
   rw [z, List.append_nil]
   exact List.pairwise_append.mpr ⟨h.so, hb.drop ib, fun x hx y hy => h.gb x hx y hy⟩
theorem Jm.last (h : Jm rk a b out ia ib) (ha : SL rk a.toList) (hb : SL rk b.toList) (e : ia + 1 = a.size) (top : ∀ y ∈ b.toList, ∀ x, a[a.size - 1]? = some x → rk y ≤ rk x) : Mg rk a b (out ++ b.extract ib b.size ++ a.extract ia a.size) := by
 have hi : ia < a.size := by omega
 refine ⟨?_, ?_⟩
 ·rw [Array.toList_append, Array.toList_append, Zcg, Zcg]
  refine ((h.pm.append_right _).append_right _).trans ?_
  rw [List.append_assoc (a.toList.take ia), List.take_append_drop, List.append_assoc]
  refine (List.perm_append_comm.append_left _).trans ?_
  rw [← List.append_assoc, List.take_append_drop]
 ·rw [SL, Array.toList_append, Array.toList_append, Zcg, Zcg]
  have hx := Array.getElem?_eq_getElem hi
  have z : a.toList.drop ia = [a[ia]] := by
   rw [Zct (toL hx)]
   rw [List.drop_of_length_le (by simp; omega)]
  rw [z]
  refine List.pairwise_append.mpr ⟨List.pairwise_append.mpr ⟨h.so, hb.drop ib, fun x hx y hy => h.gb x hx y hy⟩, List.pairwise_singleton _ _, fun x hx2 y hy => ?_⟩
  rw [List.mem_singleton.mp hy]
  rcases List.mem_append.mp hx2 with hx2 | hx2
  ·exact h.ga x hx2 _ (by rw [z]; simp)
  ·refine top x (List.mem_of_mem_drop hx2) _ ?_
   rw [show a.size - 1 = ia by omega]
   exact hx
end
end TT
namespace TT
open PySem PyProof.Rows
structure Sim (st st' : SortSt) : Prop where
 kind : kindOf st' = kindOf st
 arr : arrOf st' = arrOf st
 pend : pendingOf st' = pendingOf st
 fail : failedOf st' = failedOf st
theorem Sim.refl (st : SortSt) : Sim st st := ⟨rfl, rfl, rfl, rfl⟩
theorem Sim.setG {st st' : SortSt} (h : Sim st st') (g : Nat) : Sim st (setG st' g) := ⟨h.kind, h.arr, h.pend, h.fail⟩
section
variable {M : Model} {A : Around} {E : Value → Shared → Prop} {s : Shared}
noncomputable def Cmp (M : Model) (A : Around) (E : Value → Shared → Prop) (s : Shared) (rk : Keyed → Int) (κ : SortKind) (In : Keyed → Prop) : Prop :=
 ∀ x y, In x → In y → ∀ (st : SortSt) (F : Option Bool → SortSt → Prop), kindOf st = κ → F (some (decide (rk x < rk y))) st → wpS M A E s (lt' x y) F st
variable {rk : Keyed → Int} {κ : SortKind} {In : Keyed → Prop}
theorem ZaG {xs : Array Keyed} {i : Nat} {x : Keyed} {st : SortSt} {F : Keyed → SortSt → Prop} (h : xs[i]? = some x) (k : F x st) : wpS M A E s (elem' xs i) F st := by
 rw [elem'_eq, h]; exact wpS_pure k
theorem ZgZ {key : Keyed} {arr : Array Keyed} {base n hint : Nat} {st : SortSt} {Q : Option Nat → SortSt → Prop} (C : Cmp M A E s rk κ In) (hk : kindOf st = κ) (hkey : In key) (hin : ∀ x ∈ arr.toList, In x) (hs : SL rk (arr.toList.drop base)) (hb : base + n ≤ arr.size) (hh : hint < n)
  (k : ∀ r, r ≤ n → (∀ i x, i < r → arr[base + i]? = some x → rk x ≤ rk key) → (∀ i x, r ≤ i → i < n → arr[base + i]? = some x → rk key < rk x) → Q (some r) st) : wpS M A E s (ZdJ false key arr base n hint) Q st := by
 have hx : ∀ i, i < n → ∃ x, arr[base + i]? = some x := fun i hi => ⟨arr[base + i]'(by omega), Array.getElem?_eq_getElem (by omega)⟩
 have le : ∀ i j x y, i < j → j < n → arr[base + i]? = some x → arr[base + j]? = some y → rk x ≤ rk y := fun i j x y hij hj ex ey => by
  have e1 : (arr.toList.drop base)[i]? = some x := by rw [List.getElem?_drop, Array.getElem?_toList]; exact ex
  have e2 : (arr.toList.drop base)[j]? = some y := by rw [List.getElem?_drop, Array.getElem?_toList]; exact ey
  obtain ⟨l1, e1⟩ := List.getElem?_eq_some_iff.mp e1
  obtain ⟨l2, e2⟩ := List.getElem?_eq_some_iff.mp e2
  have := List.pairwise_iff_getElem.mp hs i j l1 l2 hij
  rw [e1, e2] at this
  exact this
 refine Zds (fun i => match arr[base + i]? with | some x => !decide (rk key < rk x) | none => false) hh (fun i j hij hj h => ?_) (fun i hi F hF => ?_) fun r h1 h2 h3 => k r h1 (fun i x hi ex => ?_) fun i x hi hn ex => ?_
 ·obtain ⟨x, ex⟩ := hx i (by omega)
  obtain ⟨y, ey⟩ := hx j hj
  simp only [ex, ey] at h ⊢
  have := le i j x y hij hj ex ey
  simp only [Bool.not_eq_true', decide_eq_false_iff_not] at h ⊢
  omega
 ·obtain ⟨x, ex⟩ := hx i hi
  unfold ZdN
  refine wpS_bind (ZaG ex ?_)
  simp only [Bool.false_eq_true, if_false]
  refine wpS_bind (C key x hkey (hin x (Array.mem_toList_iff.mpr (Array.mem_of_getElem? ex))) st _ hk ?_)
  refine wpS_pure ?_
  simp only [ex] at hF
  exact hF
 ·have := h2 i hi
  simp only [ex, Bool.not_eq_true', decide_eq_false_iff_not] at this
  omega
 ·have := h3 i hi hn
  simp only [ex, Bool.not_eq_false', decide_eq_true_eq] at this
  exact this
theorem Zie {key : Keyed} {arr : Array Keyed} {base n hint : Nat} {st : SortSt} {Q : Option Nat → SortSt → Prop} (C : Cmp M A E s rk κ In) (hk : kindOf st = κ) (hkey : In key) (hin : ∀ x ∈ arr.toList, In x) (hs : SL rk (arr.toList.drop base)) (hb : base + n ≤ arr.size) (hh : hint < n)
  (k : ∀ r, r ≤ n → (∀ i x, i < r → arr[base + i]? = some x → rk x < rk key) → (∀ i x, r ≤ i → i < n → arr[base + i]? = some x → rk key ≤ rk x) → Q (some r) st) : wpS M A E s (ZdJ true key arr base n hint) Q st := by
 have hx : ∀ i, i < n → ∃ x, arr[base + i]? = some x := fun i hi => ⟨arr[base + i]'(by omega), Array.getElem?_eq_getElem (by omega)⟩
 have le : ∀ i j x y, i < j → j < n → arr[base + i]? = some x → arr[base + j]? = some y → rk x ≤ rk y := fun i j x y hij hj ex ey => by
  have e1 : (arr.toList.drop base)[i]? = some x := by rw [List.getElem?_drop, Array.getElem?_toList]; exact ex
  have e2 : (arr.toList.drop base)[j]? = some y := by rw [List.getElem?_drop, Array.getElem?_toList]; exact ey
  obtain ⟨l1, e1⟩ := List.getElem?_eq_some_iff.mp e1
  obtain ⟨l2, e2⟩ := List.getElem?_eq_some_iff.mp e2
  have := List.pairwise_iff_getElem.mp hs i j l1 l2 hij
  rw [e1, e2] at this
  exact this
 refine Zds (fun i => match arr[base + i]? with | some x => decide (rk x < rk key) | none => false) hh (fun i j hij hj h => ?_) (fun i hi F hF => ?_) fun r h1 h2 h3 => k r h1 (fun i x hi ex => ?_) fun i x hi hn ex => ?_
 ·obtain ⟨x, ex⟩ := hx i (by omega)
  obtain ⟨y, ey⟩ := hx j hj
  simp only [ex, ey] at h ⊢
  have := le i j x y hij hj ex ey
  simp only [decide_eq_true_eq] at h ⊢
  omega
 ·obtain ⟨x, ex⟩ := hx i hi
  unfold ZdN
  refine wpS_bind (ZaG ex ?_)
  simp only [if_true]
  refine C x key (hin x (Array.mem_toList_iff.mpr (Array.mem_of_getElem? ex))) hkey st _ hk ?_
  simp only [ex] at hF
  exact hF
 ·have := h2 i hi
  simp only [ex, decide_eq_true_eq] at this
  exact this
 ·have := h3 i hi hn
  simp only [ex, decide_eq_false_iff_not] at this
  omega
theorem ZlD {b : Array Keyed} {ib k : Nat} {v : Int} (h : ∀ i x, k ≤ i → i < b.size - ib → b[ib + i]? = some x → v ≤ rk x) : ∀ y ∈ b.toList.drop (ib + k), v ≤ rk y := fun y hy => by
 obtain ⟨j, hj⟩ := List.mem_iff_getElem?.mp hy
 rw [List.getElem?_drop, Array.getElem?_toList] at hj
 have hl : ib + k + j < b.size := (Array.getElem?_eq_some_iff.mp hj).1
 exact h (k + j) y (by omega) (by omega) (by rw [← hj]; congr 1; omega)
set_option hygiene false in
local macro_rules | `(tactic| walk_at "loEnd") => `(tactic| (
  refine wpS_bind (ZaG hax ?_)
  have J5 := J4.pushA ha hax hge
  by_cases d3 : (ia2 + 1 + 1 == a.size) = true
  ·rw [if_pos d3]
   exact wpS_pure ⟨hsim, .inl ⟨_, _, _, _, _, _, _, rfl, J5.last ha hb (by simpa using d3) top⟩⟩
  ·rw [if_neg d3]
   have d3' : ia2 + 1 + 1 ≠ a.size := by simpa using d3
   split
   ·exact wpS_pure ⟨hsim, .inr ⟨_, _, _, _, _, _, rfl, J5, by omega, by omega, by omega⟩⟩
   ·exact wpS_pure ⟨hsim, _, _, _, _, _, _, rfl, J5, by omega, by omega, by omega⟩))
set_option hygiene false in
local macro_rules | `(tactic| walk_at "loTail") => `(tactic| (
  refine wpS_bind (ZaG hbx ?_)
  have J3 := J2.pushB hb hbx hgt
  by_cases d1 : (ib + 1 == b.size) = true
  ·rw [if_pos d1]
   exact wpS_pure ⟨hsim, .inl ⟨_, _, _, _, _, _, _, rfl, J3.done ha hb (.inl (by simpa using d1))⟩⟩
  ·rw [if_neg d1]
   have d1' : ib + 1 ≠ b.size := by simpa using d1
   have hax := Array.getElem?_eq_getElem (xs := a) (i := ia2) (by omega)
   refine wpS_bind (ZaG hax ?_)
   refine wpS_bind (Zie C hk2 (hia _ (Array.mem_toList_iff.mpr (Array.mem_of_getElem? hax))) hib (hb.drop _) (by omega) (by omega) fun k1 g1 g2 g3 => ?_)
   have hge := ZlD (ib := ib + 1) (k := k1) g3
   dsimp only
   by_cases e1 : k1 > 0
   ·rw [if_pos e1]
    have J4 := Jm.bulkB hb k1 J3 (by omega) fun i x hi hx y hy => Int.le_trans (Int.le_of_lt (g2 i x hi hx)) (ha.head (toL hax) y hy)
    by_cases d2 : (ib + 1 + k1 == b.size) = true
    ·rw [if_pos d2]
     exact wpS_pure ⟨hsim, .inl ⟨_, _, _, _, _, _, _, rfl, J4.done ha hb (.inl (by simpa using d2))⟩⟩
    ·rw [if_neg d2]
     have d2' : ib + 1 + k1 ≠ b.size := by simpa using d2
     walk_at "loEnd"
   ·rw [if_neg e1]
    have z : k1 = 0 := by omega
    subst z
    have J4 := J3
    have d2' : ib + 1 + 0 ≠ b.size := d1'
    walk_at "loEnd"))
set_option hygiene false in
local macro_rules | `(tactic| walk_at "loHead") => `(tactic| (
  refine wpS_bind (wpS_modify ?_)
  have hsim := hsim0.setG gm
  have hbx := Array.getElem?_eq_getElem (xs := b) (i := ib) (by omega)
  refine wpS_bind (ZaG hbx ?_)
  have hk2 : kindOf (setG st2 gm) = κ := hsim.kind.trans hk
  refine wpS_bind (ZgZ C hk2 (hib _ (Array.mem_toList_iff.mpr (Array.mem_of_getElem? hbx))) hia (ha.drop _) (by omega) (by omega) fun k0 f1 f2 f3 => ?_)
  dsimp only
  have hgt0 := ZlD (b := a) (ib := ia) (k := k0) (v := rk b[ib]) fun i x h1 h2 h3 => Int.le_of_lt (f3 i x h1 h2 h3)
  by_cases e0 : k0 > 0
  ·rw [if_pos e0]
   have J2 := Jm.bulkA ha k0 J (by omega) fun i x hi hx y hy => Int.le_trans (f2 i x hi hx) (hb.head (toL hbx) y hy)
   by_cases d4 : (ia + k0 + 1 == a.size) = true
   ·rw [if_pos d4]
    exact wpS_pure ⟨hsim, .inl ⟨_, _, _, _, _, _, _, rfl, J2.last ha hb (by simpa using d4) top⟩⟩
   ·rw [if_neg d4]
    have d4' : ia + k0 + 1 ≠ a.size := by simpa using d4
    by_cases d5 : (ia + k0 == a.size) = true
    ·rw [if_pos d5]
     exact wpS_pure ⟨hsim, .inl ⟨_, _, _, _, _, _, _, rfl, J2.done ha hb (.inr (by simpa using d5))⟩⟩
    ·rw [if_neg d5]
     have d5' : ia + k0 ≠ a.size := by simpa using d5
     have hgt := hgt0
     have i1 : ia + k0 + 1 < a.size := by omega
     have i2 : ia ≤ ia + k0 := by omega
     generalize ia + k0 = ia2 at J2 hgt i1 i2 ⊢
     walk_at "loTail"
  ·rw [if_neg e0]
   have z0 : k0 = 0 := by omega
   subst z0
   have J2 := J
   have hgt : ∀ y ∈ a.toList.drop ia, rk b[ib] ≤ rk y := hgt0
   have i1 : ia + 1 < a.size := l1
   have i2 : ia ≤ ia := Nat.le_refl _
   generalize e2 : ia = ia2 at J2 hgt i1 ⊢
   rw [e2] at i2
   walk_at "loTail"))
theorem ZiS {a b : Array Keyed} {st : SortSt} {Q : Array Keyed → SortSt → Prop} (C : Cmp M A E s rk κ In) (hk : kindOf st = κ) (hia : ∀ x ∈ a.toList, In x) (hib : ∀ x ∈ b.toList, In x) (ha : SL rk a.toList) (hb : SL rk b.toList) (a0 : 0 < a.size) (b0 : 0 < b.size)
  (first : ∀ x, b[0]? = some x → ∀ y ∈ a.toList, rk x ≤ rk y) (top : ∀ y ∈ b.toList, ∀ x, a[a.size - 1]? = some x → rk y ≤ rk x)
  (k : ∀ r st', Mg rk a b r → Sim st st' → Q r st') : wpS M A E s (ZkZ a b) Q st := by
 refine wpS_bind (wpS_lift (wpAny_rule ⟨rfl, ?_⟩))
 have hb0 := Array.getElem?_eq_getElem b0
 refine wpS_bind (ZaG hb0 ?_)
 have J0 : Jm rk a b #[b[0]] 0 1 := by
  have e : Jm rk a b #[] 0 0 := ⟨Nat.zero_le _, Nat.zero_le _, by simp, List.Pairwise.nil, fun x hx => by simp at hx, fun x hx => by simp at hx⟩
  exact e.pushB hb hb0 fun y hy => first _ hb0 y (by simpa using hy)
 dsimp only
 by_cases c1 : (1 == b.size) = true
 ·rw [if_pos c1]
  have : 1 = b.size := by simpa using c1
  exact wpS_pure (k _ _ (J0.done ha hb (.inl this)) (Sim.refl st))
 ·rw [if_neg c1]
  by_cases c2 : (0 + 1 == a.size) = true
  ·rw [if_pos c2]
   have : 0 + 1 = a.size := by simpa using c2
   exact wpS_pure (k _ _ (J0.last ha hb this top) (Sim.refl st))
  ·rw [if_neg c2]
   refine wpS_bind (wpS_get ?_)
   have c1' : 1 ≠ b.size := by simpa using c1
   have c2' : 0 + 1 ≠ a.size := by simpa using c2
   refine wpS_bind (wpS_mono (wpS_forRange (I := fun y c st' => Sim st st' ∧ ∃ out ia ib g, c = (none, out, ia, ib, g) ∧ Jm rk a b out ia ib ∧ ia + 1 < a.size ∧ ib < b.size ∧ y ≤ ia + ib)
    (Q := fun c st' => Sim st st' ∧ ∃ r out ia ib g, c = (some r, out, ia, ib, g) ∧ Mg rk a b r) ?step ?fin ⟨Sim.refl st, _, _, _, _, rfl, J0, by omega, by omega, by omega⟩) ?post)
   case post =>
    rintro c st' ⟨h1, r, out, ia, ib, g, rfl, h2⟩
    exact wpS_pure (k r st' h2 h1)
   case fin =>
    rintro c st' ⟨h1, out, ia, ib, g, rfl, J, l1, l2, h3⟩
    omega
   case step =>
    rintro y c st1 _ hy ⟨hs1, out, ia, ib, g, rfl, J, l1, l2, h3⟩
    dsimp only
    refine wpS_bind (wpS_mono (wpS_forRange (I := fun x c st' => st' = st1 ∧ ∃ o2 i2 j2 p q, c = (none, o2, i2, j2, p, q) ∧ Jm rk a b o2 i2 j2 ∧ i2 + 1 < a.size ∧ j2 < b.size ∧ ia + ib + x ≤ i2 + j2)
     (Q := fun c st' => st' = st1 ∧ ((∃ r o2 i2 j2 p q, c = (some r, o2, i2, j2, p, q) ∧ Mg rk a b r) ∨ ∃ o2 i2 j2 p q, c = (none, o2, i2, j2, p, q) ∧ Jm rk a b o2 i2 j2 ∧ i2 + 1 < a.size ∧ j2 < b.size ∧ ia + ib + 1 ≤ i2 + j2)) ?step1 ?fin1 ⟨rfl, _, _, _, _, _, rfl, J, l1, l2, by omega⟩) ?post1)
    case fin1 =>
     rintro c st' ⟨rfl, o2, i2, j2, p, q, rfl, J2, m1, m2, m3⟩
     omega
    case step1 =>
     rintro x c st' _ hx ⟨rfl, o2, i2, j2, p, q, rfl, J2, m1, m2, m3⟩
     dsimp only
     have hbx := Array.getElem?_eq_getElem (xs := b) (i := j2) m2
     have hax := Array.getElem?_eq_getElem (xs := a) (i := i2) (by omega)
     refine wpS_bind (ZaG hbx (wpS_bind (ZaG hax ?_)))
     refine wpS_bind (C _ _ (hib _ (Array.mem_toList_iff.mpr (Array.mem_of_getElem? hbx))) (hia _ (Array.mem_toList_iff.mpr (Array.mem_of_getElem? hax))) _ _ (hs1.kind.trans hk) ?_)
     dsimp only
     by_cases w : rk b[j2] < rk a[i2]
     ·rw [if_pos (decide_eq_true w)]
      refine wpS_bind (ZaG hbx ?_)
      have J3 := J2.pushB hb hbx fun y hy => Int.le_trans (Int.le_of_lt w) (ha.head (toL hax) y hy)
      by_cases d : (j2 + 1 == b.size) = true
      ·rw [if_pos d]
       exact wpS_pure ⟨rfl, .inl ⟨_, _, _, _, _, _, rfl, J3.done ha hb (.inl (by simpa using d))⟩⟩
      ·rw [if_neg d]
       have d' : j2 + 1 ≠ b.size := by simpa using d
       split
       ·exact wpS_pure ⟨rfl, .inr ⟨_, _, _, _, _, rfl, J3, m1, by omega, by omega⟩⟩
       ·exact wpS_pure ⟨rfl, _, _, _, _, _, rfl, J3, m1, by omega, by omega⟩
     ·rw [if_neg (by simpa using w)]
      refine wpS_bind (ZaG hax ?_)
      have J3 := J2.pushA ha hax fun y hy => Int.le_trans (Int.not_lt.mp w) (hb.head (toL hbx) y hy)
      by_cases d : (i2 + 1 + 1 == a.size) = true
      ·rw [if_pos d]
       exact wpS_pure ⟨rfl, .inl ⟨_, _, _, _, _, _, rfl, J3.last ha hb (by simpa using d) top⟩⟩
      ·rw [if_neg d]
       have d' : i2 + 1 + 1 ≠ a.size := by simpa using d
       split
       ·exact wpS_pure ⟨rfl, .inr ⟨_, _, _, _, _, rfl, J3, by omega, m2, by omega⟩⟩
       ·exact wpS_pure ⟨rfl, _, _, _, _, _, rfl, J3, by omega, m2, by omega⟩
    case post1 =>
     rintro c st' ⟨rfl, h | h⟩
     ·obtain ⟨r, o2, i2, j2, p, q, rfl, h⟩ := h
      exact wpS_pure ⟨hs1, _, _, _, _, _, rfl, h⟩
     ·obtain ⟨o2, i2, j2, p, q, rfl, J2, m1, m2, m3⟩ := h
      dsimp only
      refine wpS_bind (wpS_lift (wpAny_rule ⟨rfl, ?_⟩))
      refine wpS_bind (wpS_mono (wpS_forRange (I := fun x c st2 => Sim st st2 ∧ ∃ o3 i3 j3 g p q, c = (none, o3, i3, j3, g, p, q) ∧ Jm rk a b o3 i3 j3 ∧ i3 + 1 < a.size ∧ j3 < b.size ∧ i2 + j2 + x ≤ i3 + j3)
       (Q := fun c st2 => Sim st st2 ∧ ((∃ r o3 i3 j3 g p q, c = (some r, o3, i3, j3, g, p, q) ∧ Mg rk a b r) ∨ ∃ o3 i3 j3 g p q, c = (none, o3, i3, j3, g, p, q) ∧ Jm rk a b o3 i3 j3 ∧ i3 + 1 < a.size ∧ j3 < b.size ∧ i2 + j2 ≤ i3 + j3)) ?step2 ?fin2 ⟨hs1, _, _, _, _, _, _, rfl, J2, m1, m2, by omega⟩) ?post2)
      case fin2 =>
       rintro c st2 ⟨h1, o3, i3, j3, g, p, q, rfl, J3, n1, n2, n3⟩
       omega
      case post2 =>
       rintro c st2 ⟨h1, h | h⟩
       ·obtain ⟨r, o3, i3, j3, g, p, q, rfl, h⟩ := h
        exact wpS_pure ⟨h1, _, _, _, _, _, rfl, h⟩
       ·obtain ⟨o3, i3, j3, g, p, q, rfl, J3, n1, n2, n3⟩ := h
        dsimp only
        exact wpS_bind (wpS_modify (wpS_pure ⟨h1.setG _, _, _, _, _, rfl, J3, n1, n2, by omega⟩))
      case step2 =>
       clear J l1 l2 h3 J2 m1 m2
       rintro x c st2 _ hx ⟨hsim0, out, ia, ib, g, p, q, rfl, J, l1, l2, n3⟩
       dsimp only
       refine' (fun (key : ∀ gm : Nat, (_ : Nat → Prop) gm) => ?m1) ?m2
       case m1 =>
        by_cases g1 : g > 1
        ·rw [if_pos g1]
         generalize g - 1 = gm
         exact key gm
        ·rw [if_neg g1]
         generalize g = gm
         exact key gm
       case m2 =>
        intro gm
        walk_at "loHead"
end
end TT
namespace TT
open PySem PyProof.Rows
section
variable (rk : Keyed → Int)
structure Jh (a b out : Array Keyed) (na nb : Nat) : Prop where
 la : na ≤ a.size
 lb : nb ≤ b.size
 pm : out.toList.Perm (a.toList.drop na ++ b.toList.drop nb)
 so : out.toList.Pairwise fun x y => rk y ≤ rk x
 ga : ∀ x ∈ out.toList, ∀ y ∈ a.toList.take na, rk y ≤ rk x
 gb : ∀ x ∈ out.toList, ∀ y ∈ b.toList.take nb, rk y ≤ rk x
variable {rk} {a b out : Array Keyed} {na nb : Nat}
theorem SL.last {l : List Keyed} (h : SL rk l) {i : Nat} {x : Keyed} (hx : l[i]? = some x) : ∀ y ∈ l.take (i + 1), rk y ≤ rk x := fun y hy => by
 have := h.sublist (List.take_sublist (i + 1) l)
 rw [Zcj hx] at this hy
 rcases List.mem_append.mp hy with hy | hy
 ·exact (List.pairwise_append.mp this).2.2 y hy x (by simp)
 ·rw [List.mem_singleton.mp hy]; exact Int.le_refl _
theorem Jh.pushB (h : Jh rk a b out na (nb + 1)) (hb : SL rk b.toList) {x : Keyed} (hx : b[nb]? = some x) (hle : ∀ y ∈ a.toList.take na, rk y ≤ rk x) : Jh rk a b (out.push x) na nb := by
 have hx' := toL hx
 have hd := hb.last hx'
 refine ⟨h.la, by have := h.lb; omega, ?_, ?_, fun o ho y hy => ?_, fun o ho y hy => ?_⟩
 ·rw [Array.toList_push, Zct hx']
  refine (h.pm.append_right _).trans ?_
  rw [List.append_assoc]
  exact List.Perm.append_left _ List.perm_append_comm
 ·rw [Array.toList_push]
  refine List.pairwise_append.mpr ⟨h.so, List.pairwise_singleton _ _, fun o ho y hy => ?_⟩
  rw [List.mem_singleton.mp hy]
  exact h.gb o ho x (by rw [Zcj hx']; simp)
 ·rw [Array.toList_push] at ho
  rcases List.mem_append.mp ho with ho | ho
  ·exact h.ga o ho y hy
  ·rw [List.mem_singleton.mp ho]; exact hle y hy
 ·rw [Array.toList_push] at ho
  have hy' : y ∈ b.toList.take (nb + 1) := by rw [Zcj hx']; exact List.mem_append_left _ hy
  rcases List.mem_append.mp ho with ho | ho
  ·exact h.gb o ho y hy'
  ·rw [List.mem_singleton.mp ho]; exact hd y hy'
theorem Jh.pushA (h : Jh rk a b out (na + 1) nb) (ha : SL rk a.toList) {x : Keyed} (hx : a[na]? = some x) (hle : ∀ y ∈ b.toList.take nb, rk y ≤ rk x) : Jh rk a b (out.push x) na nb := by
 have hx' := toL hx
 have hd := ha.last hx'
 refine ⟨by have := h.la; omega, h.lb, ?_, ?_, fun o ho y hy => ?_, fun o ho y hy => ?_⟩
 ·rw [Array.toList_push, Zct hx']
  refine (h.pm.append_right _).trans ?_
  exact List.perm_append_comm
 ·rw [Array.toList_push]
  refine List.pairwise_append.mpr ⟨h.so, List.pairwise_singleton _ _, fun o ho y hy => ?_⟩
  rw [List.mem_singleton.mp hy]
  exact h.ga o ho x (by rw [Zcj hx']; simp)
 ·rw [Array.toList_push] at ho
  have hy' : y ∈ a.toList.take (na + 1) := by rw [Zcj hx']; exact List.mem_append_left _ hy
  rcases List.mem_append.mp ho with ho | ho
  ·exact h.ga o ho y hy'
  ·rw [List.mem_singleton.mp ho]; exact hd y hy'
 ·rw [Array.toList_push] at ho
  rcases List.mem_append.mp ho with ho | ho
  ·exact h.gb o ho y hy
  ·rw [List.mem_singleton.mp ho]; exact hle y hy
theorem Zg0 {xs : Array Keyed} {i n : Nat} (h : i < n) (hn : n ≤ xs.size) (out : Array Keyed) : out ++ (xs.extract i n).reverse = (out ++ (xs.extract (i + 1) n).reverse).push (xs[i]'(by omega)) := by
 apply Array.ext'
 simp only [Array.toList_append, Array.toList_reverse, Array.toList_extract, Array.toList_push, List.extract_eq_take_drop, List.append_assoc]
 congr 1
 have hg : xs.toList[i]? = some (xs[i]'(by omega)) := toL (Array.getElem?_eq_getElem (by omega))
 rw [Zct hg, show n - i = (n - (i + 1)) + 1 by omega, List.take_succ_cons, List.reverse_cons]
theorem Jh.bulkA (ha : SL rk a.toList) {n : Nat} : ∀ (k : Nat), k ≤ n → n ≤ a.size → Jh rk a b out n nb → (∀ i x, n - k ≤ i → i < n → a[i]? = some x → ∀ y ∈ b.toList.take nb, rk y ≤ rk x) → Jh rk a b (out ++ (a.extract (n - k) n).reverse) (n - k) nb
 | 0, _, hn, h, _ => by
  have : out ++ (a.extract (n - 0) n).reverse = out := by simp; omega
  rw [this, Nat.sub_zero]; exact h
 | k + 1, hk, hn, h, hle => by
  have ih := Jh.bulkA ha k (by omega) hn h fun i x h1 => hle i x (by omega)
  have e : n - k = n - (k + 1) + 1 := by omega
  rw [Zg0 (by omega) hn, ← e]
  rw [e] at ih
  have := ih.pushA ha (Array.getElem?_eq_getElem (by omega)) (hle _ _ (by omega) (by omega) (Array.getElem?_eq_getElem (by omega)))
  rw [← e] at this
  exact this
theorem Jh.bulkB (hb : SL rk b.toList) {n : Nat} : ∀ (k : Nat), k ≤ n → n ≤ b.size → Jh rk a b out na n → (∀ i x, n - k ≤ i → i < n → b[i]? = some x → ∀ y ∈ a.toList.take na, rk y ≤ rk x) → Jh rk a b (out ++ (b.extract (n - k) n).reverse) na (n - k)
 | 0, _, hn, h, _ => by
  have : out ++ (b.extract (n - 0) n).reverse = out := by simp; omega
  rw [this, Nat.sub_zero]; exact h
 | k + 1, hk, hn, h, hle => by
  have ih := Jh.bulkB hb k (by omega) hn h fun i x h1 => hle i x (by omega)
  have e : n - k = n - (k + 1) + 1 := by omega
  rw [Zg0 (by omega) hn, ← e]
  rw [e] at ih
  have := ih.pushB hb (Array.getElem?_eq_getElem (by omega)) (hle _ _ (by omega) (by omega) (Array.getElem?_eq_getElem (by omega)))
  rw [← e] at this
  exact this
theorem ZbX (xs : Array Keyed) (i : Nat) : (xs.extract 0 i).toList = xs.toList.take i := by
 rw [Array.toList_extract, List.extract_eq_take_drop, List.drop_zero, Nat.sub_zero]
theorem Jh.perm (h : Jh rk a b out na nb) : (a.toList.take na ++ b.toList.take nb ++ out.toList.reverse).Perm (a.toList ++ b.toList) := by
 refine ((List.reverse_perm _).trans h.pm).append_left _ |>.trans ?_
 rw [List.append_assoc]
 have : (b.toList.take nb ++ (a.toList.drop na ++ b.toList.drop nb)).Perm (a.toList.drop na ++ (b.toList.take nb ++ b.toList.drop nb)) := by
  rw [← List.append_assoc, ← List.append_assoc]
  exact List.perm_append_comm.append_right _
 refine (this.append_left _).trans ?_
 rw [List.take_append_drop, ← List.append_assoc, List.take_append_drop]
theorem Jh.rev (h : Jh rk a b out na nb) : SL rk out.toList.reverse := List.pairwise_reverse.mpr h.so
theorem Jh.done (h : Jh rk a b out na nb) (ha : SL rk a.toList) (hb : SL rk b.toList) (e : na = 0 ∨ nb = 0) : Mg rk a b (a.extract 0 na ++ b.extract 0 nb ++ out.reverse) := by
 refine ⟨?_, ?_⟩
 ·rw [Array.toList_append, Array.toList_append, ZbX, ZbX, Array.toList_reverse]
  exact h.perm
 ·rw [SL, Array.toList_append, Array.toList_append, ZbX, ZbX, Array.toList_reverse]
  rcases e with e | e
  ·rw [e, List.take_zero, List.nil_append]
   exact List.pairwise_append.mpr ⟨hb.sublist (List.take_sublist _ _), h.rev, fun x hx y hy => h.gb y (List.mem_reverse.mp hy) x hx⟩
  ·rw [e, List.take_zero, List.append_nil]
   exact List.pairwise_append.mpr ⟨ha.sublist (List.take_sublist _ _), h.rev, fun x hx y hy => h.ga y (List.mem_reverse.mp hy) x hx⟩
theorem Jh.first (h : Jh rk a b out na 1) (ha : SL rk a.toList) (bot : ∀ x, b[0]? = some x → ∀ y ∈ a.toList, rk x ≤ rk y) : Mg rk a b (b.extract 0 1 ++ a.extract 0 na ++ out.reverse) := by
 refine ⟨?_, ?_⟩
 ·rw [Array.toList_append, Array.toList_append, ZbX, ZbX, Array.toList_reverse]
  exact (List.perm_append_comm.append_right _).trans h.perm
 ·rw [SL, Array.toList_append, Array.toList_append, ZbX, ZbX, Array.toList_reverse]
  refine List.pairwise_append.mpr ⟨List.pairwise_append.mpr ⟨?_, ha.sublist (List.take_sublist _ _), fun x hx y hy => ?_⟩, h.rev, fun x hx y hy => ?_⟩
  ·have hl := List.length_take_le 1 b.toList
   cases e : b.toList.take 1 with
   | nil => exact List.Pairwise.nil
   | cons z l =>
    rw [e] at hl
    have : l = [] := by simpa using hl
    rw [this]; exact List.pairwise_singleton _ _
  ·have hb0 : 0 < b.size := h.lb
   have z : b.toList.take 1 = [b[0]] := by
    have := Zcj (l := b.toList) (i := 0) (toL (Array.getElem?_eq_getElem hb0))
    simpa using this
   rw [z] at hx
   rw [List.mem_singleton.mp hx]
   exact bot _ (Array.getElem?_eq_getElem hb0) y (List.mem_of_mem_take hy)
  ·rcases List.mem_append.mp hx with hx | hx
   ·exact h.gb y (List.mem_reverse.mp hy) x hx
   ·exact h.ga y (List.mem_reverse.mp hy) x hx
end
section
variable {M : Model} {A : Around} {E : Value → Shared → Prop} {s : Shared} {rk : Keyed → Int} {κ : SortKind} {In : Keyed → Prop}
theorem Zlp {b : Array Keyed} {k : Nat} {v : Int} (h : ∀ i x, i < k → b[0 + i]? = some x → rk x ≤ v) : ∀ y ∈ b.toList.take k, rk y ≤ v := fun y hy => by
 obtain ⟨j, hj⟩ := List.mem_iff_getElem?.mp hy
 have hl := (List.getElem?_eq_some_iff.mp hj).1
 rw [List.length_take] at hl
 rw [List.getElem?_take_of_lt (by omega), Array.getElem?_toList] at hj
 exact h j y (by omega) (by rw [Nat.zero_add]; exact hj)
theorem Jh.pushA' {a b out : Array Keyed} {na nb : Nat} (h : Jh rk a b out na nb) (hn : 0 < na) (ha : SL rk a.toList) {x : Keyed} (hx : a[na - 1]? = some x) (hle : ∀ y ∈ b.toList.take nb, rk y ≤ rk x) : Jh rk a b (out.push x) (na - 1) nb := by
 obtain ⟨m, rfl⟩ : ∃ m, na = m + 1 := ⟨na - 1, by omega⟩
 exact h.pushA ha hx hle
theorem Jh.pushB' {a b out : Array Keyed} {na nb : Nat} (h : Jh rk a b out na nb) (hn : 0 < nb) (hb : SL rk b.toList) {x : Keyed} (hx : b[nb - 1]? = some x) (hle : ∀ y ∈ a.toList.take na, rk y ≤ rk x) : Jh rk a b (out.push x) na (nb - 1) := by
 obtain ⟨m, rfl⟩ : ∃ m, nb = m + 1 := ⟨nb - 1, by omega⟩
 exact h.pushB hb hx hle
theorem Jh.cutA {a b out : Array Keyed} {na nb t : Nat} (h : Jh rk a b out na nb) (ht : t ≤ na) (ha : SL rk a.toList) (hle : ∀ i x, t ≤ i → i < na → a[i]? = some x → ∀ y ∈ b.toList.take nb, rk y ≤ rk x) : Jh rk a b (out ++ (a.extract t na).reverse) t nb := by
 have := Jh.bulkA ha (na - t) (by omega) h.la h (by rw [show na - (na - t) = t by omega]; exact hle)
 rw [show na - (na - t) = t by omega] at this
 exact this
theorem Jh.cutB {a b out : Array Keyed} {na nb t : Nat} (h : Jh rk a b out na nb) (ht : t ≤ nb) (hb : SL rk b.toList) (hle : ∀ i x, t ≤ i → i < nb → b[i]? = some x → ∀ y ∈ a.toList.take na, rk y ≤ rk x) : Jh rk a b (out ++ (b.extract t nb).reverse) na t := by
 have := Jh.bulkB hb (nb - t) (by omega) h.lb h (by rw [show nb - (nb - t) = t by omega]; exact hle)
 rw [show nb - (nb - t) = t by omega] at this
 exact this
theorem Jh.first' {a b out : Array Keyed} {na nb : Nat} (h : Jh rk a b out na nb) (e : nb = 1) (ha : SL rk a.toList) (bot : ∀ x, b[0]? = some x → ∀ y ∈ a.toList, rk x ≤ rk y) : Mg rk a b (b.extract 0 nb ++ a.extract 0 na ++ out.reverse) := by
 subst e; exact h.first ha bot
theorem ZgP {l : Array Keyed} (h : SL rk l.toList) {n : Nat} (hn : 0 < n) {x : Keyed} (hx : l[n - 1]? = some x) : ∀ y ∈ l.toList.take n, rk y ≤ rk x := by
 have := h.last (toL hx)
 rw [show n - 1 + 1 = n by omega] at this
 exact this
set_option hygiene false in
local macro_rules | `(tactic| walk_at "hiEnd") => `(tactic| (
  refine wpS_bind (ZaG hax ?_)
  have J5 := J4.pushA' i1 ha hax hge
  by_cases d3 : (na2 - 1 == 0) = true
  ·rw [if_pos d3]
   exact wpS_pure ⟨hsim, .inl ⟨_, _, _, _, _, _, _, rfl, J5.done ha hb (.inl (by simpa using d3))⟩⟩
  ·rw [if_neg d3]
   have d3' : na2 - 1 ≠ 0 := by simpa using d3
   split
   ·exact wpS_pure ⟨hsim, .inr ⟨_, _, _, _, _, _, rfl, J5, by omega, by omega, by omega⟩⟩
   ·exact wpS_pure ⟨hsim, _, _, _, _, _, _, rfl, J5, by omega, by omega, by omega⟩))
set_option hygiene false in
local macro_rules | `(tactic| walk_at "hiTail") => `(tactic| (
  refine wpS_bind (ZaG hbx ?_)
  have J3 := J2.pushB' (by omega) hb hbx hgt
  by_cases d1 : (nb - 1 == 1) = true
  ·rw [if_pos d1]
   exact wpS_pure ⟨hsim, .inl ⟨_, _, _, _, _, _, _, rfl, J3.first' (by simpa using d1) ha first⟩⟩
  ·rw [if_neg d1]
   have d1' : nb - 1 ≠ 1 := by simpa using d1
   have hla := J2.la
   have hax := Array.getElem?_eq_getElem (xs := a) (i := na2 - 1) (by omega)
   refine wpS_bind (ZaG hax ?_)
   refine wpS_bind (Zie C hk2 (hia _ (Array.mem_toList_iff.mpr (Array.mem_of_getElem? hax))) hib (hb.drop _) (by omega) (by omega) fun t1 g1 g2 g3 => ?_)
   have hge := Zlp (b := b) (k := t1) fun i x h1 h2 => Int.le_of_lt (g2 i x h1 h2)
   have hmax := ZgP ha i1 hax
   dsimp only
   by_cases e1 : nb - 1 - t1 > 0
   ·rw [if_pos e1]
    have J4 := J3.cutB g1 hb fun i x h1 h2 hx y hy => Int.le_trans (hmax y hy) (g3 i x h1 h2 (by rw [Nat.zero_add]; exact hx))
    by_cases d2 : (t1 == 1) = true
    ·rw [if_pos d2]
     exact wpS_pure ⟨hsim, .inl ⟨_, _, _, _, _, _, _, rfl, J4.first' (by simpa using d2) ha first⟩⟩
    ·rw [if_neg d2]
     have d2' : t1 ≠ 1 := by simpa using d2
     by_cases d6 : (t1 == 0) = true
     ·rw [if_pos d6]
      exact wpS_pure ⟨hsim, .inl ⟨_, _, _, _, _, _, _, rfl, J4.done ha hb (.inr (by simpa using d6))⟩⟩
     ·rw [if_neg d6]
      have d6' : t1 ≠ 0 := by simpa using d6
      walk_at "hiEnd"
   ·rw [if_neg e1]
    have z : t1 = nb - 1 := by omega
    subst z
    have J4 := J3
    walk_at "hiEnd"))
set_option hygiene false in
local macro_rules | `(tactic| walk_at "hiHead") => `(tactic| (
  refine wpS_bind (wpS_modify ?_)
  have hsim := hsim0.setG gm
  have hlb := J.lb
  have hla0 := J.la
  have hbx := Array.getElem?_eq_getElem (xs := b) (i := nb - 1) (by omega)
  refine wpS_bind (ZaG hbx ?_)
  have hk2 : kindOf (setG st2 gm) = κ := hsim.kind.trans hk
  refine wpS_bind (ZgZ C hk2 (hib _ (Array.mem_toList_iff.mpr (Array.mem_of_getElem? hbx))) hia (ha.drop _) (by omega) (by omega) fun t0 f1 f2 f3 => ?_)
  dsimp only
  have hgt0 := Zlp (b := a) (k := t0) fun i x h1 h2 => f2 i x h1 h2
  have hbm := ZgP hb (by omega : 0 < nb) hbx
  by_cases e0 : na - t0 > 0
  ·rw [if_pos e0]
   have J2 := J.cutA f1 ha fun i x h1 h2 hx y hy => Int.le_trans (hbm y hy) (Int.le_of_lt (f3 i x h1 h2 (by rw [Nat.zero_add]; exact hx)))
   by_cases d4 : (t0 == 0) = true
   ·rw [if_pos d4]
    exact wpS_pure ⟨hsim, .inl ⟨_, _, _, _, _, _, _, rfl, J2.done ha hb (.inl (by simpa using d4))⟩⟩
   ·rw [if_neg d4]
    have d4' : t0 ≠ 0 := by simpa using d4
    have hgt := hgt0
    have i1 : 0 < t0 := by omega
    have i2 : t0 ≤ na := f1
    generalize t0 = na2 at J2 hgt i1 i2 ⊢
    walk_at "hiTail"
  ·rw [if_neg e0]
   have z0 : t0 = na := by omega
   subst z0
   have J2 := J
   have hgt := hgt0
   have i1 : 0 < t0 := l1
   have i2 : t0 ≤ t0 := Nat.le_refl _
   generalize e2 : t0 = na2 at J2 hgt i1 ⊢
   rw [e2] at i2
   walk_at "hiTail"))
theorem ZiT {a b : Array Keyed} {st : SortSt} {Q : Array Keyed → SortSt → Prop} (C : Cmp M A E s rk κ In) (hk : kindOf st = κ) (hia : ∀ x ∈ a.toList, In x) (hib : ∀ x ∈ b.toList, In x) (ha : SL rk a.toList) (hb : SL rk b.toList) (a0 : 0 < a.size) (b0 : 0 < b.size)
  (first : ∀ x, b[0]? = some x → ∀ y ∈ a.toList, rk x ≤ rk y) (top : ∀ y ∈ b.toList, ∀ x, a[a.size - 1]? = some x → rk y ≤ rk x)
  (k : ∀ r st', Mg rk a b r → Sim st st' → Q r st') : wpS M A E s (Zk0 a b) Q st := by
 refine wpS_bind (wpS_lift (wpAny_rule ⟨rfl, ?_⟩))
 have hal : a[a.size - 1]? = some (a[a.size - 1]'(by omega)) := Array.getElem?_eq_getElem (by omega)
 dsimp only
 refine wpS_bind (ZaG hal ?_)
 have J0 : Jh rk a b #[a[a.size - 1]'(by omega)] (a.size - 1) b.size := by
  have e : Jh rk a b #[] (a.size - 1 + 1) b.size := ⟨by omega, Nat.le_refl _, by
   rw [List.drop_of_length_le (by simp; omega), List.drop_of_length_le (by simp)]; exact .refl _, List.Pairwise.nil, fun x hx => by simp at hx, fun x hx => by simp at hx⟩
  exact e.pushA ha hal fun y hy => top y (List.mem_of_mem_take hy) _ hal
 by_cases c1 : (a.size - 1 == 0) = true
 ·rw [if_pos c1]
  exact wpS_pure (k _ _ (J0.done ha hb (.inl (by simpa using c1))) (Sim.refl st))
 ·rw [if_neg c1]
  have c1' : a.size - 1 ≠ 0 := by simpa using c1
  by_cases c2 : (b.size == 1) = true
  ·rw [if_pos c2]
   have e1 : b.size = 1 := by simpa using c2
   have J1 := J0
   rw [e1] at J1
   have := J1.first ha first
   rw [e1]
   exact wpS_pure (k _ _ this (Sim.refl st))
  ·rw [if_neg c2]
   have c2' : b.size ≠ 1 := by simpa using c2
   refine wpS_bind (wpS_get ?_)
   refine wpS_bind (wpS_mono (wpS_forRange (I := fun y c st' => Sim st st' ∧ ∃ na nb out g, c = (none, na, nb, out, g) ∧ Jh rk a b out na nb ∧ 0 < na ∧ 1 < nb ∧ na + nb + y ≤ a.size + b.size)
    (Q := fun c st' => Sim st st' ∧ ∃ r na nb out g, c = (some r, na, nb, out, g) ∧ Mg rk a b r) ?step ?fin ⟨Sim.refl st, _, _, _, _, rfl, J0, by omega, by omega, by omega⟩) ?post)
   case post =>
    rintro c st' ⟨h1, r, na, nb, out, g, rfl, h2⟩
    exact wpS_pure (k r st' h2 h1)
   case fin =>
    rintro c st' ⟨h1, na, nb, out, g, rfl, J, l1, l2, h3⟩
    omega
   case step =>
    rintro y c st1 _ hy ⟨hs1, na, nb, out, g, rfl, J, l1, l2, h3⟩
    dsimp only
    refine wpS_bind (wpS_mono (wpS_forRange (I := fun x c st' => st' = st1 ∧ ∃ i2 j2 o2 p q, c = (none, i2, j2, o2, p, q) ∧ Jh rk a b o2 i2 j2 ∧ 0 < i2 ∧ 1 < j2 ∧ i2 + j2 + x ≤ na + nb)
     (Q := fun c st' => st' = st1 ∧ ((∃ r i2 j2 o2 p q, c = (some r, i2, j2, o2, p, q) ∧ Mg rk a b r) ∨ ∃ i2 j2 o2 p q, c = (none, i2, j2, o2, p, q) ∧ Jh rk a b o2 i2 j2 ∧ 0 < i2 ∧ 1 < j2 ∧ i2 + j2 + 1 ≤ na + nb)) ?step1 ?fin1 ⟨rfl, _, _, _, _, _, rfl, J, l1, l2, by omega⟩) ?post1)
    case fin1 =>
     rintro c st' ⟨rfl, i2, j2, o2, p, q, rfl, J2, m1, m2, m3⟩
     omega
    case step1 =>
     rintro x c st' _ hx ⟨rfl, i2, j2, o2, p, q, rfl, J2, m1, m2, m3⟩
     dsimp only
     have hla := J2.la
     have hlb := J2.lb
     have hbx := Array.getElem?_eq_getElem (xs := b) (i := j2 - 1) (by omega)
     have hax := Array.getElem?_eq_getElem (xs := a) (i := i2 - 1) (by omega)
     refine wpS_bind (ZaG hbx (wpS_bind (ZaG hax ?_)))
     refine wpS_bind (C _ _ (hib _ (Array.mem_toList_iff.mpr (Array.mem_of_getElem? hbx))) (hia _ (Array.mem_toList_iff.mpr (Array.mem_of_getElem? hax))) _ _ (hs1.kind.trans hk) ?_)
     dsimp only
     have hA := ZgP ha m1 hax
     have hB := ZgP hb (by omega : 0 < j2) hbx
     by_cases w : rk b[j2 - 1] < rk a[i2 - 1]
     ·rw [if_pos (decide_eq_true w)]
      refine wpS_bind (ZaG hax ?_)
      have J3 := J2.pushA' m1 ha hax fun y hy => Int.le_trans (hB y hy) (Int.le_of_lt w)
      by_cases d : (i2 - 1 == 0) = true
      ·rw [if_pos d]
       exact wpS_pure ⟨rfl, .inl ⟨_, _, _, _, _, _, rfl, J3.done ha hb (.inl (by simpa using d))⟩⟩
      ·rw [if_neg d]
       have d' : i2 - 1 ≠ 0 := by simpa using d
       split
       ·exact wpS_pure ⟨rfl, .inr ⟨_, _, _, _, _, rfl, J3, by omega, m2, by omega⟩⟩
       ·exact wpS_pure ⟨rfl, _, _, _, _, _, rfl, J3, by omega, m2, by omega⟩
     ·rw [if_neg (by simpa using w)]
      refine wpS_bind (ZaG hbx ?_)
      have J3 := J2.pushB' (by omega) hb hbx fun y hy => Int.le_trans (hA y hy) (Int.not_lt.mp w)
      by_cases d : (j2 - 1 == 1) = true
      ·rw [if_pos d]
       exact wpS_pure ⟨rfl, .inl ⟨_, _, _, _, _, _, rfl, J3.first' (by simpa using d) ha first⟩⟩
      ·rw [if_neg d]
       have d' : j2 - 1 ≠ 1 := by simpa using d
       split
       ·exact wpS_pure ⟨rfl, .inr ⟨_, _, _, _, _, rfl, J3, m1, by omega, by omega⟩⟩
       ·exact wpS_pure ⟨rfl, _, _, _, _, _, rfl, J3, m1, by omega, by omega⟩
    case post1 =>
     rintro c st' ⟨rfl, h | h⟩
     ·obtain ⟨r, i2, j2, o2, p, q, rfl, h⟩ := h
      exact wpS_pure ⟨hs1, _, _, _, _, _, rfl, h⟩
     ·obtain ⟨i2, j2, o2, p, q, rfl, J2, m1, m2, m3⟩ := h
      dsimp only
      refine wpS_bind (wpS_lift (wpAny_rule ⟨rfl, ?_⟩))
      refine wpS_bind (wpS_mono (wpS_forRange (I := fun x c st2 => Sim st st2 ∧ ∃ i3 j3 o3 g p q, c = (none, i3, j3, o3, g, p, q) ∧ Jh rk a b o3 i3 j3 ∧ 0 < i3 ∧ 1 < j3 ∧ i3 + j3 + x ≤ i2 + j2)
       (Q := fun c st2 => Sim st st2 ∧ ((∃ r i3 j3 o3 g p q, c = (some r, i3, j3, o3, g, p, q) ∧ Mg rk a b r) ∨ ∃ i3 j3 o3 g p q, c = (none, i3, j3, o3, g, p, q) ∧ Jh rk a b o3 i3 j3 ∧ 0 < i3 ∧ 1 < j3 ∧ i3 + j3 ≤ i2 + j2)) ?step2 ?fin2 ⟨hs1, _, _, _, _, _, _, rfl, J2, m1, m2, by omega⟩) ?post2)
      case fin2 =>
       have z1 := J2.la
       have z2 := J2.lb
       rintro c st2 ⟨h1, i3, j3, o3, g, p, q, rfl, J3, n1, n2, n3⟩
       omega
      case post2 =>
       rintro c st2 ⟨h1, h | h⟩
       ·obtain ⟨r, i3, j3, o3, g, p, q, rfl, h⟩ := h
        exact wpS_pure ⟨h1, _, _, _, _, _, rfl, h⟩
       ·obtain ⟨i3, j3, o3, g, p, q, rfl, J3, n1, n2, n3⟩ := h
        dsimp only
        exact wpS_bind (wpS_modify (wpS_pure ⟨h1.setG _, _, _, _, _, rfl, J3, n1, n2, by omega⟩))
      case step2 =>
       clear J l1 l2 h3 J2 m1 m2 m3
       rintro x c st2 _ hx ⟨hsim0, na, nb, out, g, p, q, rfl, J, l1, l2, n3⟩
       dsimp only
       refine' (fun (key : ∀ gm : Nat, (_ : Nat → Prop) gm) => ?m1) ?m2
       case m1 =>
        by_cases g1 : g > 1
        ·rw [if_pos g1]
         generalize g - 1 = gm
         exact key gm
        ·rw [if_neg g1]
         generalize g = gm
         exact key gm
       case m2 =>
        intro gm
        walk_at "hiHead"
end
end TT
namespace TT
open PySem PyProof.Rows
section
variable {M : Model} {A : Around} {E : Value → Shared → Prop} {s : Shared} {rk : Keyed → Int} {κ : SortKind} {In : Keyed → Prop}
theorem Zjy {key : Keyed} {arr : Array Keyed} {base n hint : Nat} {st : SortSt} {Q : Option Nat → SortSt → Prop} (C : Cmp M A E s rk κ In) (hk : kindOf st = κ) (hkey : In key) (hin : ∀ x ∈ arr.toList, In x) (le : ∀ i j x y, i < j → j < n → arr[base + i]? = some x → arr[base + j]? = some y → rk x ≤ rk y) (hb : base + n ≤ arr.size) (hh : hint < n)
  (k : ∀ r, r ≤ n → (∀ i x, i < r → arr[base + i]? = some x → rk x ≤ rk key) → (∀ i x, r ≤ i → i < n → arr[base + i]? = some x → rk key < rk x) → Q (some r) st) : wpS M A E s (ZdJ false key arr base n hint) Q st := by
 have hx : ∀ i, i < n → ∃ x, arr[base + i]? = some x := fun i hi => ⟨arr[base + i]'(by omega), Array.getElem?_eq_getElem (by omega)⟩
 refine Zds (fun i => match arr[base + i]? with | some x => !decide (rk key < rk x) | none => false) hh (fun i j hij hj h => ?_) (fun i hi F hF => ?_) fun r h1 h2 h3 => k r h1 (fun i x hi ex => ?_) fun i x hi hn ex => ?_
 ·obtain ⟨x, ex⟩ := hx i (by omega)
  obtain ⟨y, ey⟩ := hx j hj
  simp only [ex, ey] at h ⊢
  have := le i j x y hij hj ex ey
  simp only [Bool.not_eq_true', decide_eq_false_iff_not] at h ⊢
  omega
 ·obtain ⟨x, ex⟩ := hx i hi
  unfold ZdN
  refine wpS_bind (ZaG ex ?_)
  simp only [Bool.false_eq_true, if_false]
  refine wpS_bind (C key x hkey (hin x (Array.mem_toList_iff.mpr (Array.mem_of_getElem? ex))) st _ hk ?_)
  refine wpS_pure ?_
  simp only [ex] at hF
  exact hF
 ·have := h2 i hi
  simp only [ex, Bool.not_eq_true', decide_eq_false_iff_not] at this
  omega
 ·have := h3 i hi hn
  simp only [ex, Bool.not_eq_false', decide_eq_true_eq] at this
  exact this
theorem Zk1 {key : Keyed} {arr : Array Keyed} {base n hint : Nat} {st : SortSt} {Q : Option Nat → SortSt → Prop} (C : Cmp M A E s rk κ In) (hk : kindOf st = κ) (hkey : In key) (hin : ∀ x ∈ arr.toList, In x) (le : ∀ i j x y, i < j → j < n → arr[base + i]? = some x → arr[base + j]? = some y → rk x ≤ rk y) (hb : base + n ≤ arr.size) (hh : hint < n)
  (k : ∀ r, r ≤ n → (∀ i x, i < r → arr[base + i]? = some x → rk x < rk key) → (∀ i x, r ≤ i → i < n → arr[base + i]? = some x → rk key ≤ rk x) → Q (some r) st) : wpS M A E s (ZdJ true key arr base n hint) Q st := by
 have hx : ∀ i, i < n → ∃ x, arr[base + i]? = some x := fun i hi => ⟨arr[base + i]'(by omega), Array.getElem?_eq_getElem (by omega)⟩
 refine Zds (fun i => match arr[base + i]? with | some x => decide (rk x < rk key) | none => false) hh (fun i j hij hj h => ?_) (fun i hi F hF => ?_) fun r h1 h2 h3 => k r h1 (fun i x hi ex => ?_) fun i x hi hn ex => ?_
 ·obtain ⟨x, ex⟩ := hx i (by omega)
  obtain ⟨y, ey⟩ := hx j hj
  simp only [ex, ey] at h ⊢
  have := le i j x y hij hj ex ey
  simp only [decide_eq_true_eq] at h ⊢
  omega
 ·obtain ⟨x, ex⟩ := hx i hi
  unfold ZdN
  refine wpS_bind (ZaG ex ?_)
  simp only [if_true]
  refine C x key (hin x (Array.mem_toList_iff.mpr (Array.mem_of_getElem? ex))) hkey st _ hk ?_
  simp only [ex] at hF
  exact hF
 ·have := h2 i hi
  simp only [ex, decide_eq_true_eq] at this
  exact this
 ·have := h3 i hi hn
  simp only [ex, decide_eq_false_iff_not] at this
  omega
theorem Zmz {l : List Keyed} {p : Keyed} : ∀ {P : List Keyed} {x : Keyed} {R : List Keyed}, l = P ++ x :: R → l.set P.length p = P ++ p :: R := fun e => by
 subst e
 rw [List.set_append_right _ _ (Nat.le_refl _), Nat.sub_self]
 rfl
theorem Zhq : ∀ (ms olds P R : List Keyed) (arr : Array Keyed) (n : Nat), arr.toList = P ++ olds ++ R → olds.length = ms.length → ((ms.zipIdx n).foldl (fun a (p, j) => a.setIfInBounds (P.length - n + j) p) arr).toList = P ++ ms ++ R ∨ P.length < n
 | [], olds, P, R, arr, n, e, hl => by
  have : olds = [] := List.length_eq_zero_iff.mp hl
  subst this
  exact .inl e
 | m :: ms, [], P, R, arr, n, e, hl => by cases hl
 | m :: ms, o :: olds, P, R, arr, n, e, hl => by
  by_cases hn : P.length < n
  ·exact .inr hn
  ·rw [List.zipIdx_cons, List.foldl_cons]
   have e1 : (arr.setIfInBounds (P.length - n + n) m).toList = (P ++ [m]) ++ olds ++ R := by
    rw [Array.toList_setIfInBounds, show P.length - n + n = P.length by omega, Zmz (P := P) (x := o) (R := olds ++ R) (by rw [e]; simp)]
    simp
   have ih := Zhq ms olds (P ++ [m]) R (arr.setIfInBounds (P.length - n + n) m) (n + 1) e1 (by simpa using hl)
   rw [List.length_append, List.length_singleton] at ih
   rw [show P.length + 1 - (n + 1) = P.length - n by omega] at ih
   refine .inl ?_
   rcases ih with ih | ih
   ·simpa using ih
   ·omega
theorem Zkd {ms olds P R : List Keyed} {arr : Array Keyed} (e : arr.toList = P ++ olds ++ R) (hl : olds.length = ms.length) : (ms.zipIdx.foldl (fun a (p, j) => a.setIfInBounds (P.length + j) p) arr).toList = P ++ ms ++ R := by
 rcases Zhq ms olds P R arr 0 e hl with h | h
 ·simpa using h
 ·omega
theorem Zjv {P As T : List Keyed} {arr : Array Keyed} (e : arr.toList = P ++ As ++ T) {j : Nat} (hj : j < As.length) : arr[P.length + j]? = As[j]? := by
 rw [← Array.getElem?_toList, e, List.append_assoc, List.getElem?_append_right (by omega), show P.length + j - P.length = j by omega, List.getElem?_append_left hj]
theorem SL.le {l : List Keyed} (h : SL rk l) {i j : Nat} {x y : Keyed} (hij : i < j) (ex : l[i]? = some x) (ey : l[j]? = some y) : rk x ≤ rk y := by
 obtain ⟨l1, e1⟩ := List.getElem?_eq_some_iff.mp ex
 obtain ⟨l2, e2⟩ := List.getElem?_eq_some_iff.mp ey
 have := List.pairwise_iff_getElem.mp h i j l1 l2 hij
 rw [e1, e2] at this
 exact this
theorem Ze3 {l : List Keyed} {k : Nat} {x : Keyed} (h : x ∈ l.take k) : ∃ i, i < k ∧ i < l.length ∧ l[i]? = some x := by
 obtain ⟨i, hi⟩ := List.mem_iff_getElem?.mp h
 have hl := (List.getElem?_eq_some_iff.mp hi).1
 rw [List.length_take] at hl
 rw [List.getElem?_take_of_lt (by omega)] at hi
 exact ⟨i, by omega, by omega, hi⟩
theorem Ze4 {l : List Keyed} {k : Nat} {x : Keyed} (h : x ∈ l.drop k) : ∃ i, k ≤ i ∧ i < l.length ∧ l[i]? = some x := by
 obtain ⟨i, hi⟩ := List.mem_iff_getElem?.mp h
 have hl := (List.getElem?_eq_some_iff.mp hi).1
 rw [List.length_drop] at hl
 rw [List.getElem?_drop] at hi
 exact ⟨k + i, by omega, by omega, hi⟩
set_option maxHeartbeats 1000000 in
theorem ZiU {st : SortSt} {i p q : Nat} {P As Bs R : List Keyed} {Q : Bool → SortSt → Prop} (C : Cmp M A E s rk κ In) (hk : kindOf st = κ) (hf : failedOf st = none) (hin : ∀ x ∈ (arrOf st).toList, In x)
  (p1 : (pendingOf st)[i]? = some (P.length, As.length, p)) (p2 : (pendingOf st)[i + 1]? = some (P.length + As.length, Bs.length, q)) (e : (arrOf st).toList = P ++ As ++ (Bs ++ R)) (hA : SL rk As) (hB : SL rk Bs) (a0 : 0 < As.length) (b0 : 0 < Bs.length)
  (k : ∀ st' Ms, (arrOf st').toList = P ++ Ms ++ R → Ms.Perm (As ++ Bs) → SL rk Ms → kindOf st' = κ → failedOf st' = none → pendingOf st' = ((pendingOf st).setIfInBounds i (P.length, As.length + Bs.length, p)).eraseIdxIfInBounds (i + 1) → Q true st') : wpS M A E s (mergeAt' i) Q st := by
 refine wpS_bind (wpS_get ?_)
 rw [p1, p2]
 dsimp only
 have hset : ∀ {T : SortSt} {F : PUnit → SortSt → Prop}, F ⟨⟩ T → wpS M A E s (set T : StateT SortSt Sem PUnit) F st := fun {T F} h => by
  unfold wpS
  rw [StateT.run_set]
  exact wpAny_pure ⟨rfl, h⟩
 refine wpS_bind (hset ?_)
 have e' : (arrOf st).toList = (P ++ As) ++ Bs ++ R := by rw [e]; simp
 have hPA : (P ++ As).length = P.length + As.length := List.length_append
 have atA : ∀ {j : Nat}, j < As.length → (arrOf st)[P.length + j]? = As[j]? := fun {j} h => Zjv e h
 have atB : ∀ {j : Nat}, j < Bs.length → (arrOf st)[P.length + As.length + j]? = Bs[j]? := fun {j} h => by
  have := Zjv e' h
  rw [hPA] at this
  exact this
 have hsz : (arrOf st).size = P.length + As.length + Bs.length + R.length := by
  rw [← Array.length_toList, e]
  simp only [List.length_append]
  omega
 have hB0 : Bs[0]? = some Bs[0] := List.getElem?_eq_getElem b0
 have key1 : (arrOf st)[P.length + As.length]? = some Bs[0] := by
  have := atB (j := 0) b0
  rw [Nat.add_zero] at this
  rw [this, hB0]
 have mem : ∀ {j : Nat} {x : Keyed}, (arrOf st)[j]? = some x → In x := fun {j x} h => hin x (Array.mem_toList_iff.mpr (Array.mem_of_getElem? h))
 refine wpS_bind (ZaG key1 ?_)
 refine wpS_bind (Zjy (κ := κ) (arr := arrOf st) C hk (mem key1) hin (fun i j x y hij hj ex ey => ?_) (by omega) a0 fun k1 f1 f2 f3 => ?_)
 ·rw [atA (by omega)] at ex
  rw [atA hj] at ey
  exact hA.le hij ex ey
 have lowA : ∀ x ∈ As.take k1, rk x ≤ rk Bs[0] := fun x hx => by
  obtain ⟨j, h1, h2, h3⟩ := Ze3 hx
  exact f2 j x h1 (by rw [atA h2]; exact h3)
 have uppA : ∀ x ∈ As.drop k1, rk Bs[0] < rk x := fun x hx => by
  obtain ⟨j, h1, h2, h3⟩ := Ze4 hx
  exact f3 j x h1 h2 (by rw [atA h2]; exact h3)
 have geB : ∀ y ∈ Bs, rk Bs[0] ≤ rk y := fun y hy => hB.head hB0 y (by rw [List.drop_zero]; exact hy)
 dsimp only
 by_cases c1 : (As.length - k1 == 0) = true
 ·rw [if_pos c1]
  have z : k1 = As.length := by
   have : As.length - k1 = 0 := by simpa using c1
   omega
  refine wpS_pure (k _ (As ++ Bs) (by show (arrOf st).toList = _; rw [e]; simp) (.refl _) (List.pairwise_append.mpr ⟨hA, hB, fun x hx y hy => ?_⟩) hk hf rfl)
  have h1 := lowA x (by rw [z, List.take_length]; exact hx)
  have h2 := geB y hy
  omega
 ·rw [if_neg c1]
  have c1' : As.length - k1 ≠ 0 := by simpa using c1
  have hAl : As[As.length - 1]? = some (As[As.length - 1]'(by omega)) := List.getElem?_eq_getElem (by omega)
  have key2 : (arrOf st)[P.length + k1 + (As.length - k1) - 1]? = some (As[As.length - 1]'(by omega)) := by
   rw [show P.length + k1 + (As.length - k1) - 1 = P.length + (As.length - 1) by omega, atA (by omega)]
   exact hAl
  refine wpS_bind (ZaG key2 ?_)
  refine wpS_bind (Zk1 (κ := κ) (arr := arrOf st) C hk (mem key2) hin (fun i j x y hij hj ex ey => ?_) (by omega) (by omega) fun n1 g1 g2 g3 => ?_)
  ·rw [atB (by omega)] at ex
   rw [atB hj] at ey
   exact hB.le hij ex ey
  have lowB : ∀ y ∈ Bs.take n1, rk y ≤ rk (As[As.length - 1]'(by omega)) := fun y hy => by
   obtain ⟨j, h1, h2, h3⟩ := Ze3 hy
   exact Int.le_of_lt (g2 j y h1 (by rw [atB h2]; exact h3))
  have uppB : ∀ y ∈ Bs.drop n1, rk (As[As.length - 1]'(by omega)) ≤ rk y := fun y hy => by
   obtain ⟨j, h1, h2, h3⟩ := Ze4 hy
   exact g3 j y h1 h2 (by rw [atB h2]; exact h3)
  have leA : ∀ x ∈ As, rk x ≤ rk (As[As.length - 1]'(by omega)) := fun x hx => by
   have := hA.last hAl
   rw [show As.length - 1 + 1 = As.length by omega, List.take_length] at this
   exact this x hx
  dsimp only
  by_cases c2 : (n1 == 0) = true
  ·rw [if_pos c2]
   have z : n1 = 0 := by simpa using c2
   refine wpS_pure (k _ (As ++ Bs) (by show (arrOf st).toList = _; rw [e]; simp) (.refl _) (List.pairwise_append.mpr ⟨hA, hB, fun x hx y hy => ?_⟩) hk hf rfl)
   have h1 := leA x hx
   have h2 := uppB y (by rw [z, List.drop_zero]; exact hy)
   omega
  ·rw [if_neg c2]
   have c2' : n1 ≠ 0 := by simpa using c2
   have hx : ((arrOf st).extract (P.length + k1) (P.length + As.length)).toList = As.drop k1 := by
    rw [Array.toList_extract, List.extract_eq_take_drop, e, List.append_assoc, List.drop_append, List.drop_of_length_le (by omega), List.nil_append, show P.length + k1 - P.length = k1 by omega, List.drop_append_of_le_length f1, List.take_append_of_le_length (by rw [List.length_drop]; omega), List.take_of_length_le (by rw [List.length_drop]; omega)]
   have hy : ((arrOf st).extract (P.length + As.length) (P.length + As.length + n1)).toList = Bs.take n1 := by
    rw [Array.toList_extract, List.extract_eq_take_drop, e', List.append_assoc, List.drop_append, List.drop_of_length_le (by omega), List.nil_append, hPA, Nat.sub_self, List.drop_zero, show P.length + As.length + n1 - (P.length + As.length) = n1 by omega, List.take_append_of_le_length g1]
   generalize (arrOf st).extract (P.length + k1) (P.length + As.length) = X at hx ⊢
   generalize (arrOf st).extract (P.length + As.length) (P.length + As.length + n1) = Y at hy ⊢
   have sX : SL rk X.toList := by rw [hx]; exact hA.drop k1
   have sY : SL rk Y.toList := by rw [hy]; exact hB.sublist (List.take_sublist _ _)
   have lX : X.size = As.length - k1 := by rw [← Array.length_toList, hx, List.length_drop]
   have lY : Y.size = n1 := by rw [← Array.length_toList, hy, List.length_take]; omega
   have inX : ∀ x ∈ X.toList, In x := fun x h => by
    rw [hx] at h
    exact hin x (by rw [e]; simp [List.mem_of_mem_drop h])
   have inY : ∀ x ∈ Y.toList, In x := fun x h => by
    rw [hy] at h
    exact hin x (by rw [e]; simp [List.mem_of_mem_take h])
   have frst : ∀ x, Y[0]? = some x → ∀ y ∈ X.toList, rk x ≤ rk y := fun x h y hyy => by
    rw [← Array.getElem?_toList, hy, List.getElem?_take_of_lt (by omega), hB0] at h
    cases h
    rw [hx] at hyy
    exact Int.le_of_lt (uppA y hyy)
   have topp : ∀ y ∈ Y.toList, ∀ x, X[X.size - 1]? = some x → rk y ≤ rk x := fun y hyy x h => by
    rw [← Array.getElem?_toList, hx, lX, List.getElem?_drop, show k1 + (As.length - k1 - 1) = As.length - 1 by omega, hAl] at h
    cases h
    rw [hy] at hyy
    exact lowB y hyy
   have fin : ∀ (r : Array Keyed) (st' : SortSt), Mg rk X Y r → Sim (setPending st (((pendingOf st).setIfInBounds i (P.length, As.length + Bs.length, p)).eraseIdxIfInBounds (i + 1))) st' → wpS M A E s (do
     modify fun s => setArr s (r.toList.zipIdx.foldl (fun a (p, j) => a.setIfInBounds (P.length + k1 + j) p) (arrOf s))
     return (failedOf (← get)).isNone) Q st' := fun r st' hm hs => by
    refine wpS_bind (wpS_modify (wpS_bind (wpS_get (wpS_pure ?_))))
    have hff : failedOf st' = none := hs.fail.trans hf
    have hrl : r.toList.length = As.length - k1 + n1 := by rw [hm.1.length_eq, List.length_append, Array.length_toList, Array.length_toList, lX, lY]
    have eA : (arrOf st').toList = (P ++ As.take k1) ++ (As.drop k1 ++ Bs.take n1) ++ (Bs.drop n1 ++ R) := by
     have : arrOf st' = arrOf st := hs.arr
     rw [this, e]
     have h1 : As = As.take k1 ++ As.drop k1 := (List.take_append_drop _ _).symm
     have h2 : Bs = Bs.take n1 ++ Bs.drop n1 := (List.take_append_drop _ _).symm
     conv => lhs; rw [h1, h2]
     simp only [List.append_assoc]
    have hPl : (P ++ As.take k1).length = P.length + k1 := by rw [List.length_append, List.length_take]; omega
    have fs := Zkd (ms := r.toList) eA (by rw [List.length_append, List.length_drop, List.length_take, hrl]; omega)
    rw [hPl] at fs
    have hfail : (failedOf st').isNone = true := by rw [hff]; rfl
    have goalq := k (setArr st' (r.toList.zipIdx.foldl (fun a (p, j) => a.setIfInBounds (P.length + k1 + j) p) (arrOf st'))) (As.take k1 ++ r.toList ++ Bs.drop n1) (by
     show (r.toList.zipIdx.foldl (fun a (p, j) => a.setIfInBounds (P.length + k1 + j) p) (arrOf st')).toList = _
     rw [fs]; simp only [List.append_assoc]) ?_ ?_ (hs.kind.trans hk) hff hs.pend
    ·show Q (failedOf st').isNone _
     rw [hfail]
     exact goalq
    ·have pr := hm.1
     rw [hx, hy] at pr
     refine ((pr.append_left _).append_right _).trans ?_
     rw [← List.append_assoc, List.take_append_drop, List.append_assoc, List.take_append_drop]
    ·have mr : ∀ z ∈ r.toList, (z ∈ As.drop k1 ∨ z ∈ Bs.take n1) := fun z hz => by
      have := hm.1.mem_iff.mp hz
      rw [hx, hy] at this
      exact List.mem_append.mp this
     refine List.pairwise_append.mpr ⟨List.pairwise_append.mpr ⟨hA.sublist (List.take_sublist _ _), hm.2, fun x h1 y h2 => ?_⟩, hB.drop n1, fun x h1 y h2 => ?_⟩
     ·have l1 := lowA x h1
      rcases mr y h2 with h2 | h2
      ·have := uppA y h2; omega
      ·have := geB y (List.mem_of_mem_take h2); omega
     ·have hy2 := List.mem_of_mem_drop h2
      rcases List.mem_append.mp h1 with h1 | h1
      ·have l1 := lowA x h1
       have := geB y hy2
       omega
      ·have l2 := uppB y h2
       rcases mr x h1 with h1 | h1
       ·have := leA x (List.mem_of_mem_drop h1); omega
       ·have := lowB x h1; omega
   by_cases c3 : As.length - k1 ≤ n1
   ·rw [if_pos c3]
    refine wpS_bind (ZiS C (st := setPending st _) hk inX inY sX sY (by omega) (by omega) frst topp fun r st' hm hs => ?_)
    exact fin r st' hm hs
   ·rw [if_neg c3]
    refine wpS_bind (ZiT C (st := setPending st _) hk inX inY sX sY (by omega) (by omega) frst topp fun r st' hm hs => ?_)
    exact fin r st' hm hs
end
end TT
namespace TT
open PySem PyProof.Rows
section
variable (rk : Keyed → Int)
noncomputable def Vk (xs : Array Keyed) (i : Nat) : Int := match xs[i]? with
 | some p => rk p
 | none => 0
noncomputable def Up (xs : Array Keyed) (lo n : Nat) : Prop := ∀ i j, i ≤ j → j < n → Vk rk xs (lo + i) ≤ Vk rk xs (lo + j)
noncomputable def Dn (xs : Array Keyed) (lo n : Nat) : Prop := ∀ i j, i ≤ j → j < n → Vk rk xs (lo + j) ≤ Vk rk xs (lo + i)
end
structure TB (st st' : SortSt) (lo : Nat) : Prop where
 perm : (arrOf st').toList.Perm (arrOf st).toList
 pre : ∀ i, i < lo → (arrOf st')[i]? = (arrOf st)[i]?
 kind : kindOf st' = kindOf st
 pend : pendingOf st' = pendingOf st
 fail : failedOf st' = failedOf st
theorem TB.refl (st : SortSt) (lo : Nat) : TB st st lo := ⟨.refl _, fun _ _ => rfl, rfl, rfl, rfl⟩
theorem TB.size {st st' : SortSt} {lo : Nat} (h : TB st st' lo) : (arrOf st').size = (arrOf st).size := by
 have := h.perm.length_eq
 simpa using this
section
variable {rk : Keyed → Int}
theorem Zdi {xs ys : Array Keyed} {i j : Nat} (h : xs[i]? = ys[j]?) : Vk rk xs i = Vk rk ys j := by unfold Vk; rw [h]
theorem TB.bub {st st' : SortSt} {lo src d : Nat} (h : TB st st' lo) (hs : src < (arrOf st').size) (hd : d ≤ src) (hl : lo ≤ src - d) : TB st (setArr st' (bubble (arrOf st') src d)) lo := by
 refine ⟨(Array.perm_iff_toList_perm.mp (bubble_perm _ _ _)).trans h.perm, fun i hi => ?_, h.kind, h.pend, h.fail⟩
 show (bubble (arrOf st') src d)[i]? = _
 rw [getElem?_bubble hs d hd, if_neg (by omega), if_neg (by omega)]
 exact h.pre i hi
theorem TB.mir {st st' : SortSt} {lo i j : Nat} (h : TB st st' lo) (hj : j ≤ (arrOf st').size) (hl : lo ≤ i) : TB st (setArr st' (mirror (arrOf st') i j ((j - i) / 2))) lo := by
 refine ⟨(Array.perm_iff_toList_perm.mp (mirror_perm _ _ _ _)).trans h.perm, fun k hk => ?_, h.kind, h.pend, h.fail⟩
 show (mirror (arrOf st') i j ((j - i) / 2))[k]? = _
 rw [getElem?_mirror_all hj, if_neg (by omega)]
 exact h.pre k hk
theorem Zkx {xs : Array Keyed} {src d : Nat} (hs : src < xs.size) (hd : d ≤ src) (k : Nat) : Vk rk (bubble xs src d) k = if k = src - d then Vk rk xs src else if src - d < k ∧ k ≤ src then Vk rk xs (k - 1) else Vk rk xs k := by
 have e := getElem?_bubble hs d hd k
 by_cases h1 : k = src - d
 ·rw [if_pos h1] at e ⊢; exact Zdi e
 ·rw [if_neg h1] at e ⊢
  by_cases h2 : src - d < k ∧ k ≤ src
  ·rw [if_pos h2] at e ⊢; exact Zdi e
  ·rw [if_neg h2] at e ⊢; exact Zdi e
theorem ZhG {xs : Array Keyed} {i j : Nat} (hj : j ≤ xs.size) (k : Nat) : Vk rk (mirror xs i j ((j - i) / 2)) k = if i ≤ k ∧ k < j then Vk rk xs (i + j - 1 - k) else Vk rk xs k := by
 have e := getElem?_mirror_all (i := i) hj k
 by_cases h1 : i ≤ k ∧ k < j
 ·rw [if_pos h1] at e ⊢; exact Zdi e
 ·rw [if_neg h1] at e ⊢; exact Zdi e
end
section
variable {M : Model} {A : Around} {E : Value → Shared → Prop} {s : Shared} {rk : Keyed → Int} {κ : SortKind} {In : Keyed → Prop}
theorem Zc7 {st0 st : SortSt} {lo i j : Nat} {Q : Option Bool → SortSt → Prop} (C : Cmp M A E s rk κ In) (hk : kindOf st0 = κ) (hin : ∀ x ∈ (arrOf st0).toList, In x) (h : TB st0 st lo) (hi : i < (arrOf st0).size) (hj : j < (arrOf st0).size)
  (q : Q (some (decide (Vk rk (arrOf st) i < Vk rk (arrOf st) j))) st) : wpS M A E s (ltAt' i j) Q st := by
 have hi' : i < (arrOf st).size := by rw [h.size]; exact hi
 have hj' : j < (arrOf st).size := by rw [h.size]; exact hj
 have ei := Array.getElem?_eq_getElem hi'
 have ej := Array.getElem?_eq_getElem hj'
 have mem : ∀ {k : Nat} {x : Keyed}, (arrOf st)[k]? = some x → In x := fun {k x} e => hin x (h.perm.mem_iff.mp (Array.mem_toList_iff.mpr (Array.mem_of_getElem? e)))
 rw [ltAt'_eq]
 refine wpS_bind (wpS_get ?_)
 refine wpS_bind (ZaG ei (wpS_bind (ZaG ej ?_)))
 refine C _ _ (mem ei) (mem ej) st _ (h.kind.trans hk) ?_
 have v1 : Vk rk (arrOf st) i = rk (arrOf st)[i] := by unfold Vk; rw [ei]
 have v2 : Vk rk (arrOf st) j = rk (arrOf st)[j] := by unfold Vk; rw [ej]
 rw [v1, v2] at q
 exact q
theorem Zks {st0 st : SortSt} {lo n ok : Nat} {Q : Bool → SortSt → Prop} (C : Cmp M A E s rk κ In) (hk : kindOf st0 = κ) (hin : ∀ x ∈ (arrOf st0).toList, In x) (hn : lo + n ≤ (arrOf st0).size) (hok : ok ≤ n) (hT : TB st0 st lo) (hs : Up rk (arrOf st) lo ok)
  (h : ∀ st', TB st0 st' lo → Up rk (arrOf st') lo n → Q true st') : wpS M A E s (binarySort' lo n ok) Q st := by
 rw [binarySort'_eq]
 refine wpS_bind (wpS_mono (wpS_forRange (I := fun k c st' => c = (none, ()) ∧ TB st0 st' lo ∧ Up rk (arrOf st') lo (min k n))
  (Q := fun c st' => c = (none, ()) ∧ TB st0 st' lo ∧ Up rk (arrOf st') lo n) ?step ?fin ?init) ?post)
 case post =>
  rintro c st' ⟨rfl, hB', hs'⟩
  exact wpS_pure (h st' hB' hs')
 case init =>
  refine ⟨rfl, hT, fun i j hij hj => ?_⟩
  by_cases h1 : ok = 0
  ·have : i = j := by omega
   subst this; exact Int.le_refl _
  ·exact hs i j hij (by omega)
 case fin =>
  rintro c st' ⟨hc, hB', hs'⟩
  refine ⟨hc, hB', ?_⟩
  rwa [show min (max (max ok 1) n) n = n by omega] at hs'
 case step =>
  rintro k c st' hak hkn ⟨rfl, hB', hs'⟩
  rw [show min k n = k by omega] at hs'
  have hk' : lo + k < (arrOf st0).size := by omega
  refine wpS_bind (wpS_mono (wpS_forRange (I := fun x c st'' => st'' = st' ∧ ∃ l r, c = (none, l, r) ∧ l ≤ r ∧ r ≤ k ∧ r - l ≤ k - x ∧
    (∀ i, i < l → Vk rk (arrOf st') (lo + i) ≤ Vk rk (arrOf st') (lo + k)) ∧ (∀ i, r ≤ i → i < k → Vk rk (arrOf st') (lo + k) < Vk rk (arrOf st') (lo + i)))
   (Q := fun c st'' => st'' = st' ∧ ∃ l r, c = (none, l, r) ∧ l ≤ k ∧
    (∀ i, i < l → Vk rk (arrOf st') (lo + i) ≤ Vk rk (arrOf st') (lo + k)) ∧ (∀ i, l ≤ i → i < k → Vk rk (arrOf st') (lo + k) < Vk rk (arrOf st') (lo + i))) ?istep ?ifin ?iinit) ?ipost)
  case iinit => exact ⟨rfl, 0, k, rfl, by omega, by omega, by omega, fun i hi => by omega, fun i h1 h2 => by omega⟩
  case ifin =>
   rintro c st'' ⟨rfl, l, r, rfl, hlr, hrk, hm, hlo, hhi⟩
   have : l = r := by omega
   subst this
   exact ⟨rfl, l, l, rfl, hrk, hlo, hhi⟩
  case istep =>
   rintro x c st'' _ hxk ⟨e0, l, r, rfl, hlr, hrk, hm, hlo, hhi⟩
   rw [e0]
   dsimp only
   by_cases hge : l ≥ r
   ·rw [if_pos hge]
    have : l = r := by omega
    subst this
    exact wpS_pure ⟨rfl, l, l, rfl, hrk, hlo, hhi⟩
   ·rw [if_neg hge]
    refine wpS_bind (Zc7 C hk hin hB' hk' (by omega) ?_)
    by_cases hless : Vk rk (arrOf st') (lo + k) < Vk rk (arrOf st') (lo + (l + r) / 2)
    ·dsimp only
     rw [if_pos (decide_eq_true hless)]
     refine wpS_pure ⟨rfl, l, (l + r) / 2, rfl, by omega, by omega, by omega, hlo, fun i h1 h2 => ?_⟩
     have := hs' ((l + r) / 2) i h1 h2
     omega
    ·dsimp only
     rw [if_neg (by simpa using hless)]
     refine wpS_pure ⟨rfl, (l + r) / 2 + 1, r, rfl, by omega, by omega, by omega, fun i h1 => ?_, hhi⟩
     have := hs' i ((l + r) / 2) (by omega) (by omega)
     omega
  case ipost =>
   rintro c st'' ⟨rfl, l, r, rfl, hlk, hlo, hhi⟩
   show wpS _ _ _ _ (do moveDown' (lo + k) (lo + l); pure (ForInStep.yield (none, ()))) _ _
   rw [moveDown'_eq]
   have hks : lo + k < (arrOf st'').size := by rw [hB'.size]; exact hk'
   refine wpS_bind (wpS_modify (wpS_pure ⟨rfl, hB'.bub hks (by omega) (by omega), ?_⟩))
   rw [show min (k + 1) n = k + 1 by omega]
   intro i j hij hj
   show Vk rk (bubble (arrOf st'') (lo + k) (lo + k - (lo + l))) (lo + i) ≤ Vk rk (bubble (arrOf st'') (lo + k) (lo + k - (lo + l))) (lo + j)
   rw [Zkx hks (by omega), Zkx hks (by omega), show lo + k - (lo + k - (lo + l)) = lo + l by omega]
   have e1 : ∀ m, l < m → lo + m - 1 = lo + (m - 1) := fun m hm => by omega
   by_cases i1 : i = l
   ·subst i1
    rw [if_pos rfl]
    by_cases j1 : j = i
    ·rw [if_pos (by omega)]; exact Int.le_refl _
    ·rw [if_neg (by omega), if_pos (by omega), e1 j (by omega)]
     exact Int.le_of_lt (hhi _ (by omega) (by omega))
   ·rw [if_neg (by omega)]
    by_cases i2 : l < i
    ·rw [if_pos (by omega), if_neg (by omega), if_pos (by omega), e1 i i2, e1 j (by omega)]
     exact hs' _ _ (by omega) (by omega)
    ·rw [if_neg (by omega)]
     by_cases j1 : j = l
     ·rw [if_pos (by omega)]; exact hlo i (by omega)
     ·rw [if_neg (by omega)]
      by_cases j2 : l < j
      ·rw [if_pos (by omega), e1 j j2]
       exact hs' i (j - 1) (by omega) (by omega)
      ·rw [if_neg (by omega)]
       exact hs' i j hij (by omega)
end
end TT
namespace TT
open PySem PyProof.Rows
section
variable {M : Model} {A : Around} {E : Value → Shared → Prop} {s : Shared} {rk : Keyed → Int} {κ : SortKind} {In : Keyed → Prop}
theorem ZeC {xs : Array Keyed} {i j : Nat} {c : Int} (hj : j ≤ xs.size) (he : ∀ k, i ≤ k → k < j → Vk rk xs k = c) (k : Nat) : Vk rk (mirror xs i j ((j - i) / 2)) k = Vk rk xs k := by
 rw [ZhG hj]
 split
 ·rw [he _ (by omega) (by omega), he k (by omega) (by omega)]
 ·rfl
theorem Zfs {st : SortSt} {i j : Nat} {F : Unit → SortSt → Prop} (h : F () (setArr st (mirror (arrOf st) i j ((j - i) / 2)))) : wpS M A E s (reverseSlice' i j) F st := by
 rw [reverseSlice'_eq]
 exact wpS_modify h
theorem Up.next {xs : Array Keyed} {lo x : Nat} (h : Up rk xs lo x) (hx : 1 ≤ x) (hv : ¬ Vk rk xs (lo + x) < Vk rk xs (lo + x - 1)) : Up rk xs lo (x + 1) := fun i j hij hj => by
 by_cases hjx : j < x
 ·exact h i j hij hjx
 ·have e : j = x := by omega
  subst e
  by_cases hi : i = j
  ·subst hi; exact Int.le_refl _
  ·have := h i (j - 1) (by omega) (by omega)
   rw [show lo + (j - 1) = lo + j - 1 by omega] at this
   omega
theorem Dn.next {xs : Array Keyed} {lo x : Nat} (h : Dn rk xs lo x) (hx : 1 ≤ x) (hv : Vk rk xs (lo + x) ≤ Vk rk xs (lo + x - 1)) : Dn rk xs lo (x + 1) := fun i j hij hj => by
 by_cases hjx : j < x
 ·exact h i j hij hjx
 ·have e : j = x := by omega
  subst e
  by_cases hi : i = j
  ·subst hi; exact Int.le_refl _
  ·have := h i (j - 1) (by omega) (by omega)
   rw [show lo + (j - 1) = lo + j - 1 by omega] at this
   omega
theorem Dn.flip {xs : Array Keyed} {lo n : Nat} (h : Dn rk xs lo n) (hn : lo + n ≤ xs.size) : Up rk (mirror xs lo (lo + n) ((lo + n - lo) / 2)) lo n := fun i j hij hj => by
 rw [ZhG hn, ZhG hn, if_pos (by omega), if_pos (by omega), show lo + (lo + n) - 1 - (lo + i) = lo + (n - 1 - i) by omega, show lo + (lo + n) - 1 - (lo + j) = lo + (n - 1 - j) by omega]
 exact h _ _ (by omega) (by omega)
set_option hygiene false in
local macro_rules | `(tactic| walk_at "upTail") => `(tactic| (
  refine wpS_bind (Zfs ?_)
  have hT3 := hT2.mir (i := lo) (j := lo + m) (by rw [hT2.size]; omega) (Nat.le_refl _)
  have hU3 := hD2.flip (by rw [hT2.size]; omega)
  refine wpS_bind (wpS_mono (wpS_forRange (I := fun x c st' => c = (none, x) ∧ TB st0 st' lo ∧ Up rk (arrOf st') lo x) (Q := fun c st' => ∃ m, c = (none, m) ∧ 1 ≤ m ∧ m ≤ nrem ∧ TB st0 st' lo ∧ Up rk (arrOf st') lo m) ?stepU ?finU ⟨rfl, hT3, hU3⟩) ?postU)
  case postU =>
   rintro c st' ⟨m, rfl, a1, a2, a3, a4⟩
   exact wpS_pure (h m st' a3 a1 a2 a4)
  case finU =>
   rintro c st' ⟨rfl, a1, a2⟩
   rw [show max m nrem = nrem by omega] at a2 ⊢
   exact ⟨nrem, rfl, by omega, Nat.le_refl _, a1, a2⟩
  case stepU =>
   rintro x c st' hax hxn ⟨rfl, a1, a2⟩
   dsimp only
   refine wpS_bind (Zc7 C hk hin a1 (by omega) (by omega) ?_)
   dsimp only
   by_cases w : Vk rk (arrOf st') (lo + x) < Vk rk (arrOf st') (lo + x - 1)
   ·rw [if_pos (decide_eq_true w)]
    exact wpS_pure ⟨x, rfl, by omega, by omega, a1, a2⟩
   ·rw [if_neg (by simpa using w)]
    exact wpS_pure ⟨rfl, a1, a2.next (by omega) w⟩))
set_option hygiene false in
local macro_rules | `(tactic| walk_at "descT") => `(tactic| (
  refine wpS_bind (wpS_lift (wpAny_rule ⟨rfl, ?_⟩))
  refine wpS_bind (wpS_mono (wpS_forRange (I := fun x c st' => ∃ neq, c = (none, x, neq) ∧ TB st0 st' lo ∧ Dn rk (arrOf st') lo x ∧ neq + 1 ≤ x ∧ (∀ k, lo + x - (neq + 1) ≤ k → k < lo + x → Vk rk (arrOf st') k = Vk rk (arrOf st') (lo + x - 1)))
   (Q := fun c st' => ∃ m neq, c = (none, m, neq) ∧ 1 ≤ m ∧ m ≤ nrem ∧ TB st0 st' lo ∧ Dn rk (arrOf st') lo m ∧ neq + 1 ≤ m ∧ (∀ k, lo + m - (neq + 1) ≤ k → k < lo + m → Vk rk (arrOf st') k = Vk rk (arrOf st') (lo + m - 1))) ?stepD ?finD ⟨0, rfl, hTd, hDd, by omega, fun k h1 h2 => by congr 1; omega⟩) ?postD)
  case finD =>
   rintro c st' ⟨neq, rfl, a1, a2, a3, a4⟩
   rw [show max (n + 1) nrem = nrem by omega] at a2 a3 a4 ⊢
   exact ⟨nrem, neq, rfl, by omega, Nat.le_refl _, a1, a2, a3, a4⟩
  case stepD =>
   rintro x c st' hax hxn ⟨neq, rfl, a1, a2, a3, a4⟩
   dsimp only
   refine wpS_bind (Zc7 C hk hin a1 (by omega) (by omega) ?_)
   dsimp only
   by_cases w : Vk rk (arrOf st') (lo + x) < Vk rk (arrOf st') (lo + x - 1)
   ·rw [if_pos (decide_eq_true w)]
    have up := a2.next (by omega) (Int.le_of_lt w)
    by_cases hq : neq > 0
    ·rw [if_pos hq]
     refine wpS_bind (Zfs ?_)
     have hm := ZeC (xs := arrOf st') (i := lo + x - (neq + 1)) (j := lo + x) (by rw [a1.size]; omega) a4
     exact wpS_pure ⟨0, rfl, a1.mir (by rw [a1.size]; omega) (by omega), fun i j hij hj => by
      show Vk rk (mirror _ _ _ _) _ ≤ Vk rk (mirror _ _ _ _) _
      rw [hm, hm]; exact up i j hij hj, by omega, fun k h1 h2 => by congr 1; omega⟩
    ·rw [if_neg hq]
     exact wpS_pure ⟨0, rfl, a1, up, by omega, fun k h1 h2 => by congr 1; omega⟩
   ·rw [if_neg (by simpa using w)]
    refine wpS_bind (Zc7 C hk hin a1 (by omega) (by omega) ?_)
    dsimp only
    by_cases w2 : Vk rk (arrOf st') (lo + x - 1) < Vk rk (arrOf st') (lo + x)
    ·rw [if_pos (decide_eq_true w2)]
     exact wpS_pure ⟨x, neq, rfl, by omega, by omega, a1, a2, a3, a4⟩
    ·rw [if_neg (by simpa using w2)]
     have eq : Vk rk (arrOf st') (lo + x) = Vk rk (arrOf st') (lo + x - 1) := by omega
     refine wpS_pure ⟨neq + 1, rfl, a1, a2.next (by omega) (by omega), by omega, fun k h1 h2 => ?_⟩
     rw [show lo + (x + 1) - 1 = lo + x by omega]
     by_cases hkx : k = lo + x
     ·rw [hkx]
     ·rw [eq]; exact a4 k (by omega) (by omega)
  case postD =>
   rintro c stD ⟨m, neq, rfl, b1, b2, hT1, hD1, b3, b4⟩
   dsimp only
   by_cases hq : neq > 0
   ·rw [if_pos hq]
    refine wpS_bind (Zfs ?_)
    have hm := ZeC (xs := arrOf stD) (i := lo + m - (neq + 1)) (j := lo + m) (by rw [hT1.size]; omega) b4
    have hT2 := hT1.mir (i := lo + m - (neq + 1)) (j := lo + m) (by rw [hT1.size]; omega) (by omega)
    have hD2 : Dn rk (arrOf (setArr stD (mirror (arrOf stD) (lo + m - (neq + 1)) (lo + m) ((lo + m - (lo + m - (neq + 1))) / 2)))) lo m := fun i j hij hj => by
     show Vk rk (mirror _ _ _ _) _ ≤ Vk rk (mirror _ _ _ _) _
     rw [hm, hm]; exact hD1 i j hij hj
    generalize setArr stD (mirror (arrOf stD) (lo + m - (neq + 1)) (lo + m) ((lo + m - (lo + m - (neq + 1))) / 2)) = stE at hT2 hD2 ⊢
    walk_at "upTail"
   ·rw [if_neg hq]
    have hT2 := hT1
    have hD2 := hD1
    walk_at "upTail"))
set_option maxHeartbeats 1000000 in
theorem Zlh {st0 st : SortSt} {lo nrem : Nat} {Q : Option Nat → SortSt → Prop} (C : Cmp M A E s rk κ In) (hk : kindOf st0 = κ) (hin : ∀ x ∈ (arrOf st0).toList, In x) (hn : lo + nrem ≤ (arrOf st0).size) (h1 : 1 ≤ nrem) (hT : TB st0 st lo)
  (h : ∀ m st', TB st0 st' lo → 1 ≤ m → m ≤ nrem → Up rk (arrOf st') lo m → Q (some m) st') : wpS M A E s (countRun' lo nrem) Q st := by
 rw [countRun'_eq]
 refine wpS_bind (wpS_mono (wpS_forRange (I := fun x c st' => st' = st ∧ c = (none, x) ∧ Up rk (arrOf st) lo x)
  (Q := fun c st' => st' = st ∧ ∃ n, c = (none, n) ∧ 1 ≤ n ∧ n ≤ nrem ∧ Up rk (arrOf st) lo n ∧ (n = nrem ∨ Vk rk (arrOf st) (lo + n) < Vk rk (arrOf st) (lo + n - 1))) ?step ?fin ⟨rfl, rfl, fun i j hij hj => by
   have : i = j := by omega
   subst this; exact Int.le_refl _⟩) ?post)
 case fin =>
  rintro c st' ⟨rfl, rfl, a⟩
  rw [show max 1 nrem = nrem by omega] at a ⊢
  exact ⟨rfl, nrem, rfl, h1, Nat.le_refl _, a, .inl rfl⟩
 case step =>
  rintro x c st' hax hxn ⟨e0, rfl, a⟩
  rw [e0]
  dsimp only
  refine wpS_bind (Zc7 C hk hin hT (by omega) (by omega) ?_)
  dsimp only
  by_cases w : Vk rk (arrOf st) (lo + x) < Vk rk (arrOf st) (lo + x - 1)
  ·rw [if_pos (decide_eq_true w)]
   exact wpS_pure ⟨rfl, x, rfl, hax, by omega, a, .inr w⟩
  ·rw [if_neg (by simpa using w)]
   exact wpS_pure ⟨rfl, rfl, a.next hax w⟩
 case post =>
  rintro c st' ⟨e0, n, rfl, n1, n2, a, hor⟩
  rw [e0]
  dsimp only
  by_cases hnn : n = nrem
  ·rw [if_pos (by simpa using hnn)]
   exact wpS_pure (h n st hT n1 n2 a)
  ·rw [if_neg (by simpa using hnn)]
   have hlt := hor.resolve_left hnn
   have hn1 : n + 1 ≤ nrem := by omega
   by_cases hgt : n > 1
   ·rw [if_pos hgt]
    refine wpS_bind (Zc7 C hk hin hT (by omega) (by omega) ?_)
    dsimp only
    by_cases rose : Vk rk (arrOf st) lo < Vk rk (arrOf st) (lo + n - 1)
    ·rw [if_pos (decide_eq_true rose)]
     exact wpS_pure (h n st hT n1 n2 a)
    ·rw [if_neg (by simpa using rose)]
     refine wpS_bind (Zfs ?_)
     have hall : ∀ k, lo ≤ k → k < lo + n → Vk rk (arrOf st) k = Vk rk (arrOf st) lo := fun k h1 h2 => by
      have a1 := a 0 (k - lo) (by omega) (by omega)
      have a2 := a (k - lo) (n - 1) (by omega) (by omega)
      rw [Nat.add_zero, show lo + (k - lo) = k by omega] at a1
      rw [show lo + (k - lo) = k by omega, show lo + (n - 1) = lo + n - 1 by omega] at a2
      omega
     have hm := ZeC (xs := arrOf st) (i := lo) (j := lo + n) (by rw [hT.size]; omega) hall
     have hTd := hT.mir (i := lo) (j := lo + n) (by rw [hT.size]; omega) (Nat.le_refl _)
     have hDd : Dn rk (arrOf (setArr st (mirror (arrOf st) lo (lo + n) ((lo + n - lo) / 2)))) lo (n + 1) := fun i j hij hj => by
      show Vk rk (mirror _ _ _ _) _ ≤ Vk rk (mirror _ _ _ _) _
      rw [hm, hm]
      have v1 := hall (lo + n - 1) (by omega) (by omega)
      by_cases hjn : j < n
      ·rw [hall (lo + j) (by omega) (by omega), hall (lo + i) (by omega) (by omega)]; exact Int.le_refl _
      ·have ej : j = n := by omega
       subst ej
       by_cases hi : i = j
       ·subst hi; exact Int.le_refl _
       ·rw [hall (lo + i) (by omega) (by omega)]; omega
     generalize setArr st (mirror (arrOf st) lo (lo + n) ((lo + n - lo) / 2)) = stx at hTd hDd ⊢
     walk_at "descT"
   ·rw [if_neg hgt]
    have hn0 : n = 1 := by omega
    have hTd := hT
    have hDd : Dn rk (arrOf st) lo (n + 1) := by
     subst hn0
     exact Dn.next (fun i j hij hj => by
      have : i = j := by omega
      subst this; exact Int.le_refl _) (Nat.le_refl _) (Int.le_of_lt hlt)
    walk_at "descT"
end
end TT
namespace TT
open PySem PyProof.Rows
noncomputable def Pd : Nat → List (Nat × Nat × Nat) → List (List Keyed) → Prop
 | _, [], [] => True
 | off, x :: ps, r :: rs => x.1 = off ∧ x.2.1 = r.length ∧ Pd (off + r.length) ps rs
 | _, _, _ => False
theorem Pd.len : ∀ {off : Nat} {ps : List (Nat × Nat × Nat)} {rs : List (List Keyed)}, Pd off ps rs → ps.length = rs.length
 | _, [], [], _ => rfl
 | _, _ :: _, _ :: _, h => by rw [List.length_cons, List.length_cons, Pd.len h.2.2]
 | _, [], _ :: _, h => h.elim
 | _, _ :: _, [], h => h.elim
theorem Pd.push {x : Nat × Nat × Nat} {r : List Keyed} : ∀ {off : Nat} {ps : List (Nat × Nat × Nat)} {rs : List (List Keyed)}, Pd off ps rs → x.1 = off + rs.flatten.length → x.2.1 = r.length → Pd off (ps ++ [x]) (rs ++ [r])
 | off, [], [], _, h1, h2 => ⟨by simpa using h1, h2, trivial⟩
 | off, y :: ps, q :: rs, h, h1, h2 => by
  refine ⟨h.1, h.2.1, Pd.push h.2.2 ?_ h2⟩
  rw [h1]; simp; omega
 | _, [], _ :: _, h, _, _ => h.elim
 | _, _ :: _, [], h, _, _ => h.elim
theorem Pd.modify {pw : Nat} : ∀ {off : Nat} {ps : List (Nat × Nat × Nat)} {rs : List (List Keyed)} (k : Nat), Pd off ps rs → Pd off (ps.modify k fun x => (x.1, x.2.1, pw)) rs
 | off, [], [], k, h => by cases k <;> exact h
 | off, y :: ps, q :: rs, 0, h => ⟨h.1, h.2.1, h.2.2⟩
 | off, y :: ps, q :: rs, k + 1, h => ⟨h.1, h.2.1, Pd.modify k h.2.2⟩
 | _, [], _ :: _, _, h => h.elim
 | _, _ :: _, [], _, h => h.elim
theorem Pd.at : ∀ {off : Nat} {ps : List (Nat × Nat × Nat)} {rs : List (List Keyed)} (i : Nat), Pd off ps rs → i + 1 < ps.length → ∃ rs1 As Bs rs2 p q, rs = rs1 ++ As :: Bs :: rs2 ∧ ps[i]? = some (off + rs1.flatten.length, As.length, p) ∧ ps[i + 1]? = some (off + rs1.flatten.length + As.length, Bs.length, q) ∧ ∀ Ms : List Keyed, Ms.length = As.length + Bs.length → Pd off ((ps.set i (off + rs1.flatten.length, As.length + Bs.length, p)).eraseIdx (i + 1)) (rs1 ++ Ms :: rs2)
 | off, x :: y :: ps, a :: b :: rs, 0, h, _ => by
  obtain ⟨h1, h2, h3, h4, h5⟩ := h
  refine ⟨[], a, b, rs, x.2.2, y.2.2, rfl, ?_, ?_, fun Ms hm => ⟨by simp, hm.symm, ?_⟩⟩
  ·simp [← h1, ← h2]
  ·simp [← h3, ← h4]
  ·rw [hm, ← Nat.add_assoc]; exact h5
 | off, x :: ps, a :: rs, i + 1, h, hi => by
  obtain ⟨h1, h2, h3⟩ := h
  obtain ⟨rs1, As, Bs, rs2, p, q, e, e1, e2, k⟩ := Pd.at i h3 (by simpa using hi)
  refine ⟨a :: rs1, As, Bs, rs2, p, q, by rw [e]; rfl, ?_, ?_, fun Ms hm => ?_⟩
  ·simp only [List.getElem?_cons_succ, List.flatten_cons, List.length_append]
   rw [e1, Nat.add_assoc]
  ·simp only [List.getElem?_cons_succ, List.flatten_cons, List.length_append]
   rw [e2, Nat.add_assoc off]
  ·have := k Ms hm
   simp only [List.flatten_cons, List.length_append, List.set_cons_succ, List.eraseIdx_cons_succ, List.cons_append]
   rw [← Nat.add_assoc]
   exact ⟨h1, h2, this⟩
 | off, [x], a :: rs, 0, h, hi => by simp at hi
 | off, x :: y :: ps, [a], 0, h, _ => h.2.2.elim
 | _, [], _, _, _, hi => by simp at hi
 | _, _ :: _, [], _, h, _ => h.elim
section
variable {M : Model} {A : Around} {E : Value → Shared → Prop} {s : Shared} {rk : Keyed → Int} {κ : SortKind} {In : Keyed → Prop} {a₀ : List Keyed}
structure SI (rk : Keyed → Int) (κ : SortKind) (a₀ : List Keyed) (st : SortSt) (runs : List (List Keyed)) (R : List Keyed) : Prop where
 e : (arrOf st).toList = runs.flatten ++ R
 pd : Pd 0 (pendingOf st).toList runs
 ok : ∀ r ∈ runs, SL rk r ∧ 0 < r.length
 perm : (arrOf st).toList.Perm a₀
 kind : kindOf st = κ
 fail : failedOf st = none
theorem SI.psize {st : SortSt} {runs : List (List Keyed)} {R : List Keyed} (h : SI rk κ a₀ st runs R) : (pendingOf st).size = runs.length := by
 rw [← h.pd.len, Array.length_toList]
theorem Zfo {st : SortSt} {runs : List (List Keyed)} {R : List Keyed} {i : Nat} {Q : Bool → SortSt → Prop} (C : Cmp M A E s rk κ In) (hin : ∀ x ∈ a₀, In x) (h : SI rk κ a₀ st runs R) (hi : i + 1 < (pendingOf st).size)
  (k : ∀ st' runs', SI rk κ a₀ st' runs' R → runs'.length + 1 = runs.length → runs'.flatten.length = runs.flatten.length → Q true st') : wpS M A E s (mergeAt' i) Q st := by
 obtain ⟨rs1, As, Bs, rs2, p, q, e, e1, e2, kk⟩ := Pd.at i h.pd (by simpa using hi)
 rw [Nat.zero_add] at e1 e2 kk
 have oA := h.ok As (by rw [e]; simp)
 have oB := h.ok Bs (by rw [e]; simp)
 refine ZiU (P := rs1.flatten) (As := As) (Bs := Bs) (R := rs2.flatten ++ R) C h.kind h.fail (fun x hx => hin x (h.perm.mem_iff.mp hx)) (by rw [← Array.getElem?_toList]; exact e1) (by rw [← Array.getElem?_toList]; exact e2) (by rw [h.e, e]; simp) oA.1 oB.1 oA.2 oB.2 fun st' Ms h1 h2 h3 h4 h5 h6 => ?_
 have hml : Ms.length = As.length + Bs.length := by rw [h2.length_eq, List.length_append]
 refine k st' (rs1 ++ Ms :: rs2) ⟨by rw [h1]; simp, ?_, fun r hr => ?_, ?_, h4, h5⟩ ?_ ?_
 ·rw [h6]
  have := kk Ms hml
  simpa using this
 ·rcases List.mem_append.mp hr with hr | hr
  ·exact h.ok r (by rw [e]; simp [hr])
  ·rcases List.mem_cons.mp hr with rfl | hr
   ·exact ⟨h3, by rw [hml]; omega⟩
   ·exact h.ok r (by rw [e]; simp [hr])
 ·refine List.Perm.trans ?_ h.perm
  rw [h1, h.e, e]
  have : (Ms ++ (rs2.flatten ++ R)).Perm (As ++ Bs ++ (rs2.flatten ++ R)) := h2.append_right _
  have := this.append_left rs1.flatten
  simpa using this
 ·rw [e]; simp; omega
 ·rw [e]; simp [hml]; omega
theorem Zlo {arr : Array Keyed} {F R : List Keyed} {n : Nat} (e : arr.toList = F ++ R) (h : Up rk arr F.length n) (hn : n ≤ R.length) : SL rk (R.take n) := by
 have at' : ∀ {j : Nat} (hj : j < R.length), Vk rk arr (F.length + j) = rk R[j] := fun {j} hj => by
  unfold Vk
  rw [← Array.getElem?_toList, e, List.getElem?_append_right (by omega), show F.length + j - F.length = j by omega, List.getElem?_eq_getElem hj]
 refine List.pairwise_iff_getElem.mpr fun i j hi hj hij => ?_
 rw [List.length_take] at hi hj
 have := h i j (by omega) (by omega)
 rw [at' (by omega), at' (by omega)] at this
 rw [List.getElem_take, List.getElem_take]
 exact this
theorem SI.push {st : SortSt} {runs : List (List Keyed)} {R : List Keyed} {n : Nat} (h : SI rk κ a₀ st runs R) (hs : SL rk (R.take n)) (h1 : 1 ≤ n) (hn : n ≤ R.length) : SI rk κ a₀ (setPending st ((pendingOf st).push (runs.flatten.length, n, 0))) (runs ++ [R.take n]) (R.drop n) := by
 refine ⟨?_, ?_, fun r hr => ?_, h.perm, h.kind, h.fail⟩
 ·show (arrOf st).toList = _
  rw [h.e]; simp
 ·show Pd 0 ((pendingOf st).push (runs.flatten.length, n, 0)).toList _
  rw [Array.toList_push]
  exact h.pd.push (by simp) (by rw [List.length_take]; show n = _; omega)
 ·rcases List.mem_append.mp hr with hr | hr
  ·exact h.ok r hr
  ·rw [List.mem_singleton.mp hr]
   exact ⟨hs, by rw [List.length_take]; omega⟩
theorem SI.power {st : SortSt} {runs : List (List Keyed)} {R : List Keyed} {k pw : Nat} (h : SI rk κ a₀ st runs R) : SI rk κ a₀ (setPending st ((pendingOf st).modify k fun x => (x.1, x.2.1, pw))) runs R := by
 refine ⟨h.e, ?_, h.ok, h.perm, h.kind, h.fail⟩
 show Pd 0 ((pendingOf st).modify k fun x => (x.1, x.2.1, pw)).toList _
 rw [Array.toList_modify]
 exact h.pd.modify k
theorem SI.fresh {st st' : SortSt} {runs : List (List Keyed)} {R : List Keyed} (h : SI rk κ a₀ st runs R) (t : TB st st' runs.flatten.length) : SI rk κ a₀ st' runs ((arrOf st').toList.drop runs.flatten.length) := by
 have ep : (arrOf st').toList.take runs.flatten.length = runs.flatten := by
  apply List.ext_getElem?
  intro i
  by_cases hi : i < runs.flatten.length
  ·rw [List.getElem?_take_of_lt hi, Array.getElem?_toList, t.pre i hi, ← Array.getElem?_toList, h.e, List.getElem?_append_left hi]
  ·rw [List.getElem?_eq_none (by rw [List.length_take]; omega), List.getElem?_eq_none (by omega)]
 refine ⟨?_, by rw [t.pend]; exact h.pd, h.ok, t.perm.trans h.perm, t.kind.trans h.kind, t.fail.trans h.fail⟩
 conv => lhs; rw [← List.take_append_drop runs.flatten.length (arrOf st').toList]
 rw [ep]
theorem SI.le {st : SortSt} {runs : List (List Keyed)} {R : List Keyed} (h : SI rk κ a₀ st runs R) : runs.length ≤ runs.flatten.length := by
 have : ∀ rs : List (List Keyed), (∀ r ∈ rs, SL rk r ∧ 0 < r.length) → rs.length ≤ rs.flatten.length := by
  intro rs
  induction rs with
  | nil => intro _; simp
  | cons r rs ih =>
   intro hr
   have h1 := ih fun q hq => hr q (by simp [hq])
   have h2 := (hr r (by simp)).2
   simp only [List.length_cons, List.flatten_cons, List.length_append]
   omega
 exact this runs h.ok
end
end TT
namespace TT
open PySem PyProof.Rows
section
variable {M : Model} {A : Around} {E : Value → Shared → Prop} {s : Shared} {rk : Keyed → Int} {κ : SortKind} {In : Keyed → Prop} {a₀ : List Keyed}
set_option hygiene false in
local macro_rules | `(tactic| walk_at "runEnd") => `(tactic| (
  have yes : ∀ st4 runs4, SI rk κ a₀ st4 runs4 R3 → runs4.flatten.length = runs.flatten.length → ∃ lo' runs' R', ((none : Option PUnit), runs.flatten.length + nn) = (none, lo') ∧ SI rk κ a₀ (setPending st4 ((pendingOf st4).push (runs.flatten.length, nn, 0))) runs' R' ∧ runs'.flatten.length = lo' ∧ x + 1 ≤ lo' ∧ lo' ≤ (arrOf st).size := fun st4 runs4 h4 e4 => by
   have hp4 := h4.push hS3 n1 n2
   rw [e4] at hp4
   refine ⟨_, _, _, rfl, hp4, ?_, by omega, by omega⟩
   simp only [List.flatten_append, List.length_append, List.flatten_cons, List.flatten_nil, List.append_nil, List.length_take]
   omega
  refine wpS_bind (wpS_get ?_)
  split
  ·refine wpS_bind (wpS_mono (wpS_forRange (I := fun y c st4 => c = (none, ()) ∧ ∃ runs4, SI rk κ a₀ st4 runs4 R3 ∧ runs4.flatten.length = runs.flatten.length)
    (Q := fun c st4 => c = (none, ()) ∧ ∃ runs4, SI rk κ a₀ st4 runs4 R3 ∧ runs4.flatten.length = runs.flatten.length) ?stepM ?finM ⟨rfl, runs, h3, rfl⟩) ?postM)
   case finM => exact fun c st4 z => z
   case postM =>
    rintro c st4 ⟨rfl, runs4, h4, e4⟩
    dsimp only
    refine wpS_bind (wpS_modify (wpS_bind (wpS_modify (wpS_pure ?_))))
    exact yes _ runs4 h4.power e4
   case stepM =>
    rintro y c st4 _ hy ⟨rfl, runs4, h4, e4⟩
    try dsimp only
    refine wpS_bind (wpS_get ?_)
    by_cases g0 : (pendingOf st4).size > 1
    ·rw [if_pos g0]
     split
     ·split
      ·exact wpS_pure ⟨rfl, runs4, h4, e4⟩
      ·refine wpS_bind (Zfo C hin h4 (by omega) fun st5 runs5 h5 l5 e5 => ?_)
       simp only [Bool.not_true, Bool.false_eq_true, if_false]
       exact wpS_pure ⟨rfl, runs5, h5, e5.trans e4⟩
     ·exact wpS_pure ⟨rfl, runs4, h4, e4⟩
    ·rw [if_neg g0]
     exact wpS_pure ⟨rfl, runs4, h4, e4⟩
  ·refine wpS_bind (wpS_modify (wpS_pure ?_))
   exact yes _ runs h3 rfl))
theorem ZhI {st : SortSt} {Q : Unit → SortSt → Prop} (C : Cmp M A E s rk κ In) (hin : ∀ x ∈ a₀, In x) (hp : (arrOf st).toList.Perm a₀) (hk : kindOf st = κ) (hf : failedOf st = none) (hpe : pendingOf st = #[])
  (k : ∀ st', (arrOf st').toList.Perm a₀ → SL rk (arrOf st').toList → failedOf st' = none → Q () st') : wpS M A E s sortRuns' Q st := by
 rw [sortRuns'_eq]
 refine wpS_bind (wpS_get ?_)
 dsimp only
 have hsz : ∀ {st' : SortSt} {runs : List (List Keyed)} {R : List Keyed}, SI rk κ a₀ st' runs R → (arrOf st').size = (arrOf st).size := fun {st' runs R} h => by
  have h1 := h.perm.length_eq
  have h2 := hp.length_eq
  simp only [Array.length_toList] at h1 h2
  omega
 have S0 : SI rk κ a₀ st [] (arrOf st).toList := ⟨by simp, by rw [hpe]; trivial, fun r hr => by simp at hr, hp, hk, hf⟩
 generalize minRun' (arrOf st).size (arrOf st).size 0 = mr
 refine wpS_bind (wpS_mono (wpS_forRange (I := fun x c st' => ∃ lo runs R, c = (none, lo) ∧ SI rk κ a₀ st' runs R ∧ runs.flatten.length = lo ∧ x ≤ lo ∧ lo ≤ (arrOf st).size)
  (Q := fun c st' => ∃ runs R, c = (none, (arrOf st).size) ∧ SI rk κ a₀ st' runs R ∧ runs.flatten.length = (arrOf st).size) ?step ?fin ⟨0, [], _, rfl, S0, rfl, Nat.le_refl _, Nat.zero_le _⟩) ?post)
 case fin =>
  rintro c st' ⟨lo, runs, R, rfl, h, h1, h2, h3⟩
  have : lo = (arrOf st).size := by omega
  subst this
  exact ⟨runs, R, rfl, h, h1⟩
 case step =>
  rintro x c st1 _ hx ⟨lo, runs, R, rfl, h, h1, h2, h3⟩
  dsimp only
  by_cases c0 : lo ≥ (arrOf st).size
  ·rw [if_pos c0]
   have : lo = (arrOf st).size := by omega
   subst this
   exact wpS_pure ⟨runs, R, rfl, h, h1⟩
  ·rw [if_neg c0]
   have hs1 := hsz h
   have hin1 : ∀ x ∈ (arrOf st1).toList, In x := fun x hx => hin x (h.perm.mem_iff.mp hx)
   refine wpS_bind (Zlh C h.kind hin1 (by omega) (by omega) (TB.refl st1 lo) fun m st2 t2 m1 m2 u2 => ?_)
   dsimp only
   subst h1
   have hRl : ∀ {st3 : SortSt}, TB st1 st3 runs.flatten.length → ((arrOf st3).toList.drop runs.flatten.length).length = (arrOf st).size - runs.flatten.length := fun {st3} t => by
    rw [List.length_drop, Array.length_toList, t.size, hs1]
   by_cases cm : m < mr
   ·rw [if_pos cm]
    refine wpS_bind (wpS_lift (wpAny_rule ⟨rfl, ?_⟩))
    refine wpS_bind (Zks C h.kind hin1 (by omega) (by omega) t2 u2 fun st3 t3 u3 => ?_)
    simp only [Bool.not_true, Bool.false_eq_true, if_false]
    have h3 := h.fresh t3
    have hl3 := hRl t3
    have n2 : min ((arrOf st).size - runs.flatten.length) mr ≤ ((arrOf st3).toList.drop runs.flatten.length).length := by omega
    have hS3 := Zlo h3.e u3 n2
    have n1 : 1 ≤ min ((arrOf st).size - runs.flatten.length) mr := by omega
    generalize (arrOf st3).toList.drop runs.flatten.length = R3 at h3 hl3 n2 hS3
    generalize min ((arrOf st).size - runs.flatten.length) mr = nn at n1 n2 hS3 ⊢
    walk_at "runEnd"
   ·rw [if_neg cm]
    have h3 := h.fresh t2
    have hl3 := hRl t2
    have n2 : m ≤ ((arrOf st2).toList.drop runs.flatten.length).length := by omega
    have hS3 := Zlo h3.e u2 n2
    have n1 := m1
    generalize (arrOf st2).toList.drop runs.flatten.length = R3 at h3 hl3 n2 hS3
    generalize m = nn at n1 n2 hS3 ⊢
    walk_at "runEnd"
 case post =>
  rintro c st1 ⟨runs, R, rfl, h, h1⟩
  dsimp only
  refine wpS_bind (wpS_mono (wpS_forRange (I := fun y c st4 => c = (none, ()) ∧ ∃ runs4, SI rk κ a₀ st4 runs4 R ∧ runs4.flatten.length = (arrOf st).size ∧ (runs4.length ≤ 1 ∨ runs4.length + y ≤ (arrOf st).size))
   (Q := fun c st4 => c = (none, ()) ∧ ∃ runs4, SI rk κ a₀ st4 runs4 R ∧ runs4.flatten.length = (arrOf st).size ∧ runs4.length ≤ 1) ?stepF ?finF ⟨rfl, runs, h, h1, .inr (by have := h.le; omega)⟩) ?postF)
  case finF =>
   rintro c st4 ⟨rfl, runs4, h4, e4, l4⟩
   exact ⟨rfl, runs4, h4, e4, by omega⟩
  case postF =>
   rintro c st4 ⟨rfl, runs4, h4, e4, l4⟩
   dsimp only
   refine wpS_pure (k st4 h4.perm ?_ h4.fail)
   have hs4 := hsz h4
   have hl := congrArg List.length h4.e
   rw [List.length_append, Array.length_toList] at hl
   have hR : R = [] := List.length_eq_zero_iff.mp (by omega)
   rw [h4.e, hR, List.append_nil]
   cases runs4 with
   | nil => exact List.Pairwise.nil
   | cons r rs =>
    have : rs = [] := by simpa using l4
    subst this
    have := (h4.ok r (by simp)).1
    simpa using this
  case stepF =>
   rintro y c st4 _ hy ⟨rfl, runs4, h4, e4, l4⟩
   have ps := h4.psize
   try dsimp only
   refine wpS_bind (wpS_get ?_)
   by_cases g0 : (pendingOf st4).size ≤ 1
   ·rw [if_pos g0]
    exact wpS_pure ⟨rfl, runs4, h4, e4, by omega⟩
   ·rw [if_neg g0]
    refine wpS_bind (Zfo C hin h4 ?_ fun st5 runs5 h5 l5 e5 => ?_)
    ·repeat' split
     all_goals omega
    ·simp only [Bool.not_true, Bool.false_eq_true, if_false]
     exact wpS_pure ⟨rfl, runs5, h5, e5.trans e4, by omega⟩
end
end TT
namespace L2
open PySem PySem.Spec PyProof.Rows
section
variable {prog : Program} {w : World} {A : Around} {E : Value → Shared → Prop} {s : Shared}
theorem collectT {t : Addr} {vs : List Value} {Q : List Value → Shared → Prop} (ht : s.heap.IsTuple t vs.toArray) (k : Q vs { s with heap := (s.heap.push (seqObj "list" #[] 0)).update s.heap.objs.size (Obj.mapSeq (· ++ vs.toArray)) }) (hz : vs.length ≤ sizeLine) : wpAny (model prog w) A (collect (.ref t)) Q E s := by
 obtain ⟨o, ho, hc, n, hd⟩ := id ht
 unfold collect; refine wpAny_bind (wpAny_runValue (codeAny_builtin entry_proto_collect' ?_)); show wpAny _ _ (do again (.builtin "list.__iadd__" ⟨[← newList [], .ref t], []⟩)) _ _ s
 refine wpAny_bind (wpAny_newList (wpAny_pure ⟨Code.quiet_builtin _ (by decide +kernel), codeAny_builtin entry_list_iadd' ?_⟩)); show wpAny _ _ (Builtin.List.listExtendWith (.ref s.heap.objs.size) (.ref t) (.ref s.heap.objs.size)) _ _ { s with heap := s.heap.push (seqObj "list" #[] 0) }
 unfold Builtin.List.listExtendWith; have ho' : (s.heap.push (seqObj "list" #[] 0)).get? t = some o := Heap.get?_push_of_some _ ho
 refine wpAny_bind (wpAny_typeOf (T := "tuple") ⟨o, ho', hc⟩ ?_); have hb : (Value.type "tuple" == Value.type "tuple") = true := by rfl
 rw [if_pos (by rw [hb]; simp)]; refine wpAny_bind (listItems_at ho' hd ?_); refine wpAny_bind (listItems_at (xs := #[]) (n := 0) (Heap.get?_push_size _ rfl) rfl ?_); rw [if_neg (by simp)]
 refine wpAny_bind (listUpdate_at (xs := #[]) (n := 0) (Heap.get?_push_size _ rfl) rfl ?_ (Nat.zero_le _) (by show (#[] ++ vs.toArray).size ≤ sizeLine + 1; simp only [Array.size_append, List.size_toArray, List.length_nil]; omega)); refine wpAny_pure ?_
 show wpAny (model prog w) A (do let o ← load s.heap.objs.size; match o.data with | .seq xs _ => pure xs.toList | _ => unsupported "internal:collect") Q E { s with heap := (s.heap.push (seqObj "list" #[] 0)).update s.heap.objs.size (Obj.mapSeq (· ++ vs.toArray)) }
 refine wpAny_bind (wpAny_load (get?_update_seq (Heap.get?_push_size _ rfl) _) ?_); show wpAny _ _ (pure ((#[] : Array Value) ++ vs.toArray).toList) Q E _; rw [show ((#[] : Array Value) ++ vs.toArray).toList = vs by simp]; exact wpAny_pure k
end
end L2
namespace TF
open PySem PySem.Spec PyProof.Rows L2
section
variable {X : Cx} {G : Gh}
end
end TF
namespace L2
open PySem PySem.Spec PyProof.Rows
noncomputable def ItL (K : PySem.W.Frag) (a : Addr) : It where
 go := fun i H => ∃ xs x, SqL K H a xs ∧ xs[i]? = some x
 yld := fun i H v H' => ∃ T x, H T = none ∧ v = .ref T ∧ H' = upd H T (.tup [.int (i : Int), x]) ∧ ∀ xs, SqL K H a xs → xs[i]? = some x
 stop := fun i H => ∃ xs, SqL K H a xs ∧ i = xs.length
noncomputable def Znl (e q a : Addr) (i : Nat) (h : Heap) : Prop := (∃ old, IsEnum h e q i old) ∧ h.IsListIter q a i
theorem ZeT {h : Heap} {a b : Addr} {o : Obj} {T : String} (ha : ∃ oa, h.get? a = some oa ∧ oa.cls = .type "list") (hb : h.get? b = some o) (hc : o.cls = .type T) (hT : T ≠ "list") : a ≠ b := fun z => by
 obtain ⟨oa, e, c⟩ := ha
 rw [z, hb] at e
 cases e
 rw [hc] at c
 exact hT (Value.type.inj c)
theorem Ziy {P : Program} {w : World} {K : PySem.W.Frag} {elts : List Expr} {k : Nat} {pos : Pos} (a e q : Addr) (heq : e ≠ q) : Turn P w K (.Tuple elts k pos) (ItL K a) [e, q] e (Znl e q a) where
 mem := by simp
 obj := fun i h st c hc => by
  obtain ⟨⟨old, he⟩, o1, e1, c1, d1⟩ := st
  simp only [List.mem_cons, List.not_mem_nil, or_false] at hc
  rcases hc with rfl | rfl
  ·exact ⟨_, he, fun v q => by cases q⟩
  ·exact ⟨_, e1, fun v q => by rw [d1] at q; cases q⟩
 keep := fun i h h' st kk => by
  obtain ⟨⟨old, he⟩, h1⟩ := st
  exact ⟨⟨old, kk e (by simp) _ he⟩, h1.at fun o x => kk q (by simp) o x⟩
 item := by
  intro X hP hw hK hc i pins s σ H E I hf st hg
  subst hP hw hK
  obtain ⟨xs, x, hq, hx⟩ := hg
  obtain ⟨its, rv, p, hz⟩ := I.list hq
  obtain ⟨u, hu, ru⟩ := rv.get hx
  obtain ⟨⟨old, he⟩, h1⟩ := id st
  obtain ⟨o1, e1, c1, d1⟩ := id h1
  have pT : s.heap.IsList a its.toArray := p.isList
  have la : ∃ oa, s.heap.get? a = some oa ∧ oa.cls = .type "list" := let ⟨o, e, c, _⟩ := pT; ⟨o, e, c⟩
  have hae : a ≠ e := ZeT la he rfl (by decide)
  have haq : a ≠ q := ZeT la e1 c1 (by decide)
  have hh := I.ok.hd hc
  have hef : e ∉ [q, a] := fun z => by
   simp only [List.mem_cons, List.not_mem_nil, or_false] at z
   rcases z with z | z
   ·exact heq z
   ·exact hae z.symm
  have W := WalksT.enumerateD (A := X.A) (Draws.list (prog := X.prog) (w := X.w) (A := X.A.in1) (show X.A.in1.handled = none from hh) q a haq its.toArray) e heq hef (by simp)
  have hl1 : i < its.length := (List.getElem?_eq_some_iff.mp hu).1
  refine W.item i s _ _ (by simp only [List.size_toArray]; exact hl1) ⟨⟨old, he⟩, h1, pT⟩ fun T vals h1' tk hp hT hI hM kk => ⟨_, rfl, ?_⟩
  obtain ⟨t, v1, g1, rfl⟩ := hp
  have e2 : v1 = u := by simpa [hu] using g1.symm
  subst e2
  have hap := W.apart i T h1' hM
  refine W.go elts k pos i T _ _ _ hM fun h2 hS kk2 => ?_
  have hI2 : h2.IsTuple T #[.int i t, v1] := hI.at fun o e => kk2 T o hap e
  have I1 : Inv X pins σ (upd H T (.tup [.int (i : Int), x])) { s with heap := h2, toks := tk } := I.turnedT (fp := [e, q]) (fun c o hc e => kk2 c o hc (kk c o hc e)) hf hT ⟨by show 2 ≤ sizeLine; decide, [.int i t, v1], .cons ⟨t, rfl⟩ (.cons ru .nil), hI2⟩
  refine ⟨.ref T, _, I1, rfl, ⟨T, x, I.hok.fresh hT, rfl, rfl, fun xs' h => by rw [I.list_inj h hq]; exact hx⟩, ⟨hS.1, hS.2.1⟩, fun c hc => ?_⟩
  rw [Zaj ?_]
  ·exact (hf c hc).1
  ·intro zc
   subst zc
   have old : ∃ o, s.heap.get? c = some o := by
    simp only [List.mem_cons, List.not_mem_nil, or_false] at hc
    rcases hc with r | r
    ·rw [r]; exact ⟨_, he⟩
    ·rw [r]; exact ⟨_, e1⟩
   obtain ⟨o, e⟩ := old
   exact absurd (Heap.lt_size e) (Nat.not_lt.mpr hT)
 done := by
  intro X hP hw hK hc i pins s σ H E I hf st hg
  subst hP hw hK
  obtain ⟨xs, hq, rfl⟩ := hg
  obtain ⟨its, rv, p, hz⟩ := I.list hq
  obtain ⟨⟨old, he⟩, h1⟩ := id st
  obtain ⟨o1, e1, c1, d1⟩ := id h1
  have pT : s.heap.IsList a its.toArray := p.isList
  have la : ∃ oa, s.heap.get? a = some oa ∧ oa.cls = .type "list" := let ⟨o, e, c, _⟩ := pT; ⟨o, e, c⟩
  have hae : a ≠ e := ZeT la he rfl (by decide)
  have haq : a ≠ q := ZeT la e1 c1 (by decide)
  have hh := I.ok.hd hc
  have hef : e ∉ [q, a] := fun z => by
   simp only [List.mem_cons, List.not_mem_nil, or_false] at z
   rcases z with z | z
   ·exact heq z
   ·exact hae z.symm
  have W := WalksT.enumerateD (A := X.A) (Draws.list (prog := X.prog) (w := X.w) (A := X.A.in1) (show X.A.in1.handled = none from hh) q a haq its.toArray) e heq hef (by simp)
  have en : its.toArray.size = xs.length := by rw [List.size_toArray]; exact rv.length.symm
  refine W.done s _ _ (by rw [en]; exact ⟨⟨old, he⟩, h1, pT⟩) fun h1 tk kk => ⟨rfl, ?_⟩
  exact I.turnedN (fp := [e, q]) kk hf
 self := fun A i s Q E st h => by
  obtain ⟨⟨old, he⟩, _⟩ := st
  exact wpAny_pyIter_enum he h
noncomputable def Zni (K : PySem.W.Frag) (ta : TA) : TI := fun σ H R => ta σ H fun vs H1 => ∃ a xs, vs = [.ref a] ∧ H1 a = some (.lst xs) ∧ R (ItL K a) H1
theorem ZkO {X : Cx} {elts : List Expr} {k : Nat} {tp : Pos} {a : Expr} {ta : TA} {p pos : Pos} (hg : Gl X "enumerate") (hm : X.mg "enumerate" = none) (ha : PA X [a] ta) (hs : starEach [a] X.env = [(false, eval a X.env)] := by rfl) :
  PI X (.Tuple elts k tp) (.Call (.Name "enumerate" p) [a] [] pos) (Zni X.K ta) := by
 intro pins s σ H R I h
 refine Call_ (ZcB I hg hm Zf7 (PyProof.Rows.callWith_type1 (thn (ha pos pins s σ H _ I h) fun us s1 ⟨vs, H1, I1, r1, q1⟩ => ?_) hs rfl))
 obtain ⟨a', xs, e, hH, q⟩ := q1
 subst e
 cases r1 with
 | cons r rr =>
  cases rr
  cases r
  obtain ⟨z, its, n, rv, hl, ho⟩ := I1.lstM hH
  refine call_enumerate_1 ho fun h' he hit hsz kk => wpAny_pyIter_enum he ?_
  have I2 : Inv X pins σ H1 { s1 with heap := h' } := I1.kept (t' := s1.toks) kk
  have hne : (s1.heap.objs.size + 1 : Addr) ≠ s1.heap.objs.size := Nat.succ_ne_self _
  refine ⟨s1.heap.objs.size + 1, [s1.heap.objs.size + 1, s1.heap.objs.size], _, _, H1, rfl, I2, Ziy a' _ _ hne, ⟨⟨_, he⟩, hit⟩, fun c hc => ?_, q⟩
  simp only [List.mem_cons, List.not_mem_nil, or_false] at hc
  have hle : s1.heap.objs.size ≤ c := by rcases hc with r | r <;> rw [r] <;> first | exact Nat.le_refl _ | exact Nat.le_add_right _ _
  exact I1.fpOk hle (I1.hok.fresh hle)
end L2
namespace TF
open PySem PySem.Spec PyProof.Rows L2
section
variable {X : Cx} {G : Gh}
theorem ItOk.enumL {K : PySem.W.Frag} {a : Addr} {vs : List V} {Hf : Hp} {ds : List D} (na : ¬ G.fp a) (h : Hf a = some (.lst vs)) (r : RepL G Hf ds vs) : ItOk G (ItL K a) Hf (Zc4 ds) := fun i Hf2 H2 s e1 e2 st => by
 have h2 : SqL K H2 a vs := SqL.of (e2 _ _ na (e1 _ _ na h))
 refine ⟨fun d q => ?_, fun q => ⟨vs, h2, by rw [q]; unfold Zc4; rw [List.length_mapIdx, r.length]⟩⟩
 unfold Zc4 at q
 rw [List.getElem?_mapIdx] at q
 cases qa : ds[i]? with
 | none => rw [qa] at q; simp at q
 | some x =>
  rw [qa] at q
  simp at q
  subst q
  obtain ⟨v, q1, q2⟩ := r.get qa
  refine ⟨⟨vs, v, h2, q1⟩, fun z H3 ⟨T, v', hT, y0, y1, y2⟩ => ?_⟩
  have ev := y2 vs h2
  rw [q1] at ev; cases ev
  subst y0 y1
  have nf := Gh.nofp st hT
  have g2 := Gr.new (o := .tup [.int (i : Int), v]) e2 hT nf
  refine ⟨upd Hf2 T (.tup [.int (i : Int), v]), g2, Gh.grow st hT, Rep.tup_iff.mpr ⟨T, _, rfl, nf, Zap, ?_⟩⟩
  exact .cons (Rep.int_iff.mpr rfl) (.one ((q2.ext e1).ext g2.ff))
noncomputable def Zij (f : Rho → M D) : Rho → M (List D) := fun ρ => Zao (f ρ) fun d => match d with | .lst ds => mret (Zc4 ds) | _ => Zaz
theorem ZjK {elts : List Expr} {k : Nat} {tp : Pos} {a : Expr} {p pos : Pos} {r1 : Bool} {f : Rho → M D} (hg : Gl X "enumerate") (hm : X.mg "enumerate" = none) (ha : PD X G r1 a f)
  (hs : starEach [a] X.env = [(false, eval a X.env)] := by rfl) : PDI X G (.Tuple elts k tp) (.Call (.Name "enumerate" p) [a] [] pos) (Zij f) := by
 obtain ⟨t, pa, qa⟩ := ha.drop
 refine ⟨_, ZkO hg hm (ZaV pa Zbs (by rw [hs]; rfl)) hs, fun σ Hf H ρ s ds s' R e1 e2 e3 e4 k => ?_⟩
 obtain ⟨d, s1, a1, a2⟩ := Zai e4
 match d, a2, a1 with
 | .lst xs, a2, a1 =>
  obtain ⟨rfl, rfl⟩ := Zal a2
  refine qa σ Hf H ρ s _ _ _ e1 e2 e3 a1 fun v Hf1 H1 g st r => ?_
  obtain ⟨p1, vs, rfl, n1, h1, rl1⟩ := Rep.lst_iff.mp r
  exact ⟨p1, vs, rfl, g.fh _ _ n1 h1, k _ Hf1 H1 g st (.enumL n1 h1 rl1)⟩
end
end TF
namespace L2
open PySem PySem.Spec PyProof.Rows
section
variable {prog : Program} {w : World} {A : Around} {E : Value → Shared → Prop} {s : Shared} {o : Obj} {es : Array DictEntry} {d it : Addr} {ep i : Nat}
end
section
variable {X : Cx} {tg : Expr}
end
end L2
namespace TF
open PySem PySem.Spec PyProof.Rows L2
section
variable {X : Cx} {G : Gh}
end
end TF
namespace TS
open PySem PySem.W PyProof.Rows
section
variable {lt : Nat → Nat → Bool} {n : Nat} {p q : Array Nat}
end
end TS
namespace TS
open PySem PySem.W PyProof.Rows
noncomputable def lexB : List Int → List Int → Bool
 | [], [] => false
 | [], _ :: _ => true
 | _ :: _, [] => false
 | a :: as, b :: bs => if a = b then lexB as bs else decide (a < b)
theorem Zfd : ∀ a, lexB a a = false
 | [] => rfl
 | a :: as => by unfold lexB; rw [if_pos rfl]; exact Zfd as
theorem ZeL : ∀ a b c, lexB a b = true → lexB b c = true → lexB a c = true
 | [], [], _, h, _ => by cases h
 | [], _ :: _, [], _, h => by cases h
 | [], _ :: _, _ :: _, _, _ => rfl
 | _ :: _, [], _, h, _ => by cases h
 | _ :: _, _ :: _, [], _, h => by cases h
 | a :: as, b :: bs, c :: cs, h1, h2 => by
  unfold lexB at h1 h2 ⊢
  split at h1
  ·rename_i e; subst e
   split at h2
   ·rename_i e; subst e; rw [if_pos rfl]; exact ZeL as bs cs h1 h2
   ·rename_i e; rw [if_neg e]; exact h2
  ·rename_i e1
   split at h2
   ·rename_i e; subst e; rw [if_neg e1]; exact h1
   ·rename_i e2
    simp at h1 h2
    rw [if_neg (by omega)]
    simp; omega
theorem ZdH : ∀ a b, a ≠ b → lexB a b = false → lexB b a = true
 | [], [], n, _ => absurd rfl n
 | [], _ :: _, _, h => by cases h
 | _ :: _, [], _, _ => rfl
 | a :: as, b :: bs, n, h => by
  unfold lexB at h ⊢
  split at h
  ·rename_i e; subst e; rw [if_pos rfl]
   exact ZdH as bs (fun z => n (by rw [z])) h
  ·rename_i e
   simp at h
   rw [if_neg (Ne.symm e)]
   simp; omega
theorem Zhj {a b : List Int} (h : lexB a b = true) : lexB b a = false := by
 cases e : lexB b a with
 | false => rfl
 | true => have := ZeL _ _ _ h e; rw [Zfd] at this; cases this
noncomputable def leT (a b : List Int) : Bool := !lexB b a
theorem Zk2 {a b : List Int} (h1 : leT a b = true) (h2 : leT b a = true) : a = b := by
 unfold leT at h1 h2
 simp at h1 h2
 by_cases e : a = b
 ·exact e
 ·rw [ZdH a b e h2] at h1; cases h1
theorem Zna (a b c : List Int) (h1 : leT a b = true) (h2 : leT b c = true) : leT a c = true := by
 unfold leT at h1 h2 ⊢
 simp at h1 h2 ⊢
 by_cases e1 : a = b
 ·subst e1; exact h2
 ·by_cases e2 : b = c
  ·subst e2; exact h1
  ·exact Zhj (ZeL _ _ _ (ZdH b a (Ne.symm e1) h1) (ZdH c b (Ne.symm e2) h2))
theorem Znb (a b : List Int) : (leT a b || leT b a) = true := by
 unfold leT
 cases e : lexB b a with
 | false => rfl
 | true => rw [Zhj e]; rfl
theorem Zfx : ∀ {a b : List (List Int)}, a.Perm b → a.Pairwise (fun x y => leT x y = true) → b.Pairwise (fun x y => leT x y = true) → a = b
 | [], b, p, _, _ => (List.nil_perm.mp p).symm
 | x :: a, [], p, _, _ => absurd p.length_eq (by simp)
 | x :: a, y :: b, p, ha, hb => by
  have ha' := List.pairwise_cons.mp ha
  have hb' := List.pairwise_cons.mp hb
  have e : x = y := by
   have h1 : x ∈ y :: b := p.mem_iff.mp (by simp)
   have h2 : y ∈ x :: a := p.mem_iff.mpr (by simp)
   rcases List.mem_cons.mp h1 with h1 | h1
   ·exact h1
   ·rcases List.mem_cons.mp h2 with h2 | h2
    ·exact h2.symm
    ·exact Zk2 (ha'.1 y h2) (hb'.1 x h1)
  subst e
  rw [Zfx (List.Perm.cons_inv p) ha'.2 hb'.2]
noncomputable def Za1 (nss : List (List Int)) : List (List Int) := nss.mergeSort leT
theorem ZiG (nss : List (List Int)) : (Za1 nss).Perm nss := List.mergeSort_perm nss _
theorem ZgW (nss : List (List Int)) : (Za1 nss).Pairwise (fun x y => leT x y = true) := List.pairwise_mergeSort Zna Znb nss
theorem Zfq {a nss : List (List Int)} (p : a.Perm nss) (h : a.Pairwise (fun x y => leT x y = true)) : a = Za1 nss := Zfx (p.trans (ZiG nss).symm) h (ZgW nss)
noncomputable def ZaO (h : Heap) (v : Value) (ns : List Int) : Prop := ∃ a xs, v = .ref a ∧ h.IsTuple a (List.toArray xs) ∧ IntsAre xs ns
section
variable {prog : Program} {w : World} {A : Around} {E : Value → Shared → Prop} {s : Shared}
theorem ZlA {fin : Bool} {Q : Bool → Shared → Prop} : ∀ {as bs : List Int} {xs ys : List Value} (i : Nat), IntsAre xs as → IntsAre ys bs → fin = decide (as.length < bs.length) → Q (lexB as bs) s → KatLex prog w A true fin Q (xs.zip ys) i s
 | [], [], _, _, i, .nil, .nil, e, h => by subst e; exact kat_nil h
 | [], _ :: _, _, _, i, .nil, .cons _ _ _, e, h => by subst e; exact kat_nil h
 | _ :: _, [], _, _, i, .cons _ _ _, .nil, e, h => by subst e; exact kat_nil h
 | a :: as, b :: bs, _, _, i, .cons _ t hx, .cons _ u hy, e, h => by
  unfold lexB at h
  refine kat_cons (wpAny_eqBool_int ?_)
  by_cases q : a = b
  ·rw [if_pos q] at h
   rw [show (a == b) = true by simp [q]]
   exact kat_yes (ZlA (i + 1) hx hy (by rw [e]; simp) h)
  ·rw [if_neg q] at h
   rw [show (a == b) = false by simp [q]]
   refine kat_no ?_
   by_cases hi : i = 0
   ·subst hi
    exact oneLt_int h
   ·rw [show (true && i == 0) = false by simp [hi]]
    exact kat_one _ _ (lt_int h)
theorem ZnJ {x y : Value} {as bs : List Int} {C : Bool → Shared → Prop} (hx : ZaO s.heap x as) (hy : ZaO s.heap y bs) (h : C (lexB as bs) s) : wpAny (model prog w) A (keyLt' (tuples' true) x y) C E s := by
 obtain ⟨a, xs, rfl, ⟨o, ho, hc, n, hd⟩, ix⟩ := hx
 obtain ⟨b, ys, rfl, ⟨o', ho', hc', n', hd'⟩, iy⟩ := hy
 refine kat_lt ho hd ho' hd' ?_
 have e : decide ((List.toArray xs).size < (List.toArray ys).size) = decide (as.length < bs.length) := by rw [List.size_toArray, List.size_toArray, ix.length, iy.length]
 exact ZlA 0 ix iy e h
theorem Zjm {h : Heap} : ∀ {vs : List Value} {nss : List (List Int)}, Paired (ZaO h) vs nss → (∀ ns ∈ nss, ns ≠ []) → ∃ fs, KatTups h vs fs ∧ fs.length = vs.length ∧ ∀ v ∈ fs, ∃ n t, v = Value.int n t
 | _, _, .nil, _ => ⟨[], .nil, rfl, fun _ z => by simp at z⟩
 | _, _, .cons (a := v) (b := ns) hv r, hne => by
  obtain ⟨fs, h1, h2, h3⟩ := Zjm r fun ns' m => hne ns' (List.mem_cons_of_mem _ m)
  obtain ⟨a, xs, rfl, ⟨o, ho, hc, n, hd⟩, ix⟩ := hv
  cases ix with
  | nil => exact absurd rfl (hne [] (by simp))
  | cons m t r' =>
   refine ⟨.int m t :: fs, .cons ho hc hd (by simp) h1, by simp [h2], fun v hv => ?_⟩
   rcases List.mem_cons.mp hv with rfl | hv
   ·exact ⟨m, t, rfl⟩
   ·exact h3 v hv
theorem Znc {vs : List Value} {nss : List (List Int)} {Q : SortKind → Shared → Prop} (h : Paired (ZaO s.heap) vs nss) (hne : ∀ ns ∈ nss, ns ≠ []) (h0 : 0 < vs.length) (q : Q (tuples' true) s) : wpAny (model prog w) A (keyKind' vs.toArray) Q E s := by
 obtain ⟨fs, h1, h2, h3⟩ := Zjm h hne
 refine kat_kind (T := .type "int") h1 (by omega) (fun v hv => ?_) rfl ?_
 ·obtain ⟨n, t, rfl⟩ := h3 v hv
  exact Looks.of_pure rfl
 ·exact q
theorem ZaO.at {h h' : Heap} {v : Value} {ns : List Int} {b : Addr} (k : ∀ c o, c ≠ b → h.get? c = some o → h'.get? c = some o) (hb : ∃ o, h.get? b = some o ∧ o.cls = .type "list") (x : ZaO h v ns) : ZaO h' v ns := by
 obtain ⟨a, xs, e, ⟨o, ho, hc, r⟩, i⟩ := x
 refine ⟨a, xs, e, ⟨o, k a o (fun z => ?_) ho, hc, r⟩, i⟩
 obtain ⟨o', h1, h2⟩ := hb
 rw [z, h1] at ho; cases ho
 rw [h2] at hc
 exact absurd (Value.type.inj hc) (by decide)
theorem Paired.get3 {α β : Type} {F : α → β → Prop} : ∀ {l : List α} {r : List β} {i : Nat} (d : α) (d' : β), Paired F l r → i < l.length → F (l.getD i d) (r.getD i d')
 | _, _, i, _, _, .nil, e => absurd e (by simp)
 | _, _, 0, _, _, .cons h t, e => h
 | _, _, i + 1, d, d', .cons h t, e => by
  have := Paired.get3 d d' t (i := i) (by simpa using e)
  simpa using this
theorem range_getD {α : Type} (vs : List α) (d : α) : ((List.range vs.length).map fun i => vs.getD i d) = vs := by
 refine List.ext_getElem (by simp) fun i h1 h2 => ?_
 simp [h2]
end
end TS
namespace TS
open PySem PySem.W PyProof.Rows
section
variable {prog : Program} {w : World} {A : Around} {E : Value → Shared → Prop} {s : Shared}
end
theorem Paired.pick {α β : Type} {F : α → β → Prop} {l : List α} {r : List β} (d : α) (d' : β) (h : Paired F l r) : ∀ (ix : List Nat), (∀ i ∈ ix, i < l.length) → Paired F (ix.map fun i => l.getD i d) (ix.map fun i => r.getD i d')
 | [], _ => .nil
 | i :: ix, hb => .cons (Paired.get3 d d' h (hb i (by simp))) (Paired.pick d d' h ix fun j m => hb j (List.mem_cons_of_mem _ m))
end TS
namespace TF
open PySem PySem.Spec PyProof.Rows L2 TS
section
variable {X : Cx} {G : Gh}
theorem Zea {pins : List (Addr × Obj)} {s : Shared} {σ : St} {H : Hp} {T : V → List Int → Prop} (I : Inv X pins σ H s) (hT : ∀ v ns, T v ns → ∃ a, v = .ref a ∧ SqT X.K H a (ns.map V.int)) : ∀ {vs : List V} {its : List Value} {nss : List (List Int)}, Vals vs its → Paired T vs nss → Paired (ZaO s.heap) its nss
 | _, _, _, .nil, .nil => .nil
 | _, _, _, .cons r rr, .cons t tt => by
  refine .cons ?_ (Zea I hT rr tt)
  obtain ⟨a, rfl, hq⟩ := hT _ _ t
  cases r
  obtain ⟨xs, rv, pl, hz⟩ := I.tuple hq
  exact ⟨a, xs, rfl, show s.heap.IsTuple a xs.toArray from pl, ZdW rv⟩
noncomputable def tupI (ns : List Int) : D := .tup (ns.map .int)
noncomputable def Zby : List D → Option (List (List Int))
 | [] => some []
 | .tup ds :: r => match ZaI ds, Zby r with | some ns, some nss => some (ns :: nss) | _, _ => none
 | _ :: _ => none
theorem Zfl : ∀ nss : List (List Int), Zby (nss.map tupI) = some nss
 | [] => rfl
 | ns :: nss => by
  show (match ZaI (ns.map D.int), Zby (nss.map tupI) with | some ns, some nss => some (ns :: nss) | _, _ => none) = _
  rw [ZiY, Zfl nss]
theorem Zd9 : ∀ {ds : List D} {nss : List (List Int)}, Zby ds = some nss → ds = nss.map tupI
 | [], nss, h => by
  have h : some [] = some nss := h
  cases h; rfl
 | d :: r, nss, h => by
  cases d with
  | tup ds =>
   have h : (match ZaI ds, Zby r with | some ns, some nss => some (ns :: nss) | _, _ => none) = some nss := h
   cases e1 : ZaI ds with
   | none => rw [e1] at h; cases h
   | some ns =>
    cases e2 : Zby r with
    | none => rw [e1, e2] at h; cases h
    | some ms =>
     rw [e1, e2] at h; cases h
     rw [List.map_cons, ← Zd9 e2]
     unfold tupI
     rw [← Zdr e1]
  | _ => cases h
theorem Zeh {Hf : Hp} : ∀ {nss : List (List Int)} {vs : List V}, RepL G Hf (nss.map tupI) vs → Paired (fun v ns => Rep G Hf (tupI ns) v) vs nss
 | [], vs, h => by
  rw [RepL.nil_iff.mp h]; exact .nil
 | ns :: nss, vs, h => by
  obtain ⟨v, r, rfl, h1, h2⟩ := RepL.cons_iff.mp h
  exact .cons h1 (Zeh h2)
theorem Zep {Hf : Hp} : ∀ {nss : List (List Int)} {vs : List V}, Paired (fun v ns => Rep G Hf (tupI ns) v) vs nss → RepL G Hf (nss.map tupI) vs
 | _, _, .nil => RepL.nil_iff.mpr rfl
 | _, _, .cons h t => .cons h (Zep t)
end
end TF
namespace TT
open PySem PyProof.Rows L2 TS
theorem Zhm : ∀ {xs : List Value} {a b : List Int}, IntsAre xs a → IntsAre xs b → a = b
 | _, _, _, .nil, .nil => rfl
 | _, _, _, .cons n t h, k => by
  cases k with
  | cons _ _ k => rw [Zhm h k]
theorem ZlK {h : Heap} {v : Value} {a b : List Int} (x : ZaO h v a) (y : ZaO h v b) : a = b := by
 obtain ⟨p, xs, rfl, ⟨o, h1, h2, n, h3⟩, i1⟩ := x
 obtain ⟨q, ys, e, ⟨o', k1, k2, m, k3⟩, i2⟩ := y
 cases e
 rw [h1] at k1; cases k1
 rw [h3] at k3
 injection k3 with e1 e2
 have : xs = ys := by simpa using congrArg Array.toList e1
 subst this
 exact Zhm i1 i2
open Classical in
noncomputable def nsOf (h : Heap) (v : Value) : List Int := if x : ∃ ns, ZaO h v ns then x.choose else []
theorem Zcq {h : Heap} {v : Value} {ns : List Int} (x : ZaO h v ns) : nsOf h v = ns := by
 have hx : ∃ ns, ZaO h v ns := ⟨ns, x⟩
 unfold nsOf
 rw [dif_pos hx]
 exact ZlK hx.choose_spec x
noncomputable def rkT (nss : List (List Int)) (h : Heap) (p : Keyed) : Int := ((nss.filter fun m => lexB m (nsOf h p.1)).length : Nat)
theorem Zh3 {nss : List (List Int)} {a b : List Int} (ha : a ∈ nss) (h : lexB a b = true) : (nss.filter fun m => lexB m a).length < (nss.filter fun m => lexB m b).length := by
 have sub : ∀ (l : List (List Int)), (l.filter fun m => lexB m a).length ≤ (l.filter fun m => lexB m b).length ∧ (a ∈ l → (l.filter fun m => lexB m a).length < (l.filter fun m => lexB m b).length) := by
  intro l
  induction l with
  | nil => exact ⟨Nat.le_refl _, fun z => by simp at z⟩
  | cons c l ih =>
   obtain ⟨i1, i2⟩ := ih
   have step : lexB c a = true → lexB c b = true := fun z => ZeL _ _ _ z h
   constructor
   ·cases q : lexB c a with
    | true => simp only [List.filter_cons, q, step q, if_true, List.length_cons]; omega
    | false =>
     simp only [List.filter_cons, q, Bool.false_eq_true, if_false]
     split
     ·simp only [List.length_cons]; omega
     ·exact i1
   ·intro z
    rcases List.mem_cons.mp z with rfl | z
    ·simp only [List.filter_cons, Zfd, Bool.false_eq_true, if_false, h, if_true, List.length_cons]; omega
    ·have := i2 z
     cases q : lexB c a with
     | true => simp only [List.filter_cons, q, step q, if_true, List.length_cons]; omega
     | false =>
      simp only [List.filter_cons, q, Bool.false_eq_true, if_false]
      split
      ·simp only [List.length_cons]; omega
      ·exact this
 exact (sub nss).2 ha
theorem Zg1 {nss : List (List Int)} {h : Heap} {x y : Keyed} {a b : List Int} (hx : ZaO h x.1 a) (hy : ZaO h y.1 b) (ha : a ∈ nss) (hb : b ∈ nss) : decide (rkT nss h x < rkT nss h y) = lexB a b := by
 unfold rkT
 rw [Zcq hx, Zcq hy]
 cases q : lexB a b with
 | true =>
  have := Zh3 ha q
  exact decide_eq_true (by omega)
 | false =>
  refine decide_eq_false ?_
  by_cases e : a = b
  ·subst e; omega
  ·have := Zh3 hb (ZdH _ _ e q)
   omega
section
variable {prog : Program} {w : World} {A : Around} {E : Value → Shared → Prop} {s : Shared}
theorem cmpT (nss : List (List Int)) : Cmp (model prog w) A E s (rkT nss s.heap) (tuples' true) (fun p => ∃ ns ∈ nss, ZaO s.heap p.1 ns) := fun x y ⟨a, ha, hx⟩ ⟨b, hb, hy⟩ st F hk q => by
 rw [lt'_eq]
 refine wpS_bind (wpS_get ?_)
 rw [hk]
 refine wpS_bind (wpS_lift (wpAny_attempt (ZnJ hx hy ⟨rfl, ?_⟩)))
 refine wpS_pure ?_
 rw [Zg1 hx hy ha hb] at q
 exact q
theorem Zco {h : Heap} : ∀ {vs : List Value} {nss : List (List Int)}, Paired (ZaO h) vs nss → vs.map (nsOf h) = nss ∧ ∀ v ∈ vs, ∃ ns ∈ nss, ZaO h v ns
 | [], [], _ => ⟨rfl, fun v hv => by simp at hv⟩
 | v :: vs, ns :: nss, h => by
  cases h with
  | cons h1 h2 =>
   obtain ⟨a1, a2⟩ := Zco h2
   refine ⟨by rw [List.map_cons, a1, Zcq h1], fun u hu => ?_⟩
   rcases List.mem_cons.mp hu with rfl | hu
   ·exact ⟨ns, by simp, h1⟩
   ·obtain ⟨m, hm, t⟩ := a2 u hu
    exact ⟨m, by simp [hm], t⟩
theorem Zeo {h : Heap} : ∀ {vs : List Value}, (∀ v ∈ vs, ∃ ns, ZaO h v ns) → Paired (ZaO h) vs (vs.map (nsOf h))
 | [], _ => .nil
 | v :: vs, hv => by
  obtain ⟨ns, t⟩ := hv v (by simp)
  refine .cons (by rw [Zcq t]; exact t) (Zeo fun u hu => hv u (by simp [hu]))
theorem Zec {h : Heap} {vs : List Value} {nss : List (List Int)} (ht : Paired (ZaO h) vs nss) {st : SortSt} (hp : (arrOf st).toList.Perm (pairsOf vs).toList) (hs : SL (rkT nss h) (arrOf st).toList) :
  Paired (ZaO h) ((arrOf st).map (·.2)).toList (Za1 nss) ∧ ((arrOf st).map (·.2)).toList.Perm vs := by
 obtain ⟨p1, p2⟩ := Zco ht
 have same : ∀ p ∈ (arrOf st).toList, p.1 = p.2 ∧ p.1 ∈ vs := fun p hp' => by
  have := hp.mem_iff.mp hp'
  rw [pairsOf_toList] at this
  obtain ⟨i, hi⟩ := List.mem_iff_getElem?.mp this
  rw [List.getElem?_zip_eq_some] at hi
  obtain ⟨e1, e2⟩ := hi
  rw [e1] at e2
  exact ⟨Option.some.inj e2, List.mem_of_getElem? e1⟩
 have em : ((arrOf st).map (·.2)).toList = (arrOf st).toList.map (·.1) := by
  rw [Array.toList_map]
  exact List.map_congr_left fun p hp' => ((same p hp').1).symm
 have pv : ((arrOf st).toList.map (·.1)).Perm vs := by
  have := hp.map (·.1)
  rw [pairsOf_toList, List.map_fst_zip (Nat.le_refl _)] at this
  exact this
 rw [em]
 refine ⟨?_, pv⟩
 have key : ((arrOf st).toList.map (·.1)).map (nsOf h) = Za1 nss := by
  refine Zfq ?_ ?_
  ·rw [← p1]; exact pv.map _
  ·rw [List.map_map]
   refine List.pairwise_map.mpr (List.Pairwise.imp_of_mem (fun {x y} hx hy hxy => ?_) hs)
   obtain ⟨a, ha, ta⟩ := p2 x.1 (same x hx).2
   obtain ⟨b, hb, tb⟩ := p2 y.1 (same y hy).2
   have := Zg1 tb ta hb ha
   show leT (nsOf h x.1) (nsOf h y.1) = true
   rw [Zcq ta, Zcq tb]
   unfold leT
   rw [← this, decide_eq_false (by omega)]; rfl
 rw [← key]
 exact Zeo fun v hv => by
  obtain ⟨ns, _, t⟩ := p2 v (pv.mem_iff.mp hv)
  exact ⟨ns, t⟩
theorem ZkJ {α : Type} {R : α → α → Prop} : ∀ {l : List α}, l.length < 2 → l.Pairwise R
 | [], _ => List.Pairwise.nil
 | [_], _ => List.pairwise_singleton _ _
 | _ :: _ :: _, h => by simp at h; omega
theorem Zhi {a : Addr} {vs : List Value} {nss : List (List Int)} {n : Nat} {P : PySem.Fin → Shared → Prop} (ho : s.heap.get? a = some (seqObj "list" vs.toArray n)) (ht : Paired (ZaO s.heap) vs nss) (hz : vs.length ≤ 100000) (hne : 2 ≤ vs.length → ∀ ns ∈ nss, ns ≠ [])
  (h : ∀ out : Array Value, Paired (ZaO s.heap) out.toList (Za1 nss) → out.toList.Perm vs → P (.done (.ret .none)) { s with heap := sortedHeap s.heap a vs out }) :
  wpAny (model prog w) A (Builtin.«list.sort» ⟨[.ref a], []⟩) P E s := by
 have hlen : vs.length = nss.length := Paired.length ht
 rw [list_sort_plain]; have ha : a < s.heap.objs.size := Heap.lt_size ho
 have hvz : vs.toArray.size ≤ sizeLine := by rw [List.size_toArray, sizeLine_eq]; omega
 refine wpAny_bind (listItems_at ho rfl ?_); refine wpAny_bind (listUpdate_at ho rfl ?_ (hsz := hvz))
 obtain ⟨e1, ho1⟩ : ∃ e1, (s.heap.update a (Obj.mapSeq fun _ => #[])).get? a = some (seqObj "list" #[] e1) := ⟨_, get?_update_seq ho (fun _ => #[])⟩
 refine wpAny_bind (seqEpoch_at ho1 rfl ?_); refine wpAny_bind (wpAny_newTuple ?_ (by simpa using hvz)); refine wpAny_bind (wpAny_newList ?_); refine wpAny_holding ?_
 have ho6 : (((s.heap.update a (Obj.mapSeq fun _ => #[])).push (seqObj "tuple" vs.toArray 0)).push (seqObj "list" #[] 0)).get? a = some (seqObj "list" #[] e1) := Heap.get?_push_of_some _ (Heap.get?_push_of_some _ ho1)
 have kk : ∀ c o, c ≠ a → s.heap.get? c = some o → (((s.heap.update a (Obj.mapSeq fun _ => #[])).push (seqObj "tuple" vs.toArray 0)).push (seqObj "list" #[] 0)).get? c = some o := fun c o hc e => Heap.get?_push_of_some _ (Heap.get?_push_of_some _ (by rw [Heap.get?_update_ne _ _ _ _ hc]; exact e))
 have ht2 : Paired (ZaO (((s.heap.update a (Obj.mapSeq fun _ => #[])).push (seqObj "tuple" vs.toArray 0)).push (seqObj "list" #[] 0))) vs nss := L2.Paired.mapP ht fun v ns x => x.at kk ⟨_, ho, rfl⟩
 have back : ∀ out : Array Value, Paired (ZaO (((s.heap.update a (Obj.mapSeq fun _ => #[])).push (seqObj "tuple" vs.toArray 0)).push (seqObj "list" #[] 0))) out.toList (Za1 nss) → out.toList.Perm vs → Paired (ZaO s.heap) out.toList (Za1 nss) := fun out hpd hpv => by
  obtain ⟨q1, q2⟩ := Zco ht
  obtain ⟨r1, r2⟩ := Zco hpd
  have z := Zeo (h := s.heap) (vs := out.toList) fun v hv => by
   obtain ⟨ns, _, t⟩ := q2 v (hpv.mem_iff.mp hv)
   exact ⟨ns, t⟩
  have e : out.toList.map (nsOf s.heap) = Za1 nss := by
   rw [← r1]
   refine List.map_congr_left fun v hv => ?_
   obtain ⟨ns, _, t⟩ := q2 v (hpv.mem_iff.mp hv)
   rw [Zcq t, Zcq (t.at kk ⟨_, ho, rfl⟩)]
  rw [e] at z
  exact z
 show wpAny (model prog w) A _ P E { s with heap := ((s.heap.update a (Obj.mapSeq fun _ => #[])).push (seqObj "tuple" vs.toArray 0)).push (seqObj "list" #[] 0) }; dsimp only
 have hsz : vs.toArray.size = vs.length := by simp
 by_cases h2 : vs.toArray.size < 2
 ·rw [if_pos h2, if_pos h2]; refine wpAny_bind (wpAny_pure ?_); rw [StateT.run_pure]
  refine wpAny_bind (wpAny_pure ?_); dsimp only
  refine wpAny_bind (seqEpoch_at ho6 rfl ?_); refine wpAny_bind (listUpdate_at ho6 rfl ?_ (hsz2 := by rw [Array.size_map]; show (pairsOf vs).size ≤ _; rw [pairsOf_size, sizeLine_eq]; omega))
  simp only [bne_self_eq_false, Bool.false_eq_true, if_false]
  have sp := Zec ht2 (st := SortSt.mk' general' (vs.toArray.zip vs.toArray) #[] 7 none) (.refl _) (by
   show ((pairsOf vs).toList).Pairwise _
   have hl : (pairsOf vs).toList.length < 2 := by rw [Array.length_toList, pairsOf_size]; omega
   exact ZkJ hl)
  exact wpAny_pure (h _ (back _ sp.1 sp.2) sp.2)
 ·rw [if_neg h2, if_neg h2]
  have h2' : 2 ≤ vs.length := by omega
  refine wpAny_bind (Znc (s := { s with heap := ((s.heap.update a (Obj.mapSeq fun _ => #[])).push (seqObj "tuple" vs.toArray 0)).push (seqObj "list" #[] 0) }) ht2 (hne h2') (by omega) ?_)
  refine wpAny_bind (wpAny_mono (ZhI (s := { s with heap := ((s.heap.update a (Obj.mapSeq fun _ => #[])).push (seqObj "tuple" vs.toArray 0)).push (seqObj "list" #[] 0) }) (a₀ := (pairsOf vs).toList) (st := SortSt.mk' (tuples' true) (vs.toArray.zip vs.toArray) #[] 7 none)
   (Q := fun _ st' => (arrOf st').toList.Perm (pairsOf vs).toList ∧ SL (rkT nss _) (arrOf st').toList ∧ failedOf st' = none) (cmpT nss) (fun x hx => ?_) (.refl _) rfl rfl rfl fun st' a1 a2 a3 => ⟨a1, a2, a3⟩) ?_ fun _ _ e => e)
  ·rw [pairsOf_toList] at hx
   exact (Zco ht2).2 x.1 (List.of_mem_zip hx).1
  ·rintro ⟨⟨⟩, st'⟩ s' ⟨rfl, hp, hs, hf⟩
   dsimp only
   have sp := Zec ht2 hp hs
   refine wpAny_bind (seqEpoch_at ho6 rfl ?_)
   refine wpAny_bind (listUpdate_at ho6 rfl ?_ (hsz2 := by
    have := sp.2.length_eq
    rw [Array.length_toList] at this
    rw [this, sizeLine_eq]; omega))
   rw [hf]
   simp only [bne_self_eq_false, Bool.false_eq_true, if_false]
   exact wpAny_pure (h _ (back _ sp.1 sp.2) sp.2)
end
end TT
namespace L2
open PySem PySem.Spec PyProof.Rows
structure ZG (z TI TO i1 i2 : Addr) (f1 f2 : List Addr) : Prop extends ZDist z TI TO i1 i2 where
 f1n : ∀ c ∈ f1, c ≠ z ∧ c ≠ TO ∧ c ≠ i2
 f2n : ∀ c ∈ f2, c ≠ z ∧ c ≠ TO ∧ c ≠ i1
section
variable {prog : Program} {w : World} {A : Around} {E : Value → Shared → Prop} {s : Shared} {z TI TO i1 i2 : Addr} {f1 f2 : List Addr} {n1 n2 k : Nat} {P1 P2 : Nat → Value → Prop} {S1 S2 : Nat → Heap → Prop} {a b : Value}
theorem Zjf {Q : Value → Shared → Prop} (D1 : Draws prog w A i1 f1 n1 P1 S1) (D2 : Draws prog w A i2 f2 n2 P2 S2) (Z : ZG z TI TO i1 i2 f1 f2) (hz : IsZip s.heap z TI TO .none) (hTI : IsPair s.heap TI (.ref i1) (.ref i2)) (hTO : IsPair s.heap TO a b) (h1 : S1 k s.heap) (h2 : S2 k s.heap) (k1 : k < n1) (k2 : k < n2)
  (hQ : ∀ h' tk x y, P1 k x → P2 k y → IsZip h' z TI TO (rawInt s.heap.objs.size) → IsPair h' TO x y → S1 (k + 1) h' → S2 (k + 1) h' → IsPair h' s.heap.objs.size x y →
   (∀ c o, c ≠ z → c ≠ TO → c ≠ i1 → c ≠ i2 → s.heap.get? c = some o → h'.get? c = some o) → Q (.ref s.heap.objs.size) { s with heap := h', toks := tk }) :
  wpAny (model prog w) A (Builtin.«zip.__next__» ⟨[.ref z], []⟩) (fun fin s' => ∃ v, fin = .done (.ret v) ∧ Q v s') E s := by
 show wpAny _ _ (field (.ref z) 2 >>= _) _ _ _; refine wpAny_bind (wpAny_field hz rfl (x := .bool false) rfl ?_); show wpAny _ _ (field (.ref z) 3 >>= _) _ _ _
 refine wpAny_bind (wpAny_field hz rfl (x := .ref TI) rfl ?_); refine wpAny_bind (wpAny_seqItems hTI rfl ?_); show wpAny _ _ (Builtin.SmallTypes.ownedTupleIsFree (.ref z) >>= _) _ _ _; refine wpAny_bind ?_
 unfold Builtin.SmallTypes.ownedTupleIsFree; refine wpAny_bind (wpAny_field hz rfl (x := .none) rfl (wpAny_pure ?_)); simp only [if_true]; refine wpAny_bind (wpAny_rule ?_)
 refine wpAny_bind (wpAny_field hz rfl (x := .ref TO) rfl ?_); refine wpAny_bind (wpAny_setField_rec hz (by simp) fun g1 q1 b1 => ?_); replace q1 : IsZip g1 z TI TO .ellipsis := q1
 refine wpAny_bind ?_; simp only [List.zipIdx_cons, List.zipIdx_nil, List.forIn_cons, List.forIn_nil]
 refine wpAny_bind (wpAny_bind (wpAny_onRaise ?_)); show wpAny _ _ (Builtin.SmallTypes.nextOf (.ref i1) >>= _) _ _ _
 have s1 : S1 k g1 := D1.frame _ _ _ h1 fun c m o e => b1.extBut _ _ (Z.f1n c m).1 e
 refine wpAny_bind (D1.item k { s with heap := g1 } _ _ k1 s1 fun x g2 t2 px s1' b2 => wpAny_pure ?_)
 have c2 : IsPair g2 TO a b := b2.extBut _ _ Z.TOi1 (b1.extBut _ _ Z.TOz hTO)
 refine wpAny_bind (wpAny_seqItems c2 rfl ?_); refine wpAny_bind (wpAny_updateSeq_pair c2 fun g3 c3 b3 => ?_); replace c3 : IsPair g3 TO x b := c3
 refine wpAny_bind (wpAny_letGo (wpAny_pure ?_)); refine wpAny_bind (wpAny_bind (wpAny_onRaise ?_)); show wpAny _ _ (Builtin.SmallTypes.nextOf (.ref i2) >>= _) _ _ _
 have s2 : S2 k g3 := D2.frame _ _ _ h2 fun c m o e => b3.extBut _ _ (Z.f2n c m).2.1 (b2.extBut _ _ (Z.f2n c m).2.2 (b1.extBut _ _ (Z.f2n c m).1 e))
 refine wpAny_bind (D2.item k { s with heap := g3, toks := t2 } _ _ k2 s2 fun y g4 t4 py s2' b4 => wpAny_pure ?_)
 have c4 : IsPair g4 TO x b := b4.extBut _ _ Z.TOi2 c3
 refine wpAny_bind (wpAny_seqItems c4 rfl ?_); refine wpAny_bind (wpAny_updateSeq_pair c4 fun g5 c5 b5 => ?_); replace c5 : IsPair g5 TO x y := c5
 refine wpAny_bind (wpAny_letGo (wpAny_pure (wpAny_pure ?_))); refine wpAny_bind (wpAny_seqItems c5 rfl ?_); refine wpAny_bind (wpAny_newTuple ?_)
 have hsz : g5.objs.size = s.heap.objs.size := by rw [b5.1, b4.1, b3.1, b2.1, b1.1]
 have q5 : IsZip g5 z TI TO .ellipsis := b5.extBut _ _ Z.TOz.symm (b4.extBut _ _ Z.i2z.symm (b3.extBut _ _ Z.TOz.symm (b2.extBut _ _ Z.i1z.symm q1)))
 have keep5 : ∀ c o, c ≠ z → c ≠ TO → c ≠ i1 → c ≠ i2 → s.heap.get? c = some o → g5.get? c = some o := fun c o u1 u2 u3 u4 e => b5.extBut _ _ u2 (b4.extBut _ _ u4 (b3.extBut _ _ u2 (b2.extBut _ _ u3 (b1.extBut _ _ u1 e))))
 have s15 : S1 (k + 1) g5 := D1.frame _ _ _ s1' fun c m o e => b5.extBut _ _ (Z.f1n c m).2.1 (b4.extBut _ _ (Z.f1n c m).2.2 (b3.extBut _ _ (Z.f1n c m).2.1 e))
 have s25 : S2 (k + 1) g5 := D2.frame _ _ _ s2' fun c m o e => b5.extBut _ _ (Z.f2n c m).2.1 e
 have zlt : z < g5.objs.size := Heap.lt_size q5
 show wpAny _ _ (Builtin.SmallTypes.ownedTupleHandOut (.ref z) (.ref g5.objs.size) >>= _) _ _ _; refine wpAny_bind ?_; unfold Builtin.SmallTypes.ownedTupleHandOut
 have q6 : IsZip (g5.push { cls := .type "tuple", data := .seq #[x, y] }) z TI TO .ellipsis := Heap.get?_push_of_some _ q5
 refine wpAny_bind (wpAny_setField_rec q6 (by simp) fun g7 q7 b7 => ?_); replace q7 : IsZip g7 z TI TO (rawInt g5.objs.size) := q7
 refine wpAny_setField_rec q7 (by simp) fun g8 q8 b8 => ?_; replace q8 : IsZip g8 z TI TO (rawInt g5.objs.size) := q8
 have up : ∀ c o, c ≠ z → g5.get? c = some o → g8.get? c = some o := fun c o u e => b8.extBut _ _ u (b7.extBut _ _ u (Heap.get?_push_of_some _ e))
 have hT : IsPair g8 g5.objs.size x y := b8.extBut _ _ (Nat.ne_of_gt zlt) (b7.extBut _ _ (Nat.ne_of_gt zlt) (Heap.get?_push_size _ rfl))
 rw [hsz] at q8 hT
 refine wpAny_pure ⟨_, rfl, ?_⟩; show Q (.ref g5.objs.size) _; rw [hsz]
 exact hQ g8 t4 x y px py q8 (up _ _ Z.TOz c5) (D1.frame _ _ _ s15 fun c m o e => up c o (Z.f1n c m).1 e) (D2.frame _ _ _ s25 fun c m o e => up c o (Z.f2n c m).1 e) hT fun c o u1 u2 u3 u4 e => up c o u1 (keep5 c o u1 u2 u3 u4 e)
theorem ZkA {Q : PySem.Fin → Shared → Prop} (D1 : Draws prog w A i1 f1 n1 P1 S1) (D2 : Draws prog w A i2 f2 n2 P2 S2) (Z : ZG z TI TO i1 i2 f1 f2) (hz : IsZip s.heap z TI TO .none) (hTI : IsPair s.heap TI (.ref i1) (.ref i2)) (hTO : IsPair s.heap TO a b) (h1 : S1 k s.heap) (h2 : S2 k s.heap) (hk : k = n1 ∨ (k < n1 ∧ k = n2))
  (hE : ∀ h' tk e, (∀ c o, c ≠ z → c ≠ TO → c ≠ i1 → c ≠ i2 → s.heap.get? c = some o → h'.get? c = some o) → (∃ o, h'.get? e = some o ∧ o.cls = .type "StopIteration") → E (.ref e) { s with heap := h', toks := tk }) :
  wpAny (model prog w) A (Builtin.«zip.__next__» ⟨[.ref z], []⟩) Q E s := by
 show wpAny _ _ (field (.ref z) 2 >>= _) _ _ _; refine wpAny_bind (wpAny_field hz rfl (x := .bool false) rfl ?_); show wpAny _ _ (field (.ref z) 3 >>= _) _ _ _
 refine wpAny_bind (wpAny_field hz rfl (x := .ref TI) rfl ?_); refine wpAny_bind (wpAny_seqItems hTI rfl ?_); show wpAny _ _ (Builtin.SmallTypes.ownedTupleIsFree (.ref z) >>= _) _ _ _; refine wpAny_bind ?_
 unfold Builtin.SmallTypes.ownedTupleIsFree; refine wpAny_bind (wpAny_field hz rfl (x := .none) rfl (wpAny_pure ?_)); simp only [if_true]; refine wpAny_bind (wpAny_rule ?_)
 refine wpAny_bind (wpAny_field hz rfl (x := .ref TO) rfl ?_); refine wpAny_bind (wpAny_setField_rec hz (by simp) fun g1 q1 b1 => ?_); replace q1 : IsZip g1 z TI TO .ellipsis := q1
 refine wpAny_bind ?_; simp only [List.zipIdx_cons, List.zipIdx_nil, List.forIn_cons, List.forIn_nil]
 refine wpAny_bind (wpAny_bind (wpAny_onRaise ?_)); show wpAny _ _ (Builtin.SmallTypes.nextOf (.ref i1) >>= _) _ _ _
 have s1 : S1 k g1 := D1.frame _ _ _ h1 fun c m o e => b1.extBut _ _ (Z.f1n c m).1 e
 rcases hk with hk | ⟨hk1, hk⟩
 ·subst hk
  refine wpAny_bind (D1.done { s with heap := g1 } _ _ s1 fun g2 e b2 he => ?_)
  obtain ⟨oe, hoe, hce⟩ := he
  have q2 : IsZip g2 z TI TO .ellipsis := b2 _ _ Z.i1z.symm q1
  have hez : e ≠ z := fun x => by rw [x, q2] at hoe; cases hoe; exact absurd (Value.type.inj hce) (by decide)
  exact wpAny_setField_rec q2 (by simp) fun g3 _ b3 => hE g3 s.toks e (fun c o u1 _ u3 _ x => b3.extBut _ _ u1 (b2 _ _ u3 (b1.extBut _ _ u1 x))) ⟨oe, b3.extBut _ _ hez hoe, hce⟩
 ·subst hk
  refine wpAny_bind (D1.item k { s with heap := g1 } _ _ hk1 s1 fun x g2 t2 px s1' b2 => wpAny_pure ?_)
  have c2 : IsPair g2 TO a b := b2.extBut _ _ Z.TOi1 (b1.extBut _ _ Z.TOz hTO)
  refine wpAny_bind (wpAny_seqItems c2 rfl ?_); refine wpAny_bind (wpAny_updateSeq_pair c2 fun g3 c3 b3 => ?_); refine wpAny_bind (wpAny_letGo (wpAny_pure ?_)); refine wpAny_bind (wpAny_bind (wpAny_onRaise ?_))
  show wpAny _ _ (Builtin.SmallTypes.nextOf (.ref i2) >>= _) _ _ _
  have s2 : S2 k g3 := D2.frame _ _ _ h2 fun c m o e => b3.extBut _ _ (Z.f2n c m).2.1 (b2.extBut _ _ (Z.f2n c m).2.2 (b1.extBut _ _ (Z.f2n c m).1 e))
  refine wpAny_bind (D2.done { s with heap := g3, toks := t2 } _ _ s2 fun g4 e b4 he => ?_)
  obtain ⟨oe, hoe, hce⟩ := he
  have q4 : IsZip g4 z TI TO .ellipsis := b4 _ _ Z.i2z.symm (b3.extBut _ _ Z.TOz.symm (b2.extBut _ _ Z.i1z.symm q1))
  have hez : e ≠ z := fun x => by rw [x, q4] at hoe; cases hoe; exact absurd (Value.type.inj hce) (by decide)
  exact wpAny_setField_rec q4 (by simp) fun g5 _ b5 => hE g5 t2 e (fun c o u1 u2 u3 u4 x => b5.extBut _ _ u1 (b4 _ _ u4 (b3.extBut _ _ u2 (b2.extBut _ _ u3 (b1.extBut _ _ u1 x))))) ⟨oe, b5.extBut _ _ hez hoe, hce⟩
theorem ZiP {Q : Option Value → Shared → Prop} (D1 : Draws prog w A.in1 i1 f1 n1 P1 S1) (D2 : Draws prog w A.in1 i2 f2 n2 P2 S2) (Z : ZG z TI TO i1 i2 f1 f2) (hz : IsZip s.heap z TI TO .none) (hTI : IsPair s.heap TI (.ref i1) (.ref i2)) (hTO : IsPair s.heap TO a b) (h1 : S1 k s.heap) (h2 : S2 k s.heap) (k1 : k < n1) (k2 : k < n2)
  (hQ : ∀ h' tk x y, P1 k x → P2 k y → IsZip h' z TI TO (rawInt s.heap.objs.size) → IsPair h' TO x y → S1 (k + 1) h' → S2 (k + 1) h' → IsPair h' s.heap.objs.size x y →
   (∀ c o, c ≠ z → c ≠ TO → c ≠ i1 → c ≠ i2 → s.heap.get? c = some o → h'.get? c = some o) → Q (some (.ref s.heap.objs.size)) { s with heap := h', toks := tk }) : wpAny (model prog w) A (pyNext (.ref z)) Q E s := by
 have hT : s.TypeIs (.ref z) "zip" := ⟨_, hz, rfl⟩
 unfold pyNext; exact wpAny_bind (wpAny_attempt (wpAny_callSpecial?_slot (name := Str.ofString "__next__") hT F.slot_zip_next (wpAny_call_entry F.slot_zip_next hT F.entry_zip_next (Zjf D1 D2 Z hz hTI hTO h1 h2 k1 k2 fun h' tk x y a0 a1 a2 a3 a4 a5 a6 a7 => wpAny_pure (hQ h' tk x y a0 a1 a2 a3 a4 a5 a6 a7)) (F.args_zip_next_1 _))))
theorem ZjT {Q : Option Value → Shared → Prop} (D1 : Draws prog w A.in1 i1 f1 n1 P1 S1) (D2 : Draws prog w A.in1 i2 f2 n2 P2 S2) (Z : ZG z TI TO i1 i2 f1 f2) (hz : IsZip s.heap z TI TO .none) (hTI : IsPair s.heap TI (.ref i1) (.ref i2)) (hTO : IsPair s.heap TO a b) (h1 : S1 k s.heap) (h2 : S2 k s.heap) (hk : k = n1 ∨ (k < n1 ∧ k = n2))
  (hQ : ∀ h' tk, (∀ c o, c ≠ z → c ≠ TO → c ≠ i1 → c ≠ i2 → s.heap.get? c = some o → h'.get? c = some o) → Q none { s with heap := h', toks := tk }) : wpAny (model prog w) A (pyNext (.ref z)) Q E s := by
 have hT : s.TypeIs (.ref z) "zip" := ⟨_, hz, rfl⟩
 unfold pyNext; refine wpAny_bind (wpAny_attempt (wpAny_callSpecial?_slot (name := Str.ofString "__next__") hT F.slot_zip_next (wpAny_call_entry F.slot_zip_next hT F.entry_zip_next (ZkA D1 D2 Z hz hTI hTO h1 h2 hk fun h' tk e kk he => ?_) (F.args_zip_next_1 _))))
 obtain ⟨o, ho, hc⟩ := he
 refine wpAny_bind (wpAny_isInstance (T := "StopIteration") (b := true) ⟨o, ho, hc⟩ isSubtype_stop ?_); exact wpAny_pure (hQ _ _ kk)
end
noncomputable def tit (l : Addr) : Obj := { cls := .type "tuple_iterator", data := .fields #[.ref l, .int 0 0] }
noncomputable def Zcp (x y : Value) : Obj := { cls := .type "tuple", data := .seq #[x, y] }
noncomputable def zipO (a b : Addr) : Obj := { cls := .type "zip", data := .fields #[.none, .bool false, .bool false, .ref a, .ref b] }
noncomputable def Zdl (h : Heap) (l1 l2 : Addr) : Heap := ((((h.push (tit l1)).push (tit l2)).push (Zcp (.ref h.objs.size) (.ref (h.push (tit l1)).objs.size))).push (Zcp .none .none)).push (zipO ((h.push (tit l1)).push (tit l2)).objs.size (((h.push (tit l1)).push (tit l2)).push (Zcp (.ref h.objs.size) (.ref (h.push (tit l1)).objs.size))).objs.size)
theorem ZnF (l1 l2 : Addr) (xs ys : Array Value) :
  Meets (Builtin.«zip.__new__» ⟨[.type "zip", .ref l1, .ref l2], []⟩) (fun _ R s => s.heap.IsTuple l1 xs ∧ s.heap.IsTuple l2 ys ∧
   R (.ok (.ret (.ref ((((s.heap.push (tit l1)).push (tit l2)).push (Zcp (.ref s.heap.objs.size) (.ref (s.heap.push (tit l1)).objs.size))).push (Zcp .none .none)).objs.size))) { s with heap := Zdl s.heap l1 l2 }) :=
 .of_wp fun prog w A R s h => by
  obtain ⟨hp, g, d, tk, os⟩ := s; obtain ⟨hl1, hl2, h⟩ := h; have hsub := sub_zip
  have hT1 : Heap.IsTuple (Shared.heap ⟨hp, g, d, tk, os⟩) l1 xs := hl1
  have hT2 : Heap.IsTuple (Shared.heap ⟨hp.push { cls := .type "tuple_iterator", data := .fields #[.ref l1, .int 0 0] }, g, d, tk, os⟩) l2 ys := hl2.at fun o e => Heap.get?_push_of_some _ e
  wp_walk using wpAny_pyIter_tuple hT1, wpAny_pyIter_tuple hT2
  exact ⟨_, rfl, h⟩
section
variable {prog : Program} {w : World} {A : Around} {E : Value → Shared → Prop} {s : Shared}
theorem Zkm {l1 l2 : Addr} {xs ys : Array Value} {Q : Value → Shared → Prop} (hl1 : s.heap.IsTuple l1 xs) (hl2 : s.heap.IsTuple l2 ys)
  (h : ∀ h', IsZip h' (s.heap.objs.size + 4) (s.heap.objs.size + 2) (s.heap.objs.size + 3) .none → IsPair h' (s.heap.objs.size + 2) (.ref s.heap.objs.size) (.ref (s.heap.objs.size + 1)) → IsPair h' (s.heap.objs.size + 3) .none .none →
   h'.IsTupleIter s.heap.objs.size l1 0 → h'.IsTupleIter (s.heap.objs.size + 1) l2 0 → (∀ c o, s.heap.get? c = some o → h'.get? c = some o) → Q (.ref (s.heap.objs.size + 4)) { s with heap := h' }) : wpAny (model prog w) A (call (.type "zip") [.ref l1, .ref l2]) Q E s := by
 refine callType_new F.called_zip (by decide) (F.typeCall_zip_2 _ _) (F.newCall_zip_2 _ _) (fun obj => F.args_object_init_3 obj _ _) F.entry_zip_new (ZnF l1 l2 xs ys) ⟨hl1, hl2, ?_⟩
 have z1 : (s.heap.push (tit l1)).objs.size = s.heap.objs.size + 1 := Heap.size_push ..
 have z2 : ((s.heap.push (tit l1)).push (tit l2)).objs.size = s.heap.objs.size + 2 := by rw [Heap.size_push, z1]
 have z3 : (((s.heap.push (tit l1)).push (tit l2)).push (Zcp (.ref s.heap.objs.size) (.ref (s.heap.push (tit l1)).objs.size))).objs.size = s.heap.objs.size + 3 := by rw [Heap.size_push, z2]
 have z4 : ((((s.heap.push (tit l1)).push (tit l2)).push (Zcp (.ref s.heap.objs.size) (.ref (s.heap.push (tit l1)).objs.size))).push (Zcp .none .none)).objs.size = s.heap.objs.size + 4 := by rw [Heap.size_push, z3]
 have g5 : (Zdl s.heap l1 l2).get? (s.heap.objs.size + 4) = some (zipO (s.heap.objs.size + 2) (s.heap.objs.size + 3)) := by
  unfold Zdl
  have e := Heap.get?_push_size ((((s.heap.push (tit l1)).push (tit l2)).push (Zcp (.ref s.heap.objs.size) (.ref (s.heap.push (tit l1)).objs.size))).push (Zcp .none .none)) (o := zipO (s.heap.objs.size + 2) (s.heap.objs.size + 3)) rfl
  rw [z4] at e
  rw [z3, z2]; exact e
 have g4 : (Zdl s.heap l1 l2).get? (s.heap.objs.size + 3) = some (Zcp .none .none) := by
  rw [← z3]; exact Heap.get?_push_of_some _ (Heap.get?_push_size _ rfl)
 have g3 : (Zdl s.heap l1 l2).get? (s.heap.objs.size + 2) = some (Zcp (.ref s.heap.objs.size) (.ref (s.heap.objs.size + 1))) := by
  have e := Heap.get?_push_size ((s.heap.push (tit l1)).push (tit l2)) (o := Zcp (.ref s.heap.objs.size) (.ref (s.heap.push (tit l1)).objs.size)) rfl
  rw [z2] at e
  unfold Zdl
  rw [Heap.get?_push_of_some _ (Heap.get?_push_of_some _ e), z1]
 have g2 : (Zdl s.heap l1 l2).get? (s.heap.objs.size + 1) = some (tit l2) := by
  rw [← z1]; exact Heap.get?_push_of_some _ (Heap.get?_push_of_some _ (Heap.get?_push_of_some _ (Heap.get?_push_size _ rfl)))
 have g1 : (Zdl s.heap l1 l2).get? s.heap.objs.size = some (tit l1) := Heap.get?_push_of_some _ (Heap.get?_push_of_some _ (Heap.get?_push_of_some _ (Heap.get?_push_of_some _ (Heap.get?_push_size _ rfl))))
 show _ ∧ _
 rw [z4]
 exact ⟨⟨_, g5, rfl⟩, h _ g5 g3 g4 ⟨_, g1, rfl, rfl⟩ ⟨_, g2, rfl, rfl⟩ fun c o x => Heap.get?_push_of_some _ (Heap.get?_push_of_some _ (Heap.get?_push_of_some _ (Heap.get?_push_of_some _ (Heap.get?_push_of_some _ x))))⟩
end
end L2
namespace L2
open PySem PySem.Spec PyProof.Rows
noncomputable def Itzt (a b : Addr) : It where
 go := fun i H => ∃ xs ys x y, H a = some (.tup xs) ∧ H b = some (.tup ys) ∧ xs[i]? = some x ∧ ys[i]? = some y
 yld := fun i H v H' => ∃ T x y, H T = none ∧ v = .ref T ∧ H' = upd H T (.tup [x, y]) ∧ (∀ xs, H a = some (.tup xs) → xs[i]? = some x) ∧ (∀ ys, H b = some (.tup ys) → ys[i]? = some y)
 stop := fun i H => ∃ xs ys, H a = some (.tup xs) ∧ H b = some (.tup ys) ∧ i = min xs.length ys.length
noncomputable def Zno (z TI TO i1 i2 a b : Addr) (i : Nat) (h : Heap) : Prop := IsZip h z TI TO .none ∧ IsPair h TI (.ref i1) (.ref i2) ∧ (∃ x y, IsPair h TO x y) ∧ h.IsTupleIter i1 a i ∧ h.IsTupleIter i2 b i
theorem Zlm {z TI TO i1 i2 a b : Addr} {H : Hp} {xs ys : List V} (D : ZDist z TI TO i1 i2) (hf : ∀ c ∈ [z, TI, TO, i1, i2], H c = none) (ha : H a = some (.tup xs)) (hb : H b = some (.tup ys)) : ZG z TI TO i1 i2 [i1, a] [i2, b] where
 toZDist := D
 f1n := fun c m => by
  simp only [List.mem_cons, List.not_mem_nil, or_false] at m
  rcases m with r | r
  ·rw [r]; exact ⟨D.i1z, D.TOi1.symm, D.i12⟩
  ·rw [r]; exact ⟨Zam ha (hf _ (by simp)), Zam ha (hf _ (by simp)), Zam ha (hf _ (by simp))⟩
 f2n := fun c m => by
  simp only [List.mem_cons, List.not_mem_nil, or_false] at m
  rcases m with r | r
  ·rw [r]; exact ⟨D.i2z, D.TOi2.symm, D.i12.symm⟩
  ·rw [r]; exact ⟨Zam hb (hf _ (by simp)), Zam hb (hf _ (by simp)), Zam hb (hf _ (by simp))⟩
theorem Zjk {P : Program} {w : World} {K : PySem.W.Frag} {elts : List Expr} {k : Nat} {pos : Pos} (a b z TI TO i1 i2 : Addr) (D : ZDist z TI TO i1 i2) : Turn P w K (.Tuple elts k pos) (Itzt a b) [z, TI, TO, i1, i2] z (Zno z TI TO i1 i2 a b) where
 mem := by simp
 obj := fun i h st c hc => by
  obtain ⟨hz, hTI, ⟨x, y, hTO⟩, ⟨o1, e1, c1, d1⟩, ⟨o2, e2, c2, d2⟩⟩ := st
  simp only [List.mem_cons, List.not_mem_nil, or_false] at hc
  rcases hc with rfl | rfl | rfl | rfl | rfl
  ·exact ⟨_, hz, fun v q => by cases q⟩
  ·exact ⟨_, hTI, fun v q => by cases q⟩
  ·exact ⟨_, hTO, fun v q => by cases q⟩
  ·exact ⟨_, e1, fun v q => by rw [d1] at q; cases q⟩
  ·exact ⟨_, e2, fun v q => by rw [d2] at q; cases q⟩
 keep := fun i h h' st kk => by
  obtain ⟨hz, hTI, ⟨x, y, hTO⟩, h1, h2⟩ := st
  exact ⟨kk z (by simp) _ hz, kk TI (by simp) _ hTI, ⟨x, y, kk TO (by simp) _ hTO⟩, h1.at fun o e => kk i1 (by simp) o e, h2.at fun o e => kk i2 (by simp) o e⟩
 item := by
  intro X hP hw hK hc i pins s σ H E I hf st hg
  subst hP hw hK
  obtain ⟨xs, ys, x, y, hq, hq2, hx, hy⟩ := hg
  obtain ⟨its, rv, p, hz⟩ := I.tuple (SqT.of hq)
  obtain ⟨its2, rv2, p2, hz2⟩ := I.tuple (SqT.of hq2)
  obtain ⟨u, hu, ru⟩ := rv.get hx
  obtain ⟨u2, hu2, ru2⟩ := rv2.get hy
  have hn : ∀ c ∈ [z, TI, TO, i1, i2], H c = none := fun c m => (hf c m).1
  have Z := Zlm D hn hq hq2
  have hh := I.ok.hd hc
  obtain ⟨t1, t2, ⟨p1, q1, t3⟩, t4, t5⟩ := id st
  have hl1 : i < its.length := (List.getElem?_eq_some_iff.mp hu).1
  have hl2 : i < its2.length := (List.getElem?_eq_some_iff.mp hu2).1
  have D1 := ZfH (prog := X.prog) (w := X.w) (A := X.A.in1) (show X.A.in1.handled = none from hh) i1 a (Zam hq (hn i1 (by simp))) its.toArray
  have D2 := ZfH (prog := X.prog) (w := X.w) (A := X.A.in1) (show X.A.in1.handled = none from hh) i2 b (Zam hq2 (hn i2 (by simp))) its2.toArray
  refine ZiP D1 D2 Z t1 t2 t3 ⟨t4, show s.heap.IsTuple a its.toArray from p⟩ ⟨t5, show s.heap.IsTuple b its2.toArray from p2⟩ (by simpa using hl1) (by simpa using hl2) fun h' tk v1 v2 g1 g2 a1 a2 a3 a4 a5 kk => ⟨_, rfl, ?_⟩
  have e1 : v1 = u := by simpa [hu] using g1.symm
  have e2 : v2 = u2 := by simpa [hu2] using g2.symm
  subst e1 e2
  have hT : s.heap.objs.size ≤ s.heap.objs.size := Nat.le_refl _
  refine wpAny_letOwnedTupleGo_zip a1 fun h2 hz' hs' => ?_
  have ltz : z < s.heap.objs.size := Heap.lt_size t1
  have hI2 : h2.IsTuple s.heap.objs.size #[v1, v2] := ⟨_, hs'.extBut _ _ (Nat.ne_of_gt ltz) a5, rfl, _, rfl⟩
  have kp : ∀ c o, c ∉ [z, TI, TO, i1, i2] → s.heap.get? c = some o → h2.get? c = some o := fun c o hm e => by
   simp only [List.mem_cons, List.not_mem_nil, or_false, not_or] at hm
   exact hs'.extBut _ _ hm.1 (kk c o hm.1 hm.2.2.1 hm.2.2.2.1 hm.2.2.2.2 e)
  have I1 : Inv X pins σ (upd H s.heap.objs.size (.tup [x, y])) { s with heap := h2, toks := tk } := I.turnedT (fp := [z, TI, TO, i1, i2]) kp hf hT ⟨by show 2 ≤ sizeLine; decide, [v1, v2], .cons ru (.cons ru2 .nil), hI2⟩
  have up : ∀ c o, c ≠ z → h'.get? c = some o → h2.get? c = some o := fun c o n e => hs'.extBut _ _ n e
  refine ⟨.ref s.heap.objs.size, _, I1, rfl, ⟨s.heap.objs.size, x, y, I.hok.fresh hT, rfl, rfl, fun xs' h => by rw [hq] at h; cases h; exact hx, fun ys' h => by rw [hq2] at h; cases h; exact hy⟩, ⟨hz', up _ _ D.TIz (kk _ _ D.TIz D.TITO D.TIi1 D.TIi2 t2), ⟨_, _, up _ _ D.TOz a2⟩, a3.1.at fun o e => up _ o D.i1z e, a4.1.at fun o e => up _ o D.i2z e⟩, fun c hc => ?_⟩
  rw [Zaj ?_]
  ·exact hn c hc
  ·intro zc
   subst zc
   have old : ∃ o, s.heap.get? s.heap.objs.size = some o := by
    obtain ⟨o1, e1, _⟩ := t4
    obtain ⟨o2, e2, _⟩ := t5
    generalize s.heap.objs.size = c at hc
    simp only [List.mem_cons, List.not_mem_nil, or_false] at hc
    rcases hc with r | r | r | r | r
    ·rw [r]; exact ⟨_, t1⟩
    ·rw [r]; exact ⟨_, t2⟩
    ·rw [r]; exact ⟨_, t3⟩
    ·rw [r]; exact ⟨_, e1⟩
    ·rw [r]; exact ⟨_, e2⟩
   obtain ⟨o, e⟩ := old
   exact absurd (Heap.lt_size e) (Nat.lt_irrefl _)
 done := by
  intro X hP hw hK hc i pins s σ H E I hf st hg
  subst hP hw hK
  obtain ⟨xs, ys, hq, hq2, hi⟩ := hg
  obtain ⟨its, rv, p, hz⟩ := I.tuple (SqT.of hq)
  obtain ⟨its2, rv2, p2, hz2⟩ := I.tuple (SqT.of hq2)
  have hn : ∀ c ∈ [z, TI, TO, i1, i2], H c = none := fun c m => (hf c m).1
  have Z := Zlm D hn hq hq2
  have hh := I.ok.hd hc
  obtain ⟨t1, t2, ⟨p1, q1, t3⟩, t4, t5⟩ := id st
  have D1 := ZfH (prog := X.prog) (w := X.w) (A := X.A.in1) (show X.A.in1.handled = none from hh) i1 a (Zam hq (hn i1 (by simp))) its.toArray
  have D2 := ZfH (prog := X.prog) (w := X.w) (A := X.A.in1) (show X.A.in1.handled = none from hh) i2 b (Zam hq2 (hn i2 (by simp))) its2.toArray
  have l1 := rv.length
  have l2 := rv2.length
  refine ZjT D1 D2 Z t1 t2 t3 ⟨t4, show s.heap.IsTuple a its.toArray from p⟩ ⟨t5, show s.heap.IsTuple b its2.toArray from p2⟩ (by rw [List.size_toArray, List.size_toArray]; omega) fun h' tk kk => ⟨rfl, I.turnedN (fp := [z, TI, TO, i1, i2]) (fun c o hm e => ?_) hf⟩
  simp only [List.mem_cons, List.not_mem_nil, or_false, not_or] at hm
  exact kk c o hm.1 hm.2.2.1 hm.2.2.2.1 hm.2.2.2.2 e
 self := fun A i s Q E st h => wpAny_pyIter_zip st.1 h
noncomputable def ZnG (ta : TA) : TI := fun σ H R => ta σ H fun vs H1 => ∃ a b, vs = [.ref a, .ref b] ∧ (∃ xs, H1 a = some (.tup xs)) ∧ (∃ ys, H1 b = some (.tup ys)) ∧ R (Itzt a b) H1
theorem ZlX {X : Cx} {elts : List Expr} {k : Nat} {tp : Pos} {a b : Expr} {ta : TA} {p pos : Pos} (hg : Gl X "zip") (hm : X.mg "zip" = none) (ha : PA X [a, b] ta) (hs : starEach [a, b] X.env = [(false, eval a X.env), (false, eval b X.env)] := by rfl) (hs2 : starEach [b] X.env = [(false, eval b X.env)] := by rfl) :
  PI X (.Tuple elts k tp) (.Call (.Name "zip" p) [a, b] [] pos) (ZnG ta) := by
 intro pins s σ H R I h
 refine Call_ (ZcB I hg hm ZhC (PyProof.Rows.callWith_type1 (thn (ha pos pins s σ H _ I h) fun us s1 ⟨vs, H1, I1, r1, q1⟩ => ?_) (by rw [hs, hs2]) (by rw [hs2]; rfl)))
 obtain ⟨a', b', e, ⟨xs, hq⟩, ⟨ys, hq2⟩, q⟩ := q1
 subst e
 cases r1 with
 | cons r rr =>
  cases rr with
  | cons r' rr =>
   cases rr
   cases r
   cases r'
   obtain ⟨its, rv, p1, hz⟩ := I1.tuple (SqT.of hq)
   obtain ⟨its2, rv2, p2, hz2⟩ := I1.tuple (SqT.of hq2)
   refine Zkm (show s1.heap.IsTuple a' its.toArray from p1) (show s1.heap.IsTuple b' its2.toArray from p2) fun h' g1 g2 g3 g4 g5 g7 => ?_
   refine wpAny_pyIter_zip g1 ?_
   have I2 : Inv X pins σ H1 { s1 with heap := h' } := I1.kept (t' := s1.toks) g7
   refine ⟨s1.heap.objs.size + 4, [s1.heap.objs.size + 4, s1.heap.objs.size + 2, s1.heap.objs.size + 3, s1.heap.objs.size, s1.heap.objs.size + 1], _, _, H1, rfl, I2, Zjk a' b' (s1.heap.objs.size + 4) (s1.heap.objs.size + 2) (s1.heap.objs.size + 3) s1.heap.objs.size (s1.heap.objs.size + 1) (Zln _), ⟨g1, g2, ⟨_, _, g3⟩, g4, g5⟩, fun c hc => ?_, q⟩
   simp only [List.mem_cons, List.not_mem_nil, or_false] at hc
   have hle : s1.heap.objs.size ≤ c := by rcases hc with r | r | r | r | r <;> rw [r] <;> first | exact Nat.le_refl _ | exact Nat.le_add_right _ _
   exact I1.fpOk hle (I1.hok.fresh hle)
end L2
namespace TF
open PySem PySem.Spec PyProof.Rows L2
section
variable {X : Cx} {G : Gh}
theorem ItOk.zipT {a b : Addr} {vs us : List V} {Hf : Hp} {ds es : List D} (na : ¬ G.fp a) (h : Hf a = some (.tup vs)) (r : RepL G Hf ds vs) (nb : ¬ G.fp b) (h' : Hf b = some (.tup us)) (r' : RepL G Hf es us) : ItOk G (Itzt a b) Hf (zipD ds es) := fun i Hf2 H2 s e1 e2 st => by
 have h2 : H2 a = some (.tup vs) := e2 _ _ na (e1 _ _ na h)
 have h3 : H2 b = some (.tup us) := e2 _ _ nb (e1 _ _ nb h')
 refine ⟨fun d q => ?_, fun q => ⟨vs, us, h2, h3, by rw [q]; unfold zipD; rw [List.length_zipWith, r.length, r'.length]⟩⟩
 unfold zipD at q
 rw [List.getElem?_zipWith] at q
 cases qa : ds[i]? with
 | none => rw [qa] at q; simp at q
 | some x =>
  cases qb : es[i]? with
  | none => rw [qa, qb] at q; simp at q
  | some y =>
   rw [qa, qb] at q
   simp at q
   subst q
   obtain ⟨v, q1, q2⟩ := r.get qa
   obtain ⟨u, q3, q4⟩ := r'.get qb
   refine ⟨⟨vs, us, v, u, h2, h3, q1, q3⟩, fun z H3 ⟨T, v', u', hT, y0, y1, y2, y3⟩ => ?_⟩
   have ev := y2 vs h2
   have eu := y3 us h3
   rw [q1] at ev; cases ev
   rw [q3] at eu; cases eu
   subst y0 y1
   have nf := Gh.nofp st hT
   have g2 := Gr.new (o := .tup [v, u]) e2 hT nf
   refine ⟨upd Hf2 T (.tup [v, u]), g2, Gh.grow st hT, Rep.tup_iff.mpr ⟨T, _, rfl, nf, Zap, ?_⟩⟩
   exact .cons ((q2.ext e1).ext g2.ff) (.one ((q4.ext e1).ext g2.ff))
theorem PI.or {tg iter : Expr} {w1 w2 : TI} (h1 : PI X tg iter w1) (h2 : PI X tg iter w2) : PI X tg iter (fun σ H R => w1 σ H R ∨ w2 σ H R) := fun pins s σ H R I h => h.elim (h1 pins s σ H R I) (h2 pins s σ H R I)
noncomputable def ZeR (f g : Rho → M D) : Rho → M (List D) := fun ρ => Zao (f ρ) fun d => Zao (g ρ) fun e => match d, e with | .lst ds, .lst es => mret (zipD ds es) | .tup ds, .tup es => mret (zipD ds es) | _, _ => Zaz
theorem Zg7 {elts : List Expr} {k : Nat} {tp : Pos} {a b : Expr} {p pos : Pos} {r1 r2 : Bool} {f f2 : Rho → M D} (hg : Gl X "zip") (hm : X.mg "zip" = none) (ha : PD X G r1 a f) (hb : PD X G r2 b f2)
  (hs : starEach [a, b] X.env = [(false, eval a X.env), (false, eval b X.env)] := by rfl) (hs2 : starEach [b] X.env = [(false, eval b X.env)] := by rfl) : PDI X G (.Tuple elts k tp) (.Call (.Name "zip" p) [a, b] [] pos) (ZeR f f2) := by
 obtain ⟨t, pa, qa⟩ := ha.drop
 obtain ⟨u, pb, qb⟩ := hb.drop
 have pp := ZaV pa (ZaV pb Zbs (by rw [hs2]; rfl)) (by rw [hs, hs2])
 refine ⟨_, PI.or (ZmH hg hm pp hs hs2) (ZlX hg hm pp hs hs2), fun σ Hf H ρ s ds s' R e1 e2 e3 e4 k => ?_⟩
 obtain ⟨d, s1, a1, a2⟩ := Zai e4
 obtain ⟨d2, s2, a3, a4⟩ := Zai a2
 match d, d2, a4, a1, a3 with
 | .lst xs, .lst ys, a4, a1, a3 =>
  obtain ⟨rfl, rfl⟩ := Zal a4
  left
  refine qa σ Hf H ρ s _ _ _ e1 e2 e3 a1 fun v Hf1 H1 g st r => ?_
  refine qb σ Hf1 H1 ρ s1 _ _ _ g.fh (e2.ext g.ff) st a3 fun v2 Hf2 H2 g2 st2 r2 => ?_
  obtain ⟨p1, vs, rfl, n1, h1, rl1⟩ := Rep.lst_iff.mp (r.ext g2.ff)
  obtain ⟨p2, us, rfl, n2, h2, rl2⟩ := Rep.lst_iff.mp r2
  exact ⟨p1, p2, rfl, ⟨vs, SqL.of (g2.fh _ _ n1 h1)⟩, ⟨us, SqL.of (g2.fh _ _ n2 h2)⟩, k _ Hf2 H2 (g.trans g2) st2 (.zip n1 h1 rl1 n2 h2 rl2)⟩
 | .tup xs, .tup ys, a4, a1, a3 =>
  obtain ⟨rfl, rfl⟩ := Zal a4
  right
  refine qa σ Hf H ρ s _ _ _ e1 e2 e3 a1 fun v Hf1 H1 g st r => ?_
  refine qb σ Hf1 H1 ρ s1 _ _ _ g.fh (e2.ext g.ff) st a3 fun v2 Hf2 H2 g2 st2 r2 => ?_
  obtain ⟨p1, vs, rfl, n1, h1, rl1⟩ := Rep.tup_iff.mp (r.ext g2.ff)
  obtain ⟨p2, us, rfl, n2, h2, rl2⟩ := Rep.tup_iff.mp r2
  exact ⟨p1, p2, rfl, ⟨vs, g2.fh _ _ n1 h1⟩, ⟨us, g2.fh _ _ n2 h2⟩, k _ Hf2 H2 (g.trans g2) st2 (.zipT n1 h1 rl1 n2 h2 rl2)⟩
end
section
variable {X : Cx} {G : Gh} {own : List Nat} {fr : Bool}
end
section
variable {X : Cx} {G : Gh}
end
section
variable {X : Cx} {G : Gh} {ob : List Nat} {fr : Bool}
end
section
variable {X : Cx} {G : Gh} {ob own : List Nat} {fr : Bool}
end
section
variable {X : Cx} {G : Gh} {ob own : List Nat} {fr : Bool}
end
section
variable {X : Cx} {G : Gh} {ob own : List Nat} {fr : Bool}
end
end TF
namespace HT
open PySem PySem.Spec PyProof.Rows
section
variable {prog : Program} {w : World} {A : Around} {E : Value → Shared → Prop} {s : Shared}
end
end HT
namespace TF
open PySem PySem.Spec PyProof.Rows L2
section
variable {X : Cx} {G : Gh}
end
end TF
namespace HT
open PySem PySem.Spec PyProof.Rows
section
variable {prog : Program} {w : World} {A : Around} {R : Result → Shared → Prop} {I : Addr} {fp wr : List Addr} {n : Nat} {P : Nat → Value → Prop} {St : Nat → Heap → Prop}
end
section
variable {prog : Program} {w : World} {A : Around} {E : Value → Shared → Prop} {s : Shared}
end
section
variable {prog : Program} {w : World} {A : Around} {R : Result → Shared → Prop} {I : Addr} {fp wr : List Addr} {n : Nat} {P : Nat → Value → Prop} {St : Nat → Heap → Prop}
end
section
variable {prog : Program} {w : World} {A : Around} {E : Value → Shared → Prop} {s : Shared}
end
end HT
namespace L2
open PySem PySem.Spec PyProof.Rows
section
variable {X : Cx}
end
end L2
namespace TF
open PySem PySem.Spec PyProof.Rows L2
section
variable {X : Cx} {G : Gh}
end
end TF
namespace TS
open PySem PySem.Spec PyProof.Rows L2
section
variable {prog : Program} {w : World} {A : Around} {E : Value → Shared → Prop} {s : Shared}
end
end TS
namespace TF
open PySem PySem.Spec PyProof.Rows L2 TS
section
variable {X : Cx} {G : Gh}
end
end TF
namespace TF
open PySem PySem.Spec PyProof.Rows L2
section
variable {X : Cx} {G : Gh}
theorem Zfa {i : Nat} {x : Str} {e : Expr} {pos p1 p2 p3 : Pos} {r1 fr : Bool} {ob own : List Nat} {f : Rho → M D} (hi : i ∈ own) (hv : PE X (.Name x p1) (tVar i)) (he : PD X G r1 e f)
  (hbase : attributeBase (.Name x p1) "extend" X.env (eval (.Name x p1) X.env) = eval (.Name x p1) X.env := by rfl)
  (hfew : ((backTo p3 (starEach [e] X.env)).all (fun x => !x.1) && (backToKw p3 (keywordEach [] X.env)).all (fun x => x.1.isSome)
   && decide ([e].length + ([] : List Keyword).length + (if ([] : List Keyword).isEmpty then 0 else 1) < 30)) = true := by rfl)
  (hline : (p2.endLine == p3.line) = true := by rfl) (hs : starEach [e] X.env = (false, eval e X.env) :: starEach [] X.env := by rfl)
  (hsw : swapsWith (.Call (.Attribute (.Name x p1) "extend" p2) [e] [] p3) none pos.line X.env = pure false := by rfl) :
  PDS X G ob own own fr (.Expr (.Call (.Attribute (.Name x p1) "extend" p2) [e] [] p3) pos) (sExt i (fun ρ => f (hide own ρ))) :=
 ZkU hi he fun te p => ZjD hv p hbase hfew hline hs hsw
end
end TF
namespace L2
open PySem PySem.Spec PyProof.Rows
section
variable {X : Cx} {tg : Expr}
end
end L2
namespace TF
open PySem PySem.Spec PyProof.Rows L2
section
variable {X : Cx} {G : Gh} {ob own : List Nat} {fr : Bool}
end
end TF
namespace TF
open PySem PySem.Spec PyProof.Rows L2
open Sem (wp)
section
variable {prog : Program} {w : World} {A : Around} {E : Value → Shared → Prop} {s : Shared}
end
variable {X : Cx} {G : Gh} {f : Rho → M D}
end TF
namespace HT
open PySem PySem.Spec PyProof.Rows
end HT
namespace HT
open PySem PySem.Spec PyProof.Rows
section
variable {prog : Program} {w : World}
variable (prog w) in
variable {A : Around} {E : Value → Shared → Prop} {s : Shared}
end
end HT
namespace HT
open PySem PySem.Spec PyProof.Rows
namespace FS
end FS
section
variable {prog : Program} {w : World} {A : Around} {E : Value → Shared → Prop} {s : Shared}
end
end HT
namespace HT
open PySem PySem.Spec PyProof.Rows
section
variable {prog : Program} {w : World} {A : Around} {E : Value → Shared → Prop} {s : Shared}
variable {a : Addr} {o : Obj} {es : Array (Int × Value)} {ep : Nat} {t : SetTable}
namespace FS
end FS
end
end HT
namespace HT
open PySem PySem.Spec PyProof.Rows
section
variable {prog : Program} {w : World} {A : Around} {E : Value → Shared → Prop} {s : Shared}
variable {a : Addr} {o : Obj} {es : Array (Int × Value)} {ep : Nat} {t : SetTable}
end
end HT
namespace HT
open PySem PySem.Spec PyProof.Rows
section
variable {prog : Program} {w : World} {A : Around} {E : Value → Shared → Prop} {s : Shared}
variable {a : Addr} {o : Obj} {es : Array (Int × Value)} {ep : Nat} {t : SetTable}
end
end HT
namespace TF
open PySem PySem.Spec PyProof.Rows L2
section
variable {X : Cx} {G : Gh}
end
section
variable {X : Cx} {G : Gh} {ob own : List Nat} {fr : Bool} {f : Rho → M D}
end
end TF
namespace TT
open PySem PyProof.Rows L2 TS
theorem ZlY {α : Type} (d : α) {l' l : List α} (h : l'.Perm l) : ∃ ix : List Nat, ix.Perm (List.range l.length) ∧ l' = ix.map fun i => l.getD i d := by
 induction h with
 | nil => exact ⟨[], .refl _, rfl⟩
 | @cons x l1 l2 p ih =>
  obtain ⟨ix, h1, h2⟩ := ih
  refine ⟨0 :: ix.map (· + 1), ?_, ?_⟩
  ·rw [List.length_cons, List.range_succ_eq_map]
   exact (h1.map _).cons 0
  ·rw [List.map_cons, List.map_map, h2]
   rfl
 | swap x y l =>
  refine ⟨1 :: 0 :: (List.range l.length).map (· + 2), ?_, ?_⟩
  ·rw [List.length_cons, List.length_cons, List.range_succ_eq_map, List.range_succ_eq_map, List.map_cons, List.map_map]
   exact .swap _ _ _
  ·rw [List.map_cons, List.map_cons, List.map_map]
   have : (List.range l.length).map ((fun i => (x :: y :: l).getD i d) ∘ fun x => x + 2) = l := by
    have e : ((fun i => (x :: y :: l).getD i d) ∘ fun x => x + 2) = fun i => l.getD i d := rfl
    rw [e]; exact TS.range_getD l d
   rw [this]; rfl
 | @trans l1 l2 l3 p q ih1 ih2 =>
  obtain ⟨ix, h1, h2⟩ := ih1
  obtain ⟨jx, k1, k2⟩ := ih2
  refine ⟨ix.map fun i => jx.getD i 0, ?_, ?_⟩
  ·have e : l2.length = jx.length := by rw [k2, List.length_map]
   rw [e] at h1
   have := h1.map fun i => jx.getD i 0
   rw [TS.range_getD] at this
   exact this.trans k1
  ·rw [h2, List.map_map]
   refine List.map_congr_left fun i hi => ?_
   have hl : i < l2.length := List.mem_range.mp (h1.mem_iff.mp hi)
   have hj : i < jx.length := by rw [k2, List.length_map] at hl; exact hl
   show l2.getD i d = l3.getD (jx.getD i 0) d
   rw [k2, List.getD_eq_getElem?_getD, List.getElem?_map, List.getElem?_eq_getElem hj, List.getD_eq_getElem?_getD (l := jx), List.getElem?_eq_getElem hj]
   rfl
section
variable {prog : Program} {w : World} {A : Around} {E : Value → Shared → Prop} {s : Shared}
theorem list_sort_T2 {a : Addr} {vs : List Value} {nss : List (List Int)} {n : Nat} {P : PySem.Fin → Shared → Prop} (ho : s.heap.get? a = some (seqObj "list" vs.toArray n)) (ht : Paired (ZaO s.heap) vs nss) (hz : vs.length ≤ 100000) (hne : 2 ≤ vs.length → ∀ ns ∈ nss, ns ≠ [])
  (h : ∀ p : Array Nat, p.toList.Perm (List.range vs.length) → (p.toList.map fun i => nss.getD i []) = Za1 nss → P (.done (.ret .none)) { s with heap := sortedHeap s.heap a vs (List.toArray (p.toList.map fun i => vs.getD i Value.none)) }) :
  wpAny (model prog w) A (Builtin.«list.sort» ⟨[.ref a], []⟩) P E s := by
 refine Zhi ho ht hz hne fun out h1 h2 => ?_
 obtain ⟨ix, k1, k2⟩ := ZlY Value.none h2
 have hlen : vs.length = nss.length := Paired.length ht
 have eo : out = List.toArray ((List.toArray ix).toList.map fun i => vs.getD i Value.none) := by
  apply Array.toList_inj.mp
  rw [List.toList_toArray, List.toList_toArray]; exact k2
 rw [eo]
 refine h (List.toArray ix) (by rw [List.toList_toArray]; exact k1) ?_
 rw [List.toList_toArray, ← (Zco h1).1, k2, List.map_map]
 refine List.map_congr_left fun i hi => ?_
 have hl : i < vs.length := List.mem_range.mp (k1.mem_iff.mp hi)
 exact (Zcq (Paired.get3 _ [] ht hl)).symm
end
end TT
namespace TS
open PySem PySem.Spec PyProof.Rows L2
section
variable {prog : Program} {w : World} {A : Around} {E : Value → Shared → Prop} {s : Shared}
theorem Zjs {l : Addr} {vs : List Value} {nss : List (List Int)} {Q : Value → Shared → Prop} (hl : s.heap.IsList l vs.toArray) (ht : Paired (ZaO s.heap) vs nss) (hz : vs.length ≤ 100000) (hne : 2 ≤ vs.length → ∀ ns ∈ nss, ns ≠ [])
  (h : ∀ p : Array Nat, p.toList.Perm (List.range vs.length) → (p.toList.map fun i => nss.getD i []) = Za1 nss → Q (.ref (s.heap.objs.size + 1)) { s with heap := sortedAll s.heap vs (List.toArray (p.toList.map fun i => vs.getD i Value.none)) }) : wpAny (model prog w) A (call (.builtin "sorted") [.ref l]) Q E s := by
 refine Calls.call_function_entry kind_sorted plain_sorted entry_sorted (args_sorted1 _) ?_; unfold Builtin.«sorted»; refine wpAny_bind (m := checkCount "sorted" 1 1 _) (wpAny_pure ?_); refine wpAny_bind (collect_list hl ?_ (by rw [sizeLine_eq]; omega)); refine wpAny_bind (wpAny_newList ?_ (by rw [sizeLine_eq]; omega))
 have z1 : ((s.heap.push (seqObj "list" #[] 0)).update s.heap.objs.size (Obj.mapSeq (· ++ vs.toArray))).objs.size = s.heap.objs.size + 1 := by rw [Heap.size_update, size_push']
 have g1 : (((s.heap.push (seqObj "list" #[] 0)).update s.heap.objs.size (Obj.mapSeq (· ++ vs.toArray))).push (seqObj "list" vs.toArray 0)).get? (s.heap.objs.size + 1) = some (seqObj "list" vs.toArray 0) := by rw [← z1]; exact Heap.get?_push_size _ rfl
 have kp : ∀ c o, c ≠ s.heap.objs.size → s.heap.get? c = some o → (((s.heap.push (seqObj "list" #[] 0)).update s.heap.objs.size (Obj.mapSeq (· ++ vs.toArray))).push (seqObj "list" vs.toArray 0)).get? c = some o := fun c o hc e => Heap.get?_push_of_some _ (by rw [Heap.get?_update_ne _ _ _ _ hc]; exact Heap.get?_push_of_some _ e)
 have ht2 : Paired (ZaO (((s.heap.push (seqObj "list" #[] 0)).update s.heap.objs.size (Obj.mapSeq (· ++ vs.toArray))).push (seqObj "list" vs.toArray 0))) vs nss := L2.Paired.mapP ht fun v ns ⟨a, xs, e, ⟨o, ho, r⟩, i⟩ => ⟨a, xs, e, ⟨o, kp a o (Nat.ne_of_lt (Heap.lt_size ho)) ho, r⟩, i⟩
 show wpAny _ _ _ _ _ { s with heap := ((s.heap.push (seqObj "list" #[] 0)).update s.heap.objs.size (Obj.mapSeq (· ++ vs.toArray))).push (seqObj "list" vs.toArray 0) }; rw [z1]
 refine wpAny_bind (wpAny_holding (wpAny_call_entry slot_list_sort ⟨_, g1, rfl⟩ entry_list_sort (TT.list_sort_T2 (s := { s with heap := ((s.heap.push (seqObj "list" #[] 0)).update s.heap.objs.size (Obj.mapSeq (· ++ vs.toArray))).push (seqObj "list" vs.toArray 0) }) g1 ht2 hz hne fun p a1 a2 => ⟨_, rfl, ?_⟩) (args_list_sort _))); exact wpAny_pure ⟨_, rfl, h p a1 a2⟩
theorem ZiE {l : Addr} {vs : List Value} {nss : List (List Int)} {Q : Value → Shared → Prop} (hl : s.heap.IsTuple l vs.toArray) (ht : Paired (ZaO s.heap) vs nss) (hz : vs.length ≤ 100000) (hne : 2 ≤ vs.length → ∀ ns ∈ nss, ns ≠ [])
  (h : ∀ p : Array Nat, p.toList.Perm (List.range vs.length) → (p.toList.map fun i => nss.getD i []) = Za1 nss → Q (.ref (s.heap.objs.size + 1)) { s with heap := sortedAll s.heap vs (List.toArray (p.toList.map fun i => vs.getD i Value.none)) }) : wpAny (model prog w) A (call (.builtin "sorted") [.ref l]) Q E s := by
 refine Calls.call_function_entry kind_sorted plain_sorted entry_sorted (args_sorted1 _) ?_; unfold Builtin.«sorted»; refine wpAny_bind (m := checkCount "sorted" 1 1 _) (wpAny_pure ?_); refine wpAny_bind (L2.collectT hl ?_ (by rw [sizeLine_eq]; omega)); refine wpAny_bind (wpAny_newList ?_ (by rw [sizeLine_eq]; omega))
 have z1 : ((s.heap.push (seqObj "list" #[] 0)).update s.heap.objs.size (Obj.mapSeq (· ++ vs.toArray))).objs.size = s.heap.objs.size + 1 := by rw [Heap.size_update, size_push']
 have g1 : (((s.heap.push (seqObj "list" #[] 0)).update s.heap.objs.size (Obj.mapSeq (· ++ vs.toArray))).push (seqObj "list" vs.toArray 0)).get? (s.heap.objs.size + 1) = some (seqObj "list" vs.toArray 0) := by rw [← z1]; exact Heap.get?_push_size _ rfl
 have kp : ∀ c o, c ≠ s.heap.objs.size → s.heap.get? c = some o → (((s.heap.push (seqObj "list" #[] 0)).update s.heap.objs.size (Obj.mapSeq (· ++ vs.toArray))).push (seqObj "list" vs.toArray 0)).get? c = some o := fun c o hc e => Heap.get?_push_of_some _ (by rw [Heap.get?_update_ne _ _ _ _ hc]; exact Heap.get?_push_of_some _ e)
 have ht2 : Paired (ZaO (((s.heap.push (seqObj "list" #[] 0)).update s.heap.objs.size (Obj.mapSeq (· ++ vs.toArray))).push (seqObj "list" vs.toArray 0))) vs nss := L2.Paired.mapP ht fun v ns ⟨a, xs, e, ⟨o, ho, r⟩, i⟩ => ⟨a, xs, e, ⟨o, kp a o (Nat.ne_of_lt (Heap.lt_size ho)) ho, r⟩, i⟩
 show wpAny _ _ _ _ _ { s with heap := ((s.heap.push (seqObj "list" #[] 0)).update s.heap.objs.size (Obj.mapSeq (· ++ vs.toArray))).push (seqObj "list" vs.toArray 0) }; rw [z1]
 refine wpAny_bind (wpAny_holding (wpAny_call_entry slot_list_sort ⟨_, g1, rfl⟩ entry_list_sort (TT.list_sort_T2 (s := { s with heap := ((s.heap.push (seqObj "list" #[] 0)).update s.heap.objs.size (Obj.mapSeq (· ++ vs.toArray))).push (seqObj "list" vs.toArray 0) }) g1 ht2 hz hne fun p a1 a2 => ⟨_, rfl, ?_⟩) (args_list_sort _))); exact wpAny_pure ⟨_, rfl, h p a1 a2⟩
end
end TS
namespace TF
open PySem PySem.Spec PyProof.Rows L2 TS
section
variable {X : Cx} {G : Gh}
theorem Zhz : ZbY X (.builtin "sorted") (fun xs H Q => ∃ (p : Addr) (vs : List V) (nss : List (List Int)) (T : V → List Int → Prop), xs = [.ref p] ∧ SqL X.K H p vs ∧ (∀ v ns, T v ns → ∃ a, v = .ref a ∧ SqT X.K H a (ns.map V.int)) ∧ Paired T vs nss ∧
  nss.length ≤ 100000 ∧ (2 ≤ nss.length → ∀ ns ∈ nss, ns ≠ []) ∧ ∀ l vs', Paired T vs' (Za1 nss) → H l = none → Q (.ref l) (upd H l (.lst vs'))) := by
 intro pins s σ H xs us Q I r h
 obtain ⟨p, vs, nss, T, rfl, hp, hT, pT, h64, hne, q⟩ := h
 obtain ⟨u, rfl, ru⟩ := Zdm r
 cases ru
 obtain ⟨its, rv, pl, hz⟩ := I.list hp
 have hl := rv.length
 have hl2 : vs.length = nss.length := Paired.length pT
 refine Zjs pl.isList (Zea I hT rv pT) (by omega) (fun z => hne (by omega)) fun pm a1 a2 => ?_
 obtain ⟨e, he⟩ := sortedAll_at s.heap its (List.toArray (pm.toList.map fun i => its.getD i Value.none))
 have hle : s.heap.objs.size ≤ s.heap.objs.size + 1 := Nat.le_succ _
 have hb : ∀ i ∈ pm.toList, i < its.length := fun i m => by
  have := a1.mem_iff.mp m
  simpa using this
 have pv : Vals (pm.toList.map fun i => vs.getD i V.non) (pm.toList.map fun i => its.getD i Value.none) := TS.Paired.pick _ _ rv _ fun i m => by rw [hl]; exact hb i m
 have pt : Paired T (pm.toList.map fun i => vs.getD i V.non) (pm.toList.map fun i => nss.getD i []) := TS.Paired.pick _ _ pT _ fun i m => by rw [hl]; exact hb i m
 rw [a2] at pt
 refine ⟨.ref (s.heap.objs.size + 1), _, I.laid (a := s.heap.objs.size + 1) (o := .lst (pm.toList.map fun i => vs.getD i V.non)) (t' := s.toks) (fun _ _ => sortedAll_old) hle ⟨?_, _, e, pv, he⟩, rfl, q _ _ pt (I.hok.fresh hle)⟩
 have := a1.length_eq
 rw [List.length_range] at this
 rw [List.length_map, this, sizeLine_eq]
 omega
noncomputable def Zbx (nss : List (List Int)) : Prop := nss.length ≤ 100000 ∧ (2 ≤ nss.length → ∀ ns ∈ nss, ns ≠ [])
instance (nss : List (List Int)) : Decidable (Zbx nss) := by unfold Zbx; infer_instance
noncomputable def ZdX : List D → Option D
 | [.lst ds] => match Zby ds with | some nss => if Zbx nss then some (.lst ((Za1 nss).map tupI)) else none | none => none
 | _ => none
theorem Zf6 : ZbJ X G (.builtin "sorted") ZdX :=
 ⟨_, Zhz, fun Hf H s xs ds c Q e1 st r q k => by
  match ds, q, r with
  | [.lst es], q, r =>
   have q : (match Zby es with | some nss => if Zbx nss then some (D.lst ((Za1 nss).map tupI)) else none | none => none) = some c := q
   cases he : Zby es with
   | none => rw [he] at q; cases q
   | some nss =>
    rw [he] at q
    have q : (if Zbx nss then some (D.lst ((Za1 nss).map tupI)) else none) = some c := q
    split at q
    ·rename_i ok
     cases q
     obtain ⟨v, rfl, rv⟩ := RepL.one_inv r
     obtain ⟨p, vs, rfl, np, hp, rp⟩ := Rep.lst_iff.mp rv
     rw [Zd9 he] at rp
     refine ⟨p, vs, nss, fun v ns => Rep G Hf (tupI ns) v, rfl, SqL.of (e1 _ _ np hp), fun v ns h => ?_, Zeh rp, ok.1, ok.2, fun l vs' pt hl => ?_⟩
     ·obtain ⟨a, us, rfl, na, ha, ra⟩ := Rep.tup_iff.mp h
      rw [RepL.ints ra] at ha
      exact ⟨a, rfl, SqT.of (e1 _ _ na ha)⟩
     ·have nf := Gh.nofp st hl
      have g2 := Gr.new (o := .lst vs') e1 hl nf
      have rl := Zep pt
      exact k (.ref l) _ _ g2 (Gh.grow st hl) (Rep.lst_iff.mpr ⟨l, _, rfl, nf, Zap, rl.ext g2.ff⟩) (Zax.mk e1 hl nf rl)
    ·cases q⟩
theorem ZgK : ZbY X (.builtin "sorted") (fun xs H Q => ∃ (p : Addr) (vs : List V) (nss : List (List Int)) (T : V → List Int → Prop), xs = [.ref p] ∧ SqT X.K H p vs ∧ (∀ v ns, T v ns → ∃ a, v = .ref a ∧ SqT X.K H a (ns.map V.int)) ∧ Paired T vs nss ∧
  nss.length ≤ 100000 ∧ (2 ≤ nss.length → ∀ ns ∈ nss, ns ≠ []) ∧ ∀ l vs', Paired T vs' (Za1 nss) → H l = none → Q (.ref l) (upd H l (.lst vs'))) := by
 intro pins s σ H xs us Q I r h
 obtain ⟨p, vs, nss, T, rfl, hp, hT, pT, h64, hne, q⟩ := h
 obtain ⟨u, rfl, ru⟩ := Zdm r
 cases ru
 obtain ⟨its, rv, pl, hz⟩ := I.tuple hp
 have hl := rv.length
 have hl2 : vs.length = nss.length := Paired.length pT
 refine ZiE (show s.heap.IsTuple p its.toArray from pl) (Zea I hT rv pT) (by omega) (fun z => hne (by omega)) fun pm a1 a2 => ?_
 obtain ⟨e, he⟩ := sortedAll_at s.heap its (List.toArray (pm.toList.map fun i => its.getD i Value.none))
 have hle : s.heap.objs.size ≤ s.heap.objs.size + 1 := Nat.le_succ _
 have hb : ∀ i ∈ pm.toList, i < its.length := fun i m => by
  have := a1.mem_iff.mp m
  simpa using this
 have pv : Vals (pm.toList.map fun i => vs.getD i V.non) (pm.toList.map fun i => its.getD i Value.none) := TS.Paired.pick _ _ rv _ fun i m => by rw [hl]; exact hb i m
 have pt : Paired T (pm.toList.map fun i => vs.getD i V.non) (pm.toList.map fun i => nss.getD i []) := TS.Paired.pick _ _ pT _ fun i m => by rw [hl]; exact hb i m
 rw [a2] at pt
 refine ⟨.ref (s.heap.objs.size + 1), _, I.laid (a := s.heap.objs.size + 1) (o := .lst (pm.toList.map fun i => vs.getD i V.non)) (t' := s.toks) (fun _ _ => sortedAll_old) hle ⟨?_, _, e, pv, he⟩, rfl, q _ _ pt (I.hok.fresh hle)⟩
 have := a1.length_eq
 rw [List.length_range] at this
 rw [List.length_map, this, sizeLine_eq]
 omega
noncomputable def ZeA : List D → Option D
 | [.tup ds] => match Zby ds with | some nss => if Zbx nss then some (.lst ((Za1 nss).map tupI)) else none | none => none
 | _ => none
theorem ZfM : ZbJ X G (.builtin "sorted") ZeA :=
 ⟨_, ZgK, fun Hf H s xs ds c Q e1 st r q k => by
  match ds, q, r with
  | [.tup es], q, r =>
   have q : (match Zby es with | some nss => if Zbx nss then some (D.lst ((Za1 nss).map tupI)) else none | none => none) = some c := q
   cases he : Zby es with
   | none => rw [he] at q; cases q
   | some nss =>
    rw [he] at q
    have q : (if Zbx nss then some (D.lst ((Za1 nss).map tupI)) else none) = some c := q
    split at q
    ·rename_i ok
     cases q
     obtain ⟨v, rfl, rv⟩ := RepL.one_inv r
     obtain ⟨p, vs, rfl, np, hp, rp⟩ := Rep.tup_iff.mp rv
     rw [Zd9 he] at rp
     refine ⟨p, vs, nss, fun v ns => Rep G Hf (tupI ns) v, rfl, SqT.of (e1 _ _ np hp), fun v ns h => ?_, Zeh rp, ok.1, ok.2, fun l vs' pt hl => ?_⟩
     ·obtain ⟨a, us, rfl, na, ha, ra⟩ := Rep.tup_iff.mp h
      rw [RepL.ints ra] at ha
      exact ⟨a, rfl, SqT.of (e1 _ _ na ha)⟩
     ·have nf := Gh.nofp st hl
      have g2 := Gr.new (o := .lst vs') e1 hl nf
      have rl := Zep pt
      exact k (.ref l) _ _ g2 (Gh.grow st hl) (Rep.lst_iff.mpr ⟨l, _, rfl, nf, Zap, rl.ext g2.ff⟩) (Zax.mk e1 hl nf rl)
    ·cases q⟩
end
end TF
namespace TF
open PySem PySem.Spec PyProof.Rows L2 TT
section
variable {X : Cx} {G : Gh}
theorem ZbJ.or {f : Value} {g1 g2 : List D → Option D} (h1 : ZbJ X G f g1) (h2 : ZbJ X G f g2) : ZbJ X G f (fun ds => (g1 ds).or (g2 ds)) := by
 obtain ⟨r1, c1, q1⟩ := h1
 obtain ⟨r2, c2, q2⟩ := h2
 refine ⟨fun xs H Q => r1 xs H Q ∨ r2 xs H Q, fun pins s σ H xs us Q I r h => ?_, fun Hf H s xs ds c Q e1 st r q k => ?_⟩
 ·rcases h with h | h
  ·exact c1 pins s σ H xs us Q I r h
  ·exact c2 pins s σ H xs us Q I r h
 ·have q : (g1 ds).or (g2 ds) = some c := q
  cases e : g1 ds with
  | some d =>
   rw [e] at q
   have : d = c := Option.some.inj q
   subst this
   exact .inl (q1 Hf H s xs ds d Q e1 st r e k)
  | none =>
   rw [e] at q
   exact .inr (q2 Hf H s xs ds c Q e1 st r q k)
noncomputable def ZcM : List D → Option D := fun ds => (ZdX ds).or (ZeA ds)
theorem Zf5 : ZbJ X G (.builtin "sorted") ZcM := Zf6.or ZfM
end
end TF
namespace TF
open PySem PySem.Spec PyProof.Rows L2
section
variable {X : Cx} {G : Gh} {f g : Rho → M D}
end
noncomputable def gloC (G : Gh) (C : Nat → V → Prop) : Gh where
 fp := G.fp
 rd := G.rd
 pen := G.pen
 st := G.st
 mono := G.mono
 sub := G.sub
 dom := G.dom
 ntp := G.ntp
 clo := fun t v cs => C t v ∧ cs = []
noncomputable def ZaZ (GG0 : Gh → Prop) (L : List (Addr × Str)) (C : Nat → V → Prop) (G : Gh) : Prop := ∃ G1, PenT GG0 L G1 ∧ G = gloC G1 C
theorem ZaZ.tabs {GG0 : Gh → Prop} {L : List (Addr × Str)} {C : Nat → V → Prop} {G : Gh} (lo : LOk L) (h : ZaZ GG0 L C G) : Zbf L G := by
 obtain ⟨G1, h1, rfl⟩ := h
 have := h1.tabs lo
 exact fun P q m => ⟨(this P q m).get, (this P q m).fp, (this P q m).put⟩
theorem Zmp {P : Program} {w : World} {K : PySem.W.Frag} {mg : Str → Option Value} {base : Heap} {k : Nat} {f : Addr} {fd : FuncData} {ps : List Str} {n : Nat} {fr : Bool} {GG0 : Gh → Prop} {L : List (Addr × Str)} {C : Nat → V → Prop} {F : List D → M D} (FN : FnOk P w K mg base CX0 k f fd ps (spD n fr (PenT GG0 L) F))
  (hF : ∀ ds s d s', F ds s = some (d, s') → ZaU ds = true ∧ ZaN d = true) : FnOk P w K mg base CX0 k f fd ps (spD n fr (ZaZ GG0 L C) F) := by
 refine FN.imp fun vs H Q E h => ?_
 obtain ⟨G, Hf, ds, s, d, s', ⟨G1, h1, rfl⟩, hl, e1, r, st, eF, k⟩ := h
 obtain ⟨n1, n2⟩ := hF _ _ _ _ eF
 refine ⟨G1, Hf, ds, s, d, s', h1, hl, e1, RepL.re (G := gloC G1 C) (G' := G1) rfl rfl n1 r, st, eF, fun v Hf' H' g st' r' fz => ?_⟩
 exact k v Hf' H' (Gr.re (G := G1) (G' := gloC G1 C) rfl g) st' (Rep.re (G := G1) (G' := gloC G1 C) rfl rfl n2 r') fun z => Zax.re (G := G1) (G' := gloC G1 C) rfl rfl n2 (fz z)
theorem Zlj {P : Program} {w : World} {K : PySem.W.Frag} {mg : Str → Option Value} {base : Heap} {k : Nat} {x : Str} {n : Nat} {fr : Bool} {GG0 : Gh → Prop} {L : List (Addr × Str)} {C : Nat → V → Prop} {F : List D → M D} (c : Cal P w K mg base k x n fr GG0 F) (hF : ∀ ds s d s', F ds s = some (d, s') → ZaU ds = true ∧ ZaN d = true) : Cal P w K mg base k x n fr (ZaZ GG0 L C) F :=
 let ⟨f, fd, ps, a, b, c, d⟩ := c
 ⟨f, fd, ps, Zmp (Zmm a hF) hF, b, c, d⟩
noncomputable def CalT (P : Program) (w : World) (K : PySem.W.Frag) (mg : Str → Option Value) (base : Heap) (L : List (Addr × Str)) (k : Nat) (x : Str) (n : Nat) (F : List D → M D) (f : Addr) : Prop :=
 ∃ fd ps fr, FnOk P w K mg base CX0 k f fd ps (spD n fr (Zbf L) F) ∧ ps.length = n ∧ mg x = some (.ref f) ∧ (∃ oc od sl, K.lookup f = some ⟨oc, od, .func fd, sl⟩) ∧ ZbR K fd ps []
theorem Zkw {P : Program} {w : World} {K : PySem.W.Frag} {mg : Str → Option Value} {base : Heap} {L : List (Addr × Str)} {k n : Nat} {x : Str} {F : List D → M D} {f : Addr} {G : Gh} {cs : List V} (h : CalT P w K mg base L k x n F f) (hT : Zbf L G) (hc : cs = []) :
  ∃ f' fd ps, (V.ref f : V) = .ref f' ∧ ps.length = n ∧ ZbR K fd ps [] ∧ (∀ s H, G.st s H → ∀ h : Heap, HOk P w H h → K.In h → fnφ f' fd h) ∧ FnOk P w K mg base CX0 k f' fd ps (spK n G cs F) := by
 obtain ⟨fd, ps, fr, FN, hl, hm, ⟨oc, od, sl, lk⟩, hb⟩ := h
 subst hc
 refine ⟨f, fd, ps, rfl, hl, hb, fun s H st h ok KX => ⟨oc, od, sl, KX _ _ lk⟩, ?_⟩
 refine FN.imp fun us H Q E ⟨Hf, ds, cds, s, d, s', l, e1, r1, r2, st, eF, kk⟩ => ?_
 have : cds = [] := by
  cases cds with
  | nil => rfl
  | cons a b => obtain ⟨_, _, e, _⟩ := RepL.cons_iff.mp r2; cases e
 subst this
 rw [List.append_nil] at eF
 exact ⟨G, Hf, ds, s, d, s', hT, l, e1, r1, st, eF, fun v Hf' H' g st' r _ => kk v Hf' H' g st' r⟩
theorem ZjN {X : Cx} {G : Gh} {GG0 : Gh → Prop} {L : List (Addr × Str)} {C : Nat → V → Prop} {x : Str} {f : Addr} {t : Nat} {pos : Pos} (hG : ZaZ GG0 L C G) (hg : Gl X x) (hm : X.mg x = some (.ref f)) (hC : C t (.ref f)) (hd : (x == ("__debug__" : Str)) = false := by decide) : PD X G true (.Name x pos) (dC (.clo t [])) := by
 obtain ⟨G1, _, rfl⟩ := hG
 refine ⟨_, Zl1 (v := .ref f) hg hm rfl hd, fun σ Hf H ρ s d s' Q e1 e2 e3 e4 k => ?_⟩
 obtain ⟨rfl, rfl⟩ := Zal e4
 exact k _ Hf H (.refl e1) e3 (Rep.clo_iff.mpr ⟨[], ⟨hC, rfl⟩, RepL.nil_iff.mpr rfl⟩) fun _ => .scal fun z => z
theorem Zj1 {L : List (Addr × Str)} {C : Nat → V → Prop} {H0 H : Hp} {p wa : Addr} {m : Int} {w : List Int} {g : Rho → M Out} {Q : VK} {n : Nat} {s' : Pn} {x : V} (st : stD p wa ([m, 0], w) H) (hTb : ∀ P q, (P, q) ∈ L → H0 P = some (.tbl #[])) (kp : ∀ b u, H0 b = some u → H b = some u) (hp : H0 p = none) (hw : H0 wa = none) (hQ : ∀ H', Q (.bl true) H')
  (hg : g (none :: some .pen :: List.replicate n none) ([m, 0], w) = some (.rt (.bl true), s')) :
  ∃ G, ZaZ PenD L C G ∧ ZlF G [] [] [] false g { nx := fun _ H' => Q .non H', rt := Q } (some x :: some (.ref p) :: List.replicate n none) H := by
 refine ⟨gloC (ZdQ (penD p wa) L) C, ⟨_, ⟨penD p wa, ⟨p, wa, rfl⟩, fun b ⟨q, mb⟩ hb => ?_, rfl⟩, rfl⟩, fun _ => none, fun _ => none, H, none :: some .pen :: List.replicate n none, ([m, 0], w), _, s', ⟨fun _ => none, ⟨by simp, .refl _ _, .refl (fun b o _ e => by cases e), fun i d _ e => ?_, fun i d m => by simp at m, fun i j b di dj m => by simp at m⟩⟩, ⟨st, Znq fun P q z => kp _ _ (hTb P q z)⟩, hg, fun v Hf' H' g st r _ => ?_⟩
 ·have e := hTb b q mb
  rcases hb with rfl | rfl
  ·rw [hp] at e; cases e
  ·rw [hw] at e; cases e
 ·match i, e with
  | 0, e => cases e
  | 1, e => cases e; exact ⟨_, rfl, Rep.pen_iff.mpr rfl⟩
  | i + 2, e =>
   have e' : (List.replicate n (none : Option D))[i]? = some (some d) := e
   rw [List.getElem?_replicate] at e'
   split at e' <;> cases e'
 ·rw [Rep.bl_iff.mp r]
  exact hQ H'
end TF
namespace TP2
open PySem L2 TF TP
noncomputable def ZhR : Rho → M Out := (sSeq (sSet 2 (dFn Zbe (Zab (dVar 0) (Zab (dOp dAdd (dVar 1) (dC (.int 1))) dNil))))
 (sSeq (sSet 3 (dFn Zbe (Zab (dVar 0) (Zab (dC (.int 9)) dNil))))
 (sSeq (sSet 4 (dOp dAdd (dC (.int 1)) (dFn Zbe (Zab (dVar 0) (Zab (dC (.int 5)) dNil)))))
 (sSeq (sOwn 5 (dLst dNil))
 (sSeq (sFor (Za3 (dVar 2)) (gOne 6)
 (sSeq (sFor (ZdI (dOp dAdd (dVar 6) (dC (.int 1))) (dVar 2)) (gOne 7)
 (sSeq (sSet 8 (fun ρ => (dOp dIx (dLst (Zab (dC (.bl false)) (Zab (dC (.bl true)) (Zab (dOp dIn (dOp dSub (dVar 7) (dVar 6)) (dTup (Zab (dC (.int 1)) (Zab (dOp dSub (dVar 2) (dC (.int 1))) dNil)))) (Zab (dOp dNeO (dOp dMod (dVar 6) (dVar 4)) (dOp dMod (dVar 7) (dVar 4))) dNil))))) (Zaw Zdt (Zab (dVar 3) (Zab (dC (.int 3)) dNil)))) (hide [5] ρ)))
 (sSeq (sIf (asB (dOp dGt (dVar 3) (dC (.int 3))))
 (sSeq (sSet 8 (fun ρ => (dOp dLt (dFn Zbe (Zab (dVar 0) (Zab (dC (.int 6)) dNil))) (dVar 4)) (hide [5] ρ)))
 Zas)
 Zas)
 (sSeq (sIf (asB (dVar 8))
 (sSeq (sApp 5 (fun ρ => (dTup (Zab (dVar 6) (Zab (dVar 7) dNil))) (hide [5] ρ)))
 Zas)
 Zas)
 Zas))))
 Zas))
 (sSeq (sRet (dTup (Zab (dVar 2) (Zab (Zaw Zdf (Zab (dVar 5) dNil)) dNil))))
 Zas))))))
noncomputable def Zcw : List D → M D := runB 9 2 ZhR
end TP2
namespace TP3
open PySem L2 TF TP
open TP2
noncomputable def Zey (Fs : List D → M D) : Rho → M Out := (sSeq (sIf (asB (dOp dIsN (dVar 1) (dC .non)))
 (sSeq (sRet (dOp dIsN (dVar 0) (dC .non)))
 Zas)
 Zas)
 (sSeq (sIf (asB (Zaw dIsi (Zab (dVar 1) (Zab (dC (.ty "bool")) dNil))))
 (sSeq (sRet (vAnd (Zaw dIsi (Zab (dVar 0) (Zab (dC (.ty "bool")) dNil))) (dOp dEqO (dVar 0) (dVar 1))))
 Zas)
 Zas)
 (sSeq (sIf (asB (Zaw dIsi (Zab (dVar 1) (Zab (dC (.ty "int")) dNil))))
 (sSeq (sRet (vAnd (Zaw dIsi (Zab (dVar 0) (Zab (dC (.ty "int")) dNil))) (vAnd (vNot (Zaw dIsi (Zab (dVar 0) (Zab (dC (.ty "bool")) dNil)))) (dOp dEqO (dVar 0) (dVar 1)))))
 Zas)
 Zas)
 (sSeq (sIf (asB (Zaw dIsi (Zab (dVar 1) (Zab (dC (.ty "str")) dNil))))
 (sSeq (sRet (vAnd (Zaw dIsi (Zab (dVar 0) (Zab (dC (.ty "str")) dNil))) (dOp dEqO (dVar 0) (dVar 1))))
 Zas)
 Zas)
 (sSeq (sIf (bOr (asB (dOp dNeO (Zaw dIsi (Zab (dVar 1) (Zab (dC (.ty "tuple")) dNil))) (Zaw dIsi (Zab (dVar 0) (Zab (dC (.ty "tuple")) dNil))))) (asB (dOp dNeO (Zaw dIsi (Zab (dVar 1) (Zab (dC (.ty "list")) dNil))) (Zaw dIsi (Zab (dVar 0) (Zab (dC (.ty "list")) dNil))))))
 (sSeq (sRet (dC (.bl false)))
 Zas)
 Zas)
 (sSeq (sRet (vAnd (dOp dEqO (Zaw dLen (Zab (dVar 0) dNil)) (Zaw dLen (Zab (dVar 1) dNil))) (Zaw dAll (Zab (Za9 [none, none] (ZeR (dVar 0) (dVar 1)) (ZeS 0 1) ZaW (dFn Fs (Zab (dVar 0) (Zab (dVar 1) dNil)))) dNil))))
 Zas))))))
noncomputable def ZaY : Nat → List D → M D
 | 0 => fun _ => Zaz
 | n + 1 => runB 2 2 (Zey (ZaY n))
end TP3
namespace TP3
open PySem L2 TF TP
open TP2
end TP3
namespace TP3
open PySem L2 TF TP
open TP2
end TP3
namespace TP3
open PySem L2 TF TP
open TP2
end TP3
namespace TP3
open PySem L2 TF TP
open TP2
end TP3
namespace TP3
open PySem L2 TF TP
open TP2
end TP3
namespace TP3
open PySem L2 TF TP
open TP2
end TP3
namespace TQ
open PySem L2 TF TQ
open TP
open TP2
open TP3
noncomputable def Zkc : Rho → M Out := (sSeq (sRet (vAnd (dOp dLt (dOp dIx (dVar 0) (dC (.int 0))) (dOp dIx (dVar 1) (dC (.int 1)))) (dOp dLt (dOp dIx (dVar 1) (dC (.int 0))) (dOp dIx (dVar 0) (dC (.int 1))))))
 Zas)
noncomputable def Zky : List D → M D := runB 2 2 Zkc
noncomputable def ZeV : Rho → M Out := (sSeq (sRet (vOr (dOp dEqO (dVar 1) (dVar 2)) (dFn Zbc (Zab (dVar 0) (Zab (dVar 1) (Zab (dVar 2) dNil))))))
 Zas)
noncomputable def ZcZ : List D → M D := runB 3 3 ZeV
noncomputable def ZeE : List D → M D := runB 4 4 (sSeq (sIf (asB (dOp dEqO (dOp dIx (dVar 0) (dC (.int 0))) (dOp dIx (dVar 1) (dC (.int 0)))))
 (sSeq (sRet (dFn Zbc (Zab (dOp dIx (dVar 2) (dOp dIx (dVar 0) (dC (.int 0)))) (Zab (dOp dIx (dVar 0) (dC (.int 1))) (Zab (dOp dIx (dVar 1) (dC (.int 1))) dNil)))))
 Zas)
 Zas)
 (sSeq (sRet (dFn Zbc (Zab (dVar 3) (Zab (dOp dIx (dVar 0) (dC (.int 0))) (Zab (dOp dIx (dVar 1) (dC (.int 0))) dNil)))))
 Zas))
noncomputable def ZeD : List D → M D := runE 3 (vNot (dFn Zbc (Zab (dVar 2) (Zab (dVar 0) (Zab (dVar 1) dNil)))))
noncomputable def Zf9 : List D → M D := runB 4 4 (sSeq (sRet (vAnd (dFn ZcZ (Zab (dVar 2) (Zab (dOp dIx (dVar 0) (dC (.int 0))) (Zab (dOp dIx (dVar 1) (dC (.int 0))) dNil)))) (dFn ZcZ (Zab (dVar 3) (Zab (dOp dIx (dVar 0) (dC (.int 1))) (Zab (dOp dIx (dVar 1) (dC (.int 1))) dNil))))))
 Zas)
noncomputable def Zd6 : List D → M D := runE 3 (dFn Zbc (Zab (dVar 2) (Zab (dVar 0) (Zab (dVar 1) dNil))))
noncomputable def Zf8 : List D → M D := runE 3 (dOp dNeO (dOp dMod (dVar 0) (dVar 2)) (dOp dMod (dVar 1) (dVar 2)))
noncomputable def ZeW : List D → M D := runE 4 (dOp dIn (Zaw Zdt (Zab (dOp dSub (dVar 1) (dVar 0)) (Zab (dOp dAdd (dOp dSub (dVar 2) (dVar 1)) (dVar 0)) dNil))) (dVar 3))
noncomputable def Tl : Nat → List D → M D
 | 0 => ZeD
 | 1 => Zd6
 | 2 => Zky
 | 3 => ZeE
 | 4 => Zf9
 | 6 => Zf8
 | 7 => ZeW
 | _ => fun _ => Zaz
noncomputable def ZhQ : Rho → M Out := (sSeq (sSet 2 (dFn Zcv (Zab (ZcD (Zaw dLen (Zab (dVar 0) dNil))) dNil)))
 (sSeq (sRet (dTup (Zab (Zaw dLen (Zab (dVar 0) dNil)) (Zab (Zaw Zdf (Zab (Za9 [none, some 1, some 0] (Zcx (dVar 2)) (gOne 0) (asB (dApp Tl 1 (Zab (dOp dIx (dVar 2) (dOp dIx (dVar 0) (dC (.int 0)))) (Zab (dOp dIx (dVar 2) (dOp dIx (dVar 0) (dC (.int 1)))) dNil)))) (dVar 0)) dNil)) dNil))))
 Zas))
noncomputable def Zbv : List D → M D := runB 3 2 ZhQ
noncomputable def Zml : Rho → M Out := (sSeq (sOwn 1 (dLst dNil))
 (sSeq (sFor (Za3 (Zaw dLen (Zab (dVar 0) dNil))) (gOne 2)
 (sSeq (sExt 1 (fun ρ => (Za9 [none, some 2] (Za3 (dOp dIx (dVar 0) (dVar 2))) (gOne 0) ZaW (dTup (Zab (dVar 1) (Zab (dVar 0) dNil)))) (hide [1] ρ)))
 Zas))
 (sSeq (sRet (dVar 1))
 Zas)))
noncomputable def Zc9 : List D → M D := runB 3 1 Zml
noncomputable def Zk8 : Rho → M Out := (sSeq (sSet 2 (dFn Za6 (Zab (dVar 0) dNil)))
 (sSeq (sSet 3 (Za9 [none] (Zcx (dVar 1)) (gOne 0) ZaW (dFn Za6 (Zab (dVar 0) dNil))))
 (ZfR 4 (dFnC Zbv 3 [3, 2] (dFn Zc9 (Zab (Za9 [none] (Zcx (dVar 1)) (gOne 0) ZaW (dOp dIx (dVar 0) (dC (.int 0)))) dNil))))))
noncomputable def Zci : List D → M D := runB 5 2 Zk8
noncomputable def Zk7 : Rho → M Out := (sSeq (sSet 1 (dFn Za6 (Zab (dVar 0) dNil)))
 (sSeq (sRet (dFnC Zbv 0 [1] (ZcD (dOp dIx (dVar 0) (dC (.int 0))))))
 Zas))
noncomputable def Zdj : List D → M D := runB 2 1 Zk7
noncomputable def Zk9 : Rho → M Out := (sSeq (sRet (dFn Zci (Zab (dTup (Zab (Zaw dLen (Zab (dVar 0) dNil)) (Zab (dTup dNil) dNil))) (Zab (dVar 0) dNil))))
 Zas)
noncomputable def Zdk : List D → M D := runB 1 1 Zk9
noncomputable def ZgF : Rho → M Out := (sSeq (sRet (dFn Zci (Zab (dFn Zdj (Zab (dTup (Zab (Zaw dLen (Zab (dVar 0) dNil)) (Zab (dTup dNil) dNil))) dNil)) (Zab (dVar 0) dNil))))
 Zas)
noncomputable def Zb0 : List D → M D := runB 1 1 ZgF
end TQ
namespace TQ
open PySem L2 TF TQ
open TP
open TP2
open TP3
noncomputable def Zhp : Rho → M Out := (sSeq (sSet 3 (dOp dIx (dLst (Zab (dC (.int 1)) (Zab (dC (.int 2)) (Zab (dC (.int 5)) (Zab (dC (.int 12)) (Zab (dC (.int 24)) dNil)))))) (dFn Zbe (Zab (dVar 0) (Zab (dC (.int 5)) dNil)))))
 (sSeq (sOwn 4 (dLst dNil))
 (sSeq (sSet 5 (fun ρ => (dVar 2) (hide [4] ρ)))
 (sSeq (sFor (Za3 (dVar 1)) (gOne 6)
 (sSeq (sApp 4 (fun ρ => (dFn Zcw (Zab (dVar 0) (Zab (Zaw Zdt (Zab (dVar 5) (Zab (dVar 3) dNil))) dNil))) (hide [4] ρ)))
 (sSeq (sSet 5 (chk true (dOp dSub (dVar 5) (dOp dIx (dOp dIx (dVar 4) (dC (.int (-1)))) (dC (.int 0))))))
 Zas)))
 (sSeq (sRet (dVar 4))
 Zas)))))
noncomputable def ZbV : List D → M D := runB 7 3 Zhp
noncomputable def ZgH : Rho → M Out := (sSeq (sOwn 1 (dLst dNil))
 (sSeq (sFor (fun ρ => (Zij (dVar 0)) (hide [1] ρ)) (ZeS 2 3)
 (sSeq (sExt 1 (fun ρ => (Za9 [none, some 2] (Za3 (dOp dIx (dVar 3) (dC (.int 0)))) (gOne 0) ZaW (dTup (Zab (dVar 1) (Zab (dVar 0) dNil)))) (hide [1] ρ)))
 Zas))
 (sSeq (sRet (dVar 1))
 Zas)))
noncomputable def Zb1 : List D → M D := runB 4 1 ZgH
noncomputable def ZhS : Rho → M Out := (sSeq (sSet 2 (dFn Zb1 (Zab (dVar 1) dNil)))
 (sSeq (sSet 3 (Zaw ZdM (Zab (Za9 [none] (Zcs (dOp dIx (dVar 0) (dC (.int 1)))) (gOne 0) ZaW (dTup (Zab (dVar 0) (Zab (dC (.bl true)) dNil)))) dNil)))
 (sSeq (sSet 4 (Za9 [none] (Zcx (dVar 1)) (gOne 0) ZaW (Zaw ZdM (Zab (Za9 [none] (Zcs (dOp dIx (dVar 0) (dC (.int 1)))) (gOne 0) ZaW (dTup (Zab (dVar 0) (Zab (dC (.bl true)) dNil)))) dNil))))
 (sSeq (sOwn 5 (dLst dNil))
 (sSeq (sFor (Za3 (Zaw dLen (Zab (dVar 2) dNil))) (gOne 6)
 (sSeq (sFor (Za3 (dVar 6)) (gOne 7)
 (sSeq (sPar 8 9 (Zab (dOp dIx (dVar 2) (dVar 7)) (Zab (dOp dIx (dVar 2) (dVar 6)) dNil)))
 (sSeq (sSet 10 (fun ρ => (dOp dIn (dTup (Zab (dOp dIx (dVar 8) (dC (.int 0))) (Zab (dOp dIx (dVar 9) (dC (.int 0))) dNil))) (dVar 3)) (hide [5] ρ)))
 (sSeq (sIf (asB (dOp dEqO (dOp dIx (dVar 8) (dC (.int 0))) (dOp dIx (dVar 9) (dC (.int 0)))))
 (sSeq (sSet 10 (fun ρ => (dOp dIn (dTup (Zab (dOp dIx (dVar 8) (dC (.int 1))) (Zab (dOp dIx (dVar 9) (dC (.int 1))) dNil))) (dOp dIx (dVar 4) (dOp dIx (dVar 8) (dC (.int 0))))) (hide [5] ρ)))
 Zas)
 Zas)
 (sSeq (sIf (asB (dVar 10))
 (sSeq (sApp 5 (fun ρ => (dTup (Zab (dVar 7) (Zab (dVar 6) dNil))) (hide [5] ρ)))
 Zas)
 Zas)
 Zas)))))
 Zas))
 (sSeq (sRet (dTup (Zab (Zaw dLen (Zab (dVar 2) dNil)) (Zab (Zaw Zdf (Zab (dVar 5) dNil)) dNil))))
 Zas))))))
noncomputable def Zbw : List D → M D := runB 11 2 ZhS
end TQ
namespace TQ
open PySem L2 TF
noncomputable def Tact : Nat → List D → M D
 | 100 => Zdk
 | 101 => Zb0
 | _ => fun _ => Zaz
end TQ
namespace K60
open PySem.Spec PyProof.Rows
open PySem L2 TF TQ
open TP
open TP2
open TP3
noncomputable def top (i : Nat) : Stmt := PySem.Challenge.pw_tiefold_k60_beside_and_wholly_tied.main.body.getD i (.Pass ⟨0, 0, 0, 0⟩)
noncomputable abbrev Zck : Stmt := top 1
noncomputable abbrev Zcl : Stmt := top 3
noncomputable abbrev Zbn : Stmt := top 4
noncomputable abbrev Zcc : Stmt := top 5
noncomputable abbrev ZbK : Stmt := top 6
noncomputable abbrev ZcI : Stmt := top 8
noncomputable abbrev ZbE : Stmt := top 9
noncomputable abbrev ZbL : Stmt := top 10
noncomputable abbrev ZcH : Stmt := top 11
noncomputable abbrev ZbM : Stmt := top 13
noncomputable abbrev ZbT : Stmt := top 14
noncomputable abbrev Zbz : Stmt := top 15
noncomputable abbrev Zb2 : Stmt := top 16
noncomputable abbrev ZbS : Stmt := top 17
noncomputable abbrev Zbo : Stmt := top 18
noncomputable abbrev Zbt : Stmt := top 19
noncomputable abbrev Zb8 : Stmt := top 20
structure Txt (mg : Str → Option Value) : Prop where
 b_all : mg "all" = none
 b_bool : mg "bool" = none
 b_dict : mg "dict" = none
 b_enumerate : mg "enumerate" = none
 b_int : mg "int" = none
 b_isinstance : mg "isinstance" = none
 b_len : mg "len" = none
 b_list : mg "list" = none
 b_max : mg "max" = none
 b_min : mg "min" = none
 b_range : mg "range" = none
 b_sorted : mg "sorted" = none
 b_str : mg "str" = none
 b_tuple : mg "tuple" = none
 b_zip : mg "zip" = none
set_option maxHeartbeats 4000000
variable {P : Program} {w : World} {K : PySem.W.Frag} {mg : Str → Option Value} {base : Heap} {a_f : Addr} {fd_f : FuncData}
theorem Zdy : FnScope ["web"] ["web"] (Zak Zbn) := ⟨rfl, rfl, rfl, by decide +kernel, rfl, by decide +kernel, by decide +kernel⟩
theorem ZfY (F : Fun K "marked_ties" "marked_ties" Zbn a_f fd_f) (T : Txt mg) :
  FnOk P w K mg base CX0 1 a_f fd_f ["web"] (spD 1 true AnyG Za6) :=
 have c_nd := Zdy.nd
 fnD (own := []) F Zdy fun cdv A outer s H E hr G hG =>
 (Zae (own2 := []) (Za2 (ZbI (Zd1 rfl hr.units) rfl T.b_dict TF.boot_dict (Zaa (ZbN rfl (⟨rfl, rfl, by decide +kernel, rfl, by decide +kernel, rfl, by decide +kernel, by decide +kernel⟩ : BlkS _ ["web"] (Zak Zbn).names ["tie"] [none] _) (ZfW (ZaE ixd (Zad 0 (pv 0)) Zav)) (fun _ _ _ _ _ _ => (ZaK (show (["tie"] : List Str).Nodup by decide +kernel) rfl (Or.inl rfl) rfl)) (fun _ _ _ _ _ _ => Zcz) (fun _ _ _ _ _ _ => (ZaT (Zaa (Zad 0 (pv 0)) (Zaa Zdp Zaf))))) Zaf)))
 (Zaq (own := [])))
theorem ZeY : FnScope ["row", "pairs", "i", "j"] ["row"] (Zak Zck) := ⟨rfl, rfl, rfl, by decide +kernel, rfl, by decide +kernel, by decide +kernel⟩
theorem ZhM (F : Fun K "pairs_of" "pairs_of" Zck a_f fd_f) (T : Txt mg) :
  FnOk P w K mg base CX0 1 a_f fd_f ["row"] (spD 1 true AnyG Zcv) :=
 have c_nd := ZeY.nd
 fnD (own := []) F ZeY fun cdv A outer s H E hr G hG =>
 (Zae (own2 := [1]) (Zcy (ZaA c_nd rfl (Or.inl rfl) (ZbZ Zaf)))
 (Zae (own2 := [1]) (ZbH (own := [1]) PassesOwn.never rfl (Zbu rfl T.b_range (Zay (Za5) rfl T.b_len TF.boot_len (Zaa (Zad 0 (pv 0)) Zaf))) (ZaK c_nd rfl (Or.inl rfl) (by decide))
 (Zae (own2 := [1]) (ZbH (own := [1]) PassesOwn.never rfl (Ze2 rfl T.b_range (Zc2 ZeK (Zad 2 (pv 2)) Zav) (Zay (Za5) rfl T.b_len TF.boot_len (Zaa (Zad 0 (pv 0)) Zaf))) (ZaK c_nd rfl (Or.inl rfl) (by decide))
 (Zae (own2 := [1]) (ZdS (own := [1]) (i := 1) (by decide) (ZaT (Zaa (ZaE ixd (Zad 0 (pv 0)) (Zad 2 (pv 2))) (Zaa (ZaE ixd (Zad 0 (pv 0)) (Zad 3 (pv 3))) Zaf))) (fun _ h => Zdo (pv 1) h))
 (Zaq (own := [1]))))
 (Zaq (own := [1]))))
 (Zae (own2 := [1]) (Zc1 (i := 1) (by decide) (pv 1))
 (Zaq (own := [1])))))
theorem Zed : FnScope ["row", "tied", "pairs"] ["row", "tied"] (Zak ZbK) := ⟨rfl, rfl, rfl, by decide +kernel, rfl, by decide +kernel, by decide +kernel⟩
theorem Zeq (F : Fun K "web_where" "web_where" ZbK a_f fd_f) (T : Txt mg) (c_pairs_of : Cal P w K mg base 1 "pairs_of" 1 true AnyG Zcv) :
  FnOk P w K mg base CX0 5 a_f fd_f ["row", "tied"] (spD 2 false (CloG P w K mg 4 2 Tl base) Zbv) :=
 have c_nd := Zed.nd
 fnD (own := []) F Zed fun cdv A outer s H E hr G hG =>
 (Zae (own2 := []) (Za0 (ZaA c_nd rfl (Or.inl rfl) (ZaS (c_pairs_of.mono) trivial hr rfl (Zaa (Zem rfl rfl T.b_range rfl T.b_list TF.boot_list (Zay (Za5) rfl T.b_len TF.boot_len (Zaa (Zad 0 (pv 0)) Zaf))) Zaf) (Zan ZaB))))
 (Zae (own2 := []) (Za2 (PD.weak (ZaT (Zaa (Zay (Za5) rfl T.b_len TF.boot_len (Zaa (Zad 0 (pv 0)) Zaf)) (Zaa (ZbI (Zch) rfl T.b_tuple TF.boot_tuple (Zaa (ZbN rfl (⟨rfl, rfl, by decide +kernel, rfl, by decide +kernel, rfl, by decide +kernel, by decide +kernel⟩ : BlkS _ ["row", "tied", "pairs"] (Zak ZbK).names ["pair", "tied", "row"] [none, some 1, some 0] _) (Zdd (Zad 2 (pv 2))) (fun _ _ _ _ _ _ => (ZaK (show (["pair", "tied", "row"] : List Str).Nodup by decide +kernel) rfl (Or.inl rfl) rfl)) (fun _ _ _ _ _ _ => (Znx (ZcK (Zg8 hG (hr.mono (by decide)) (pv 1) (Zaa (ZaE ixd (Zad 2 (pv 2)) (ZaE ixd (Zad 0 (pv 0)) Zav)) (Zaa (ZaE ixd (Zad 2 (pv 2)) (ZaE ixd (Zad 0 (pv 0)) Zav)) Zaf)) (Zan (Zan ZaB)))))) (fun _ _ _ _ _ _ => (Zad 0 (pv 0)))) Zaf)) Zaf)))))
 (Zaq (own := []))))
theorem ZeZ : FnScope ["ties", "a", "b"] ["ties", "a", "b"] (Zak Zcl) := ⟨rfl, rfl, rfl, by decide +kernel, rfl, by decide +kernel, by decide +kernel⟩
theorem ZhN (F : Fun K "are_tied" "are_tied" Zcl a_f fd_f) (T : Txt mg) :
  FnOk P w K mg base CX0 1 a_f fd_f ["ties", "a", "b"] (spD 3 false AnyG Zbc) :=
 have c_nd := ZeZ.nd
 fnD (own := []) F ZeZ fun cdv A outer s H E hr G hG =>
 (Zae (own2 := []) (Za2 (PD.weak (Zcf (ZfC hr.units) (ZaT (Zaa (Zay (Zd0 rfl) rfl T.b_min TF.boot_min (Zaa (Zad 1 (pv 1)) (Zaa (Zad 2 (pv 2)) Zaf))) (Zaa (Zay (Zi8 rfl) rfl T.b_max TF.boot_max (Zaa (Zad 1 (pv 1)) (Zaa (Zad 2 (pv 2)) Zaf))) Zaf))) (Zad 0 (pv 0)))))
 (Zaq (own := [])))
theorem ZgX : FnScope ["lengths", "found", "i"] ["lengths"] (Zak ZcH) := ⟨rfl, rfl, rfl, by decide +kernel, rfl, by decide +kernel, by decide +kernel⟩
theorem ZkW (F : Fun K "spots" "spots" ZcH a_f fd_f) (T : Txt mg) :
  FnOk P w K mg base CX0 1 a_f fd_f ["lengths"] (spD 1 true AnyG Zc9) :=
 have c_nd := ZgX.nd
 fnD (own := []) F ZgX fun cdv A outer s H E hr G hG =>
 (Zae (own2 := [1]) (Zcy (ZaA c_nd rfl (Or.inl rfl) (ZbZ Zaf)))
 (Zae (own2 := [1]) (ZbH (own := [1]) PassesOwn.never rfl (Zbu rfl T.b_range (Zay (Za5) rfl T.b_len TF.boot_len (Zaa (Zad 0 (pv 0)) Zaf))) (ZaK c_nd rfl (Or.inr rfl) (by decide))
 (Zae (own2 := [1]) (Zfa (own := [1]) (i := 1) (by decide) (pv 1) (ZbN rfl (⟨rfl, rfl, by decide +kernel, rfl, by decide +kernel, rfl, by decide +kernel, by decide +kernel⟩ : BlkS _ ["lengths", "found", "i"] (Zak ZcH).names ["place", "i"] [none, some 2] _) (ZdT rfl T.b_range (ZaE ixd (Zad 0 (pv 0)) (Zad 2 (pv 2)))) (fun _ _ _ _ _ _ => (ZaK (show (["place", "i"] : List Str).Nodup by decide +kernel) rfl (Or.inl rfl) rfl)) (fun _ _ _ _ _ _ => Zcz) (fun _ _ _ _ _ _ => (ZaT (Zaa (Zad 1 (pv 1)) (Zaa (Zad 0 (pv 0)) Zaf))))))
 (Zaq (own := [1]))))
 (Zae (own2 := [1]) (Zc1 (i := 1) (by decide) (pv 1))
 (Zaq (own := [1])))))
theorem Zge : FnScope ["web", "webs", "ties", "inner_ties", "are_tied_there"] ["web", "webs"] (Zak ZbL) := ⟨rfl, rfl, rfl, by decide +kernel, rfl, by decide +kernel, by decide +kernel⟩
theorem ZjP (F : Fun K "put_in" "put_in" ZbL a_f fd_f) (T : Txt mg) {L : List (Addr × Str)} (lo : LOk L) (c_marked_ties : Cal P w K mg base 1 "marked_ties" 1 true AnyG Za6) (c_spots : Cal P w K mg base 1 "spots" 1 true AnyG Zc9) (c_web_where : CalA P w K mg 5 "web_where" 2 false (CloG P w K mg 4 2 Tl) Zbv) (ca_are_tied : ∀ base, Cal P w K mg base 1 "are_tied" 3 false AnyG Zbc) {tc tP : Addr} (hcode : fd_f.code = .ref tc) (hCd : PySem.W.CodeHd base tc tP) (hBm : BMn mg base) (hL : (tP, (Str.ofString "put_in.<locals>.are_tied_there")) ∈ L) :
  FnOk P w K mg base CX0 6 a_f fd_f ["web", "webs"] (spD 2 false (Zbf L) Zci) :=
 have c_nd := Zge.nd
 fnDC (own := []) F Zge fun A outer s H E hr G hG =>
 have hT : Zbf L G := hG
 have TG9 := hT _ _ hL
 have M9 : Mk0 (cxOf CX0 P w K mg base ["web", "webs", "ties", "inner_ties", "are_tied_there"] "put_in" (Zak ZbL) a_f fd_f.code A outer s H E).nox tc tP := ⟨hcode, hCd, hBm⟩
 (Zae (own2 := []) (Za0 (ZaA c_nd rfl (Or.inr rfl) (ZaS (c_marked_ties.mono) trivial hr rfl (Zaa (Zad 0 (pv 0)) Zaf) (Zan ZaB))))
 (Zae (own2 := []) (Za0 (ZaA c_nd rfl (Or.inr rfl) (ZbN rfl (⟨rfl, rfl, by decide +kernel, rfl, by decide +kernel, rfl, by decide +kernel, by decide +kernel⟩ : BlkS _ ["web", "webs", "ties", "inner_ties", "are_tied_there"] (Zak ZbL).names ["inner"] [none] _) (Zdd (Zad 1 (pv 1))) (fun _ _ _ _ _ _ => (ZaK (show (["inner"] : List Str).Nodup by decide +kernel) rfl (Or.inl rfl) rfl)) (fun _ _ _ _ _ _ => Zcz) (fun _ _ _ _ _ _ => (ZaS (c_marked_ties.mono) trivial hr rfl (Zaa (Zad 0 (pv 0)) Zaf) (Zan ZaB))))))
 (ZhJ (kl := 3) (frb := false) (i := 4) (N := ["a", "b", "inner_ties", "ties"]) (ps := ["a", "b"]) (cix := [3, 2]) (T := Tl) (t := 3) (q := "put_in.<locals>.are_tied_there") M9 TG9 (c_web_where.mono) (fun _ => rfl) hr rfl c_nd rfl (Or.inl rfl) (pv 4) (ZaS (c_spots.mono) trivial hr rfl (Zaa (ZbN rfl (⟨rfl, rfl, by decide +kernel, rfl, by decide +kernel, rfl, by decide +kernel, by decide +kernel⟩ : BlkS _ ["web", "webs", "ties", "inner_ties", "are_tied_there"] (Zak ZbL).names ["inner"] [none] _) (Zdd (Zad 1 (pv 1))) (fun _ _ _ _ _ _ => (ZaK (show (["inner"] : List Str).Nodup by decide +kernel) rfl (Or.inl rfl) rfl)) (fun _ _ _ _ _ _ => Zcz) (fun _ _ _ _ _ _ => (ZaE ixd (Zad 0 (pv 0)) Zav))) Zaf) (Zan ZaB)) rfl (⟨rfl, rfl, rfl, by decide +kernel, rfl, by decide +kernel, by decide +kernel⟩ : CloScope ["a", "b", "inner_ties", "ties"] ["a", "b"] _) (⟨rfl, rfl, rfl, by decide +kernel, by decide +kernel⟩ : CapS _ ["web", "webs", "ties", "inner_ties", "are_tied_there"] (Zak ZbL).names ["a", "b", "inner_ties", "ties"] ["a", "b"] [3, 2] _) rfl (fun _ _ _ _ _ us hl => match us, hl with | [_, _], _ => rfl) (fun base f c cl G A outer s H E hr => have c_nd : (["a", "b", "inner_ties", "ties"] : List Str).Nodup := (by decide +kernel); (Zae (own2 := []) (Zce (own' := []) (ZcL (ZdC hr.units) (ZaE ixd (Zad 0 (pv 0)) Zav) (ZaE ixd (Zad 1 (pv 1)) Zav))
 (Zae (own2 := []) (Za2 (ZaS ((ca_are_tied base).mono) trivial hr rfl (Zaa (ZaE ixd (Zad 2 (pv 2)) (ZaE ixd (Zad 0 (pv 0)) Zav)) (Zaa (ZaE ixd (Zad 0 (pv 0)) Zav) (Zaa (ZaE ixd (Zad 1 (pv 1)) Zav) Zaf))) (Zan (Zan (Zan ZaB)))))
 (Zaq (own := [])))
 Zaq)
 (Zae (own2 := []) (Za2 (ZaS ((ca_are_tied base).mono) trivial hr rfl (Zaa (Zad 3 (pv 3)) (Zaa (ZaE ixd (Zad 0 (pv 0)) Zav) (Zaa (ZaE ixd (Zad 1 (pv 1)) Zav) Zaf))) (Zan (Zan (Zan ZaB)))))
 (Zaq (own := []))))))))
theorem Zgf : FnScope ["webs"] ["webs"] (Zak ZcI) := ⟨rfl, rfl, rfl, by decide +kernel, rfl, by decide +kernel, by decide +kernel⟩
theorem Zgm (F : Fun K "beside" "beside" ZcI a_f fd_f) (T : Txt mg) {L : List (Addr × Str)} (lo : LOk L) (c_put_in : Cal P w K mg base 6 "put_in" 2 false (Zbf L) Zci) :
  FnOk P w K mg base CX0 7 a_f fd_f ["webs"] (spD 1 false (Zbf L) Zdk) :=
 have c_nd := Zgf.nd
 fnD (own := []) F Zgf fun cdv A outer s H E hr G hG =>
 have hT : Zbf L G := hG
 (Zae (own2 := []) (Za2 (ZaS (c_put_in.mono) hT hr rfl (Zaa (ZaT (Zaa (Zay (Za5) rfl T.b_len TF.boot_len (Zaa (Zad 0 (pv 0)) Zaf)) (Zaa (ZaT Zaf) Zaf))) (Zaa (Zad 0 (pv 0)) Zaf)) (Zan (Zan ZaB))))
 (Zaq (own := [])))
theorem Zgd : FnScope ["web", "ties"] ["web"] (Zak Zcc) := ⟨rfl, rfl, rfl, by decide +kernel, rfl, by decide +kernel, by decide +kernel⟩
theorem ZjO (F : Fun K "turned" "turned" Zcc a_f fd_f) (T : Txt mg) {L : List (Addr × Str)} (lo : LOk L) (c_marked_ties : Cal P w K mg base 1 "marked_ties" 1 true AnyG Za6) (c_web_where : CalA P w K mg 5 "web_where" 2 false (CloG P w K mg 4 2 Tl) Zbv) (ca_are_tied : ∀ base, Cal P w K mg base 1 "are_tied" 3 false AnyG Zbc) {tc tP : Addr} (hcode : fd_f.code = .ref tc) (hCd : PySem.W.CodeHd base tc tP) (hBm : BMn mg base) (hL : (tP, (Str.ofString "turned.<locals>.<lambda>")) ∈ L) :
  FnOk P w K mg base CX0 6 a_f fd_f ["web"] (spD 1 false (Zbf L) Zdj) :=
 have c_nd := Zgd.nd
 fnDC (own := []) F Zgd fun A outer s H E hr G hG =>
 have hT : Zbf L G := hG
 have TG9 := hT _ _ hL
 have M9 : Mk0 (cxOf CX0 P w K mg base ["web", "ties"] "turned" (Zak Zcc) a_f fd_f.code A outer s H E).nox tc tP := ⟨hcode, hCd, hBm⟩
 (Zae (own2 := []) (Za0 (ZaA c_nd rfl (Or.inr rfl) (ZaS (c_marked_ties.mono) trivial hr rfl (Zaa (Zad 0 (pv 0)) Zaf) (Zan ZaB))))
 (Zae (own2 := []) (Za2 (ZiL (kl := 3) (frb := true) (N := ["a", "b", "ties"]) (ps := ["a", "b"]) (cix := [1]) (T := Tl) (t := 0) (q := "turned.<locals>.<lambda>") M9 TG9 (c_web_where.mono) (fun _ => rfl) hr rfl (Zem rfl rfl T.b_range rfl T.b_list TF.boot_list (ZaE ixd (Zad 0 (pv 0)) Zav)) rfl (⟨rfl, rfl, rfl, by decide +kernel, rfl, by decide +kernel, by decide +kernel⟩ : CloScope ["a", "b", "ties"] ["a", "b"] _) (⟨rfl, rfl, rfl, by decide +kernel, by decide +kernel⟩ : CapS _ ["web", "ties"] (Zak Zcc).names ["a", "b", "ties"] ["a", "b"] [1] _) rfl (fun _ _ _ _ us hl => match us, hl with | [_, _], _ => rfl) (fun base f c cl G A outer s H E hr => (ZjL (ZaS ((ca_are_tied base).mono) trivial hr rfl (Zaa (Zad 2 (pv 2)) (Zaa (Zad 0 (pv 0)) (Zaa (Zad 1 (pv 1)) Zaf))) (Zan (Zan (Zan ZaB))))))))
 (Zaq (own := []))))
theorem Zdx : FnScope ["webs"] ["webs"] (Zak ZbE) := ⟨rfl, rfl, rfl, by decide +kernel, rfl, by decide +kernel, by decide +kernel⟩
theorem ZdE (F : Fun K "wholly_tied" "wholly_tied" ZbE a_f fd_f) (T : Txt mg) {L : List (Addr × Str)} (lo : LOk L) (c_put_in : Cal P w K mg base 6 "put_in" 2 false (Zbf L) Zci) (c_turned : Cal P w K mg base 6 "turned" 1 false (Zbf L) Zdj) :
  FnOk P w K mg base CX0 7 a_f fd_f ["webs"] (spD 1 false (Zbf L) Zb0) :=
 have c_nd := Zdx.nd
 fnD (own := []) F Zdx fun cdv A outer s H E hr G hG =>
 have hT : Zbf L G := hG
 (Zae (own2 := []) (Za2 (ZaS (c_put_in.mono) hT hr rfl (Zaa (ZaS (c_turned.mono) hT hr rfl (Zaa (ZaT (Zaa (Zay (Za5) rfl T.b_len TF.boot_len (Zaa (Zad 0 (pv 0)) Zaf)) (Zaa (ZaT Zaf) Zaf))) Zaf) (Zan ZaB)) (Zaa (Zad 0 (pv 0)) Zaf)) (Zan (Zan ZaB))))
 (Zaq (own := [])))
theorem Zee : FnScope ["pen", "limit", "n", "way", "by", "ties", "a", "b", "good"] ["pen", "limit"] (Zak Zb2) := ⟨rfl, rfl, rfl, by decide +kernel, rfl, by decide +kernel, by decide +kernel⟩
theorem Zg9 (F : Fun K "_law_tweb" "_law_tweb" Zb2 a_f fd_f) (T : Txt mg) {L : List (Addr × Str)} {C : Nat → V → Prop} (lo : LOk L) (c__law_tdraw : Cal P w K mg base 1 "_law_tdraw" 2 true (ZaZ PenD L C) Zbe) :
  FnOk P w K mg base CX0 2 a_f fd_f ["pen", "limit"] (spD 2 true (ZaZ PenD L C) Zcw) :=
 have c_nd := Zee.nd
 fnD (own := []) F Zee fun cdv A outer s H E hr G hG =>
 have hT : Zbf L G := ZaZ.tabs lo hG
 (Zae (own2 := []) (Za0 (ZaA c_nd rfl (Or.inl rfl) (ZaS (c__law_tdraw.mono) hG hr rfl (Zaa (Zad 0 (pv 0)) (Zaa (Zc2 ZeK (Zad 1 (pv 1)) Zav) Zaf)) (Zan (Zan ZaB)))))
 (Zae (own2 := []) (Za0 (ZaA c_nd rfl (Or.inl rfl) (ZaS (c__law_tdraw.mono) hG hr rfl (Zaa (Zad 0 (pv 0)) (Zaa Zav Zaf)) (Zan (Zan ZaB)))))
 (Zae (own2 := []) (Za0 (ZaA c_nd rfl (Or.inl rfl) (Zc2 ZeK Zav (ZaS (c__law_tdraw.mono) hG hr rfl (Zaa (Zad 0 (pv 0)) (Zaa Zav Zaf)) (Zan (Zan ZaB))))))
 (Zae (own2 := [5]) (Zcy (ZaA c_nd rfl (Or.inl rfl) (ZbZ Zaf)))
 (Zae (own2 := [5]) (ZbH (own := [5]) PassesOwn.never rfl (Zbu rfl T.b_range (Zad 2 (pv 2))) (ZaK c_nd rfl (Or.inl rfl) (by decide))
 (Zae (own2 := [5]) (ZbH (own := [5]) PassesOwn.never rfl (Ze2 rfl T.b_range (Zc2 ZeK (Zad 6 (pv 6)) Zav) (Zad 2 (pv 2))) (ZaK c_nd rfl (Or.inl rfl) (by decide))
 (Zae (own2 := [5]) (Zdc (own := [5]) (ZaA c_nd rfl (Or.inl rfl) (ZaE ixd (ZbZ (Zaa Zdp (Zaa Zdp (Zaa (Zcf (ZfC hr.units) (Zc2 ZfX (Zad 7 (pv 7)) (Zad 6 (pv 6))) (ZaT (Zaa Zav (Zaa (Zc2 ZfX (Zad 2 (pv 2)) Zav) Zaf)))) (Zaa (Zcf (ZfB hr.units) (Zc2 Zh8 (Zad 6 (pv 6)) (Zad 4 (pv 4))) (Zc2 Zh8 (Zad 7 (pv 7)) (Zad 4 (pv 4)))) Zaf))))) (Zay (Zd0 rfl) rfl T.b_min TF.boot_min (Zaa (Zad 3 (pv 3)) (Zaa Zav Zaf))))))
 (Zae (own2 := [5]) (Zce (own' := [5]) (ZcL (ZmW) (Zad 3 (pv 3)) Zav)
 (Zae (own2 := [5]) (Zdc (own := [5]) (ZaA c_nd rfl (Or.inl rfl) (Zcf (ZmU hr.units0) (ZaS (c__law_tdraw.mono) hG hr rfl (Zaa (Zad 0 (pv 0)) (Zaa Zav Zaf)) (Zan (Zan ZaB))) (Zad 4 (pv 4)))))
 (Zaq (own := [5])))
 Zaq)
 (Zae (own2 := [5]) (Zce (own' := [5]) (ZcK (Zad 8 (pv 8)))
 (Zae (own2 := [5]) (ZdS (own := [5]) (i := 5) (by decide) (ZaT (Zaa (Zad 6 (pv 6)) (Zaa (Zad 7 (pv 7)) Zaf))) (fun _ h => Zdo (pv 5) h))
 (Zaq (own := [5])))
 Zaq)
 (Zaq (own := [5]))))))
 (Zaq (own := [5]))))
 (Zae (own2 := [5]) (Za2 (ZaT (Zaa (Zad 2 (pv 2)) (Zaa (ZbI (Zch) rfl T.b_tuple TF.boot_tuple (Zaa (Zad 5 (pv 5)) Zaf)) Zaf))))
 (Zaq (own := [5]))))))))
theorem Zd2 : FnScope ["pen", "many", "limit", "size", "webs", "left", "k"] ["pen", "many", "limit"] (Zak ZbS) := ⟨rfl, rfl, rfl, by decide +kernel, rfl, by decide +kernel, by decide +kernel⟩
theorem ZgB (F : Fun K "_law_twebs" "_law_twebs" ZbS a_f fd_f) (T : Txt mg) {L : List (Addr × Str)} {C : Nat → V → Prop} (lo : LOk L) (c__law_tdraw : Cal P w K mg base 1 "_law_tdraw" 2 true (ZaZ PenD L C) Zbe) (c__law_tweb : Cal P w K mg base 2 "_law_tweb" 2 true (ZaZ PenD L C) Zcw) :
  FnOk P w K mg base CX0 3 a_f fd_f ["pen", "many", "limit"] (spD 3 true (ZaZ PenD L C) ZbV) :=
 have c_nd := Zd2.nd
 fnD (own := []) F Zd2 fun cdv A outer s H E hr G hG =>
 have hT : Zbf L G := ZaZ.tabs lo hG
 (Zae (own2 := []) (Za0 (ZaA c_nd rfl (Or.inl rfl) (ZaE ixd (ZbZ (Zaa Zav (Zaa Zav (Zaa Zav (Zaa Zav (Zaa Zav Zaf)))))) (ZaS (c__law_tdraw.mono) hG hr rfl (Zaa (Zad 0 (pv 0)) (Zaa Zav Zaf)) (Zan (Zan ZaB))))))
 (Zae (own2 := [4]) (Zcy (ZaA c_nd rfl (Or.inl rfl) (ZbZ Zaf)))
 (Zae (own2 := [4]) (Zdc (own := [4]) (ZaA c_nd rfl (Or.inl rfl) (Zad 2 (pv 2))))
 (Zae (own2 := [4]) (ZbH (own := [4]) PassesOwn.never rfl (Zbu rfl T.b_range (Zad 1 (pv 1))) (ZaK c_nd rfl (Or.inl rfl) (by decide))
 (Zae (own2 := [4]) (ZkV (own := [4]) (i := 4) (by decide) (pv 4) (ZaS (c__law_tweb.mono) hG hr rfl (Zaa (Zad 0 (pv 0)) (Zaa (Zay (Zd0 rfl) rfl T.b_min TF.boot_min (Zaa (Zad 5 (pv 5)) (Zaa (Zad 3 (pv 3)) Zaf))) Zaf)) (Zan (Zan ZaB))))
 (Zae (own2 := [4]) (ZkS (own := [4]) (ZaA c_nd rfl (Or.inl rfl) (Zc2 ZfX (Zad 5 (pv 5)) (ZaE ixd (ZaE ixd (Zad 4 (pv 4)) ZmT) Zav))))
 (Zaq (own := [4])))))
 (Zae (own2 := [4]) (Zc1 (i := 4) (by decide) (pv 4))
 (Zaq (own := [4])))))))
theorem Zdz : FnScope ["webs", "found", "k", "web"] ["webs"] (Zak Zbo) := ⟨rfl, rfl, rfl, by decide +kernel, rfl, by decide +kernel, by decide +kernel⟩
theorem ZfZ (F : Fun K "_law_tspots" "_law_tspots" Zbo a_f fd_f) (T : Txt mg) :
  FnOk P w K mg base CX0 1 a_f fd_f ["webs"] (spD 1 true AnyG Zb1) :=
 have c_nd := Zdz.nd
 fnD (own := []) F Zdz fun cdv A outer s H E hr G hG =>
 (Zae (own2 := [1]) (Zcy (ZaA c_nd rfl (Or.inl rfl) (ZbZ Zaf)))
 (Zae (own2 := [1]) (ZbH (own := [1]) PassesOwn.never rfl (PDI.a (own := [1]) (ZjK rfl T.b_enumerate (Zad 0 (pv 0)))) (Zfb rfl c_nd rfl rfl (Or.inr rfl) (Or.inl rfl) (by decide) (by decide) (hp := ZcJ (Zb3 c_nd rfl (Or.inr rfl)) (ZcJ (Zb3 c_nd rfl (Or.inl rfl)) ZfV)))
 (Zae (own2 := [1]) (Zfa (own := [1]) (i := 1) (by decide) (pv 1) (ZbN rfl (⟨rfl, rfl, by decide +kernel, rfl, by decide +kernel, rfl, by decide +kernel, by decide +kernel⟩ : BlkS _ ["webs", "found", "k", "web"] (Zak Zbo).names ["place", "k"] [none, some 2] _) (ZdT rfl T.b_range (ZaE ixd (Zad 3 (pv 3)) Zav)) (fun _ _ _ _ _ _ => (ZaK (show (["place", "k"] : List Str).Nodup by decide +kernel) rfl (Or.inl rfl) rfl)) (fun _ _ _ _ _ _ => Zcz) (fun _ _ _ _ _ _ => (ZaT (Zaa (Zad 1 (pv 1)) (Zaa (Zad 0 (pv 0)) Zaf))))))
 (Zaq (own := [1]))))
 (Zae (own2 := [1]) (Zc1 (i := 1) (by decide) (pv 1))
 (Zaq (own := [1])))))
theorem Zef : FnScope ["web", "webs", "spots_v", "whole", "within", "ties", "j", "i", "a", "b", "good"] ["web", "webs"] (Zak Zbt) := ⟨rfl, rfl, rfl, by decide +kernel, rfl, by decide +kernel, by decide +kernel⟩
theorem Zha (F : Fun K "_law_tput" "_law_tput" Zbt a_f fd_f) (T : Txt mg) (c__law_tspots : Cal P w K mg base 1 "_law_tspots" 1 true AnyG Zb1) :
  FnOk P w K mg base CX0 2 a_f fd_f ["web", "webs"] (spD 2 true AnyG Zbw) :=
 have c_nd := Zef.nd
 fnD (own := []) F Zef fun cdv A outer s H E hr G hG =>
 (Zae (own2 := []) (Za0 (ZaA c_nd rfl (Or.inl rfl) (ZaS (c__law_tspots.mono) trivial hr rfl (Zaa (Zad 1 (pv 1)) Zaf) (Zan ZaB))))
 (Zae (own2 := []) (Za0 (ZaA c_nd rfl (Or.inl rfl) (ZbI (Zd1 rfl hr.units) rfl T.b_dict TF.boot_dict (Zaa (ZbN rfl (⟨rfl, rfl, by decide +kernel, rfl, by decide +kernel, rfl, by decide +kernel, by decide +kernel⟩ : BlkS _ ["web", "webs", "spots_v", "whole", "within", "ties", "j", "i", "a", "b", "good"] (Zak Zbt).names ["tie"] [none] _) (ZfW (ZaE ixd (Zad 0 (pv 0)) Zav)) (fun _ _ _ _ _ _ => (ZaK (show (["tie"] : List Str).Nodup by decide +kernel) rfl (Or.inl rfl) rfl)) (fun _ _ _ _ _ _ => Zcz) (fun _ _ _ _ _ _ => (ZaT (Zaa (Zad 0 (pv 0)) (Zaa Zdp Zaf))))) Zaf))))
 (Zae (own2 := []) (Za0 (Zfz c_nd rfl (Or.inl rfl) rfl (⟨rfl, rfl, by decide +kernel, rfl, by decide +kernel, rfl, by decide +kernel, by decide +kernel⟩ : BlkS _ ["web", "webs", "spots_v", "whole", "within", "ties", "j", "i", "a", "b", "good"] (Zak Zbt).names ["one"] [none] _) (Zdd (Zad 1 (pv 1))) (fun _ _ _ _ _ _ => (ZaK (show (["one"] : List Str).Nodup by decide +kernel) rfl (Or.inl rfl) rfl)) (fun _ _ _ _ _ _ => Zcz) (fun _ _ _ _ _ _ => (ZbI (Zd1 rfl hr.units) rfl T.b_dict TF.boot_dict (Zaa (ZbN rfl (⟨rfl, rfl, by decide +kernel, rfl, by decide +kernel, rfl, by decide +kernel, by decide +kernel⟩ : BlkS _ ["one"] [((PySem.Str.ofString ".0"), PySem.NameKind.local), ((PySem.Str.ofString "one"), PySem.NameKind.local), ((PySem.Str.ofString "dict"), PySem.NameKind.globalImplicit)] ["tie"] [none] _) (ZfW (ZaE ixd (Zad 0 (pv 0)) Zav)) (fun _ _ _ _ _ _ => (ZaK (show (["tie"] : List Str).Nodup by decide +kernel) rfl (Or.inl rfl) rfl)) (fun _ _ _ _ _ _ => Zcz) (fun _ _ _ _ _ _ => (ZaT (Zaa (Zad 0 (pv 0)) (Zaa Zdp Zaf))))) Zaf)))))
 (Zae (own2 := [5]) (Zcy (ZaA c_nd rfl (Or.inl rfl) (ZbZ Zaf)))
 (Zae (own2 := [5]) (ZbH (own := [5]) PassesOwn.never rfl (Zbu rfl T.b_range (Zay (Za5) rfl T.b_len TF.boot_len (Zaa (Zad 2 (pv 2)) Zaf))) (ZaK c_nd rfl (Or.inl rfl) (by decide))
 (Zae (own2 := [5]) (ZbH (own := [5]) PassesOwn.never rfl (Zbu rfl T.b_range (Zad 6 (pv 6))) (ZaK c_nd rfl (Or.inl rfl) (by decide))
 (Zae (own2 := [5]) (Zl6 (own := [5]) rfl c_nd rfl rfl (by decide) (by decide) (by decide) rfl rfl (Zaa (ZaE ixd (Zad 2 (pv 2)) (Zad 7 (pv 7))) (Zaa (ZaE ixd (Zad 2 (pv 2)) (Zad 6 (pv 6))) Zaf)) (by with_unfolding_all rfl))
 (Zae (own2 := [5]) (Zdc (own := [5]) (ZaA c_nd rfl (Or.inl rfl) (Zcf (ZfC hr.units) (ZaT (Zaa (ZaE ixd (Zad 8 (pv 8)) Zav) (Zaa (ZaE ixd (Zad 9 (pv 9)) Zav) Zaf))) (Zad 3 (pv 3)))))
 (Zae (own2 := [5]) (Zce (own' := [5]) (ZcL (ZdC hr.units) (ZaE ixd (Zad 8 (pv 8)) Zav) (ZaE ixd (Zad 9 (pv 9)) Zav))
 (Zae (own2 := [5]) (Zdc (own := [5]) (ZaA c_nd rfl (Or.inl rfl) (Zcf (ZfC hr.units) (ZaT (Zaa (ZaE ixd (Zad 8 (pv 8)) Zav) (Zaa (ZaE ixd (Zad 9 (pv 9)) Zav) Zaf))) (ZaE ixd (Zad 4 (pv 4)) (ZaE ixd (Zad 8 (pv 8)) Zav)))))
 (Zaq (own := [5])))
 Zaq)
 (Zae (own2 := [5]) (Zce (own' := [5]) (ZcK (Zad 10 (pv 10)))
 (Zae (own2 := [5]) (ZdS (own := [5]) (i := 5) (by decide) (ZaT (Zaa (Zad 7 (pv 7)) (Zaa (Zad 6 (pv 6)) Zaf))) (fun _ h => Zdo (pv 5) h))
 (Zaq (own := [5])))
 Zaq)
 (Zaq (own := [5])))))))
 (Zaq (own := [5]))))
 (Zae (own2 := [5]) (Za2 (ZaT (Zaa (Zay (Za5) rfl T.b_len TF.boot_len (Zaa (Zad 2 (pv 2)) Zaf)) (Zaa (ZbI (Zch) rfl T.b_tuple TF.boot_tuple (Zaa (Zad 5 (pv 5)) Zaf)) Zaf))))
 (Zaq (own := [5]))))))))
theorem Zd3 : FnScope ["found", "due"] ["found", "due"] (Zak Zbz) := ⟨rfl, rfl, rfl, by decide +kernel, rfl, by decide +kernel, by decide +kernel⟩
theorem ZgC (F : Fun K "_law_tsame" "_law_tsame" Zbz a_f fd_f) (T : Txt mg) {Fs : List D → M D} {lv : Nat} (hlv : 0 ≤ lv) (c__law_tsame : Cal P w K mg base lv "_law_tsame" 2 false AnyG Fs) :
  FnOk P w K mg base CX0 (lv + 1) a_f fd_f ["found", "due"] (spD 2 false AnyG (runB 2 2 (Zey Fs))) :=
 have c_nd := Zd3.nd
 fnD (own := []) F Zd3 fun cdv A outer s H E hr G hG =>
 (Zae (own2 := []) (Zce (own' := []) (ZcL (Zh9) (Zad 1 (pv 1)) ZjM)
 (Zae (own2 := []) (Za2 (PD.weak (Zcf (Zh9) (Zad 0 (pv 0)) ZjM)))
 (Zaq (own := [])))
 Zaq)
 (Zae (own2 := []) (Zce (own' := []) (ZcK (Zay (Zbk) rfl T.b_isinstance TF.boot_isinstance (Zaa (Zad 1 (pv 1)) (Zaa (ZcA rfl T.b_bool TF.boot_bool) Zaf))))
 (Zae (own2 := []) (Za2 (Zen (Zay (Zbk) rfl T.b_isinstance TF.boot_isinstance (Zaa (Zad 0 (pv 0)) (Zaa (ZcA rfl T.b_bool TF.boot_bool) Zaf))) (Zfy (Zcf (ZdC hr.units) (Zad 0 (pv 0)) (Zad 1 (pv 1))))))
 (Zaq (own := [])))
 Zaq)
 (Zae (own2 := []) (Zce (own' := []) (ZcK (Zay (Zbk) rfl T.b_isinstance TF.boot_isinstance (Zaa (Zad 1 (pv 1)) (Zaa (ZcA rfl T.b_int TF.boot_int) Zaf))))
 (Zae (own2 := []) (Za2 (Zen (Zay (Zbk) rfl T.b_isinstance TF.boot_isinstance (Zaa (Zad 0 (pv 0)) (Zaa (ZcA rfl T.b_int TF.boot_int) Zaf))) (Zen (ZjL (Zay (Zbk) rfl T.b_isinstance TF.boot_isinstance (Zaa (Zad 0 (pv 0)) (Zaa (ZcA rfl T.b_bool TF.boot_bool) Zaf)))) (Zfy (Zcf (ZdC hr.units) (Zad 0 (pv 0)) (Zad 1 (pv 1)))))))
 (Zaq (own := [])))
 Zaq)
 (Zae (own2 := []) (Zce (own' := []) (ZcK (Zay (Zbk) rfl T.b_isinstance TF.boot_isinstance (Zaa (Zad 1 (pv 1)) (Zaa (ZcA rfl T.b_str TF.boot_str) Zaf))))
 (Zae (own2 := []) (Za2 (Zen (Zay (Zbk) rfl T.b_isinstance TF.boot_isinstance (Zaa (Zad 0 (pv 0)) (Zaa (ZcA rfl T.b_str TF.boot_str) Zaf))) (Zfy (Zcf (ZdC hr.units) (Zad 0 (pv 0)) (Zad 1 (pv 1))))))
 (Zaq (own := [])))
 Zaq)
 (Zae (own2 := []) (Zce (own' := []) (PDW.pt (ZjJ (ZcL (ZfB hr.units) (Zay (Zbk) rfl T.b_isinstance TF.boot_isinstance (Zaa (Zad 1 (pv 1)) (Zaa (ZcA rfl T.b_tuple TF.boot_tuple) Zaf))) (Zay (Zbk) rfl T.b_isinstance TF.boot_isinstance (Zaa (Zad 0 (pv 0)) (Zaa (ZcA rfl T.b_tuple TF.boot_tuple) Zaf)))) (Zh7 (ZcL (ZfB hr.units) (Zay (Zbk) rfl T.b_isinstance TF.boot_isinstance (Zaa (Zad 1 (pv 1)) (Zaa (ZcA rfl T.b_list TF.boot_list) Zaf))) (Zay (Zbk) rfl T.b_isinstance TF.boot_isinstance (Zaa (Zad 0 (pv 0)) (Zaa (ZcA rfl T.b_list TF.boot_list) Zaf)))))))
 (Zae (own2 := []) (Za2 (PD.weak Zdp))
 (Zaq (own := [])))
 Zaq)
 (Zae (own2 := []) (Za2 (Zen (Zcf (ZdC hr.units) (Zay (Za5) rfl T.b_len TF.boot_len (Zaa (Zad 0 (pv 0)) Zaf)) (Zay (Za5) rfl T.b_len TF.boot_len (Zaa (Zad 1 (pv 1)) Zaf))) (Zfy (Zay (Zkr rfl) rfl T.b_all TF.boot_all (Zaa (ZbN rfl (⟨rfl, rfl, by decide +kernel, rfl, by decide +kernel, rfl, by decide +kernel, by decide +kernel⟩ : BlkS _ ["found", "due"] (Zak Zbz).names ["one", "other"] [none, none] _) (Zg7 rfl T.b_zip (Zad 0 (pv 0)) (Zad 1 (pv 1))) (fun _ _ _ _ _ _ => (Zfb rfl (show (["one", "other"] : List Str).Nodup by decide +kernel) rfl rfl (Or.inl rfl) (Or.inl rfl) rfl rfl (hp := ZcJ (Zb3 (show (["one", "other"] : List Str).Nodup by decide +kernel) rfl (Or.inl rfl)) (ZcJ (Zb3 (show (["one", "other"] : List Str).Nodup by decide +kernel) rfl (Or.inl rfl)) ZfV)))) (fun _ _ _ _ _ _ => Zcz) (fun _ _ _ _ _ _ => (ZaS (c__law_tsame) trivial hr rfl (Zaa (Zad 0 (pv 0)) (Zaa (Zad 1 (pv 1)) Zaf)) (Zan (Zan ZaB))))) Zaf)))))
 (Zaq (own := []))))))))
noncomputable def Zi2 : Rho → M Out := (sSeq (sFor (Za3 (dC (.int 4))) (gOne 2)
 (sSeq (sSet 3 (dFn ZbV (Zab (dVar 1) (Zab (dFn Zbe (Zab (dVar 1) (Zab (dOp dIx (dLst (Zab (dC (.int 6)) (Zab (dC (.int 25)) dNil))) (dFn Zbe (Zab (dVar 1) (Zab (dC (.int 2)) dNil)))) dNil))) (Zab (dC (.int 24)) dNil)))))
 (sSeq (sSet 4 (Zaw ZlG (Zab (dVar 3) dNil)))
 (sSeq (sSet 5 (Zaw dLen (Zab (dVar 3) dNil)))
 (sSeq (sOwn 6 (dLst dNil))
 (sSeq (sFor (Za3 (dVar 5)) (gOne 7)
 (sSeq (sExt 6 (fun ρ => (Za9 [none, some 7] (Za3 (dVar 7)) (gOne 0) ZaW (dTup (Zab (dVar 0) (Zab (dVar 1) dNil)))) (hide [6] ρ)))
 Zas))
 (sSeq (sSet 8 (dLst (Zab (dFn Zbw (Zab (dTup (Zab (dVar 5) (Zab (dTup dNil) dNil))) (Zab (dVar 3) dNil))) (Zab (dFn Zbw (Zab (dTup (Zab (dVar 5) (Zab (Zaw Zdf (Zab (dVar 6) dNil)) dNil))) (Zab (dVar 3) dNil))) dNil))))
 (sSeq (sSet 8 (Za9 [none] (Zcx (dVar 8)) (gOne 0) ZaW (dTup (Zab (dOp dIx (dVar 0) (dC (.int 0))) (Zab (Zaw Zdf (Zab (Zaw ZcM (Zab (dOp dIx (dVar 0) (dC (.int 1))) dNil)) dNil)) dNil)))))
 (sSeq (sFor (ZeR (dLst (Zab (dC (.clo 100 [])) (Zab (dC (.clo 101 [])) dNil))) (dVar 8)) (ZeS 9 10)
 (sSeq (sIf (bOr (bNot (asB (dFn (ZaY 5) (Zab (dApp Tact 9 (Zab (dVar 4) dNil)) (Zab (dVar 10) dNil))))) (asB (dOp dNeO (dVar 4) (dVar 3))))
 (sSeq (sRet (dC (.bl false)))
 Zas)
 Zas)
 Zas))
 Zas)))))))))
 (sSeq (sRet (dC (.bl true)))
 Zas))
theorem ZgY : FnScope ["script", "pen", "turn", "webs", "handed", "many", "ties", "b", "due", "act", "one"] ["script"] (Zak Zb8) := ⟨rfl, rfl, rfl, by decide +kernel, rfl, by decide +kernel, by decide +kernel⟩
theorem Zmr {cdv : Value} {A : Around} {outer : List Env} {s : Shared} {H : Hp} {E : XK} {L : List (Addr × Str)} {C : Nat → V → Prop} (lo : LOk L) (T : Txt mg) (hr : Room 7 (A.deeper (envOfC "law" (Zak Zb8) s.heap.objs.size a_f cdv))) (c__law_tdraw : Cal P w K mg base 1 "_law_tdraw" 2 true (ZaZ PenD L C) Zbe) (c__law_tput : Cal P w K mg base 2 "_law_tput" 2 true AnyG Zbw) (c__law_tsame : Cal P w K mg base 6 "_law_tsame" 2 false AnyG (ZaY 5)) (c__law_twebs : Cal P w K mg base 3 "_law_twebs" 3 true (ZaZ PenD L C) ZbV) (hact : ∀ G, (ZaZ PenD L C) G → CloG P w K mg 7 1 Tact base G) {b_beside : Addr} (m_beside : mg "beside" = some (.ref b_beside)) (C_beside : C 100 (.ref b_beside)) {b_wholly_tied : Addr} (m_wholly_tied : mg "wholly_tied" = some (.ref b_wholly_tied)) (C_wholly_tied : C 101 (.ref b_wholly_tied)) (G : Gh) (hG : (ZaZ PenD L C) G) :
  PDSs (cxOf CX0 P w K mg base ["script", "pen", "turn", "webs", "handed", "many", "ties", "b", "due", "act", "one"] "law" (Zak Zb8) a_f cdv A outer s H E).nox G [] [] [] false ((ZaH Zb8).drop 1) Zi2 :=
 have c_nd := ZgY.nd
 have hT : Zbf L G := ZaZ.tabs lo hG
 (Zae (own2 := []) (ZbH (own := []) PassesOwn.never rfl (Zbu rfl T.b_range Zav) (ZaK c_nd rfl (Or.inl rfl) (by decide))
 (Zae (own2 := []) (Za0 (ZaA c_nd rfl (Or.inl rfl) (ZaS (c__law_twebs.mono) hG hr rfl (Zaa (Zad 1 (pv 1)) (Zaa (ZaS (c__law_tdraw.mono) hG hr rfl (Zaa (Zad 1 (pv 1)) (Zaa (ZaE ixd (ZbZ (Zaa Zav (Zaa Zav Zaf))) (ZaS (c__law_tdraw.mono) hG hr rfl (Zaa (Zad 1 (pv 1)) (Zaa Zav Zaf)) (Zan (Zan ZaB)))) Zaf)) (Zan (Zan ZaB))) (Zaa Zav Zaf))) (Zan (Zan (Zan ZaB))))))
 (Zae (own2 := []) (Za0 (ZaA c_nd rfl (Or.inl rfl) (ZbI (ZhW) rfl T.b_list TF.boot_list (Zaa (Zad 3 (pv 3)) Zaf))))
 (Zae (own2 := []) (Za0 (ZaA c_nd rfl (Or.inl rfl) (Zay (Za5) rfl T.b_len TF.boot_len (Zaa (Zad 3 (pv 3)) Zaf))))
 (Zae (own2 := [6]) (Zcy (ZaA c_nd rfl (Or.inl rfl) (ZbZ Zaf)))
 (Zae (own2 := [6]) (ZbH (own := [6]) PassesOwn.never rfl (Zbu rfl T.b_range (Zad 5 (pv 5))) (ZaK c_nd rfl (Or.inr rfl) (by decide))
 (Zae (own2 := [6]) (Zfa (own := [6]) (i := 6) (by decide) (pv 6) (ZbN rfl (⟨rfl, rfl, by decide +kernel, rfl, by decide +kernel, rfl, by decide +kernel, by decide +kernel⟩ : BlkS _ ["script", "pen", "turn", "webs", "handed", "many", "ties", "b", "due", "act", "one"] (Zak Zb8).names ["a", "b"] [none, some 7] _) (ZdT rfl T.b_range (Zad 7 (pv 7))) (fun _ _ _ _ _ _ => (ZaK (show (["a", "b"] : List Str).Nodup by decide +kernel) rfl (Or.inl rfl) rfl)) (fun _ _ _ _ _ _ => Zcz) (fun _ _ _ _ _ _ => (ZaT (Zaa (Zad 0 (pv 0)) (Zaa (Zad 1 (pv 1)) Zaf))))))
 (Zaq (own := [6]))))
 (Zae (own2 := []) (PDS.frz (own := [6]) (own2 := []) (Za0 (ZaA c_nd rfl (Or.inl rfl) (ZbZ (Zaa (ZaS (c__law_tput.mono) trivial hr rfl (Zaa (ZaT (Zaa (Zad 5 (pv 5)) (Zaa (ZaT Zaf) Zaf))) (Zaa (Zad 3 (pv 3)) Zaf)) (Zan (Zan ZaB))) (Zaa (ZaS (c__law_tput.mono) trivial hr rfl (Zaa (ZaT (Zaa (Zad 5 (pv 5)) (Zaa (ZbI (Zch) rfl T.b_tuple TF.boot_tuple (Zaa (Zad 6 (pv 6)) Zaf)) Zaf))) (Zaa (Zad 3 (pv 3)) Zaf)) (Zan (Zan ZaB))) Zaf))))))
 (Zae (own2 := []) (Za0 (Zfz c_nd rfl (Or.inl rfl) rfl (⟨rfl, rfl, by decide +kernel, rfl, by decide +kernel, rfl, by decide +kernel, by decide +kernel⟩ : BlkS _ ["script", "pen", "turn", "webs", "handed", "many", "ties", "b", "due", "act", "one"] (Zak Zb8).names ["one"] [none] _) (Zdd (Zad 8 (pv 8))) (fun _ _ _ _ _ _ => (ZaK (show (["one"] : List Str).Nodup by decide +kernel) rfl (Or.inl rfl) rfl)) (fun _ _ _ _ _ _ => Zcz) (fun _ _ _ _ _ _ => (ZaT (Zaa (ZaE ixd (Zad 0 (pv 0)) Zav) (Zaa (ZbI (Zch) rfl T.b_tuple TF.boot_tuple (Zaa (Zay Zf5 rfl T.b_sorted TF.boot_sorted (Zaa (ZaE ixd (Zad 0 (pv 0)) Zav) Zaf)) Zaf)) Zaf))))))
 (Zae (own2 := []) (ZbH (own := []) PassesOwn.never rfl (PDI.n (Zg7 rfl T.b_zip (ZbZ (Zaa (ZjN hG rfl m_beside C_beside) (Zaa (ZjN hG rfl m_wholly_tied C_wholly_tied) Zaf))) (Zad 8 (pv 8)))) (Zfb rfl c_nd rfl rfl (Or.inl rfl) (Or.inl rfl) (by decide) (by decide) (hp := ZcJ (Zb3 c_nd rfl (Or.inl rfl)) (ZcJ (Zb3 c_nd rfl (Or.inl rfl)) ZfV)))
 (Zae (own2 := []) (Zce (own' := []) (PDW.pt (ZjJ (Zl5 (ZcK (ZaS (c__law_tsame.mono) trivial hr rfl (Zaa (Zg8 (hact G hG) (hr.mono (by decide)) (pv 9) (Zaa (Zad 4 (pv 4)) Zaf) (Zan ZaB)) (Zaa (Zad 10 (pv 10)) Zaf)) (Zan (Zan ZaB))))) (Zh7 (ZcL (ZfB hr.units) (Zad 4 (pv 4)) (Zad 3 (pv 3))))))
 (Zae (own2 := []) (Za2 (PD.weak Zdp))
 (Zaq (own := [])))
 Zaq)
 (Zaq (own := []))))
 (Zaq (own := [])))))))))))
 (Zae (own2 := []) (Za2 (PD.weak Zdp))
 (Zaq (own := []))))
end K60
namespace K60
open PySem.Spec PyProof.Rows
open PySem L2 TF TQ
open TP
open TP2
open TP3
theorem Zd4 : FnScope ["pen", "many", "found", "one", "two"] ["pen", "many"] (Zak ZbT) := ⟨rfl, rfl, rfl, by decide +kernel, rfl, by decide +kernel, by decide +kernel⟩
set_option maxHeartbeats 4000000 in
theorem ZgD {P : Program} {w : World} {K : PySem.W.Frag} {mg : Str → Option Value} {base : Heap} {a_f : Addr} {fd_f : FuncData} (F : Fun K "_law_tdraw" "_law_tdraw" ZbT a_f fd_f) (T : Txt mg) :
  FnOk P w K mg base CX0 1 a_f fd_f ["pen", "many"] (spD 2 true PenD Zbe) := by
 have nd := Zd4.nd
 refine F.ok Zd4 (fun vs H Q E h => ?_) fun cdv A outer s0 H vs Q E hr h => ?_
 ·obtain ⟨G, Hf, ds, pn, d, pn', _, e, _⟩ := h
  exact e
 ·obtain ⟨p, m, rfl, hs⟩ := Zkf (K := K) (N := fun _ H' => Q .non H') h
  have hu := L2.hu_of hr
  refine ⟨_, Zbp (ZiJ (PW.pt (ZmB (ZdA ZiO (Ze8 Zdg rfl T.b_len TF.boot_len (ZaV (ZbG hu (pv 0) Zbr (fun _ _ => rfl)) Zbs)) ZaR (ZdF _)) (ZlT (ZdA Zly (ZgM ZeP (ZbG hu (pv 0) Zbr (fun _ _ => rfl)) ZaR (fun _ _ => rfl)) (pv 1) (ZdF _)))))
    (Zc6 (ZfT (ZiK PySem.F.plainAttrs_list PySem.F.slot_list_pop PySem.F.type_list_pop ZkY (ZbG hu (pv 0) Zbr (fun _ _ => rfl)) (ZaV ZaR Zbs)))) ZfS)
   (Zbp (ZiJ (ZdA ZiO (Ze8 Zdg rfl T.b_len TF.boot_len (ZaV (ZbG hu (pv 0) Zbr (fun _ _ => rfl)) Zbs)) ZaR (ZdF _))
    (Zbp (Zda (i := 2) nd rfl (Or.inl rfl) (Za8 ZcS (ZgM ZeP (ZbG hu (pv 0) Zbr (fun _ _ => rfl)) ZaR (fun _ _ => rfl)) (pv 1)))
    (Zbp (ZmG (Za8 Zia (ZgM ZeP (ZbG hu (pv 0) Zbr (fun _ _ => rfl)) ZaR (fun _ _ => rfl)) (pv 1)) (ZmK (ZbG hu (pv 0) Zbr (fun _ _ => rfl)) ZaR ZkK))
    (Zc6 (ZdB (pv 2))))) ZfS)
   (Zbp (ZlV hu (pv 0) Zbr (Za8 ZcT (ZbG hu (pv 0) Zbr (fun _ _ => rfl)) ZaR) rfl)
   (Zbp (Zda (i := 3) nd rfl (Or.inl rfl) (Za8 ZcS (Za8 ZcT (ZbG hu (pv 0) Zbr (fun _ _ => rfl)) (Za8 ZdD (Za8 ZdD ZaR (ZbG hu (pv 0) Zbr (fun _ _ => rfl))) (ZbG hu (pv 0) Zbr (fun _ _ => rfl)))) ZaR))
   (Zbp (Zda (i := 4) nd rfl (Or.inl rfl) (Za8 ZcS (Za8 ZcT (Za8 ZcT (Za8 ZdD (pv 3) (pv 3)) (Za8 ZdD ZaR (ZbG hu (pv 0) Zbr (fun _ _ => rfl)))) ZaR) ZaR))
   (Zc6 (ZdB (Za8 ZcS (Za8 Zia (Za8 ZcS (Za8 ZcT (Za8 ZdD (pv 4) (pv 4)) (pv 3)) ZaR) ZaR) (pv 1)))))))), hs⟩
theorem Zeg : FnScope ["script", "mixed", "cell"] ["script"] (Zak ZbM) := ⟨rfl, rfl, rfl, by decide +kernel, rfl, by decide +kernel, by decide +kernel⟩
set_option maxHeartbeats 4000000 in
theorem Zhb {P : Program} {w : World} {K : PySem.W.Frag} {mg : Str → Option Value} {base : Heap} {a_f : Addr} {fd_f : FuncData} (F : Fun K "_law_tpen" "_law_tpen" ZbM a_f fd_f) (T : Txt mg) :
  FnOk P w K mg base CX0 1 a_f fd_f ["script"] (Zlt K) := by
 have nd := Zeg.nd
 refine F.ok Zeg (fun vs H Q E h => ?_) fun cdv A outer s0 H vs Q E hr h => ?_
 ·obtain ⟨a, ns, rfl, _⟩ := h
  rfl
 ·obtain ⟨a, ns, rfl, hsq⟩ := id h
  refine ⟨_, Zbp (Zda (i := 1) nd rfl (Or.inl rfl) ZaR)
   (Zbp (ZjC PassesOwn.never rfl (ZfU (pv 0)) (Zb3 (i := 2) nd rfl (Or.inl rfl)) (Zc6 (Zda (i := 1) nd rfl (Or.inl rfl) (Za8 ZcS (Za8 ZcT (Za8 ZcT (Za8 ZdD (pv 1) ZaR) (Za8 ZcS (pv 2) ZaR)) ZaR) ZaR))))
   (Zc6 (ZdB (Zl2 (Ze7 Zbr (pv 1) (Ze7 Zbr ZaR (Ze7 Zbr
    (ZkQ (N' := ["cell"]) (src := [none]) rfl (⟨rfl, rfl, by decide +kernel, rfl, by decide +kernel, rfl, by decide +kernel, by decide +kernel⟩ : BlkS _ ["script", "mixed", "cell"] (Zak ZbM).names ["cell"] [none] _) (ZfU (pv 0)) (fun _ _ _ _ _ _ => Zb3 (i := 0) (show (["cell"] : List Str).Nodup by decide +kernel) rfl (Or.inl rfl)) (fun _ _ _ _ _ _ => Zg5 (ZdA ZnE (pv 0) (Za8 ZmZ ZaR ZaR) (ZdF _))) (fun _ _ _ _ _ _ => pv 0)) ZlW))) rfl rfl (by simp) (by decide))))), ZlZ hsq.1 hsq.2.1 hsq.2.2⟩
end K60
namespace TP2
open PySem L2 TF TP
theorem Zmj (n way by' i j : Nat) (hb : 0 < by') (hway : way < 9) (ρ0 ρ1 : D) (t : Option D) (o8 : Option D) (s : Pn) : ∃ b, (dOp dIx (dLst (Zab (dC (.bl false)) (Zab (dC (.bl true)) (Zab (dOp dIn (dOp dSub (dVar 7) (dVar 6)) (dTup (Zab (dC (.int 1)) (Zab (dOp dSub (dVar 2) (dC (.int 1))) dNil)))) (Zab (dOp dNeO (dOp dMod (dVar 6) (dVar 4)) (dOp dMod (dVar 7) (dVar 4))) dNil))))) (Zaw Zdt (Zab (dVar 3) (Zab (dC (.int 3)) dNil)))) [some ρ0, some ρ1, some (.int (n : Int)), some (.int (way : Int)), some (.int (by' : Int)), t, some (.int (i : Int)), some (.int (j : Int)), o8] s = some (.bl b, s) := by
 have e3 : ∃ b, dIn (.int ((j : Int) - i)) (.tup [.int 1, .int ((n : Int) - 1)]) = some (.bl b) := by
  refine ⟨inD (.int ((j : Int) - i)) [.int 1, .int ((n : Int) - 1)], ?_⟩
  have h : okIn (.int ((j : Int) - i)) [.int 1, .int ((n : Int) - 1)] = true := by simp [okIn, Zag, ZaC, dep, deps]
  simp only [dIn, dInB, h, if_true, Option.map]
 obtain ⟨b3, e3⟩ := e3
 have hm : ∀ z : Int, dMod (.int z) (.int (by' : Int)) = some (.int (z % by')) := fun z => by
  show (if (decide (0 < (by' : Int))) = true then _ else _) = _
  rw [if_pos (by rw [decide_eq_true_eq]; omega)]
 have hl : TF.LT (fun d => ∃ b, d = .bl b) 4 (.lst [.bl false, .bl true, .bl b3, .bl (!((i : Int) % by' == (j : Int) % by'))]) := .cons ⟨_, rfl⟩ (.cons ⟨_, rfl⟩ (.cons ⟨_, rfl⟩ (.cons ⟨_, rfl⟩ (LT.nil _))))
 obtain ⟨x, ex, b, rfl⟩ := hl.pick (r := min way 3) (by omega)
 refine ⟨b, Zar (Zhh (Zac rfl (Zac rfl (Zac (Zar (d := .int ((j : Int) - i)) (e := .tup [.int 1, .int ((n : Int) - 1)]) (Zar (d := .int (j : Int)) (e := .int (i : Int)) rfl rfl rfl) (Zh0 rfl (Zar (d := .int (n : Int)) (e := .int 1) rfl rfl rfl)) e3) (Zac (Zar (Zar (d := .int (i : Int)) (e := .int (by' : Int)) rfl rfl (hm _)) (Zar (d := .int (j : Int)) (e := .int (by' : Int)) rfl rfl (hm _)) (nei _ _)) rfl)))) (by show 4 ≤ sizeLine; decide)) (Zau (c := .int ((min way 3 : Nat) : Int)) (Zac rfl (Zac rfl rfl)) ?_) ex⟩
 show some (D.int (if (3 : Int) < (way : Int) then 3 else (way : Int))) = _
 congr 2
 split <;> omega
set_option maxHeartbeats 1000000 in
theorem ZlJ {T : Nat} {s : Pn} (ok : okD T s) (hT : T < 900000000) (most : Nat) (hm : most ≤ 24) : Ok (Zcw [.pen, .int (most : Int)]) s fun d s' => okD (T + 1000) s' ∧ ∃ n ties, d = webD n ties ∧ n ≤ most ∧ Zb9 n ties := by
 refine Ok.runB rfl ?_
 refine Ok.seq (.sset (.drawD (m := most + 1) ok (by omega) (Zac rfl (Zac (Zar (d := .int (most : Int)) (e := .int 1) rfl rfl rfl) rfl)) (by omega) (by omega) fun n s1 hn ok1 => ?_))
 refine Ok.seq (.sset (.drawD (m := 9) ok1 (by omega) (Zac rfl (Zac rfl rfl)) (by omega) (by omega) fun way s2 hw ok2 => ?_))
 refine Ok.seq (.sset (.op (.eq (a := .int 1) rfl (.drawD (m := 5) ok2 (by omega) (Zac rfl (Zac rfl rfl)) (by omega) (by omega) fun r s3 hr ok3 => ⟨.int ((1 + r : Nat) : Int), by simp [dAdd], ?_⟩))))
 generalize hby : 1 + r = by'
 refine Ok.seq (.sown (.eq (a := .lst []) rfl ⟨rfl, ?_⟩))
 refine Ok.seq (.sfor (fun i ρ s' => okD (T + 3 + i * 24) s' ∧ ∃ (ties : List (Nat × Nat)) (o6 o7 o8 : Option D), ties.Sublist (preP n i) ∧ ρ = [some .pen, some (.int (most : Int)), some (.int (n : Int)), some (.int (way : Int)), some (.int (by' : Int)), some (.lst (ties.map Zah)), o6, o7, o8]) (.eq (Zbj rfl (by omega)) ⟨⟨ok3.mono (by omega), [], none, none, none, List.nil_sublist _, rfl⟩, fun i d ρ s' hd hI => ?_, fun ρ' s' hI => ?_⟩))
 ·obtain ⟨ok5, ties, o6, o7, o8, hsub, rfl⟩ := hI
  obtain ⟨hi, rfl⟩ := ZbO hd
  refine ⟨_, rfl, ?_⟩
  refine Ok.seq (.sfor (fun j ρ s' => okD (T + 3 + i * 24 + j) s' ∧ ∃ (ties : List (Nat × Nat)) (o7 o8 : Option D), ties.Sublist (preP n i ++ (List.range j).map fun k => (i, i + 1 + k)) ∧ ρ = [some .pen, some (.int (most : Int)), some (.int (n : Int)), some (.int (way : Int)), some (.int (by' : Int)), some (.lst (ties.map Zah)), some (.int (i : Int)), o7, o8]) (.eq (Zgt (a := i + 1) (n := n) (Zar (d := .int (i : Int)) (e := .int 1) (c := .int ((i + 1 : Nat) : Int)) rfl rfl (by simp [dAdd])) rfl (by omega) (by omega)) ⟨⟨ok5, ties, o7, o8, by simpa using hsub, rfl⟩, fun j d ρ s' hd hJ => ?_, fun ρ' s' hJ => ?_⟩))
  ·obtain ⟨ok6, ties, o7, o8, hsub, rfl⟩ := hJ
   obtain ⟨hj, rfl⟩ := Zc5 hd
   refine ⟨_, rfl, ?_⟩
   have fin : ∀ b s7, okD (T + 3 + i * 24 + j + 1) s7 → Ok (sSeq (sIf (asB (dVar 8)) (sSeq (sApp 5 (fun ρ => (dTup (Zab (dVar 6) (Zab (dVar 7) dNil))) (hide [5] ρ))) Zas) Zas) Zas [some .pen, some (.int (most : Int)), some (.int (n : Int)), some (.int (way : Int)), some (.int (by' : Int)), some (.lst (ties.map Zah)), some (.int (i : Int)), some (.int ((i + 1 + j : Nat) : Int)), some (.bl b)]) s7
     fun o s' => ∃ ρ', o = .nx ρ' ∧ okD (T + 3 + i * 24 + (j + 1)) s' ∧ ∃ (ties : List (Nat × Nat)) (o7 o8 : Option D), ties.Sublist (preP n i ++ (List.range (j + 1)).map fun k => (i, i + 1 + k)) ∧ ρ' = [some .pen, some (.int (most : Int)), some (.int (n : Int)), some (.int (way : Int)), some (.int (by' : Int)), some (.lst (ties.map Zah)), some (.int (i : Int)), o7, o8] := by
    intro b s7 ok7
    refine Ok.seq (.sif (.eq (ZaX rfl) ?_))
    cases b with
    | true =>
     refine .seq (.sapp (ds := ties.map Zah) rfl (ZlO hsub (by omega) hi (by omega)) (.eq (Zbg (Zac rfl (Zac rfl rfl)) two_le) ?_))
     refine .next (.next ⟨_, rfl, ok7, ties ++ [(i, i + 1 + j)], some (.int ((i + 1 + j : Nat) : Int)), some (.bl true), ?_, ?_⟩)
     ·rw [List.range_succ, List.map_append, ← List.append_assoc]
      exact List.Sublist.append hsub (List.Sublist.refl _)
     ·rw [List.map_append]; rfl
    | false =>
     refine .next (.next ⟨_, rfl, ok7, ties, some (.int ((i + 1 + j : Nat) : Int)), some (.bl false), ?_, rfl⟩)
     rw [List.range_succ, List.map_append, ← List.append_assoc]
     exact hsub.trans (List.sublist_append_left _ _)
   obtain ⟨b, eb⟩ := Zmj n way by' i (i + 1 + j) (by omega) hw .pen (.int (most : Int)) none o8 s'
   refine Ok.seq (.sset (.eq eb ?_))
   refine Ok.seq (.sif (.eq (ZaX (Zar (d := .int (way : Int)) (e := .int 3) rfl rfl rfl)) ?_))
   by_cases h3 : (3 : Int) < (way : Int)
   ·rw [if_pos (decide_eq_true h3)]
    have hjn : i * 24 ≤ 24 * 24 := Nat.mul_le_mul_right 24 (by omega)
    refine .seq (.sset (.op (.drawD (m := 6) ok6 (by omega) (Zac rfl (Zac rfl rfl)) (by omega) (by omega) fun v s7 hv ok7 => .eq (a := .int (by' : Int)) rfl ⟨_, rfl, ?_⟩)))
    exact .next (fin _ s7 ok7)
   ·rw [if_neg (by simp; omega)]
    exact .next (fin b s' (ok6.mono (by omega)))
  ·obtain ⟨ok6, ties, o7', o8', hsub, rfl⟩ := hJ
   rw [ZaJ] at hsub ok6
   refine Ok.next ⟨_, rfl, ok6.mono (by rw [Nat.add_mul]; omega), ties, some (.int (i : Int)), o7', o8', ?_, rfl⟩
   rw [ZcR]
   exact hsub
 ·obtain ⟨ok5, ties, o6, o7, o8, hsub, rfl⟩ := hI
  rw [ZaJ] at hsub ok5
  have hjn : n * 24 ≤ 24 * 24 := Nat.mul_le_mul_right 24 (by omega)
  exact Ok.seq (.sret (.eq (Zbg (Zac rfl (Zac (Zau (Zac rfl rfl) rfl) rfl)) two_le) ⟨ok5.mono (by omega), n, ties, rfl, by omega, hsub⟩))
end TP2
namespace TP2
open PySem L2 TF TP
noncomputable abbrev nD (i : Nat) : D := .int (i : Int)
theorem Zhv (p : Nat × Nat) (ties : List (Nat × Nat)) : dIn (Zah p) (.dt (kvT [] ties)) = some (.bl (decide (p ∈ ties))) := by
 have e : dInB (Zah p) (.dt (kvT [] ties)) = some (decide (p ∈ ties)) := by
  show (ZbB [.int (p.1 : Int), .int (p.2 : Int)]).map (fun k => (valV (kvT [] ties) k).isSome) = _
  show some ((valV (kvT [] ties) (keyP p)).isSome) = _
  rw [Zhl]
  simp [valV]
 unfold dIn
 rw [e]; rfl
theorem Zkv {α : Type} (l : List α) (p : α → Bool) : dAll [.lst (l.map fun x => D.bl (p x))] = some (.bl (l.all p)) := by
 show (ZaQ _).map _ = _
 rw [show l.map (fun x => D.bl (p x)) = (l.map p).map D.bl by rw [List.map_map]; rfl, ZhX]
 show some (D.bl _) = some (D.bl _)
 rw [List.all_map]; rfl
theorem Zhg (n : Nat) (ties : List (Nat × Nat)) (r : List (Option D)) (s : Pn) (hl : ties.length ≤ 100000) : Zaw ZdM (Zab (Za9 [none] (Zcs (dOp dIx (dVar 0) (dC (.int 1)))) (gOne 0) ZaW (dTup (Zab (dVar 0) (Zab (dC (.bl true)) dNil)))) dNil) (some (webD n ties) :: r) s = some (.dt (kvT [] ties), s) := by
 have hc : Za9 [none] (Zcs (dOp dIx (dVar 0) (dC (.int 1)))) (gOne 0) ZaW (dTup (Zab (dVar 0) (Zab (dC (.bl true)) dNil))) (some (webD n ties) :: r) s = some (.lst ((ties.map Zah).map fun d => D.tup [d, .bl true]), s) := by
  have q := Zb5 (src := [none]) (fi := Zcs (dOp dIx (dVar 0) (dC (.int 1)))) (τ := gOne 0) (ft := ZaW) (fe := dTup (Zab (dVar 0) (Zab (dC (.bl true)) dNil))) (ρ := some (webD n ties) :: r) (s := s) (ds := ties.map Zah) (fun d => [some d]) (fun _ => true) (fun d => D.tup [d, .bl true])
   (ZlR (Zar (d := webD n ties) (e := .int 1) rfl rfl web1)) (by rw [List.length_map, ZaF]; omega)
   (fun d hd => ⟨rfl, rfl, fun _ => Zh0 rfl rfl⟩)
  rw [ZbW] at q
  exact q
 refine Zau (Zac hc rfl) ?_
 rw [List.map_map]
 show (if ((ties.map ((fun d => D.tup [d, .bl true]) ∘ Zah)).length ≤ sizeLine) then (Zcn [] _).map D.dt else none) = _
 rw [if_pos (by rw [List.length_map, ZaF]; omega)]
 have e := Zei ties []
 show (Zcn [] (ties.map fun p => D.tup [Zah p, .bl true])).map D.dt = _
 rw [e]; rfl
end TP2
namespace TP2
open PySem L2 TF TP
end TP2
namespace TP2
open PySem L2 TF TP
end TP2
namespace TP2
open PySem L2 TF TP
end TP2
namespace TP3
open PySem L2 TF TP TS
open TP2
noncomputable def shp : Nat → D → Prop
 | 0, _ => False
 | _ + 1, .int _ => True
 | m + 1, .tup ds => ds.length ≤ 100000 ∧ ∀ d ∈ ds, shp m d
 | m + 1, .lst ds => ds.length ≤ 100000 ∧ ∀ d ∈ ds, shp m d
 | _ + 1, _ => False
theorem Zkz (l : List D) : zipD l l = l.map fun d => D.tup [d, d] := by
 unfold zipD
 induction l with
 | nil => rfl
 | cons a l ih => rw [List.zipWith_cons_cons, ih]; rfl
theorem Zfr {m : Nat} {d : D} {l : List D} (hz : ∀ s, ZeR (dVar 0) (dVar 1) [some d, some d] s = some (zipD l l, s)) (hd : dLen [d] = some (.int l.length)) (hl : l.length ≤ 100000) (h : ∀ x ∈ l, ∀ s, ZaY m [x, x] s = some (.bl true, s)) (s : Pn) :
  vAnd (dOp dEqO (Zaw dLen (Zab (dVar 0) dNil)) (Zaw dLen (Zab (dVar 1) dNil))) (Zaw dAll (Zab (Za9 [none, none] (ZeR (dVar 0) (dVar 1)) (ZeS 0 1) ZaW (dFn (ZaY m) (Zab (dVar 0) (Zab (dVar 1) dNil)))) dNil)) [some d, some d] s = some (.bl true, s) := by
 have hi := hz s
 rw [Zkz] at hi
 have hc := Zb5 (src := [none, none]) (fi := ZeR (dVar 0) (dVar 1)) (τ := ZeS 0 1) (ft := ZaW) (fe := dFn (ZaY m) (Zab (dVar 0) (Zab (dVar 1) dNil))) (ρ := [some d, some d]) (s := s) (ds := l.map fun d => D.tup [d, d]) (fun d => match d with | .tup [a, b] => [some a, some b] | _ => []) (fun _ => true) (fun _ => .bl true) hi (by rw [List.length_map, ZaF]; omega) (fun d hd => by
  obtain ⟨x, hx, rfl⟩ := List.mem_map.mp hd
  exact ⟨rfl, rfl, fun _ => ZbD (Zac rfl (Zac rfl rfl)) (h x hx s)⟩)
 rw [ZbW] at hc
 refine ZgU (Zar (d := .int l.length) (e := .int l.length) (c := .bl true) (Zau (Zac rfl rfl) hd) (Zau (Zac rfl rfl) hd) (by rw [eqi]; simp)) (Zau (Zac hc rfl) ?_)
 have := Zkv (l.map fun d => D.tup [d, d]) (fun _ => true)
 rw [this]
 simp
theorem ZdP : ∀ {m : Nat} {d : D}, shp m d → ∀ s, ZaY m [d, d] s = some (.bl true, s)
 | 0, _, h, _ => h.elim
 | m + 1, .int a, _, s => by
  refine Zbl rfl (Za7 (Zcm (ZaX (Zar (d := .int a) (e := .non) (c := .bl false) rfl rfl rfl)) rfl) (Za7 (Zcm (ZaX (Zau (c := .bl false) (Zac rfl (Zac rfl rfl)) rfl)) rfl) (ZbF (Zlu (ZaX (Zau (c := .bl true) (Zac rfl (Zac rfl rfl)) rfl)) (ZbF (ZbU ?_))))))
  refine ZgU (Zau (Zac rfl (Zac rfl rfl)) rfl) (ZgU (ZhY (a := false) (Zau (Zac rfl (Zac rfl rfl)) rfl)) (Zar (d := .int a) (e := .int a) rfl rfl ?_))
  rw [eqi]; simp
 | m + 1, .lst l, h, s => by
  refine Zbl rfl (Za7 (Zcm (ZaX (Zar (d := .lst l) (e := .non) (c := .bl false) rfl rfl rfl)) rfl) (Za7 (Zcm (ZaX (Zau (c := .bl false) (Zac rfl (Zac rfl rfl)) rfl)) rfl) (Za7 (Zcm (ZaX (Zau (c := .bl false) (Zac rfl (Zac rfl rfl)) rfl)) rfl) (Za7 (Zcm (ZaX (Zau (c := .bl false) (Zac rfl (Zac rfl rfl)) rfl)) rfl) (Za7 (Zcm (Zjb (ZaX (Zar (d := .bl false) (e := .bl false) (Zau (Zac rfl (Zac rfl rfl)) rfl) (Zau (Zac rfl (Zac rfl rfl)) rfl) (neb _ _))) (ZaX (Zar (d := .bl true) (e := .bl true) (Zau (Zac rfl (Zac rfl rfl)) rfl) (Zau (Zac rfl (Zac rfl rfl)) rfl) (neb _ _)))) rfl) (ZbF (ZbU ?_)))))))
  exact Zfr (fun _ => rfl) rfl h.1 (fun x hx s => ZdP (h.2 x hx) s) s
 | m + 1, .tup l, h, s => by
  refine Zbl rfl (Za7 (Zcm (ZaX (Zar (d := .tup l) (e := .non) (c := .bl false) rfl rfl rfl)) rfl) (Za7 (Zcm (ZaX (Zau (c := .bl false) (Zac rfl (Zac rfl rfl)) rfl)) rfl) (Za7 (Zcm (ZaX (Zau (c := .bl false) (Zac rfl (Zac rfl rfl)) rfl)) rfl) (Za7 (Zcm (ZaX (Zau (c := .bl false) (Zac rfl (Zac rfl rfl)) rfl)) rfl) (Za7 (Zcm (Zjb (ZaX (Zar (d := .bl true) (e := .bl true) (Zau (Zac rfl (Zac rfl rfl)) rfl) (Zau (Zac rfl (Zac rfl rfl)) rfl) (neb _ _))) (ZaX (Zar (d := .bl false) (e := .bl false) (Zau (Zac rfl (Zac rfl rfl)) rfl) (Zau (Zac rfl (Zac rfl rfl)) rfl) (neb _ _)))) rfl) (ZbF (ZbU ?_)))))))
  exact Zfr (fun _ => rfl) rfl h.1 (fun x hx s => ZdP (h.2 x hx) s) s
end TP3
namespace TP3
open PySem L2 TF TP TS
open TP2
theorem Zfu (n : Nat) : (List.range n).Pairwise (· < ·) := List.pairwise_lt_range
section
variable {m n : Nat} {f : Nat → Nat} {tm tn : List (Nat × Nat)}
end
end TP3
namespace TP3
open PySem L2 TF TP TS
open TP2
theorem Zdh (ties : List (Nat × Nat)) (a b : Nat) (s : Pn) : Zbc [.dt (kvT [] ties), .int a, .int b] s = some (.bl (tied ties a b), s) := by
 simp [Zbc, ZfG, runB, sSeq, sRet, Zas, dOp, Zaw, Zab, dNil, dTup, dVar, Zao, mret, mOf, Zdt, Zi7, two_le, ZiR, Zhv, tied]
theorem Zmk {as : List Nat} {j : Nat} (hj : j < as.length) : atI (as.map nD) (j : Int) = some (nD (as.getD j 0)) := by
 refine Zb6 ?_
 rw [List.getElem?_map, List.getD_eq_getElem?_getD, List.getElem?_eq_getElem hj]
 rfl
theorem ZjZ (ps : List Nat) : dLen [.lst (ps.map nD)] = some (nD ps.length) := by
 show some (D.int ((ps.map nD).length : Nat)) = _
 rw [List.length_map]
end TP3
namespace TP3
open PySem L2 TF TP TS
open TP2
theorem Zme {d : D} (h : Zag d = true) (hd : dep d ≤ 60) : dNeO d d = some (.bl false) := by
 unfold dNeO okEq
 rw [if_pos (by simp [h, hd]), Zff d h]; rfl
theorem Zg4 : ∀ {ds : List D}, (∀ d ∈ ds, Zag d = true) → ZaC ds = true
 | [], _ => by simp [ZaC]
 | d :: ds, h => by
  simp only [ZaC, Bool.and_eq_true]
  exact ⟨h d (by simp), Zg4 fun d hd => h d (by simp [hd])⟩
end TP3
namespace TP3
open PySem L2 TF TP TS
open TP2
end TP3
namespace TP3
open PySem L2 TF TP TS
open TP2
section
variable (ap : Nat → Nat → Bool)
end
section
variable {ap : Nat → Nat → Bool}
end
section
variable {n : Nat} {A : Nat → List Nat} {ap : Nat → Nat → Bool}
end
end TP3
namespace TP3
open PySem L2 TF TP TS
open TP2
end TP3
namespace TP3
open PySem L2 TF TP TS
open TP2
end TP3
namespace TP3
open PySem L2 TF TP TS
open TP2
end TP3
namespace TP3
open PySem L2 TF TP TS
open TP2
section
variable (ties : List (Nat × Nat))
end
section
variable {ties : List (Nat × Nat)} {many : Nat}
end
end TP3
namespace TP3
open PySem L2 TF TP TS
open TP2
end TP3
namespace TP3
open PySem L2 TF TP TS
open TP2
end TP3
namespace TP3
open PySem L2 TF TP TS
open TP2
noncomputable def ZbQ (p : Nat × Nat) : List Int := [(p.1 : Int), (p.2 : Int)]
theorem Zhk {p q : Nat × Nat} (h : p.1 < q.1 ∨ p.1 = q.1 ∧ p.2 < q.2) : leT (ZbQ p) (ZbQ q) = true := by
 unfold leT ZbQ
 rw [Bool.not_eq_true']
 rcases h with h | ⟨h1, h2⟩
 ·simp only [lexB]
  have e1 : ¬ ((q.1 : Int) < (p.1 : Int)) := by omega
  have e2 : ¬ ((q.1 : Int) = (p.1 : Int)) := by omega
  simp [e1, e2]
 ·simp only [lexB]
  have e1 : ¬ ((q.1 : Int) < (p.1 : Int)) := by omega
  have e2 : ¬ ((q.2 : Int) < (p.2 : Int)) := by omega
  have e3 : ¬ ((q.2 : Int) = (p.2 : Int)) := by omega
  simp [e1, e2, e3]
theorem Zgj (n : Nat) : ∀ i, (preP n i).Pairwise fun p q => leT (ZbQ p) (ZbQ q) = true
 | 0 => by unfold preP; simp
 | i + 1 => by
  rw [ZcR]
  refine List.pairwise_append.mpr ⟨Zgj n i, List.pairwise_map.mpr ((Zfu _).imp fun {a b} h => Zhk (p := (i, i + 1 + a)) (q := (i, i + 1 + b)) (.inr ⟨rfl, by show i + 1 + a < i + 1 + b; omega⟩)), fun p hp q hq => ?_⟩
  obtain ⟨k, _, rfl⟩ := List.mem_map.mp hq
  have := (ZdU hp).1
  exact Zhk (.inl this)
theorem ZkB {n : Nat} {ties : List (Nat × Nat)} (hw : Zb9 n ties) : (ties.map ZbQ).Pairwise fun x y => leT x y = true := List.pairwise_map.mpr ((Zgj n n).sublist hw)
theorem Zjt {n : Nat} {ties L : List (Nat × Nat)} (hw : Zb9 n ties) (hp : L.Perm ties) : Za1 (L.map ZbQ) = ties.map ZbQ := (Zfq (hp.symm.map _) (ZkB hw)).symm
end TP3
namespace TQ
open PySem L2 TF TS
open TP
open TP2
open TP3
theorem Zku {T : Nat → List D → M D} {i t : Nat} {fs : Rho → M (List D)} {ρ : Rho} {s s1 : Pn} {ds cds : List D} {r : Option (D × Pn)} (h1 : (ρ[i]?).bind id = some (.clo t cds)) (h2 : fs ρ s = some (ds, s1)) (h3 : T t (ds ++ cds) s1 = r) : dApp T i fs ρ s = r := by
 unfold dApp Zao dVar mOf
 rw [h1]
 simp only [h2]
 exact h3
theorem Zke {F : List D → M D} {t : Nat} {cix : List Nat} {f : Rho → M D} {ρ : Rho} {s s1 s2 : Pn} {d c : D} {cds : List D} (h1 : f ρ s = some (d, s1)) (h2 : ZeU ρ cix = some cds) (n1 : ZaN d = true) (n2 : ZaU cds = true) (h3 : F [d, .clo t cds] s1 = some (c, s2)) (n3 : ZaN c = true) : dFnC F t cix f ρ s = some (c, s2) := by
 unfold dFnC Zao mOf
 rw [h1, h2]
 simp only
 rw [if_pos (by rw [n1, n2]; rfl), h3]
 simp only
 rw [if_pos n3]
 rfl
theorem ZcU : ∀ {ds : List D}, (∀ d ∈ ds, ZaN d = true) → ZaU ds = true
 | [], _ => rfl
 | d :: ds, h => by
  show (ZaN d && ZaU ds) = true
  rw [h d List.mem_cons_self, ZcU fun x (hx : x ∈ ds) => h x (List.mem_cons_of_mem _ hx)]
  rfl
theorem ZlS {n : Nat} {f : Rho → M D} {ds : List D} {s : Pn} {r : Option (D × Pn)} (hl : ds.length = n) (h : f (ds.map some) s = r) : runE n f ds s = r := by
 unfold runE
 rw [if_pos hl]
 exact h
theorem Zgo (n : Nat) (ties : List (Nat × Nat)) : ZaN (webD n ties) = true := by
 have : ZaU (ties.map Zah) = true := ZcU fun d hd => by obtain ⟨p, _, rfl⟩ := List.mem_map.mp hd; rfl
 simp only [webD, ZaN, ZaU, this]; rfl
theorem Zhd (lo : Int) (n : Nat) : ZaU (ZaD lo n) = true := ZcU fun d hd => by
 unfold ZaD at hd
 obtain ⟨i, _, rfl⟩ := List.mem_map.mp hd
 rfl
theorem Zhe (l : List (Nat × Nat)) : ZaU (l.map Zah) = true := ZcU fun d hd => by obtain ⟨p, _, rfl⟩ := List.mem_map.mp hd; rfl
theorem Zd8 {row : D} {ds cds : List D} {t : Nat} (h : SeqD row ds) (hn : ds.length ≤ 1000) (b : Nat × Nat → Bool) (s : Pn) (hb : ∀ p ∈ allP ds.length, Tl t ([ds.getD p.1 .non, ds.getD p.2 .non] ++ cds) s = some (.bl (b p), s)) : Zbv [row, .clo t cds] s = some (webD ds.length ((allP ds.length).filter b), s) := by
 have hln : ∀ r, Zaw dLen (Zab (dVar 0) dNil) (some row :: r) s = some (nD ds.length, s) := fun r => Zau (Zac rfl rfl) h.len
 refine Zbl rfl (Za7 (ZeG (ZbD (Zac (Zeu (hln _) hn) rfl) (ZhK s hn))) (ZbF (ZbU ?_)))
 have hap := ZhF ds.length hn
 have hc := Zb5 (src := [none, some 1, some 0]) (fi := Zcx (dVar 2)) (τ := gOne 0) (ft := asB (dApp Tl 1 (Zab (dOp dIx (dVar 2) (dOp dIx (dVar 0) (dC (.int 0)))) (Zab (dOp dIx (dVar 2) (dOp dIx (dVar 0) (dC (.int 1)))) dNil)))) (fe := dVar 0) (ρ := [some row, some (.clo t cds), some (.lst ((allP ds.length).map Zah))]) (s := s) (ds := (allP ds.length).map Zah) (fun d => [some d, some (.clo t cds), some row]) (fun d => b (nat2 d)) (fun d => d) (Zdw rfl) (by rw [List.length_map, ZaF]; omega) fun d hd => by
  obtain ⟨p, hpm, rfl⟩ := List.mem_map.mp hd
  have hpp := Zde.mp hpm
  refine ⟨rfl, ZaX (Zku (t := t) (cds := cds) rfl (Zac (Zar (d := row) (e := nD p.1) rfl (Zar (d := Zah p) (e := .int 0) rfl rfl (Zcu _ _)) (h.ix (by omega))) (Zac (Zar (d := row) (e := nD p.2) rfl (Zar (d := Zah p) (e := .int 1) rfl rfl (Zdu _ _ _)) (h.ix (by omega))) rfl)) (hb p hpm)), fun _ => rfl⟩
 rw [Zhr (allP ds.length) _ b fun p => by rw [ZjV]] at hc
 exact Zbg (Zac (hln _) (Zac (Zau (Zac hc rfl) rfl) rfl)) two_le
theorem range_getD {n i : Nat} (h : i < n) : (ZaD 0 n).getD i .non = nD i := by
 rw [ZdL]
 simp [List.getD, h]
theorem ZiH (n : Nat) (ties : List (Nat × Nat)) (s : Pn) (hn : n ≤ 1000) (hl : ties.length ≤ 100000) : Zdj [webD n ties] s = some (webD n ((allP n).filter fun p => !decide (p ∈ ties)), s) := by
 refine Zbl rfl (Za7 (ZeG (ZbD (Zac rfl rfl) (Zer n ties s hl))) (ZbF (ZbU ?_)))
 refine Zke (d := .lst (ZaD 0 n)) (cds := [.dt (kvT [] ties)]) (Zeu (Zar (d := webD n ties) (e := .int 0) rfl rfl web0) hn) rfl (by simp only [ZaN]; exact Zhd _ _) rfl ?_ (Zgo _ _)
 have := Zd8 (row := .lst (ZaD 0 n)) (ds := ZaD 0 n) (cds := [.dt (kvT [] ties)]) (t := 0) (.inl rfl) (by rw [ZaJ]; exact hn) (fun p => !decide (p ∈ ties)) s (fun p hp => by
  rw [ZaJ] at hp
  have hpp := Zde.mp hp
  rw [range_getD (by omega), range_getD (by omega)]
  show ZeD [nD p.1, nD p.2, .dt (kvT [] ties)] s = _
  refine ZlS rfl ?_
  refine ZhY (a := decide (p ∈ ties)) (ZbD (Zac rfl (Zac rfl (Zac rfl rfl))) ?_)
  rw [Zdh, ZfQ hpp.1])
 rw [ZaJ] at this
 exact this
noncomputable def spo (lens : List Nat) : List (Nat × Nat) := (List.range lens.length).flatMap fun i => (List.range (lens.getD i 0)).map fun j => (i, j)
noncomputable def preS (lens : List Nat) (k : Nat) : List (Nat × Nat) := (List.range k).flatMap fun i => (List.range (lens.getD i 0)).map fun j => (i, j)
theorem ZcQ (lens : List Nat) (k : Nat) : preS lens (k + 1) = preS lens k ++ (List.range (lens.getD k 0)).map fun j => (k, j) := by
 unfold preS
 rw [List.range_succ, List.flatMap_append]
 simp
theorem Zf3 {lens : List Nat} {B : Nat} (h : ∀ x ∈ lens, x ≤ B) (i : Nat) : lens.getD i 0 ≤ B := by
 rw [List.getD_eq_getElem?_getD]
 cases e : lens[i]? with
 | none => exact Nat.zero_le _
 | some x => exact h x (List.mem_of_getElem? e)
theorem Ze6 {lens : List Nat} {B : Nat} (h : ∀ x ∈ lens, x ≤ B) : ∀ k, (preS lens k).length ≤ k * B
 | 0 => by simp [preS]
 | k + 1 => by
  rw [ZcQ, List.length_append, List.length_map, List.length_range]
  have := Ze6 h k
  have := Zf3 h k
  rw [Nat.succ_mul]; omega
theorem ZkI (lens : List Nat) (hl : lens.length ≤ 1000) (hb : ∀ x ∈ lens, x ≤ 1000) (s : Pn) : Zc9 [.lst (lens.map nD)] s = some (.lst ((spo lens).map Zah), s) := by
 refine Zbl rfl (Ok.toEq ?_)
 refine Ok.seq (.sown (.eq (a := .lst []) rfl ⟨rfl, ?_⟩))
 show Ok _ s _
 refine Ok.seq (.sfor (fun i ρ s' => s = s' ∧ ∃ o2, ρ = [some (.lst (lens.map nD)), some (.lst ((preS lens i).map Zah)), o2]) (.eq (Zbj (n := lens.length) (Zau (Zac rfl rfl) (ZjZ lens)) (by omega)) ⟨⟨rfl, none, rfl⟩, fun i d ρ s' hd hI => ?_, fun ρ' s' hI => ?_⟩))
 ·obtain ⟨rfl, o2, rfl⟩ := hI
  obtain ⟨hi, rfl⟩ := ZbO hd
  refine ⟨_, rfl, ?_⟩
  have hx := Zf3 hb i
  have hp := Ze6 hb i
  have hp2 : i * 1000 ≤ 1000 * 1000 := Nat.mul_le_mul (by omega) (Nat.le_refl _)
  refine Ok.seq (.sext (ds := (preS lens i).map Zah) rfl (.eq (s' := s) (a := .lst ((List.range (lens.getD i 0)).map fun j => Zah (i, j))) ?_ ⟨_, rfl, ?_, ?_⟩))
  ·have hc := Zb5 (src := [none, some 2]) (fi := Za3 (dOp dIx (dVar 0) (dVar 2))) (τ := gOne 0) (ft := ZaW) (fe := dTup (Zab (dVar 1) (Zab (dVar 0) dNil))) (ρ := [some (.lst (lens.map nD)), none, some (nD i)]) (s := s) (ds := ZaD 0 (lens.getD i 0)) (fun d => [some d, some (nD i)]) (fun _ => true) (fun d => Zah (i, nat0 d)) (Zbj (Zar (d := .lst (lens.map nD)) (e := nD i) rfl rfl (Zmk hi)) (by omega)) (by rw [ZaJ, ZaF]; omega) fun d hd => by
    obtain ⟨j, hj, rfl⟩ := ZdY hd
    exact ⟨rfl, rfl, fun _ => Zbg (Zac rfl (Zac rfl rfl)) two_le⟩
   rw [ZbW, ZdL, List.map_map] at hc
   exact hc
  ·rw [List.length_map, List.length_map, List.length_range, ZaF]; omega
  ·refine Ok.next ⟨_, rfl, rfl, some (nD i), ?_⟩
   rw [ZcQ, List.map_append, List.map_map]
   rfl
 ·obtain ⟨rfl, o2, rfl⟩ := hI
  refine Ok.seq (.sret (.eq rfl ⟨?_, rfl⟩))
  rw [ZaJ]; rfl
theorem ZfA {l : List (Nat × Nat)} {i : Nat} (h : i < l.length) : (l.map Zah).getD i .non = Zah (l.getD i (0, 0)) := by
 rw [List.getD_eq_getElem?_getD, List.getElem?_map, List.getD_eq_getElem?_getD, List.getElem?_eq_getElem h]
 rfl
noncomputable def putB (ties : List (Nat × Nat)) (inner : List (List (Nat × Nat))) (a b : Nat × Nat) : Bool := if a.1 = b.1 then tied (inner.getD a.1 []) a.2 b.2 else tied ties a.1 b.1
noncomputable def putT (ties : List (Nat × Nat)) (ws : List (Nat × List (Nat × Nat))) : List (Nat × Nat) := (allP (spo (ws.map (·.1))).length).filter fun p => putB ties (ws.map (·.2)) ((spo (ws.map (·.1))).getD p.1 (0, 0)) ((spo (ws.map (·.1))).getD p.2 (0, 0))
noncomputable def Zat (ws : List (Nat × List (Nat × Nat))) : List D := ws.map fun w => webD w.1 w.2
theorem Zic {lens : List Nat} {p : Nat × Nat} : p ∈ spo lens ↔ p.1 < lens.length ∧ p.2 < lens.getD p.1 0 := by
 unfold spo
 rw [List.mem_flatMap]
 constructor
 ·rintro ⟨i, hi, h⟩
  obtain ⟨j, hj, rfl⟩ := List.mem_map.mp h
  exact ⟨List.mem_range.mp hi, List.mem_range.mp hj⟩
 ·rintro ⟨h1, h2⟩
  exact ⟨p.1, List.mem_range.mpr h1, List.mem_map.mpr ⟨p.2, List.mem_range.mpr h2, rfl⟩⟩
theorem ZjB (n : Nat) (ties : List (Nat × Nat)) (ws : List (Nat × List (Nat × Nat))) (hl : ties.length ≤ 100000) (hw : ∀ w ∈ ws, w.2.length ≤ 100000 ∧ w.1 ≤ 1000) (hwl : ws.length ≤ 1000) (hN : (spo (ws.map (·.1))).length ≤ 1000) (s : Pn) :
  Zci [webD n ties, .lst (Zat ws)] s = some (webD (spo (ws.map (·.1))).length (putT ties ws), s) := by
 have hws : (Zat ws).length ≤ sizeLine := by unfold Zat; rw [List.length_map, ZaF]; omega
 have hcm := Zb5 (src := [none]) (fi := Zcx (dVar 1)) (τ := gOne 0) (ft := ZaW) (fe := dFn Za6 (Zab (dVar 0) dNil)) (ρ := [some (webD n ties), some (.lst (Zat ws)), some (.dt (kvT [] ties)), none, none]) (s := s) (ds := Zat ws) (fun d => [some d]) (fun _ => true) (fun d => match d with | .tup [_, .tup ts] => .dt (kvT [] (ts.map nat2)) | _ => .non) (Zdw rfl) hws fun d hd => by
  obtain ⟨w, hm, rfl⟩ := List.mem_map.mp hd
  refine ⟨rfl, rfl, fun _ => ZbD (Zac rfl rfl) ?_⟩
  rw [Zer w.1 w.2 s (hw w hm).1]
  show _ = some (D.dt (kvT [] ((w.2.map Zah).map nat2)), s)
  rw [List.map_map, show (nat2 ∘ Zah) = id from rfl, List.map_id]
 have em : ((Zat ws).filter fun _ => true).map (fun d => match d with | D.tup [_, .tup ts] => D.dt (kvT [] (ts.map nat2)) | _ => .non) = (ws.map (·.2)).map fun ts => D.dt (kvT [] ts) := by
  rw [ZbW]
  unfold Zat
  rw [List.map_map, List.map_map]
  refine List.map_congr_left fun w _ => ?_
  show D.dt (kvT [] ((w.2.map Zah).map nat2)) = _
  rw [List.map_map, show (nat2 ∘ Zah) = id from rfl, List.map_id]
  rfl
 rw [em] at hcm
 have hcl := Zb5 (src := [none]) (fi := Zcx (dVar 1)) (τ := gOne 0) (ft := ZaW) (fe := dOp dIx (dVar 0) (dC (.int 0))) (ρ := [some (webD n ties), some (.lst (Zat ws)), some (.dt (kvT [] ties)), some (.lst ((ws.map (·.2)).map fun ts => D.dt (kvT [] ts))), none]) (s := s) (ds := Zat ws) (fun d => [some d]) (fun _ => true) (fun d => match d with | .tup [a, _] => a | _ => .non) (Zdw rfl) hws fun d hd => by
  obtain ⟨w, hm, rfl⟩ := List.mem_map.mp hd
  exact ⟨rfl, rfl, fun _ => Zar (d := webD w.1 w.2) (e := .int 0) rfl rfl web0⟩
 have el : ((Zat ws).filter fun _ => true).map (fun d => match d with | D.tup [a, _] => a | _ => .non) = (ws.map (·.1)).map nD := by
  rw [ZbW]
  unfold Zat
  rw [List.map_map, List.map_map]
  rfl
 rw [el] at hcl
 refine Zbl rfl (Za7 (ZeG (ZbD (Zac rfl rfl) (Zer n ties s hl))) (Za7 (ZeG hcm) ?_))
 unfold ZfR
 rw [if_pos (by simp)]
 have hs0 := ZkI (ws.map (·.1)) (by rw [List.length_map]; exact hwl) (fun x hx => by obtain ⟨w, hm, rfl⟩ := List.mem_map.mp hx; exact (hw w hm).2) s
 have c1 := Zac hcl (Zm8 (ρ := [some (webD n ties), some (.lst (Zat ws)), some (.dt (kvT [] ties)), some (.lst ((ws.map (·.2)).map fun ts => D.dt (kvT [] ts))), none]) (s := s))
 have hsp := ZbD (F := Zc9) c1 hs0
 show sRet _ [some (webD n ties), some (.lst (Zat ws)), some (.dt (kvT [] ties)), some (.lst ((ws.map (·.2)).map fun ts => D.dt (kvT [] ts))), none] s = _
 refine ZbU (Zke (cds := [.lst ((ws.map (·.2)).map fun ts => D.dt (kvT [] ts)), .dt (kvT [] ties)]) hsp rfl (by simp only [ZaN]; exact Zhe _) ?_ ?_ (Zgo _ _))
 ·have : ZaU ((ws.map (·.2)).map fun ts => D.dt (kvT [] ts)) = true := ZcU fun d hd => by obtain ⟨w, _, rfl⟩ := List.mem_map.mp hd; rfl
  simp only [ZaU, ZaN, this]; rfl
 have := Zd8 (row := .lst ((spo (ws.map (·.1))).map Zah)) (ds := (spo (ws.map (·.1))).map Zah) (cds := [.lst ((ws.map (·.2)).map fun ts => D.dt (kvT [] ts)), .dt (kvT [] ties)]) (t := 3) (.inl rfl) (by rw [List.length_map]; exact hN) (fun p => putB ties (ws.map (·.2)) ((spo (ws.map (·.1))).getD p.1 (0, 0)) ((spo (ws.map (·.1))).getD p.2 (0, 0))) s (fun p hpm => by
  rw [List.length_map] at hpm
  have hpp := Zde.mp hpm
  rw [ZfA (by omega), ZfA (by omega)]
  generalize ha : (spo (ws.map (·.1))).getD p.1 (0, 0) = a
  generalize hb : (spo (ws.map (·.1))).getD p.2 (0, 0) = b
  have ham : a ∈ spo (ws.map (·.1)) := by
   rw [← ha, List.getD_eq_getElem?_getD, List.getElem?_eq_getElem (show p.1 < (spo (ws.map (·.1))).length by omega)]
   exact List.getElem_mem _
  have hal : a.1 < ws.length := by have := (Zic.mp ham).1; rw [List.length_map] at this; exact this
  show ZeE [Zah a, Zah b, .lst ((ws.map (·.2)).map fun ts => D.dt (kvT [] ts)), .dt (kvT [] ties)] s = _
  refine Zbl rfl ?_
  have c0 : asB (dOp dEqO (dOp dIx (dVar 0) (dC (.int 0))) (dOp dIx (dVar 1) (dC (.int 0)))) [some (Zah a), some (Zah b), some (.lst ((ws.map (·.2)).map fun ts => D.dt (kvT [] ts))), some (.dt (kvT [] ties))] s = some (((a.1 : Nat) : Int) == ((b.1 : Nat) : Int), s) := ZaX (Zar (d := nD a.1) (e := nD b.1) (Zar (d := Zah a) (e := .int 0) rfl rfl (Zcu _ _)) (Zar (d := Zah b) (e := .int 0) rfl rfl (Zcu _ _)) (eqi _ _))
  unfold putB
  by_cases hab : a.1 = b.1
  ·rw [if_pos hab]
   have e1 : (((a.1 : Nat) : Int) == ((b.1 : Nat) : Int)) = true := by rw [hab]; simp
   rw [e1] at c0
   refine ZbF (Zlu c0 (ZbF (ZbU (ZbD (Zac (Zar (d := .lst ((ws.map (·.2)).map fun ts => D.dt (kvT [] ts))) (e := nD a.1) (c := .dt (kvT [] ((ws.map (·.2)).getD a.1 []))) rfl (Zar (d := Zah a) (e := .int 0) rfl rfl (Zcu _ _)) ?_) (Zac (Zar (d := Zah a) (e := .int 1) rfl rfl (Zdu _ _ _)) (Zac (Zar (d := Zah b) (e := .int 1) rfl rfl (Zdu _ _ _)) rfl))) (Zdh _ _ _ s)))))
   refine Zb6 ?_
   rw [List.getElem?_map, List.getElem?_map, List.getD_eq_getElem?_getD, List.getElem?_map, List.getElem?_eq_getElem hal]
   rfl
  ·rw [if_neg hab]
   have e1 : (((a.1 : Nat) : Int) == ((b.1 : Nat) : Int)) = false := by simp; omega
   rw [e1] at c0
   exact Za7 (Zcm c0 rfl) (ZbF (ZbU (ZbD (Zac rfl (Zac (Zar (d := Zah a) (e := .int 0) rfl rfl (Zcu _ _)) (Zac (Zar (d := Zah b) (e := .int 0) rfl rfl (Zcu _ _)) rfl))) (Zdh _ _ _ s)))))
 rw [List.length_map] at this
 exact this
end TQ
namespace TQ
open PySem L2 TF TS
open TP
open TP2
open TP3
theorem eqn (a b : Nat) : dEqO (nD a) (nD b) = some (.bl (decide (a = b))) := by
 rw [eqi]
 congr 2
 rw [Bool.eq_iff_iff, beq_iff_eq, decide_eq_true_eq]
 omega
theorem ZeF (lens : List Nat) : spo lens = preS lens lens.length := rfl
theorem Zgi (lens : List Nat) : ∀ k, (preS lens k).length = ((List.range k).map fun i => lens.getD i 0).sum
 | 0 => rfl
 | k + 1 => by
  rw [ZcQ, List.length_append, Zgi lens k, List.range_succ, List.map_append, List.sum_append]
  simp
theorem Zgh (lens : List Nat) : ∀ k, (preS lens k).Pairwise fun a b => a.1 < b.1 ∨ a.1 = b.1 ∧ a.2 < b.2
 | 0 => by simp [preS]
 | k + 1 => by
  rw [ZcQ]
  refine List.pairwise_append.mpr ⟨Zgh lens k, ?_, fun a ha b hb => ?_⟩
  ·exact List.pairwise_map.mpr ((Zfu _).imp fun h => .inr ⟨rfl, h⟩)
  ·obtain ⟨j, _, rfl⟩ := List.mem_map.mp hb
   unfold preS at ha
   obtain ⟨i, hi, ha⟩ := List.mem_flatMap.mp ha
   obtain ⟨l, _, rfl⟩ := List.mem_map.mp ha
   exact .inl (List.mem_range.mp hi)
noncomputable def preC (k : Nat) : List (Nat × Nat) := (List.range k).flatMap fun h => (List.range h).map fun l => (l, h)
theorem Zej (k : Nat) : preC (k + 1) = preC k ++ (List.range k).map fun l => (l, k) := by
 unfold preC
 rw [List.range_succ, List.flatMap_append]
 simp
theorem Zfc {k : Nat} {p : Nat × Nat} : p ∈ preC k ↔ p.1 < p.2 ∧ p.2 < k := by
 unfold preC
 rw [List.mem_flatMap]
 constructor
 ·rintro ⟨h, hh, hp⟩
  obtain ⟨l, hl, rfl⟩ := List.mem_map.mp hp
  exact ⟨List.mem_range.mp hl, List.mem_range.mp hh⟩
 ·rintro ⟨h1, h2⟩
  exact ⟨p.2, List.mem_range.mpr h2, List.mem_map.mpr ⟨p.1, List.mem_range.mpr h1, rfl⟩⟩
theorem Zfw : ∀ k, (preC k).Nodup
 | 0 => by simp [preC]
 | k + 1 => by
  rw [Zej]
  refine List.nodup_append.mpr ⟨Zfw k, ?_, fun a ha b hb => ?_⟩
  ·exact List.pairwise_map.mpr ((List.nodup_range (n := k)).imp fun h e => h (congrArg Prod.fst e))
  ·rintro rfl
   obtain ⟨l, hl, rfl⟩ := List.mem_map.mp hb
   have := (Zfc.mp ha).2
   simp at this
theorem Zek (k : Nat) : (preC k).Perm (allP k) := (List.perm_ext_iff_of_nodup (Zfw k) (Zje k)).mpr fun p => by rw [Zfc, Zde]
theorem Zg3 (k : Nat) (hk : k ≤ 1000) : (preC k).length ≤ 1000000 := by rw [(Zek k).length_eq]; exact ZhF k hk
theorem ZiF {n : Nat} {ties L : List (Nat × Nat)} (hw : Zb9 n ties) (hp : L.Perm ties) (hl : L.length ≤ 100000) {d : D} (hd : SeqD d (L.map Zah)) : ZcM [d] = some (.lst (ties.map Zah)) := by
 have e : Zby (L.map Zah) = some (L.map ZbQ) := by
  have : L.map Zah = (L.map ZbQ).map tupI := by rw [List.map_map]; rfl
  rw [this, Zfl]
 have ok : Zbx (L.map ZbQ) := ⟨by rw [List.length_map]; exact hl, fun _ ns hns => by
  obtain ⟨p, _, rfl⟩ := List.mem_map.mp hns
  exact fun z => by cases z⟩
 have r : (Za1 (L.map ZbQ)).map tupI = ties.map Zah := by rw [Zjt hw hp, List.map_map]; rfl
 rcases hd with rfl | rfl
 ·have h1 : ZdX [.lst (L.map Zah)] = some (.lst (ties.map Zah)) := by
   show (match Zby (L.map Zah) with | some nss => if Zbx nss then some (D.lst ((Za1 nss).map tupI)) else none | none => none) = _
   rw [e]
   show (if Zbx (L.map ZbQ) then some (D.lst ((Za1 (L.map ZbQ)).map tupI)) else none) = _
   rw [if_pos ok, r]
  unfold ZcM
  rw [h1]; rfl
 ·have h1 : ZeA [.tup (L.map Zah)] = some (.lst (ties.map Zah)) := by
   show (match Zby (L.map Zah) with | some nss => if Zbx nss then some (D.lst ((Za1 nss).map tupI)) else none | none => none) = _
   rw [e]
   show (if Zbx (L.map ZbQ) then some (D.lst ((Za1 (L.map ZbQ)).map tupI)) else none) = _
   rw [if_pos ok, r]
  have h0 : ZdX [.tup (L.map Zah)] = none := rfl
  unfold ZcM
  rw [h0, h1]; rfl
theorem ZlQ {n : Nat} {ties : List (Nat × Nat)} (hl : ties.length ≤ 100000) (m : Nat) : shp (m + 4) (webD n ties) := by
 refine ⟨by show 2 ≤ 100000; decide, fun d hd => ?_⟩
 rcases List.mem_cons.mp hd with rfl | hd
 ·trivial
 ·rcases List.mem_cons.mp hd with rfl | hd
  ·refine ⟨by rw [List.length_map]; exact hl, fun d hd => ?_⟩
   obtain ⟨p, _, rfl⟩ := List.mem_map.mp hd
   refine ⟨by show 2 ≤ 100000; decide, fun d hd => ?_⟩
   rcases List.mem_cons.mp hd with rfl | hd
   ·trivial
   ·rcases List.mem_cons.mp hd with rfl | hd
    ·trivial
    ·cases hd
  ·cases hd
end TQ
namespace TQ
open PySem L2 TF TS
open TP
open TP2
open TP3
theorem minN (a b : Nat) : Zdt [nD a, nD b] = some (nD (min a b)) := by
 show some (D.int (if (b : Int) < (a : Int) then (b : Int) else (a : Int))) = _
 rw [Zm9]
theorem Ok.pick {fs : Rho → M (List D)} {gs : Rho → M (List D)} {ρ : Rho} {s : Pn} {m T : Nat} {ds : List D} {Q : D → Pn → Prop} (hl : gs ρ s = some (ds, s)) (hm1 : ds.length = m) (ok : okD T s) (hT : T < 1000000000) (h1 : fs ρ s = some ([.pen, .int (m : Int)], s)) (hm : 0 < m) (hm2 : m < 1000) (h : ∀ d s', d ∈ ds → okD (T + 1) s' → Q d s') : Ok (dOp dIx (dLst gs) (dFn Zbe fs) ρ) s Q := by
 refine .op (.eq (Zhh hl (by rw [ZaF]; omega)) (.drawD ok hT h1 hm (by omega) fun r s' hr ok' => ?_))
 obtain ⟨d, hd, e⟩ := Zh4 (ds := ds) (r := r) (by omega)
 exact ⟨d, e, h d s' hd ok'⟩
end TQ
namespace TQ
open PySem L2 TF TS
open TP
open TP2
open TP3
theorem Zi4 {α : Type} (l : List α) (b : α → Bool) (x : α) : (l ++ [x]).filter b = l.filter b ++ (if b x = true then [x] else []) := by
 rw [List.filter_append]
 congr 1
 by_cases h : b x = true
 ·rw [if_pos h, List.filter_cons_of_pos h]; rfl
 ·rw [if_neg h, List.filter_cons_of_neg h]; rfl
theorem Zmg (ds : List D) (d : D) : dIx (.lst (ds ++ [d])) (.int (-1)) = some d := by
 show atI (ds ++ [d]) (-1) = _
 unfold atI ixN
 rw [if_neg (by decide), if_pos (by simp; omega)]
 rw [List.length_append, List.length_singleton]
 show (ds ++ [d])[(-1 + ((ds.length + 1 : Nat) : Int)).toNat]? = _
 rw [show (-1 + ((ds.length + 1 : Nat) : Int)).toNat = ds.length by omega]
 simp
noncomputable def Webs (lim : Nat) (ws : List (Nat × List (Nat × Nat))) : Prop := (∀ w ∈ ws, Zb9 w.1 w.2) ∧ (ws.map (·.1)).sum ≤ lim
theorem Webs.le {lim : Nat} {ws : List (Nat × List (Nat × Nat))} (h : Webs lim ws) : ∀ w ∈ ws, w.1 ≤ lim := fun w hw => by
 have := h.2
 have h2 : ∀ {l : List Nat} {x : Nat}, x ∈ l → x ≤ l.sum := fun {l x} hx => by
  induction l with
  | nil => cases hx
  | cons a l ih =>
   rw [List.sum_cons]
   rcases List.mem_cons.mp hx with e | e
   ·omega
   ·have := ih e; omega
 have := h2 (List.mem_map_of_mem (f := (·.1)) hw)
 omega
theorem ZkG {T : Nat} {s : Pn} (ok : okD T s) (hT : T < 800000000) (many lim : Nat) (hl : lim ≤ 24) (hm : many ≤ 1000) : Ok (ZbV [.pen, nD many, nD lim]) s fun d s' => okD (T + 1 + many * 1000) s' ∧ ∃ ws, d = .lst (Zat ws) ∧ ws.length = many ∧ Webs lim ws := by
 refine Ok.runB rfl ?_
 refine Ok.seq (.sset (Ok.pick (m := 5) (ds := [nD 1, nD 2, nD 5, nD 12, nD 24]) rfl rfl ok (by omega) rfl (by omega) (by omega) fun sz s1 hsz ok1 => ?_))
 obtain ⟨z, rfl, hz⟩ : ∃ z : Nat, sz = nD z ∧ z ≤ 24 := by
  simp only [List.mem_cons, List.not_mem_nil, or_false] at hsz
  rcases hsz with rfl | rfl | rfl | rfl | rfl
  ·exact ⟨1, rfl, by omega⟩
  ·exact ⟨2, rfl, by omega⟩
  ·exact ⟨5, rfl, by omega⟩
  ·exact ⟨12, rfl, by omega⟩
  ·exact ⟨24, rfl, by omega⟩
 refine Ok.seq (.sown (.eq (a := .lst []) rfl ⟨rfl, ?_⟩))
 refine Ok.seq (.sset (.eq rfl ?_))
 refine Ok.seq (.sfor (fun i ρ s' => okD (T + 1 + i * 1000) s' ∧ ∃ (ws : List (Nat × List (Nat × Nat))) (o6 : Option D), ws.length = i ∧ Webs lim ws ∧ ρ = [some .pen, some (nD many), some (nD lim), some (nD z), some (.lst (Zat ws)), some (nD (lim - (ws.map (·.1)).sum)), o6]) (.eq (Zbj (n := many) rfl (by omega)) ⟨⟨ok1.mono (by omega), [], none, rfl, ⟨fun w hw => (by cases hw), Nat.zero_le _⟩, rfl⟩, fun i d ρ s' hd hI => ?_, fun ρ' s' hI => ?_⟩))
 ·obtain ⟨ok2, ws, o6, hwl, hws, rfl⟩ := hI
  obtain ⟨hi, rfl⟩ := ZbO hd
  refine ⟨_, rfl, ?_⟩
  have hi2 : i * 1000 ≤ 1000 * 1000 := Nat.mul_le_mul_right _ (by omega)
  obtain ⟨w, s3, ew, ok3, n, ties, rfl, hn, hw⟩ := ZlJ ok2 (by omega) (min (lim - (ws.map (·.1)).sum) z) (by omega)
  refine Ok.seq (.sapp (ds := Zat ws) rfl (by unfold Zat; rw [List.length_map, ZaF]; omega) (.eq (ZbD (Zac rfl (Zac (Zau (Zac rfl (Zac rfl rfl)) (minN _ _)) rfl)) ew) ?_))
  have hsum := hws.2
  refine Ok.seq (.sset (.eq (s' := s3) (a := nD (lim - (ws.map (·.1)).sum - n)) (Znn (Zar (d := nD (lim - (ws.map (·.1)).sum)) (e := nD n) rfl (Zar (d := webD n ties) (e := .int 0) (Zar (d := .lst (Zat ws ++ [webD n ties])) (e := .int (-1)) rfl rfl (Zmg _ _)) rfl web0) ?_) rfl) ?_))
  ·show some (D.int (((lim - (ws.map (·.1)).sum : Nat) : Int) - (n : Int))) = _
   congr 2
   omega
  ·refine .next ⟨_, rfl, ok3.mono (by omega), ws ++ [(n, ties)], some (nD i), by simp [hwl], ⟨fun w hw' => ?_, ?_⟩, ?_⟩
   ·rcases List.mem_append.mp hw' with h | h
    ·exact hws.1 w h
    ·rw [List.mem_singleton.mp h]; exact hw
   ·rw [List.map_append, List.sum_append]
    show _ + (n + 0) ≤ _
    omega
   ·unfold Zat
    rw [List.map_append, List.map_append, List.sum_append]
    show _ = [some D.pen, some (nD many), some (nD lim), some (nD z), some (.lst _), some (nD (lim - (_ + (n + 0)))), some (nD i)]
    rw [show lim - ((ws.map (·.1)).sum + (n + 0)) = lim - (ws.map (·.1)).sum - n by omega]
    rfl
 ·obtain ⟨ok2, ws, o6, hwl, hws, rfl⟩ := hI
  rw [ZaJ] at ok2 hwl
  exact Ok.seq (.sret (.eq rfl ⟨ok2, ws, rfl, hwl, hws⟩))
theorem Zld {α : Type} (f : α → D) (l : List α) (i : Nat) (d : D) (h : (Zc4 (l.map f))[i]? = some d) : ∃ x, l[i]? = some x ∧ d = .tup [nD i, f x] := by
 unfold Zc4 at h
 rw [List.getElem?_mapIdx, List.getElem?_map] at h
 cases e : l[i]? with
 | none => rw [e] at h; cases h
 | some x => rw [e] at h; cases h; exact ⟨x, rfl, rfl⟩
theorem Zlc (ds : List D) : (Zc4 ds).length = ds.length := by unfold Zc4; exact List.length_mapIdx
theorem Zes (ws : List (Nat × List (Nat × Nat))) (i : Nat) (w : Nat × List (Nat × Nat)) (h : ws[i]? = some w) : (ws.map (·.1)).getD i 0 = w.1 := by
 rw [List.getD_eq_getElem?_getD, List.getElem?_map, h]; rfl
theorem Zjn (ws : List (Nat × List (Nat × Nat))) (hl : ws.length ≤ 1000) (hb : ∀ w ∈ ws, w.1 ≤ 1000) (s : Pn) : Zb1 [.lst (Zat ws)] s = some (.lst ((spo (ws.map (·.1))).map Zah), s) := by
 have hb' : ∀ x ∈ ws.map (·.1), x ≤ 1000 := fun x hx => by obtain ⟨w, hm, rfl⟩ := List.mem_map.mp hx; exact hb w hm
 refine Zbl rfl (Ok.toEq ?_)
 refine Ok.seq (.sown (.eq (a := .lst []) rfl ⟨rfl, ?_⟩))
 show Ok _ s _
 refine Ok.seq (.sfor (fun i ρ s' => s = s' ∧ ∃ o2 o3, ρ = [some (.lst (Zat ws)), some (.lst ((preS (ws.map (·.1)) i).map Zah)), o2, o3]) (.eq (s' := s) (a := Zc4 (Zat ws)) rfl ⟨⟨rfl, none, none, rfl⟩, fun i d ρ s' hd hI => ?_, fun ρ' s' hI => ?_⟩))
 ·obtain ⟨rfl, o2, o3, rfl⟩ := hI
  obtain ⟨w, hw, rfl⟩ := Zld _ _ _ _ hd
  refine ⟨_, rfl, ?_⟩
  have hi : i < ws.length := (List.getElem?_eq_some_iff.mp hw).1
  have hx := Zf3 hb' i
  rw [Zes ws i w hw] at hx
  have hp := Ze6 hb' i
  have hp2 : i * 1000 ≤ 1000 * 1000 := Nat.mul_le_mul (by omega) (Nat.le_refl _)
  refine Ok.seq (.sext (ds := (preS (ws.map (·.1)) i).map Zah) rfl (.eq (s' := s) (a := .lst ((List.range w.1).map fun j => Zah (i, j))) ?_ ⟨_, rfl, ?_, ?_⟩))
  ·have hc := Zb5 (src := [none, some 2]) (fi := Za3 (dOp dIx (dVar 3) (dC (.int 0)))) (τ := gOne 0) (ft := ZaW) (fe := dTup (Zab (dVar 1) (Zab (dVar 0) dNil))) (ρ := [some (.lst (Zat ws)), none, some (nD i), some (webD w.1 w.2)]) (s := s) (ds := ZaD 0 w.1) (fun d => [some d, some (nD i)]) (fun _ => true) (fun d => Zah (i, nat0 d)) (Zbj (Zar (d := webD w.1 w.2) (e := .int 0) rfl rfl web0) (by omega)) (by rw [ZaJ, ZaF]; omega) fun d hd => by
    obtain ⟨j, hj, rfl⟩ := ZdY hd
    exact ⟨rfl, rfl, fun _ => Zbg (Zac rfl (Zac rfl rfl)) two_le⟩
   rw [ZbW, ZdL, List.map_map] at hc
   exact hc
  ·rw [List.length_map, List.length_map, List.length_range, ZaF]; omega
  ·refine Ok.next ⟨_, rfl, rfl, some (nD i), some (webD w.1 w.2), ?_⟩
   rw [ZcQ, List.map_append, List.map_map, Zes ws i w hw]
   rfl
 ·obtain ⟨rfl, o2, o3, rfl⟩ := hI
  refine Ok.seq (.sret (.eq rfl ⟨?_, rfl⟩))
  rw [Zlc]
  unfold Zat
  rw [List.length_map, ZeF, List.length_map]
theorem Zdv (ws : List (Nat × List (Nat × Nat))) : (spo (ws.map (·.1))).length = (ws.map (·.1)).sum := by
 rw [ZeF, Zgi]
 congr 1
 apply List.ext_getElem?
 intro i
 rw [List.getElem?_map]
 by_cases h : i < (ws.map (·.1)).length
 ·rw [List.getElem?_range h, List.getElem?_eq_getElem h, Option.map_some, List.getD_eq_getElem?_getD, List.getElem?_eq_getElem h]; rfl
 ·rw [List.getElem?_eq_none (by simp at h ⊢; omega), List.getElem?_eq_none (by omega)]; rfl
theorem Zmy {lens : List Nat} {i j : Nat} (h1 : i < j) (h2 : j < (spo lens).length) : ((spo lens).getD i (0, 0)).1 < ((spo lens).getD j (0, 0)).1 ∨ ((spo lens).getD i (0, 0)).1 = ((spo lens).getD j (0, 0)).1 ∧ ((spo lens).getD i (0, 0)).2 < ((spo lens).getD j (0, 0)).2 := by
 have := List.pairwise_iff_getElem.mp (Zgh lens lens.length) i j (by rw [← ZeF]; omega) (by rw [← ZeF]; exact h2) h1
 rw [List.getD_eq_getElem?_getD, List.getD_eq_getElem?_getD, List.getElem?_eq_getElem (show i < (spo lens).length by omega), List.getElem?_eq_getElem h2]
 exact this
theorem Znm (tss : List (List (Nat × Nat))) (i : Nat) (h : i < tss.length) : dIx (.lst (tss.map fun ts => D.dt (kvT [] ts))) (nD i) = some (.dt (kvT [] (tss.getD i []))) := by
 refine Zb6 ?_
 rw [List.getElem?_map, List.getD_eq_getElem?_getD, List.getElem?_eq_getElem h]
 rfl
theorem ZlL (n : Nat) (ties : List (Nat × Nat)) (ws : List (Nat × List (Nat × Nat))) (hl : ties.length ≤ 100000) (hw : ∀ w ∈ ws, w.2.length ≤ 100000 ∧ w.1 ≤ 1000) (hwl : ws.length ≤ 1000) (hN : (spo (ws.map (·.1))).length ≤ 1000) (s : Pn) :
  Zbw [webD n ties, .lst (Zat ws)] s = some (.tup [nD (spo (ws.map (·.1))).length, .tup (((preC (spo (ws.map (·.1))).length).filter fun p => putB ties (ws.map (·.2)) ((spo (ws.map (·.1))).getD p.1 (0, 0)) ((spo (ws.map (·.1))).getD p.2 (0, 0))).map Zah)], s) := by
 have hws : (Zat ws).length ≤ sizeLine := by unfold Zat; rw [List.length_map, ZaF]; omega
 generalize hS : spo (ws.map (·.1)) = S at *
 generalize hB : (fun p : Nat × Nat => putB ties (ws.map (·.2)) (S.getD p.1 (0, 0)) (S.getD p.2 (0, 0))) = B
 have hts := Zjn ws hwl (fun w h => (hw w h).2) s
 rw [hS] at hts
 have hcm := Zb5 (src := [none]) (fi := Zcx (dVar 1)) (τ := gOne 0) (ft := ZaW) (fe := Zaw ZdM (Zab (Za9 [none] (Zcs (dOp dIx (dVar 0) (dC (.int 1)))) (gOne 0) ZaW (dTup (Zab (dVar 0) (Zab (dC (.bl true)) dNil)))) dNil)) (ρ := [some (webD n ties), some (.lst (Zat ws)), some (.lst (S.map Zah)), some (.dt (kvT [] ties)), none, none, none, none, none, none, none]) (s := s) (ds := Zat ws) (fun d => [some d]) (fun _ => true) (fun d => match d with | .tup [_, .tup ts] => .dt (kvT [] (ts.map nat2)) | _ => .non) (Zdw rfl) hws fun d hd => by
  obtain ⟨w, hm, rfl⟩ := List.mem_map.mp hd
  refine ⟨rfl, rfl, fun _ => ?_⟩
  rw [Zhg w.1 w.2 [] s (hw w hm).1]
  show _ = some (D.dt (kvT [] ((w.2.map Zah).map nat2)), s)
  rw [List.map_map, show (nat2 ∘ Zah) = id from rfl, List.map_id]
 have em : ((Zat ws).filter fun _ => true).map (fun d => match d with | D.tup [_, .tup ts] => D.dt (kvT [] (ts.map nat2)) | _ => .non) = (ws.map (·.2)).map fun ts => D.dt (kvT [] ts) := by
  rw [ZbW]
  unfold Zat
  rw [List.map_map, List.map_map]
  refine List.map_congr_left fun w _ => ?_
  show D.dt (kvT [] ((w.2.map Zah).map nat2)) = _
  rw [List.map_map, show (nat2 ∘ Zah) = id from rfl, List.map_id]
  rfl
 rw [em] at hcm
 generalize hI : (D.lst ((ws.map (·.2)).map fun ts => D.dt (kvT [] ts))) = Iv at hcm
 refine Zbl rfl (Ok.toEq ?_)
 refine Ok.seq (.sset (.eq (ZbD (Zac rfl rfl) hts) ?_))
 refine Ok.seq (.sset (.eq (Zhg n ties _ s hl) ?_))
 refine Ok.seq (.sset (.eq hcm ?_))
 refine Ok.seq (.sown (.eq (a := .lst []) rfl ⟨rfl, ?_⟩))
 have hlen0 : dLen [.lst (S.map Zah)] = some (nD S.length) := by
  show some (D.int ((S.map Zah).length : Nat)) = _
  rw [List.length_map]
 have hsp : ∀ i, i < S.length → dIx (.lst (S.map Zah)) (nD i) = some (Zah (S.getD i (0, 0))) := fun i hi => by
  refine Zb6 ?_
  rw [List.getElem?_map, List.getD_eq_getElem?_getD, List.getElem?_eq_getElem hi]
  rfl
 refine Ok.seq (.sfor (fun h ρ s' => s = s' ∧ ∃ o6 o7 o8 o9 o10, ρ = [some (webD n ties), some (.lst (Zat ws)), some (.lst (S.map Zah)), some (.dt (kvT [] ties)), some Iv, some (.lst (((preC h).filter B).map Zah)), o6, o7, o8, o9, o10]) (.eq (Zbj (n := S.length) (Zau (Zac rfl rfl) hlen0) (by omega)) ⟨⟨rfl, none, none, none, none, none, rfl⟩, fun h d ρ s' hd hI' => ?_, fun ρ' s' hI' => ?_⟩))
 ·obtain ⟨rfl, o6, o7, o8, o9, o10, rfl⟩ := hI'
  obtain ⟨hh, rfl⟩ := ZbO hd
  refine ⟨_, rfl, ?_⟩
  refine Ok.seq (.sfor (fun l ρ s' => s = s' ∧ ∃ o7 o8 o9 o10, ρ = [some (webD n ties), some (.lst (Zat ws)), some (.lst (S.map Zah)), some (.dt (kvT [] ties)), some Iv, some (.lst (((preC h ++ (List.range l).map fun x => (x, h)).filter B).map Zah)), some (nD h), o7, o8, o9, o10]) (.eq (Zbj (n := h) rfl (by omega)) ⟨⟨rfl, o7, o8, o9, o10, by simp⟩, fun l d ρ s' hd hJ => ?_, fun ρ' s' hJ => ?_⟩))
  ·obtain ⟨rfl, o7, o8, o9, o10, rfl⟩ := hJ
   obtain ⟨hl', rfl⟩ := ZbO hd
   refine ⟨_, rfl, ?_⟩
   have hlt : l < S.length := by omega
   have rise := Zmy (lens := ws.map (·.1)) hl' (by rw [hS]; exact hh)
   rw [hS] at rise
   have hBl : B (l, h) = putB ties (ws.map (·.2)) (S.getD l (0, 0)) (S.getD h (0, 0)) := by rw [← hB]
   have hal : (S.getD l (0, 0)).1 < ws.length := by
    have : S.getD l (0, 0) ∈ spo (ws.map (·.1)) := by
     rw [hS, List.getD_eq_getElem?_getD, List.getElem?_eq_getElem hlt]
     exact List.getElem_mem _
    have := (Zic.mp this).1
    rw [List.length_map] at this
    exact this
   refine Ok.seq (.spar (.eq (Zac (Zar (d := .lst (S.map Zah)) (e := nD l) rfl rfl (hsp l hlt)) (Zac (Zar (d := .lst (S.map Zah)) (e := nD h) rfl rfl (hsp h hh)) rfl)) ⟨_, _, rfl, rfl, rfl, ?_⟩))
   generalize S.getD l (0, 0) = a at hBl hal rise ⊢
   generalize S.getD h (0, 0) = b at hBl rise ⊢
   refine Ok.seq (.sset (.eq (Zar (d := Zah (a.1, b.1)) (e := .dt (kvT [] ties)) (Zbg (Zac (Zar (d := Zah a) (e := .int 0) rfl rfl (Zcu _ _)) (Zac (Zar (d := Zah b) (e := .int 0) rfl rfl (Zcu _ _)) rfl)) two_le) rfl (Zhv _ ties)) ?_))
   have c0 : asB (dOp dEqO (dOp dIx (dVar 8) (dC (.int 0))) (dOp dIx (dVar 9) (dC (.int 0)))) [some (webD n ties), some (.lst (Zat ws)), some (.lst (S.map Zah)), some (.dt (kvT [] ties)), some Iv, some (.lst (((preC h ++ (List.range l).map fun x => (x, h)).filter B).map Zah)), some (nD h), some (nD l), some (Zah a), some (Zah b), some (.bl (decide ((a.1, b.1) ∈ ties)))] s = some (decide (a.1 = b.1), s) := ZaX (Zar (d := nD a.1) (e := nD b.1) (Zar (d := Zah a) (e := .int 0) rfl rfl (Zcu _ _)) (Zar (d := Zah b) (e := .int 0) rfl rfl (Zcu _ _)) (eqn _ _))
   have fin : Ok (sSeq (sIf (asB (dVar 10)) (sSeq (sApp 5 (fun ρ => (dTup (Zab (dVar 7) (Zab (dVar 6) dNil))) (hide [5] ρ))) Zas) Zas) Zas [some (webD n ties), some (.lst (Zat ws)), some (.lst (S.map Zah)), some (.dt (kvT [] ties)), some Iv, some (.lst (((preC h ++ (List.range l).map fun x => (x, h)).filter B).map Zah)), some (nD h), some (nD l), some (Zah a), some (Zah b), some (.bl (B (l, h)))]) s fun o s' => ∃ ρ', o = .nx ρ' ∧ s = s' ∧ ∃ o7 o8 o9 o10, ρ' = [some (webD n ties), some (.lst (Zat ws)), some (.lst (S.map Zah)), some (.dt (kvT [] ties)), some Iv, some (.lst (((preC h ++ (List.range (l + 1)).map fun x => (x, h)).filter B).map Zah)), some (nD h), o7, o8, o9, o10] := by
    have hlen : (((preC h ++ (List.range l).map fun x => (x, h)).filter B).map Zah).length < sizeLine := by
     rw [List.length_map]
     have h1 := List.length_filter_le B (preC h ++ (List.range l).map fun x => (x, h))
     rw [List.length_append, List.length_map, List.length_range] at h1
     have h2 := Zg3 h (by omega)
     rw [ZaF]; omega
    have hnext : (preC h ++ (List.range (l + 1)).map fun x => (x, h)).filter B = (preC h ++ (List.range l).map fun x => (x, h)).filter B ++ (if B (l, h) = true then [(l, h)] else []) := by
     rw [List.range_succ, List.map_append, ← List.append_assoc]
     exact Zi4 _ _ _
    refine Ok.seq (.sif (.eq (ZaX rfl) ?_))
    cases hb : B (l, h) with
    | true =>
     refine iteT (.seq (.sapp (ds := ((preC h ++ (List.range l).map fun x => (x, h)).filter B).map Zah) rfl hlen (.eq (Zbg (Zac rfl (Zac rfl rfl)) two_le) ?_)))
     refine .next (.next ⟨_, rfl, rfl, some (nD l), some (Zah a), some (Zah b), some (.bl true), ?_⟩)
     rw [hnext, if_pos hb, List.map_append]; rfl
    | false =>
     refine iteF (.next (.next ⟨_, rfl, rfl, some (nD l), some (Zah a), some (Zah b), some (.bl false), ?_⟩))
     rw [hnext, if_neg (by rw [hb]; exact Bool.false_ne_true), List.append_nil]
   unfold putB at hBl
   by_cases hab : a.1 = b.1
   ·rw [if_pos hab] at hBl
    rw [decide_eq_true hab] at c0
    have h2 : a.2 < b.2 := by omega
    rw [ZfQ h2] at hBl
    refine Ok.seq (.sif (.eq c0 (iteT ?_)))
    refine .seq (.sset (.eq (Zar (d := Zah (a.2, b.2)) (e := .dt (kvT [] ((ws.map (·.2)).getD a.1 []))) (Zbg (Zac (Zar (d := Zah a) (e := .int 1) rfl rfl (Zdu _ _ _)) (Zac (Zar (d := Zah b) (e := .int 1) rfl rfl (Zdu _ _ _)) rfl)) two_le) (Zar (d := Iv) (e := nD a.1) rfl (Zar (d := Zah a) (e := .int 0) rfl rfl (Zcu _ _)) (by rw [← hI]; exact Znm _ _ (by rw [List.length_map]; exact hal))) (Zhv _ _)) ?_))
    refine .next ?_
    rw [← hBl]
    exact fin
   ·rw [if_neg hab] at hBl
    rw [decide_eq_false hab] at c0
    have h2 : a.1 < b.1 := by omega
    rw [ZfQ h2] at hBl
    refine Ok.seq (.sif (.eq c0 (iteF (.next ?_))))
    rw [← hBl]
    exact fin
  ·obtain ⟨rfl, o7, o8, o9, o10, rfl⟩ := hJ
   refine Ok.next ⟨_, rfl, rfl, some (nD h), o7, o8, o9, o10, ?_⟩
   rw [ZaJ, Zej]
 ·obtain ⟨rfl, o6, o7, o8, o9, o10, rfl⟩ := hI'
  rw [ZaJ]
  exact Ok.seq (.sret (.eq (Zbg (Zac (Zau (Zac rfl rfl) hlen0) (Zac (Zau (Zac rfl rfl) rfl) rfl)) two_le) ⟨rfl, rfl⟩))
end TQ
namespace TQ
open PySem L2 TF TS
open TP
open TP2
open TP3
theorem ZjG (n : Nat) (ties : List (Nat × Nat)) : Zag (webD n ties) = true := by
 simp only [webD, Zag, ZaC, Ze1]; rfl
theorem Ze0 (ws : List (Nat × List (Nat × Nat))) : Zag (.lst (Zat ws)) = true ∧ dep (.lst (Zat ws)) ≤ 60 := by
 constructor
 ·simp only [Zag]
  exact Zg4 fun d hd => by obtain ⟨w, _, rfl⟩ := List.mem_map.mp hd; exact ZjG _ _
 ·have : deps (Zat ws) ≤ 3 := Zim _ fun d hd => by obtain ⟨w, _, rfl⟩ := List.mem_map.mp hd; exact Zms _ _
  simp only [dep]; omega
theorem Zd7 (ws : List (Nat × List (Nat × Nat))) : dLen [.lst (Zat ws)] = some (nD ws.length) := by
 show some (D.int ((Zat ws).length : Nat)) = _
 unfold Zat
 rw [List.length_map]
structure WsOk (ws : List (Nat × List (Nat × Nat))) : Prop where
 len : ws.length ≤ 100
 sum : (ws.map (·.1)).sum ≤ 24
 web : ∀ w ∈ ws, Zb9 w.1 w.2
theorem WsOk.of {ws : List (Nat × List (Nat × Nat))} (h : Webs 24 ws) (hl : ws.length ≤ 100) : WsOk ws := ⟨hl, h.2, h.1⟩
theorem WsOk.le {ws : List (Nat × List (Nat × Nat))} (h : WsOk ws) : ∀ w ∈ ws, w.1 ≤ 24 := Webs.le ⟨h.web, h.sum⟩
theorem WsOk.big {ws : List (Nat × List (Nat × Nat))} (h : WsOk ws) : ∀ w ∈ ws, w.2.length ≤ 100000 ∧ w.1 ≤ 1000 := fun w hm => by
 have h1 := h.le w hm
 have h2 := (h.web w hm).len h1
 exact ⟨by omega, by omega⟩
noncomputable abbrev tot (ws : List (Nat × List (Nat × Nat))) : Nat := (ws.map (·.1)).sum
theorem Ze5 (ties : List (Nat × Nat)) (ws : List (Nat × List (Nat × Nat))) : Zb9 (tot ws) (putT ties ws) := by
 show Zb9 (ws.map (·.1)).sum _
 rw [← Zdv]; exact Zb9.filter _
theorem Zgg (n : Nat) (ties : List (Nat × Nat)) {ws : List (Nat × List (Nat × Nat))} (hl : ties.length ≤ 100000) (h : WsOk ws) (s : Pn) : Zci [webD n ties, .lst (Zat ws)] s = some (webD (tot ws) (putT ties ws), s) := by
 have := ZjB n ties ws hl h.big (by have := h.len; omega) (by rw [Zdv]; have := h.sum; omega) s
 rw [Zdv] at this
 exact this
theorem Zkt {ws : List (Nat × List (Nat × Nat))} (h : WsOk ws) (s : Pn) : Zdk [.lst (Zat ws)] s = some (webD (tot ws) (putT [] ws), s) :=
 Zbl rfl (ZbF (ZbU (ZbD (ds := [webD ws.length [], .lst (Zat ws)]) (Zac (Zbg (Zac (Zau (Zac rfl rfl) (Zd7 ws)) (Zac rfl rfl)) two_le) (Zac rfl rfl)) (Zgg _ [] (Nat.zero_le _) h s))))
theorem Zjd (n : Nat) : ((allP n).filter fun p => !decide (p ∈ ([] : List (Nat × Nat)))) = allP n := List.filter_eq_self.mpr fun p _ => by simp
theorem Zjh {ws : List (Nat × List (Nat × Nat))} (h : WsOk ws) (s : Pn) : Zb0 [.lst (Zat ws)] s = some (webD (tot ws) (putT (allP ws.length) ws), s) := by
 have hln := h.len
 have ht := ZiH ws.length [] s (by omega) (Nat.zero_le _)
 rw [Zjd] at ht
 have hal : (allP ws.length).length ≤ 100000 := by
  have h1 := Zdb ws.length ws.length
  have h2 : ws.length * ws.length ≤ 100 * 100 := Nat.mul_le_mul hln hln
  unfold allP
  omega
 exact Zbl rfl (ZbF (ZbU (ZbD (ds := [webD ws.length (allP ws.length), .lst (Zat ws)]) (Zac (ZbD (ds := [webD ws.length []]) (Zac (Zbg (Zac (Zau (Zac rfl rfl) (Zd7 ws)) (Zac rfl rfl)) two_le) rfl) ht) (Zac rfl rfl)) (Zgg _ _ hal h s))))
theorem Zh1 (n : Nat) (ties : List (Nat × Nat)) {ws : List (Nat × List (Nat × Nat))} (hl : ties.length ≤ 100000) (h : WsOk ws) (s : Pn) : ∃ L : List (Nat × Nat), L.Perm (putT ties ws) ∧ L.length ≤ 576 ∧ Zbw [webD n ties, .lst (Zat ws)] s = some (.tup [nD (tot ws), .tup (L.map Zah)], s) := by
 have := ZlL n ties ws hl h.big (by have := h.len; omega) (by rw [Zdv]; have := h.sum; omega) s
 have hp : ((preC (spo (ws.map (·.1))).length).filter fun p => putB ties (ws.map (·.2)) ((spo (ws.map (·.1))).getD p.1 (0, 0)) ((spo (ws.map (·.1))).getD p.2 (0, 0))).Perm (putT ties ws) := (Zek _).filter _
 refine ⟨_, hp, ?_, ?_⟩
 ·rw [hp.length_eq]
  exact (Ze5 ties ws).len h.sum
 ·rw [this, Zdv]
theorem ZiA {t1 t2 : List (Nat × Nat)} (h : ∀ p, p ∈ t1 ↔ p ∈ t2) (a b : Nat) : tied t1 a b = tied t2 a b := by
 unfold tied
 exact decide_eq_decide.mpr (h _)
theorem ZiI {t1 t2 : List (Nat × Nat)} (h : ∀ p, p ∈ t1 ↔ p ∈ t2) (ws : List (Nat × List (Nat × Nat))) : putT t1 ws = putT t2 ws := by
 unfold putT putB
 refine List.filter_congr fun p _ => ?_
 split
 ·rfl
 ·exact ZiA h _ _
theorem Zli {src : List (Option Nat)} {fi : Rho → M (List D)} {τ : D → Rho → Option Rho} {fe : Rho → M D} {ρ ρ1 ρ2 : Rho} {s : Pn} {d1 d2 c1 c2 : D} (hi : fi ρ s = some ([d1, d2], s)) (h1 : τ d1 (ZbC src ρ) = some ρ1) (h2 : fe ρ1 s = some (c1, s)) (h3 : τ d2 (ZbC src ρ) = some ρ2) (h4 : fe ρ2 s = some (c2, s)) : Za9 src fi τ ZaW fe ρ s = some (.lst [c1, c2], s) := by
 unfold Za9 Zao
 rw [hi]
 simp only
 rw [if_pos (by show 2 ≤ sizeLine; decide)]
 simp [Zdq, Zao, mOf, mret, ZaW, h1, h2, h3, h4]
end TQ
namespace K60
open PySem L2 TF TQ TS
open TP
open TP2
open TP3
theorem Zk3 (m : Int) (w : List Int) : ∃ s', Zi2 (none :: some .pen :: List.replicate 9 none) ([m, 0], w) = some (.rt (.bl true), s') := by
 have ok0 : okD 0 ([m, 0], w) := ⟨m, 0, rfl, by omega, by omega⟩
 suffices hh : Ok (Zi2 (none :: some .pen :: List.replicate 9 none)) ([m, 0], w) fun o s' => o = .rt (.bl true) by
  obtain ⟨o, s', e, rfl⟩ := hh
  exact ⟨s', e⟩
 refine Ok.seq (.sfor (fun i ρ s' => okD (i * 30000) s' ∧ ∃ o2 o3 o4 o5 o6 o7 o8 o9 o10, ρ = [none, some .pen, o2, o3, o4, o5, o6, o7, o8, o9, o10]) (.eq (Zbj (n := 4) rfl (by omega)) ⟨⟨ok0.mono (by omega), none, none, none, none, none, none, none, none, none, rfl⟩, fun i d ρ s' hd hI => ?_, fun ρ' s' hI => ?_⟩))
 ·obtain ⟨ok1, o2, o3, o4, o5, o6, o7, o8, o9, o10, rfl⟩ := hI
  obtain ⟨hi, rfl⟩ := ZbO hd
  refine ⟨_, rfl, ?_⟩
  refine Ok.seq (.sset (.fn' (.cons (.eq rfl (.cons (.fn' (.cons (.eq rfl (.cons (Ok.pick (m := 2) (ds := [nD 6, nD 25]) rfl rfl ok1 (by omega) rfl (by omega) (by omega) fun lim s2 hlim ok2 => .nil ?_))))))))))
  obtain ⟨lm, rfl, hlm, hlm0⟩ : ∃ lm : Nat, lim = nD lm ∧ lm ≤ 25 ∧ 0 < lm := by
   simp only [List.mem_cons, List.not_mem_nil, or_false] at hlim
   rcases hlim with rfl | rfl
   ·exact ⟨6, rfl, by omega, by omega⟩
   ·exact ⟨25, rfl, by omega, by omega⟩
  obtain ⟨r, s3, e3, r0, r1, ok3⟩ := Zil ok2 (by omega) (show 0 < (lm : Int) by omega) (show (lm : Int) < 1073741824 by omega)
  refine .eq e3 (.cons (.eq rfl (.nil ?_)))
  obtain ⟨many, rfl⟩ := Int.eq_ofNat_of_zero_le r0
  have hmany : many < 25 := by omega
  obtain ⟨wd, s4, ew2, ok4, ws, rfl, hwl, hws0⟩ := ZkG ok3 (by omega) many 24 (by omega) (by omega)
  refine .eq ew2 ?_
  have hws := WsOk.of hws0 (by omega)
  refine Ok.seq (.sset (.eq (a := .lst (Zat ws)) (Zau (Zac rfl rfl) rfl) ?_))
  refine Ok.seq (.sset (.eq (Zau (Zac rfl rfl) (Zd7 ws)) ?_))
  rw [hwl]
  refine Ok.seq (.sown (.eq (a := .lst []) rfl ⟨rfl, ?_⟩))
  refine Ok.seq (.sfor (fun h ρ s' => s4 = s' ∧ ∃ o7, ρ = [none, some .pen, some (nD i), some (.lst (Zat ws)), some (.lst (Zat ws)), some (nD many), some (.lst ((preC h).map Zah)), o7, o8, o9, o10]) (.eq (Zbj (n := many) rfl (by omega)) ⟨⟨rfl, o7, rfl⟩, fun h d ρ s' hd hI => ?_, fun ρ' s' hI => ?_⟩))
  ·obtain ⟨rfl, o7, rfl⟩ := hI
   obtain ⟨hh, rfl⟩ := ZbO hd
   refine ⟨_, rfl, ?_⟩
   refine Ok.seq (.sext (ds := (preC h).map Zah) rfl (.eq (s' := s4) (a := .lst (((List.range h).map fun l => (l, h)).map Zah)) ?_ ⟨_, rfl, ?_, ?_⟩))
   ·have hc := Zb5 (src := [none, some 7]) (fi := Za3 (dVar 7)) (τ := gOne 0) (ft := ZaW) (fe := dTup (Zab (dVar 0) (Zab (dVar 1) dNil))) (ρ := [none, some .pen, some (nD i), some (.lst (Zat ws)), some (.lst (Zat ws)), some (nD many), none, some (nD h), o8, o9, o10]) (s := s4) (ds := ZaD 0 h) (fun d => [some d, some (nD h)]) (fun _ => true) (fun d => Zah (nat0 d, h)) (Zbj rfl (by omega)) (by rw [ZaJ, ZaF]; omega) fun d hd => by
     obtain ⟨j, hj, rfl⟩ := ZdY hd
     exact ⟨rfl, rfl, fun _ => Zbg (Zac rfl (Zac rfl rfl)) two_le⟩
    rw [ZbW, ZdL, List.map_map] at hc
    rw [List.map_map]
    exact hc
   ·have := Zg3 h (by omega)
    rw [List.length_map, List.length_map, List.length_map, List.length_range, ZaF]; omega
   ·refine Ok.next ⟨_, rfl, rfl, some (nD h), ?_⟩
    rw [Zej, List.map_append]; rfl
  ·obtain ⟨rfl, o7, rfl⟩ := hI
   rw [ZaJ]
   have hpl : (preC many).length ≤ 576 := by
    rw [(Zek many).length_eq]
    exact Zb9.len (List.Sublist.refl _) (by omega)
   obtain ⟨L1, p1, l1, e1⟩ := Zh1 many [] (Nat.zero_le _) hws s4
   obtain ⟨L2, p2, l2, e2⟩ := Zh1 many (preC many) (by omega) hws s4
   rw [ZiI (t2 := allP many) (fun p => by rw [Zfc, Zde]) ws] at p2
   refine Ok.seq (.sset (.eq (a := .lst [.tup [nD (tot ws), .tup (L1.map Zah)], .tup [nD (tot ws), .tup (L2.map Zah)]]) (Zhh (Zac (ZbD (ds := [webD many [], .lst (Zat ws)]) (Zac (Zbg (Zac rfl (Zac rfl rfl)) two_le) (Zac rfl rfl)) e1) (Zac (ZbD (ds := [webD many (preC many), .lst (Zat ws)]) (Zac (Zbg (Zac rfl (Zac (Zau (Zac rfl rfl) rfl) rfl)) two_le) (Zac rfl rfl)) e2) rfl)) (by show 2 ≤ sizeLine; decide)) ?_))
   have one : ∀ (ties : List (Nat × Nat)) (L : List (Nat × Nat)), L.Perm (putT ties ws) → L.length ≤ 576 → dTup (Zab (dOp dIx (dVar 0) (dC (.int 0))) (Zab (Zaw Zdf (Zab (Zaw ZcM (Zab (dOp dIx (dVar 0) (dC (.int 1))) dNil)) dNil)) dNil)) [some (.tup [nD (tot ws), .tup (L.map Zah)])] s4 = some (webD (tot ws) (putT ties ws), s4) := fun ties L hp hl =>
    Zbg (Zac (Zar (d := .tup [nD (tot ws), .tup (L.map Zah)]) (e := .int 0) rfl rfl (Zcu _ _)) (Zac (Zau (Zac (Zau (Zac (Zar (d := .tup [nD (tot ws), .tup (L.map Zah)]) (e := .int 1) rfl rfl (Zdu _ _ _)) rfl) (ZiF (Ze5 ties ws) hp (by omega) (.inr rfl))) rfl) rfl) rfl)) two_le
   refine Ok.seq (.sset (.eq (s' := s4) (a := .lst [webD (tot ws) (putT [] ws), webD (tot ws) (putT (allP many) ws)]) ?_ ?_))
   ·exact Zli (d1 := .tup [nD (tot ws), .tup (L1.map Zah)]) (d2 := .tup [nD (tot ws), .tup (L2.map Zah)]) (Zdw rfl) rfl (one [] L1 p1 l1) rfl (one (allP many) L2 p2 l2)
   ·have hb := Zkt hws s4
    have hwt := Zjh hws s4
    rw [hwl] at hwt
    have hlw : ∀ t, (putT t ws).length ≤ 100000 := fun t => by
     have := (Ze5 t ws).len hws.sum
     omega
    refine Ok.seq (.sfor (fun j ρ s' => s4 = s' ∧ ∃ o9 o10, ρ = [none, some .pen, some (nD i), some (.lst (Zat ws)), some (.lst (Zat ws)), some (nD many), some (.lst ((preC many).map Zah)), o7, some (.lst [webD (tot ws) (putT [] ws), webD (tot ws) (putT (allP many) ws)]), o9, o10]) (.eq (s' := s4) (a := [.tup [.clo 100 [], webD (tot ws) (putT [] ws)], .tup [.clo 101 [], webD (tot ws) (putT (allP many) ws)]]) rfl ⟨⟨rfl, o9, o10, rfl⟩, fun j d ρ s' hd hI => ?_, fun ρ' s' hI => ?_⟩))
    ·obtain ⟨rfl, o9, o10, rfl⟩ := hI
     have fin : ∀ (t : Nat) (T : List (Nat × Nat)), Tact t [.lst (Zat ws)] s4 = some (webD (tot ws) (putT T ws), s4) → Ok (sSeq (sIf (bOr (bNot (asB (dFn (ZaY 5) (Zab (dApp Tact 9 (Zab (dVar 4) dNil)) (Zab (dVar 10) dNil))))) (asB (dOp dNeO (dVar 4) (dVar 3)))) (sSeq (sRet (dC (.bl false))) Zas) Zas) Zas [none, some .pen, some (nD i), some (.lst (Zat ws)), some (.lst (Zat ws)), some (nD many), some (.lst ((preC many).map Zah)), o7, some (.lst [webD (tot ws) (putT [] ws), webD (tot ws) (putT (allP many) ws)]), some (.clo t []), some (webD (tot ws) (putT T ws))]) s4 fun o s' => ∃ ρ', o = .nx ρ' ∧ s4 = s' ∧ ∃ o9 o10, ρ' = [none, some .pen, some (nD i), some (.lst (Zat ws)), some (.lst (Zat ws)), some (nD many), some (.lst ((preC many).map Zah)), o7, some (.lst [webD (tot ws) (putT [] ws), webD (tot ws) (putT (allP many) ws)]), o9, o10] := fun t T ht => by
      refine Ok.seq (.sif (.eq (Zjb (Zmd (b := true) (ZaX (ZbD (ds := [webD (tot ws) (putT T ws), webD (tot ws) (putT T ws)]) (Zac (Zku (t := t) (cds := []) rfl (Zac rfl rfl) ht) (Zac rfl rfl)) (ZdP (ZlQ (hlw T) 1) s4)))) (ZaX (Zar (d := .lst (Zat ws)) (e := .lst (Zat ws)) rfl rfl (Zme (Ze0 ws).1 (Ze0 ws).2)))) (iteF (.next ?_))))
      exact .next ⟨_, rfl, rfl, _, _, rfl⟩
     match j, hd with
     | 0, hd => cases hd; exact ⟨_, rfl, fin 100 [] hb⟩
     | 1, hd => cases hd; exact ⟨_, rfl, fin 101 (allP many) hwt⟩
     | j + 2, hd => cases hd
    ·obtain ⟨rfl, o9, o10, rfl⟩ := hI
     refine .next ⟨_, rfl, ?_, ⟨_, _, _, _, _, _, _, _, _, rfl⟩⟩
     have : many * 1000 ≤ 25 * 1000 := Nat.mul_le_mul_right _ (by omega)
     exact ok4.mono (by omega)
 ·obtain ⟨ok, o2, o3, o4, o5, o6, o7, o8, o9, o10, rfl⟩ := hI
  exact Ok.seq (.sret (.eq rfl rfl))
end K60
namespace K60
open PySem.Spec PyProof.Rows
open PySem L2 TF TQ
open TP
open TP2
open TP3
set_option maxHeartbeats 4000000 in
theorem Zm7 {P : Program} {w : World} {K : PySem.W.Frag} {mg : Str → Option Value} {base : Heap} {a_f a_p : Addr} {fd_f fd_p : FuncData} {L : List (Addr × Str)} {C : Nat → V → Prop} (lo : LOk L) (F : Fun K "law" "law" Zb8 a_f fd_f) (T : Txt mg) (FP : FnOk P w K mg base CX0 1 a_p fd_p ["script"] (Zlt K)) (hmp : mg "_law_tpen" = some (.ref a_p)) (hkp : PySem.W.keepIn K (.ref a_p) = true) (hbp : ZbR K fd_p ["script"] []) (c__law_tdraw : Cal P w K mg base 1 "_law_tdraw" 2 true (ZaZ PenD L C) Zbe) (c__law_tput : Cal P w K mg base 2 "_law_tput" 2 true AnyG Zbw) (c__law_tsame : Cal P w K mg base 6 "_law_tsame" 2 false AnyG (ZaY 5)) (c__law_twebs : Cal P w K mg base 3 "_law_twebs" 3 true (ZaZ PenD L C) ZbV) (hact : ∀ G, (ZaZ PenD L C) G → CloG P w K mg 7 1 Tact base G) {b_beside : Addr} (m_beside : mg "beside" = some (.ref b_beside)) (C_beside : C 100 (.ref b_beside)) {b_wholly_tied : Addr} (m_wholly_tied : mg "wholly_tied" = some (.ref b_wholly_tied)) (C_wholly_tied : C 101 (.ref b_wholly_tied)) :
  FnOk P w K mg base CX0 8 a_f fd_f ["script"] (Zfp K L) := by
 have nd := ZgY.nd
 refine F.ok ZgY (fun vs H Q E h => ?_) fun cdv A outer s0 H vs Q E hr h => ?_
 ·obtain ⟨a, ns, rfl, _⟩ := h
  rfl
 ·obtain ⟨a, ns, rfl, sq, hl, hTb, hQ⟩ := h
  refine ⟨_, Zbp (Zda (i := 1) nd rfl (Or.inl rfl) (Zh6 (FP.mono (by decide)) hr rfl hmp hkp hbp .nil ZiM (ZaV (pv 0) Zbs))) (ZkM (GG := (ZaZ PenD L C)) fun G hG => Zmr lo T hr c__law_tdraw c__law_tput c__law_tsame c__law_twebs hact m_beside C_beside m_wholly_tied C_wholly_tied G hG), ?_⟩
  refine ⟨.ref a, rfl, a, ns, rfl, sq, hl, fun p wa m H' st kp hp hw => ?_⟩
  obtain ⟨s', hs'⟩ := Zk3 m (Zcb ns)
  exact Zj1 (n := 9) st hTb kp hp hw hQ hs'
set_option maxHeartbeats 4000000 in
theorem all_mk {l : PySem.W.OpenLaw} {w : World} {K : PySem.W.Frag} {h : Heap} {mg : Str → Option Value} {fa f1 f2 f3 f4 f5 f6 f7 f8 f9 f10 f11 f12 f13 f14 f15 f16 f17 : Addr} {tc12 tc14 : Addr} (tP12 tP14 : Addr) (lo : LOk [(tP12, (Str.ofString "put_in.<locals>.are_tied_there")), (tP14, (Str.ofString "turned.<locals>.<lambda>"))]) (X : K.In h) (G : h.Ns mainGlobals mg) (hfa : mg "law" = some (.ref fa))
  {od1 an1 od2 an2 od3 an3 od4 an4 od5 an5 od6 an6 od7 an7 od8 an8 od9 an9 od10 an10 od11 an11 od12 an12 od13 an13 od14 an14 od15 an15 od16 an16 od17 an17 : Option Addr} {sl1 sl2 sl3 sl4 sl5 sl6 sl7 sl8 sl9 sl10 sl11 sl12 sl13 sl14 sl15 sl16 sl17 : Array (Option Value)} {oc1 kV1 dc1 pm1 cd1 ct1 oc2 kV2 dc2 pm2 cd2 ct2 oc3 kV3 dc3 pm3 cd3 ct3 oc4 kV4 dc4 pm4 cd4 ct4 oc5 kV5 dc5 pm5 cd5 ct5 oc6 kV6 dc6 pm6 cd6 ct6 oc7 kV7 dc7 pm7 cd7 ct7 oc8 kV8 dc8 pm8 cd8 ct8 oc9 kV9 dc9 pm9 cd9 ct9 oc10 kV10 dc10 pm10 cd10 ct10 oc11 kV11 dc11 pm11 cd11 ct11 oc12 kV12 dc12 pm12 ct12 oc13 kV13 dc13 pm13 cd13 ct13 oc14 kV14 dc14 pm14 ct14 oc15 kV15 dc15 pm15 cd15 ct15 oc16 kV16 dc16 pm16 cd16 ct16 oc17 kV17 dc17 pm17 cd17 ct17 : Value}
  (a1 : PySem.W.nsIn K mainGlobals "_law_tdraw" = some (some (.ref f1))) (l1 : K.lookup f1 = some ⟨oc1, od1, .func (PySem.W.fnOf "_law_tdraw" "_law_tdraw" (ZaP ZbT) (ZaH ZbT) (Zak ZbT) .none kV1 dc1 pm1 an1 cd1 ct1), sl1⟩) (c1 : PySem.W.codeIn K cd1 "_law_tdraw" = true) (k1 : PySem.W.keepIn K (.ref f1) = true)
  (a2 : PySem.W.nsIn K mainGlobals "_law_tspots" = some (some (.ref f2))) (l2 : K.lookup f2 = some ⟨oc2, od2, .func (PySem.W.fnOf "_law_tspots" "_law_tspots" (ZaP Zbo) (ZaH Zbo) (Zak Zbo) .none kV2 dc2 pm2 an2 cd2 ct2), sl2⟩) (c2 : PySem.W.codeIn K cd2 "_law_tspots" = true) (k2 : PySem.W.keepIn K (.ref f2) = true)
  (a3 : PySem.W.nsIn K mainGlobals "_law_tput" = some (some (.ref f3))) (l3 : K.lookup f3 = some ⟨oc3, od3, .func (PySem.W.fnOf "_law_tput" "_law_tput" (ZaP Zbt) (ZaH Zbt) (Zak Zbt) .none kV3 dc3 pm3 an3 cd3 ct3), sl3⟩) (c3 : PySem.W.codeIn K cd3 "_law_tput" = true) (k3 : PySem.W.keepIn K (.ref f3) = true)
  (a4 : PySem.W.nsIn K mainGlobals "_law_tsame" = some (some (.ref f4))) (l4 : K.lookup f4 = some ⟨oc4, od4, .func (PySem.W.fnOf "_law_tsame" "_law_tsame" (ZaP Zbz) (ZaH Zbz) (Zak Zbz) .none kV4 dc4 pm4 an4 cd4 ct4), sl4⟩) (c4 : PySem.W.codeIn K cd4 "_law_tsame" = true) (k4 : PySem.W.keepIn K (.ref f4) = true)
  (a5 : PySem.W.nsIn K mainGlobals "_law_tweb" = some (some (.ref f5))) (l5 : K.lookup f5 = some ⟨oc5, od5, .func (PySem.W.fnOf "_law_tweb" "_law_tweb" (ZaP Zb2) (ZaH Zb2) (Zak Zb2) .none kV5 dc5 pm5 an5 cd5 ct5), sl5⟩) (c5 : PySem.W.codeIn K cd5 "_law_tweb" = true) (k5 : PySem.W.keepIn K (.ref f5) = true)
  (a6 : PySem.W.nsIn K mainGlobals "_law_twebs" = some (some (.ref f6))) (l6 : K.lookup f6 = some ⟨oc6, od6, .func (PySem.W.fnOf "_law_twebs" "_law_twebs" (ZaP ZbS) (ZaH ZbS) (Zak ZbS) .none kV6 dc6 pm6 an6 cd6 ct6), sl6⟩) (c6 : PySem.W.codeIn K cd6 "_law_twebs" = true) (k6 : PySem.W.keepIn K (.ref f6) = true)
  (a7 : PySem.W.nsIn K mainGlobals "marked_ties" = some (some (.ref f7))) (l7 : K.lookup f7 = some ⟨oc7, od7, .func (PySem.W.fnOf "marked_ties" "marked_ties" (ZaP Zbn) (ZaH Zbn) (Zak Zbn) .none kV7 dc7 pm7 an7 cd7 ct7), sl7⟩) (c7 : PySem.W.codeIn K cd7 "marked_ties" = true) (k7 : PySem.W.keepIn K (.ref f7) = true)
  (a8 : PySem.W.nsIn K mainGlobals "spots" = some (some (.ref f8))) (l8 : K.lookup f8 = some ⟨oc8, od8, .func (PySem.W.fnOf "spots" "spots" (ZaP ZcH) (ZaH ZcH) (Zak ZcH) .none kV8 dc8 pm8 an8 cd8 ct8), sl8⟩) (c8 : PySem.W.codeIn K cd8 "spots" = true) (k8 : PySem.W.keepIn K (.ref f8) = true)
  (a9 : PySem.W.nsIn K mainGlobals "pairs_of" = some (some (.ref f9))) (l9 : K.lookup f9 = some ⟨oc9, od9, .func (PySem.W.fnOf "pairs_of" "pairs_of" (ZaP Zck) (ZaH Zck) (Zak Zck) .none kV9 dc9 pm9 an9 cd9 ct9), sl9⟩) (c9 : PySem.W.codeIn K cd9 "pairs_of" = true) (k9 : PySem.W.keepIn K (.ref f9) = true)
  (a10 : PySem.W.nsIn K mainGlobals "web_where" = some (some (.ref f10))) (l10 : K.lookup f10 = some ⟨oc10, od10, .func (PySem.W.fnOf "web_where" "web_where" (ZaP ZbK) (ZaH ZbK) (Zak ZbK) .none kV10 dc10 pm10 an10 cd10 ct10), sl10⟩) (c10 : PySem.W.codeIn K cd10 "web_where" = true) (k10 : PySem.W.keepIn K (.ref f10) = true)
  (a11 : PySem.W.nsIn K mainGlobals "are_tied" = some (some (.ref f11))) (l11 : K.lookup f11 = some ⟨oc11, od11, .func (PySem.W.fnOf "are_tied" "are_tied" (ZaP Zcl) (ZaH Zcl) (Zak Zcl) .none kV11 dc11 pm11 an11 cd11 ct11), sl11⟩) (c11 : PySem.W.codeIn K cd11 "are_tied" = true) (k11 : PySem.W.keepIn K (.ref f11) = true)
  (a12 : PySem.W.nsIn K mainGlobals "put_in" = some (some (.ref f12))) (l12 : K.lookup f12 = some ⟨oc12, od12, .func (PySem.W.fnOf "put_in" "put_in" (ZaP ZbL) (ZaH ZbL) (Zak ZbL) .none kV12 dc12 pm12 an12 (.ref tc12) ct12), sl12⟩) (c12 : PySem.W.codeIn K (.ref tc12) "put_in" = true) (k12 : PySem.W.keepIn K (.ref f12) = true)
  (a13 : PySem.W.nsIn K mainGlobals "beside" = some (some (.ref f13))) (l13 : K.lookup f13 = some ⟨oc13, od13, .func (PySem.W.fnOf "beside" "beside" (ZaP ZcI) (ZaH ZcI) (Zak ZcI) .none kV13 dc13 pm13 an13 cd13 ct13), sl13⟩) (c13 : PySem.W.codeIn K cd13 "beside" = true) (k13 : PySem.W.keepIn K (.ref f13) = true)
  (a14 : PySem.W.nsIn K mainGlobals "turned" = some (some (.ref f14))) (l14 : K.lookup f14 = some ⟨oc14, od14, .func (PySem.W.fnOf "turned" "turned" (ZaP Zcc) (ZaH Zcc) (Zak Zcc) .none kV14 dc14 pm14 an14 (.ref tc14) ct14), sl14⟩) (c14 : PySem.W.codeIn K (.ref tc14) "turned" = true) (k14 : PySem.W.keepIn K (.ref f14) = true)
  (a15 : PySem.W.nsIn K mainGlobals "wholly_tied" = some (some (.ref f15))) (l15 : K.lookup f15 = some ⟨oc15, od15, .func (PySem.W.fnOf "wholly_tied" "wholly_tied" (ZaP ZbE) (ZaH ZbE) (Zak ZbE) .none kV15 dc15 pm15 an15 cd15 ct15), sl15⟩) (c15 : PySem.W.codeIn K cd15 "wholly_tied" = true) (k15 : PySem.W.keepIn K (.ref f15) = true)
  (a16 : PySem.W.nsIn K mainGlobals "_law_tpen" = some (some (.ref f16))) (l16 : K.lookup f16 = some ⟨oc16, od16, .func (PySem.W.fnOf "_law_tpen" "_law_tpen" (ZaP ZbM) (ZaH ZbM) (Zak ZbM) .none kV16 dc16 pm16 an16 cd16 ct16), sl16⟩) (c16 : PySem.W.codeIn K cd16 "_law_tpen" = true) (k16 : PySem.W.keepIn K (.ref f16) = true)
  (a17 : PySem.W.nsIn K mainGlobals "law" = some (some (.ref f17))) (l17 : K.lookup f17 = some ⟨oc17, od17, .func (PySem.W.fnOf "law" "law" (ZaP Zb8) (ZaH Zb8) (Zak Zb8) .none kV17 dc17 pm17 an17 cd17 ct17), sl17⟩) (c17 : PySem.W.codeIn K cd17 "law" = true) (k17 : PySem.W.keepIn K (.ref f17) = true)
  (z1 : PySem.W.nsIn K mainGlobals "all" = some none)
  (z2 : PySem.W.nsIn K mainGlobals "bool" = some none)
  (z3 : PySem.W.nsIn K mainGlobals "dict" = some none)
  (z4 : PySem.W.nsIn K mainGlobals "enumerate" = some none)
  (z5 : PySem.W.nsIn K mainGlobals "int" = some none)
  (z6 : PySem.W.nsIn K mainGlobals "isinstance" = some none)
  (z7 : PySem.W.nsIn K mainGlobals "len" = some none)
  (z8 : PySem.W.nsIn K mainGlobals "list" = some none)
  (z9 : PySem.W.nsIn K mainGlobals "max" = some none)
  (z10 : PySem.W.nsIn K mainGlobals "min" = some none)
  (z11 : PySem.W.nsIn K mainGlobals "range" = some none)
  (z12 : PySem.W.nsIn K mainGlobals "sorted" = some none)
  (z13 : PySem.W.nsIn K mainGlobals "str" = some none)
  (z14 : PySem.W.nsIn K mainGlobals "tuple" = some none)
  (z15 : PySem.W.nsIn K mainGlobals "zip" = some none) :
  ∃ fd : FuncData, (∀ (s : Shared) (v : Value), BindsTo s fd ⟨[v], []⟩ [("script", v)]) ∧ ∀ base : Heap, K.In base → base.Ns mainGlobals mg → PySem.W.CodeHd base tc12 tP12 → PySem.W.CodeHd base tc14 tP14 → BMn mg base → FnOk l.prog w K mg base CX0 8 fa fd ["script"] (Zfp K ([(tP12, (Str.ofString "put_in.<locals>.are_tied_there")), (tP14, (Str.ofString "turned.<locals>.<lambda>"))] : List (Addr × Str))) := by
 have e := hfa.symm.trans (PySem.W.mg_of X G a17)
 cases e
 have T : Txt mg := ⟨PySem.W.mg_none_of X G z1, PySem.W.mg_none_of X G z2, PySem.W.mg_none_of X G z3, PySem.W.mg_none_of X G z4, PySem.W.mg_none_of X G z5, PySem.W.mg_none_of X G z6, PySem.W.mg_none_of X G z7, PySem.W.mg_none_of X G z8, PySem.W.mg_none_of X G z9, PySem.W.mg_none_of X G z10, PySem.W.mg_none_of X G z11, PySem.W.mg_none_of X G z12, PySem.W.mg_none_of X G z13, PySem.W.mg_none_of X G z14, PySem.W.mg_none_of X G z15⟩
 have F1 := Zbi (st := ZbT) l1 c1 k1
 have b1 := F1.binds (ps := ["pen", "many"]) fun _ _ _ _ _ _ us hl => match us, hl with | [_, _], _ => rfl
 have F2 := Zbi (st := Zbo) l2 c2 k2
 have b2 := F2.binds (ps := ["webs"]) fun _ _ _ _ _ _ us hl => match us, hl with | [_], _ => rfl
 have F3 := Zbi (st := Zbt) l3 c3 k3
 have b3 := F3.binds (ps := ["web", "webs"]) fun _ _ _ _ _ _ us hl => match us, hl with | [_, _], _ => rfl
 have F4 := Zbi (st := Zbz) l4 c4 k4
 have b4 := F4.binds (ps := ["found", "due"]) fun _ _ _ _ _ _ us hl => match us, hl with | [_, _], _ => rfl
 have F5 := Zbi (st := Zb2) l5 c5 k5
 have b5 := F5.binds (ps := ["pen", "limit"]) fun _ _ _ _ _ _ us hl => match us, hl with | [_, _], _ => rfl
 have F6 := Zbi (st := ZbS) l6 c6 k6
 have b6 := F6.binds (ps := ["pen", "many", "limit"]) fun _ _ _ _ _ _ us hl => match us, hl with | [_, _, _], _ => rfl
 have F7 := Zbi (st := Zbn) l7 c7 k7
 have b7 := F7.binds (ps := ["web"]) fun _ _ _ _ _ _ us hl => match us, hl with | [_], _ => rfl
 have F8 := Zbi (st := ZcH) l8 c8 k8
 have b8 := F8.binds (ps := ["lengths"]) fun _ _ _ _ _ _ us hl => match us, hl with | [_], _ => rfl
 have F9 := Zbi (st := Zck) l9 c9 k9
 have b9 := F9.binds (ps := ["row"]) fun _ _ _ _ _ _ us hl => match us, hl with | [_], _ => rfl
 have F10 := Zbi (st := ZbK) l10 c10 k10
 have b10 := F10.binds (ps := ["row", "tied"]) fun _ _ _ _ _ _ us hl => match us, hl with | [_, _], _ => rfl
 have F11 := Zbi (st := Zcl) l11 c11 k11
 have b11 := F11.binds (ps := ["ties", "a", "b"]) fun _ _ _ _ _ _ us hl => match us, hl with | [_, _, _], _ => rfl
 have F12 := Zbi (st := ZbL) l12 c12 k12
 have b12 := F12.binds (ps := ["web", "webs"]) fun _ _ _ _ _ _ us hl => match us, hl with | [_, _], _ => rfl
 have F13 := Zbi (st := ZcI) l13 c13 k13
 have b13 := F13.binds (ps := ["webs"]) fun _ _ _ _ _ _ us hl => match us, hl with | [_], _ => rfl
 have F14 := Zbi (st := Zcc) l14 c14 k14
 have b14 := F14.binds (ps := ["web"]) fun _ _ _ _ _ _ us hl => match us, hl with | [_], _ => rfl
 have F15 := Zbi (st := ZbE) l15 c15 k15
 have b15 := F15.binds (ps := ["webs"]) fun _ _ _ _ _ _ us hl => match us, hl with | [_], _ => rfl
 have F16 := Zbi (st := ZbM) l16 c16 k16
 have b16 := F16.binds (ps := ["script"]) fun _ _ _ _ _ _ us hl => match us, hl with | [_], _ => rfl
 have F17 := Zbi (st := Zb8) l17 c17 k17
 have ca_pairs_of : ∀ base, Cal l.prog w K mg base 1 "pairs_of" 1 true AnyG Zcv := fun base => ⟨f9, _, _, ZhM F9 T , PySem.W.mg_of X G a9, k9, b9⟩
 have ca_web_where : ∀ base, Cal l.prog w K mg base 5 "web_where" 2 false (CloG l.prog w K mg 4 2 Tl base) Zbv := fun base => ⟨f10, _, _, Zeq F10 T (ca_pairs_of base), PySem.W.mg_of X G a10, k10, b10⟩
 have cA_web_where : CalA l.prog w K mg 5 "web_where" 2 false (CloG l.prog w K mg 4 2 Tl) Zbv := ⟨f10, _, _, fun base => Zeq F10 T (ca_pairs_of base), PySem.W.mg_of X G a10, k10, b10⟩
 have ca_are_tied : ∀ base, Cal l.prog w K mg base 1 "are_tied" 3 false AnyG Zbc := fun base => ⟨f11, _, _, ZhN F11 T , PySem.W.mg_of X G a11, k11, b11⟩
 refine ⟨PySem.W.fnOf "law" "law" (ZaP Zb8) (ZaH Zb8) (Zak Zb8) .none kV17 dc17 pm17 an17 cd17 ct17, fun s v => .of_eq rfl, fun base _ _ hC12 hC14 hBm => ?_⟩
 have cp__law_tdraw : Cal l.prog w K mg base 1 "_law_tdraw" 2 true PenD Zbe := ⟨f1, _, _, ZgD F1 T , PySem.W.mg_of X G a1, k1, b1⟩
 have c__law_tdraw : Cal l.prog w K mg base 1 "_law_tdraw" 2 true (ZaZ PenD ([(tP12, (Str.ofString "put_in.<locals>.are_tied_there")), (tP14, (Str.ofString "turned.<locals>.<lambda>"))] : List (Addr × Str)) (fun t v => (t = 100 ∧ v = .ref f13) ∨ (t = 101 ∧ v = .ref f15))) Zbe := Zlj cp__law_tdraw Zlg
 have c__law_tspots : Cal l.prog w K mg base 1 "_law_tspots" 1 true AnyG Zb1 := ⟨f2, _, _, ZfZ F2 T , PySem.W.mg_of X G a2, k2, b2⟩
 have c__law_tput : Cal l.prog w K mg base 2 "_law_tput" 2 true AnyG Zbw := ⟨f3, _, _, Zha F3 T c__law_tspots, PySem.W.mg_of X G a3, k3, b3⟩
 have rr__law_tsame : ∀ j : Nat, Cal l.prog w K mg base (0 + j) "_law_tsame" 2 false AnyG (ZaY j) := by
  intro j
  induction j with
  | zero => exact Cal.none (PySem.W.mg_of X G a4) k4 b4
  | succ j ih => exact ⟨f4, _, _, ZgC F4 T (by omega) ih, PySem.W.mg_of X G a4, k4, b4⟩
 have c__law_tsame : Cal l.prog w K mg base 6 "_law_tsame" 2 false AnyG (ZaY 5) := (rr__law_tsame 5).mono
 have c__law_tweb : Cal l.prog w K mg base 2 "_law_tweb" 2 true (ZaZ PenD ([(tP12, (Str.ofString "put_in.<locals>.are_tied_there")), (tP14, (Str.ofString "turned.<locals>.<lambda>"))] : List (Addr × Str)) (fun t v => (t = 100 ∧ v = .ref f13) ∨ (t = 101 ∧ v = .ref f15))) Zcw := ⟨f5, _, _, Zg9 F5 T lo c__law_tdraw, PySem.W.mg_of X G a5, k5, b5⟩
 have c__law_twebs : Cal l.prog w K mg base 3 "_law_twebs" 3 true (ZaZ PenD ([(tP12, (Str.ofString "put_in.<locals>.are_tied_there")), (tP14, (Str.ofString "turned.<locals>.<lambda>"))] : List (Addr × Str)) (fun t v => (t = 100 ∧ v = .ref f13) ∨ (t = 101 ∧ v = .ref f15))) ZbV := ⟨f6, _, _, ZgB F6 T lo c__law_tdraw c__law_tweb, PySem.W.mg_of X G a6, k6, b6⟩
 have c_marked_ties : Cal l.prog w K mg base 1 "marked_ties" 1 true AnyG Za6 := ⟨f7, _, _, ZfY F7 T , PySem.W.mg_of X G a7, k7, b7⟩
 have c_spots : Cal l.prog w K mg base 1 "spots" 1 true AnyG Zc9 := ⟨f8, _, _, ZkW F8 T , PySem.W.mg_of X G a8, k8, b8⟩
 have c_pairs_of := ca_pairs_of base
 have c_web_where := cA_web_where
 have c_are_tied := ca_are_tied base
 have c_put_in : Cal l.prog w K mg base 6 "put_in" 2 false (Zbf ([(tP12, (Str.ofString "put_in.<locals>.are_tied_there")), (tP14, (Str.ofString "turned.<locals>.<lambda>"))] : List (Addr × Str))) Zci := ⟨f12, _, _, ZjP F12 T lo c_marked_ties c_spots c_web_where ca_are_tied (tc := tc12) (tP := tP12) rfl hC12 hBm (by simp), PySem.W.mg_of X G a12, k12, b12⟩
 have c_beside : Cal l.prog w K mg base 7 "beside" 1 false (Zbf ([(tP12, (Str.ofString "put_in.<locals>.are_tied_there")), (tP14, (Str.ofString "turned.<locals>.<lambda>"))] : List (Addr × Str))) Zdk := ⟨f13, _, _, Zgm F13 T lo c_put_in, PySem.W.mg_of X G a13, k13, b13⟩
 have ct_beside : CalT l.prog w K mg base ([(tP12, (Str.ofString "put_in.<locals>.are_tied_there")), (tP14, (Str.ofString "turned.<locals>.<lambda>"))] : List (Addr × Str)) 7 "beside" 1 Zdk f13 := ⟨_, _, _, (Zgm F13 T lo c_put_in).mono (by decide), rfl, PySem.W.mg_of X G a13, ⟨_, _, _, l13⟩, b13⟩
 have c_turned : Cal l.prog w K mg base 6 "turned" 1 false (Zbf ([(tP12, (Str.ofString "put_in.<locals>.are_tied_there")), (tP14, (Str.ofString "turned.<locals>.<lambda>"))] : List (Addr × Str))) Zdj := ⟨f14, _, _, ZjO F14 T lo c_marked_ties c_web_where ca_are_tied (tc := tc14) (tP := tP14) rfl hC14 hBm (by simp), PySem.W.mg_of X G a14, k14, b14⟩
 have c_wholly_tied : Cal l.prog w K mg base 7 "wholly_tied" 1 false (Zbf ([(tP12, (Str.ofString "put_in.<locals>.are_tied_there")), (tP14, (Str.ofString "turned.<locals>.<lambda>"))] : List (Addr × Str))) Zb0 := ⟨f15, _, _, ZdE F15 T lo c_put_in c_turned, PySem.W.mg_of X G a15, k15, b15⟩
 have ct_wholly_tied : CalT l.prog w K mg base ([(tP12, (Str.ofString "put_in.<locals>.are_tied_there")), (tP14, (Str.ofString "turned.<locals>.<lambda>"))] : List (Addr × Str)) 7 "wholly_tied" 1 Zb0 f15 := ⟨_, _, _, (ZdE F15 T lo c_put_in c_turned).mono (by decide), rfl, PySem.W.mg_of X G a15, ⟨_, _, _, l15⟩, b15⟩
 have hact : ∀ G, (ZaZ PenD ([(tP12, (Str.ofString "put_in.<locals>.are_tied_there")), (tP14, (Str.ofString "turned.<locals>.<lambda>"))] : List (Addr × Str)) (fun t v => (t = 100 ∧ v = .ref f13) ∨ (t = 101 ∧ v = .ref f15))) G → CloG l.prog w K mg 7 1 Tact base G := by
  intro G9 hG9
  have hT9 := ZaZ.tabs lo hG9
  obtain ⟨G1, _, rfl⟩ := hG9
  rintro t v cs ⟨hc, hcs⟩
  rcases hc with ⟨rfl, rfl⟩ | ⟨rfl, rfl⟩
  ·exact Zkw ct_beside hT9 hcs
  ·exact Zkw ct_wholly_tied hT9 hcs
 exact Zm7 lo F17 T (Zhb F16 T) (PySem.W.mg_of X G a16) k16 b16 c__law_tdraw c__law_tput c__law_tsame c__law_twebs hact (PySem.W.mg_of X G a13) (by simp) (PySem.W.mg_of X G a15) (by simp)
noncomputable def tb : List (Str × Addr × Addr) := [("put_in", 63, 61), ("turned", 39, 35)]
theorem Zmx : ∀ P q, (P, q) ∈ ([(61, (Str.ofString "put_in.<locals>.are_tied_there")), (35, (Str.ofString "turned.<locals>.<lambda>"))] : List (Addr × Str)) → ∃ x c, (x, c, P) ∈ tb := by
 intro P q h
 simp only [List.mem_cons, Prod.mk.injEq, List.not_mem_nil, or_false] at h
 rcases h with ⟨rfl, _⟩ | ⟨rfl, _⟩
 ·exact ⟨"put_in", 63, by simp [tb]⟩
 ·exact ⟨"turned", 39, by simp [tb]⟩
theorem walk {l : PySem.W.OpenLaw} {q : Program} {loose : List Str} {XP : (Str → Option Value) → Heap → Prop} {YP : World → Heap → Prop} {d : DefRec} {K : Params → PySem.W.Frag} (hn : l.most = some 63) (hdf : d.params.defaults = [])
  (hY : ∀ (w : World) (h : Heap), YP w h → (K w.params).In h)
  (hrec : ∀ e ∈ tb, ∃ d, (recsOf q).find? (fun r => r.name == e.1) = some d) (htab : ∀ w : World, ∀ e ∈ tb, PySem.W.tabIn (K w.params) e.1 = some e.2) (hno : ∀ w : World, PySem.W.noTabs (K w.params) = true)
  (F : ∀ (w : World) (mg : Str → Option Value) (fa : Addr) (h : Heap), (K w.params).In h → h.Ns mainGlobals mg → mg d.name = some (.ref fa) →
   ∃ fd : FuncData, (∀ (s : Shared) (u : Value), BindsTo s fd ⟨[u], []⟩ [("script", u)]) ∧ ∀ base : Heap, (K w.params).In base → base.Ns mainGlobals mg → PySem.W.CodeHd base 63 61 → PySem.W.CodeHd base 39 35 → BMn mg base → FnOk l.prog w (K w.params) mg base CX0 8 fa fd ["script"] (Zfp (K w.params) ([(61, (Str.ofString "put_in.<locals>.are_tied_there")), (35, (Str.ofString "turned.<locals>.<lambda>"))] : List (Addr × Str)))) :
  PySem.W.WalkO q loose XP YP l.row.toRowW d [] (fun f vs => PySem.call f vs) :=
 ZkC (tb := tb) (n := 63) (k := 8) (x := "script") (CX := fun _ => CX0) (sp := fun w => Zfp (K w.params) ([(61, (Str.ofString "put_in.<locals>.are_tied_there")), (35, (Str.ofString "turned.<locals>.<lambda>"))] : List (Addr × Str))) hn (by decide) hdf ⟨rfl, by decide, by decide, rfl⟩ hY hrec htab hno
  (fun w mg fa h h1 h2 h3 => let ⟨fd, hb, hF⟩ := F w mg fa h h1 h2 h3; ⟨fd, hb, fun base g1 g2 g3 g4 => hF base g1 g2 (g3 ("put_in", 63, 61) (by simp [tb])) (g3 ("turned", 39, 35) (by simp [tb])) g4⟩)
  (fun _ _ a ns hl hS hTb => ⟨a, ns, rfl, hS, hl, ZiD (tb := tb) Zmx hTb, fun _ => rfl⟩) fun _ _ _ _ _ z => z
end K60
open PySem PySem.W PyProof.Rows
set_option maxRecDepth 100000 in
set_option maxHeartbeats 0 in
theorem PySem.Challenge.cw_tiefold_k60_beside_and_wholly_tied_holds : PySem.Challenge.rw_tiefold_k60_beside_and_wholly_tied.Holds := by
 w_on; o_law; k_head; (case hw => w_witness2)
 k_fill
 refine K60.walk (l := PySem.Challenge.rw_tiefold_k60_beside_and_wholly_tied) rfl rfl (fun w h Y => PySem.W.km_in_of Y) ?R ?B ?O ?F
 case R => exact List.forall_mem_cons.mpr ⟨⟨_, rfl⟩, List.forall_mem_cons.mpr ⟨⟨_, rfl⟩, (fun _ h => nomatch h)⟩⟩
 case B => intro w; exact List.forall_mem_cons.mpr ⟨by kernel_rfl, List.forall_mem_cons.mpr ⟨by kernel_rfl, (fun _ h => nomatch h)⟩⟩
 case O => intro w; kernel_rfl
 case F =>
  intro w mg fa h KX G hmg
  refine' K60.all_mk 61 35 (TF.lok_nd (by decide)) KX G hmg ?a1 ?l1 ?c1 ?k1 ?a2 ?l2 ?c2 ?k2 ?a3 ?l3 ?c3 ?k3 ?a4 ?l4 ?c4 ?k4 ?a5 ?l5 ?c5 ?k5 ?a6 ?l6 ?c6 ?k6 ?a7 ?l7 ?c7 ?k7 ?a8 ?l8 ?c8 ?k8 ?a9 ?l9 ?c9 ?k9 ?a10 ?l10 ?c10 ?k10 ?a11 ?l11 ?c11 ?k11 ?a12 ?l12 ?c12 ?k12 ?a13 ?l13 ?c13 ?k13 ?a14 ?l14 ?c14 ?k14 ?a15 ?l15 ?c15 ?k15 ?a16 ?l16 ?c16 ?k16 ?a17 ?l17 ?c17 ?k17 ?z1 ?z2 ?z3 ?z4 ?z5 ?z6 ?z7 ?z8 ?z9 ?z10 ?z11 ?z12 ?z13 ?z14 ?z15
  (case a1 => k_is)
  (case l1 => k_is)
  (case c1 => k_is)
  (case k1 => k_is)
  (case a2 => k_is)
  (case l2 => k_is)
  (case c2 => k_is)
  (case k2 => k_is)
  (case a3 => k_is)
  (case l3 => k_is)
  (case c3 => k_is)
  (case k3 => k_is)
  (case a4 => k_is)
  (case l4 => k_is)
  (case c4 => k_is)
  (case k4 => k_is)
  (case a5 => k_is)
  (case l5 => k_is)
  (case c5 => k_is)
  (case k5 => k_is)
  (case a6 => k_is)
  (case l6 => k_is)
  (case c6 => k_is)
  (case k6 => k_is)
  (case a7 => k_is)
  (case l7 => k_is)
  (case c7 => k_is)
  (case k7 => k_is)
  (case a8 => k_is)
  (case l8 => k_is)
  (case c8 => k_is)
  (case k8 => k_is)
  (case a9 => k_is)
  (case l9 => k_is)
  (case c9 => k_is)
  (case k9 => k_is)
  (case a10 => k_is)
  (case l10 => k_is)
  (case c10 => k_is)
  (case k10 => k_is)
  (case a11 => k_is)
  (case l11 => k_is)
  (case c11 => k_is)
  (case k11 => k_is)
  (case a12 => k_is)
  (case l12 => k_is)
  (case c12 => k_is)
  (case k12 => k_is)
  (case a13 => k_is)
  (case l13 => k_is)
  (case c13 => k_is)
  (case k13 => k_is)
  (case a14 => k_is)
  (case l14 => k_is)
  (case c14 => k_is)
  (case k14 => k_is)
  (case a15 => k_is)
  (case l15 => k_is)
  (case c15 => k_is)
  (case k15 => k_is)
  (case a16 => k_is)
  (case l16 => k_is)
  (case c16 => k_is)
  (case k16 => k_is)
  (case a17 => k_is)
  (case l17 => k_is)
  (case c17 => k_is)
  (case k17 => k_is)
  (case z1 => k_is)
  (case z2 => k_is)
  (case z3 => k_is)
  (case z4 => k_is)
  (case z5 => k_is)
  (case z6 => k_is)
  (case z7 => k_is)
  (case z8 => k_is)
  (case z9 => k_is)
  (case z10 => k_is)
  (case z11 => k_is)
  (case z12 => k_is)
  (case z13 => k_is)
  (case z14 => k_is)
  (case z15 => k_is)
